/- Texts of the proof, one behind another: But, M1, M2. -/
import Derived.Test.YtlmcblcijndipabGreatM14
import Derived.Test.YtlmcblcijndipabGreatM16
import Derived.Laws.BytesArg
/- Nothing but one block has turned. -/
namespace Go.Proofs.YtlmcblcijndipabGreat
open Go.RowKit
set_option linter.unusedVariables false

/-- nothing but one block has turned -/
structure But (B : Nat) (w w' : World) : Prop where
  size : w.heap.size ≤ w'.heap.size
  block : ∀ k, k < w.heap.size → k ≠ B → w'.heap[k]? = w.heap[k]?
theorem But.refl (B : Nat) (w : World) : But B w w := ⟨Nat.le_refl _, fun _ _ _ => rfl⟩
theorem But.trans {B : Nat} {a b c : World} (h : But B a b) (k : But B b c) : But B a c :=
  ⟨Nat.le_trans h.size k.size, fun i hi hB => (k.block i (Nat.lt_of_lt_of_le hi h.size) hB).trans (h.block i hi hB)⟩
theorem But.of {B : Nat} {w w' : World} (h : Below w.heap.size w w') : But B w w' := ⟨h.size, fun k hk _ => h.block k hk⟩
theorem But.setCell {B : Nat} {a w : World} (h : But B a w) (o : Nat) (v : Value) : But B a (w.setCell ⟨B, o, none⟩ v) :=
  ⟨by simpa using h.size, fun k hk hB => (Below.heap_setCell w _ v k (by simpa using hB)).trans (h.block k hk hB)⟩
theorem OwnInts.but {w w' : World} {B b n : Nat} {g : Nat → Int} (h : OwnInts w b n g) (hb : But B w w') (hB : b ≠ B) : OwnInts w' b n g := by
  have hlt := h.lt
  obtain ⟨⟨cs, h1, h2⟩, h3⟩ := h
  have h1' := (hb.block b hlt hB).trans h1
  refine ⟨⟨cs, h1', h2⟩, fun i hi => ?_⟩
  rw [cell_of_row _ _ _ _ _ _ h1', ← cell_of_row w _ _ _ _ _ h1]
  exact h3 i hi

theorem OwnMvs.cells {w : World} {b n : Nat} (h : OwnMvs w b n) : (∀ j, j < n * 6 → ∃ v, w.cell? ⟨b, j, none⟩ = some v) ∧ ∀ j, w.frozen? ⟨b, j, none⟩ = false := by
  obtain ⟨cs, h1, h2⟩ := h
  exact ⟨fun j hj => by rw [cell_of_row w _ j cs _ _ h1]; exact ⟨_, Array.getElem?_eq_getElem (by omega)⟩, fun j => frozen_of_row w _ j cs _ h1⟩
theorem OwnMvs.setCell {w : World} {b n : Nat} (h : OwnMvs w b n) (o : Nat) (v : Value) : OwnMvs (w.setCell ⟨b, o, none⟩ v) b n := by
  obtain ⟨cs, h1, h2⟩ := h
  exact ⟨_, heap_setCell_same _ _ o _ _ v h1, by simp [h2]⟩
theorem OwnMvs.below {B : Nat} {w w' : World} {b n : Nat} (h : OwnMvs w b n) (hb : Below B w w') (hB : b < B) : OwnMvs w' b n := by
  obtain ⟨cs, h1, h2⟩ := h
  exact ⟨cs, (hb.block _ hB).trans h1, h2⟩

end Go.Proofs.YtlmcblcijndipabGreat

/- What the laws write into memory to see whose it is. -/
namespace Go.Proofs.YtlmcblcijndipabGreat
open Go.RowKit
set_option linter.unusedVariables false

theorem conv_byte (n : Int) (w : World) : (convert 90 9 (.slice (some ⟨w.heap.size, 0, none⟩) 1 1)).run Tryz0.prog (w.alloc (.cells #[.int .u8 n] 5)) = .ok (.string (strOfNums [n])) (w.alloc (.cells #[.int .u8 n] 5)) :=
  run_convert_bytes_arg _ 90 5 (Tryz0.tr_underlying Tryz.underlying90) (Tryz0.tr_underlying Tryz.underlying5) w.heap.size 0 1 1 [n] rfl (fun i hi => by
    obtain rfl : i = 0 := by omega
    simp) 9 (Tryz0.tr_underlying Tryz.underlying9)

set_option maxHeartbeats 400000 in
set_option maxRecDepth 10000 in
theorem markText_any (k : Int) (w : World) (h0 : 0 ≤ k) (h1 : k ≤ 1000000000) :
    Calls Tryz0.prog 28 #[.int .i64 k] w fun e w' => (∃ s : ByteArray, e = .returned (.string s)) ∧ Below w.heap.size w w' := by
  by_cases hk : k ≤ 0
  · go_enter Tryz0.func28, Tryz.ntmps28
    go_wp2
    go_ret
    exact ⟨⟨_, rfl⟩, Below.refl _ _⟩
  · go_enter Tryz0.func28, Tryz.ntmps28
    go_wp2
    go_loopw [0, 3] (fun x s wr => ∃ (z : Int) (t : ByteArray), x = .int .i64 z ∧ s = .string t ∧ 0 ≤ z ∧ z ≤ k ∧ t.size + z ≤ k ∧ Below w.heap.size w wr) (fun x _ _ => (intOf x).toNat)
    case atStart => exact ⟨k, ByteArray.empty, rfl, rfl, by omega, by omega, by simp, Below.refl _ _⟩
    case round =>
      obtain ⟨z, t, rfl, rfl, hz0, hz1, hz2, hB⟩ := hrel
      by_cases hz : 0 < z
      · have hcv := conv_byte
        have hs1 := strOfNums_size [48 + z % 10]
        go_wp2
        go_roundw
        case rel => exact ⟨z / 10, _, rfl, rfl, by omega, by omega, by simp [strOfNums_size]; omega, hB.alloc hB.size _⟩
        case measure => simp [intOf]; omega
      · go_wp2
        go_ret
        exact ⟨⟨_, rfl⟩, hB⟩

set_option maxHeartbeats 1000000 in
theorem markS_own (b n cap : Nat) (k : Int) (w : World) (n₀ : Nat) (hn0 : n₀ ≤ b) (hn : n ≤ 1048576) (h0 : 0 ≤ k) (h1 : k ≤ 10000000) (hown : OwnMvs w b n) :
    Calls Tryz0.prog 11 #[.slice (some ⟨b, 0, none⟩) n cap, .int .i64 k] w fun e w' => e = .returned (.int .i64 (k + n * 6)) ∧ But b w w' ∧ Below n₀ w w' := by
  have hlt0 := hown.lt
  go_enter Tryz0.func11, Tryz.ntmps11
  go_wp2
  go_loopw [1, 5] (fun x i wr => ∃ j : Nat, j ≤ n ∧ i = .int .i64 j ∧ x = .int .i64 (k + j * 6) ∧ OwnMvs wr b n ∧ But b w wr ∧ Below n₀ w wr) (fun _ i _ => n - (intOf i).toNat)
  case atStart => exact ⟨0, Nat.zero_le _, rfl, by simp, hown, But.refl _ _, Below.refl _ _⟩
  case round =>
    obtain ⟨j, hj, rfl, rfl, ho, hbut, hB⟩ := hrel
    by_cases hlt : j < n
    · have hlt' : (j : Int) < n := by omega
      have HT := markText_any (k + j * 6) wr (by omega) (by omega)
      have hzb := ho.lt
      go_wp2_with (go_at_call 28; refine HT.mono ?_; clear HT; rintro e w1 ⟨⟨s, rfl⟩, hb1⟩; have ho1 := ho.below hb1 hzb; obtain ⟨hcell, hfz⟩ := ho1.cells; obtain ⟨v0, e0⟩ := hcell (j * 6) (by omega); obtain ⟨v1, e1⟩ := hcell (j * 6 + 1) (by omega); obtain ⟨v2, e2⟩ := hcell (j * 6 + 2) (by omega); obtain ⟨v3, e3⟩ := hcell (j * 6 + 3) (by omega); obtain ⟨v4, e4⟩ := hcell (j * 6 + 4) (by omega); obtain ⟨v5, e5⟩ := hcell (j * 6 + 5) (by omega))
      have hbut1 : But b w w1 := hbut.trans (But.of hb1)
      have hB1 : Below n₀ w w1 := hB.trans (hb1.mono (by omega))
      go_roundw
      case rel => exact ⟨j + 1, by omega, by go_num, by go_num, (((((ho1.setCell _ _).setCell _ _).setCell _ _).setCell _ _).setCell _ _).setCell _ _, (((((hbut1.setCell _ _).setCell _ _).setCell _ _).setCell _ _).setCell _ _).setCell _ _, (((((hB1.setCell hn0 _).setCell hn0 _).setCell hn0 _).setCell hn0 _).setCell hn0 _).setCell hn0 _⟩
      case measure => simp [intOf]; omega
    · have hjn : j = n := by omega
      subst hjn
      go_wp2
      go_ret
      exact ⟨rfl, hbut, hB⟩
end Go.Proofs.YtlmcblcijndipabGreat

/- Numbers marked, and looked at again. -/
namespace Go.Proofs.YtlmcblcijndipabGreat
open Go.RowKit
set_option linter.unusedVariables false

set_option maxHeartbeats 400000 in
theorem markI_own (b n cap : Nat) (g : Nat → Int) (k : Int) (w : World) (n₀ : Nat) (hn0 : n₀ ≤ b) (hn : n ≤ 1048576) (h0 : 0 ≤ k) (h1 : k ≤ 100000000) (hown : OwnInts w b n g) :
    Calls Tryz0.prog 12 #[.slice (some ⟨b, 0, none⟩) n cap, .int .i64 k] w fun e w' => e = .returned (.int .i64 (k + n)) ∧ OwnInts w' b n (fun i => k + i) ∧ But b w w' ∧ Below n₀ w w' := by
  have hlt0 := hown.lt
  go_enter Tryz0.func12, Tryz.ntmps12
  go_wp2
  go_loopw [1, 5] (fun x i wr => ∃ j : Nat, j ≤ n ∧ i = .int .i64 j ∧ x = .int .i64 (k + j) ∧ OwnInts wr b n (fun i => if i < j then k + i else g i) ∧ But b w wr ∧ Below n₀ w wr) (fun _ i _ => n - (intOf i).toNat)
  case atStart => exact ⟨0, Nat.zero_le _, rfl, by simp, hown.congr (fun i hi => by simp), But.refl _ _, Below.refl _ _⟩
  case round =>
    obtain ⟨j, hj, rfl, rfl, ho, hbut, hB⟩ := hrel
    by_cases hlt : j < n
    · have hlt' : (j : Int) < n := by omega
      have hd := ho.cellAt j hlt
      have hfz := ho.frozen j
      go_wp2
      go_roundw
      case rel => exact ⟨j + 1, by omega, by go_num, by go_num, (ho.set j hlt (k + j)).congr (fun i hi => by
        by_cases e : i = j
        · subst e; simp
        · simp only [if_neg e]; by_cases h : i < j
          · rw [if_pos h, if_pos (by omega)]
          · rw [if_neg h, if_neg (by omega)]), hbut.setCell _ _, hB.setCell hn0 _⟩
      case measure => simp [intOf]; omega
    · have hjn : j = n := by omega
      subst hjn
      go_wp2
      go_ret
      exact ⟨rfl, ho.congr (fun i hi => by rw [if_pos hi]), hbut, hB⟩
theorem markI_none (a : Option Addr) (cap : Nat) (k : Int) (w : World) :
    Calls Tryz0.prog 12 #[.slice a 0 cap, .int .i64 k] w fun e w' => e = .returned (.int .i64 k) ∧ w' = w := by
  go_enter Tryz0.func12, Tryz.ntmps12
  go_wp2
  go_loopw [1, 5] (fun x i wr => i = .int .i64 0 ∧ x = .int .i64 k ∧ wr = w) (fun _ _ _ => 0)
  case atStart => exact ⟨rfl, rfl, rfl⟩
  case round =>
    obtain ⟨rfl, rfl, rfl⟩ := hrel
    go_wp2
    go_ret
    exact ⟨rfl, rfl⟩

set_option maxHeartbeats 400000 in
theorem heldI_own (b n cap : Nat) (k : Int) (w : World) (hn : n ≤ 1048576) (h0 : 0 ≤ k) (h1 : k ≤ 100000000) (hown : OwnInts w b n (fun i => k + i)) :
    Calls Tryz0.prog 13 #[.slice (some ⟨b, 0, none⟩) n cap, .int .i64 k] w fun e w' => e = .returned (.int .i64 (k + n)) ∧ Below w.heap.size w w' := by
  have hlt0 := hown.lt
  go_enter Tryz0.func13, Tryz.ntmps13
  go_wp2
  go_loopw [1, 5] (fun x i wr => ∃ j : Nat, j ≤ n ∧ i = .int .i64 j ∧ x = .int .i64 (k + j) ∧ Below w.heap.size w wr) (fun _ i _ => n - (intOf i).toNat)
  case atStart => exact ⟨0, Nat.zero_le _, rfl, by simp, Below.refl _ _⟩
  case round =>
    obtain ⟨j, hj, rfl, rfl, hB⟩ := hrel
    by_cases hlt : j < n
    · have hlt' : (j : Int) < n := by omega
      have hd : wr.cell? ⟨b, j, none⟩ = some (.int .i64 (k + j)) := (hown.below hB hlt0).cellAt j hlt
      go_wp2
      go_roundw
      case rel => exact ⟨j + 1, by omega, by go_num, by go_num, hB⟩
      case measure => simp [intOf]; omega
    · have hjn : j = n := by omega
      subst hjn
      go_wp2
      go_ret
      exact ⟨rfl, hB⟩
theorem heldI_none (a : Option Addr) (cap : Nat) (k : Int) (w : World) :
    Calls Tryz0.prog 13 #[.slice a 0 cap, .int .i64 k] w fun e w' => e = .returned (.int .i64 k) ∧ w' = w := by
  go_enter Tryz0.func13, Tryz.ntmps13
  go_wp2
  go_loopw [1, 5] (fun x i wr => i = .int .i64 0 ∧ x = .int .i64 k ∧ wr = w) (fun _ _ _ => 0)
  case atStart => exact ⟨rfl, rfl, rfl⟩
  case round =>
    obtain ⟨rfl, rfl, rfl⟩ := hrel
    go_wp2
    go_ret
    exact ⟨rfl, rfl⟩
end Go.Proofs.YtlmcblcijndipabGreat
