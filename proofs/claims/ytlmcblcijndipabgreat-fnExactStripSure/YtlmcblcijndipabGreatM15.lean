/- Texts of the proof, one behind another: W1, W2, W3, W4, W5, W6, PM. -/
import Derived.Test.YtlmcblcijndipabGreatChecked
import Derived.Test.YtlmcblcijndipabGreatM13
import Derived.Test.YtlmcblcijndipabGreatM14
import Derived.WalkKit
import Derived.ProofKit
import Derived.WalkLawsBesides
import Derived.Deep.RegionHeld3
import Derived.Deep.RegionLaw
import Derived.Deep.Slices
namespace Go.Proofs.YtlmcblcijndipabGreat
open Go.RowKit
theorem ret_b {a b : Bool} (h : a = b) : Ending.returned (.bool a) = .returned (.bool b) := by rw [h]
theorem in_any (n lo hi : Int) (w : World) :
    Calls Tryz0.prog 21 #[.int .i64 n, .int .i64 lo, .int .i64 hi] w fun e w' => e = .returned (.bool (inB n lo hi)) ∧ w' = w := by
  go_enter Tryz0.func21, Tryz.ntmps21
  go_wp2
  all_goals go_ret
  all_goals exact ⟨ret_b (by unfold inB; rw [Bool.eq_iff_iff]; simp; omega), rfl⟩
theorem wake_any (n : Int) (w : World) :
    Calls Tryz0.prog 64 #[.int .i64 n] w fun e w' => e = .returned (.bool (inB n 1 3)) ∧ w' = w := by
  go_enter Tryz0.func64, Tryz.ntmps64
  go_wp2
  all_goals go_ret
  all_goals exact ⟨ret_b (by unfold inB; rw [Bool.eq_iff_iff]; simp; omega), rfl⟩
theorem span_any (a b : Int) (w : World) :
    Calls Tryz0.prog 65 #[.int .i64 a, .int .i64 b] w fun e w' => e = .returned (.bool (inB a 0 b && decide (b ≤ 10000))) ∧ w' = w := by
  go_enter Tryz0.func65, Tryz.ntmps65
  go_wp2
  all_goals go_ret
  all_goals exact ⟨ret_b (by unfold inB; rw [Bool.eq_iff_iff]; simp; omega), rfl⟩
theorem rune_any (r : Int) (w : World) :
    Calls Tryz0.prog 104 #[.int .i32 r] w fun e w' => e = .returned (.bool (okB r)) ∧ w' = w := by
  go_enter Tryz0.func104, Tryz.ntmps104
  go_wp2
  all_goals go_ret
  all_goals exact ⟨ret_b (by unfold okB; rw [Bool.eq_iff_iff]; simp; omega), rfl⟩
end Go.Proofs.YtlmcblcijndipabGreat

namespace Go.Proofs.YtlmcblcijndipabGreat
open Go.RowKit
theorem specName_no (s : ByteArray) (w : World) (h : inB s.size 1 8 = false) :
    Calls Tryz0.prog 58 #[.string s] w fun e w' => e = .returned (.bool (nameB s)) ∧ w' = w := by
  have hn : nameB s = false := by
    unfold inB at h
    by_cases h1 : 1 ≤ s.size
    · exact nameB_long (by simp at h; omega)
    · exact nameB_short h1
  go_enter Tryz0.func58, Tryz.ntmps58
  go_wp2_with (go_at_call 21; refine (in_any _ _ _ _).mono ?_; rintro e w' ⟨rfl, rfl⟩)
  go_ret
  exact ⟨ret_b hn.symm, rfl⟩
set_option maxHeartbeats 400000 in
theorem specName_yes (s : ByteArray) (w : World) (hs : s.size ≤ maxLen) (hin : inB s.size 1 8 = true) :
    Calls Tryz0.prog 58 #[.string s] w fun e w' => e = .returned (.bool (nameB s)) ∧ w' = w := by
  unfold maxLen at hs
  have hb : 1 ≤ s.size ∧ s.size ≤ 8 := by have hin' := hin; unfold inB at hin'; simp at hin'; omega
  go_enter Tryz0.func58, Tryz.ntmps58
  go_wp2_with (go_at_call 21; refine (in_any _ _ _ _).mono ?_; rintro e w' ⟨rfl, rfl⟩)
  go_loop [3, 4] (fun i _ => ∃ k : Nat, k ≤ s.size ∧ i = .int .i64 k ∧ okTo s k) (fun i _ => s.size - (intOf i).toNat)
  case atStart => exact ⟨0, Nat.zero_le _, rfl, okTo_zero s⟩
  case round =>
    obtain ⟨k, hk, rfl, ho⟩ := hrel
    by_cases hlt : k < s.size
    · go_wp2
      all_goals first
        | (go_round
           case rel => exact ⟨k + 1, by omega, by go_num, okTo_succ ho hlt (by unfold okB; simp at *; omega)⟩
           case measure => simp [intOf]; omega)
        | (go_ret
           exact ⟨ret_b (nameB_no hlt (by unfold okB; simp at *; omega)).symm, rfl⟩)
    · go_wp2
      go_ret
      exact ⟨ret_b (nameB_yes hb.1 hb.2 (by rw [show s.size = k by omega]; exact ho)).symm, rfl⟩
theorem specName_any (s : ByteArray) (w : World) (hs : s.size ≤ maxLen) :
    Calls Tryz0.prog 58 #[.string s] w fun e w' => e = .returned (.bool (nameB s)) ∧ w' = w := by
  by_cases h : inB s.size 1 8 = true
  · exact specName_yes s w hs h
  · exact specName_no s w (by simpa using h)
theorem below_iter (w : World) (s : ByteArray) (p : Nat) : Below w.heap.size w (w.iter s p) :=
  (Below.refl _ _).alloc (Nat.le_refl _) _
set_option maxRecDepth 1000000 in
theorem implName_yes (s : ByteArray) (w : World) (hb : 1 ≤ s.size ∧ s.size ≤ 8) :
    Calls Tryz0.prog 63 #[.string s] w fun e w' => e = .returned (.bool (nameB s)) ∧ Below w.heap.size w w' := by
  go_enter Tryz0.func63, Tryz.ntmps63
  go_wp2
  go_loopw [4] (fun _ w' => ∃ pos : Nat, w' = w.iter s pos ∧ pos ≤ s.size ∧ okTo s pos) (fun _ w' => s.size - w'.iterPos w.heap.size)
  case atStart => exact ⟨0, rfl, Nat.zero_le _, okTo_zero s⟩
  case round =>
    obtain ⟨pos, rfl, hp0, ho⟩ := hrel
    by_cases hp : pos < s.size
    · have hnx : ∀ ty, (Instr.next (.pointer (some ⟨w.heap.size, 0, none⟩)) true ty).run Tryz0.prog (w.iter s pos) = _ := fun ty => run_next_any w s pos ty hp
      by_cases ha : (s[pos]'hp).toNat < 128
      · have hd := decode_ascii s pos hp ha
        rw [hd] at hnx
        clear hd
        by_cases hok : okB ((s[pos]'hp).toNat : Int) = true
        · go_wp2_with (go_at_call 104; refine (rune_any _ _).mono ?_; rintro e w' ⟨rfl, rfl⟩)
          go_roundw
          case rel => exact ⟨pos + 1, rfl, by omega, okTo_succ ho hp hok⟩
          case measure => simp; omega
        · have hok' : okB ((s[pos]'hp).toNat : Int) = false := by simpa using hok
          have hnn : nameB s = false := nameB_no hp hok'
          clear hok
          go_wp2_with (go_at_call 104; refine (rune_any _ _).mono ?_; rintro e w' ⟨rfl, rfl⟩)
          go_ret
          exact ⟨ret_b hnn.symm, below_iter _ _ _⟩
      · have hh := decode_high s pos hp (by omega)
        have hno : okB ((Utf8.decode s pos).1 : Int) = false := okB_no (by omega)
        have hnn : nameB s = false := nameB_no hp (okB_no (by omega))
        go_wp2_with (go_at_call 104; refine (rune_any _ _).mono ?_; rintro e w' ⟨rfl, rfl⟩)
        go_ret
        exact ⟨ret_b hnn.symm, below_iter _ _ _⟩
    · have hnx : ∀ ty, (Instr.next (.pointer (some ⟨w.heap.size, 0, none⟩)) true ty).run Tryz0.prog (w.iter s pos) = _ := fun ty => run_next_end w s pos ty hp
      go_wp2
      go_ret
      exact ⟨ret_b (nameB_yes hb.1 hb.2 (by rw [show s.size = pos by omega]; exact ho)).symm, below_iter _ _ _⟩
theorem implName_no (s : ByteArray) (w : World) (hb : ¬ (1 ≤ s.size ∧ s.size ≤ 8)) :
    Calls Tryz0.prog 63 #[.string s] w fun e w' => e = .returned (.bool (nameB s)) ∧ Below w.heap.size w w' := by
  have hn : nameB s = false := by
    by_cases h1 : 1 ≤ s.size
    · exact nameB_long (by omega)
    · exact nameB_short h1
  by_cases h1 : 1 ≤ s.size
  · have h8 : 8 < s.size := by omega
    go_enter Tryz0.func63, Tryz.ntmps63
    go_wp2
    go_ret
    first | exact ⟨ret_b hn.symm, Below.refl _ _⟩ | exact ⟨rfl, Below.refl _ _⟩
  · go_enter Tryz0.func63, Tryz.ntmps63
    go_wp2
    go_ret
    first | exact ⟨ret_b hn.symm, Below.refl _ _⟩ | exact ⟨rfl, Below.refl _ _⟩
theorem implName_any (s : ByteArray) (w : World) :
    Calls Tryz0.prog 63 #[.string s] w fun e w' => e = .returned (.bool (nameB s)) ∧ Below w.heap.size w w' := by
  by_cases hb : 1 ≤ s.size ∧ s.size ≤ 8
  · exact implName_yes s w hb
  · exact implName_no s w hb
end Go.Proofs.YtlmcblcijndipabGreat

namespace Go.Proofs.YtlmcblcijndipabGreat
open Go.RowKit
theorem inSpan_any (s : ByteArray) (l : Bool) (a b c d t : Int) (w : World) :
    Calls Tryz0.prog 105 #[.agg #[.string s, .bool l, .int .i64 a, .int .i64 b, .int .i64 c, .int .i64 d], .int .i64 t] w fun e w' => e = .returned (.bool (inB t b c)) ∧ Below w.heap.size w w' := by
  go_enter Tryz0.func105, Tryz.ntmps105
  go_wp2
  all_goals go_ret
  all_goals exact ⟨ret_b (by unfold inB; rw [Bool.eq_iff_iff]; simp; omega), (Below.refl _ _).alloc (Nat.le_refl _) _⟩
theorem promise_any (s : ByteArray) (l : Bool) (a b c d : Int) (w : World) :
    Calls Tryz0.prog 66 #[.agg #[.string s, .bool l, .int .i64 a, .int .i64 b, .int .i64 c, .int .i64 d]] w fun e w' => e = .returned (.bool (promB b c d)) ∧ Below w.heap.size w w' := by
  by_cases hd : (d == -1) = true
  · go_enter Tryz0.func66, Tryz.ntmps66
    go_wp2
    go_ret
    exact ⟨ret_b (by unfold promB; rw [hd]; rfl), (Below.refl _ _).alloc (Nat.le_refl _) _⟩
  · have hd' : (d == -1) = false := by simpa using hd
    clear hd
    go_enter Tryz0.func66, Tryz.ntmps66
    go_wp2_with (go_at_call 105; refine (inSpan_any _ _ _ _ _ _ _ _).mono ?_; rintro e w' ⟨rfl, hb⟩)
    go_ret
    exact ⟨ret_b (by unfold promB; rw [hd']; rfl), ((Below.refl _ _).alloc (Nat.le_refl _) _).trans (hb.mono (by simp))⟩
end Go.Proofs.YtlmcblcijndipabGreat

namespace Go.Proofs.YtlmcblcijndipabGreat
open Go.RowKit
theorem bcell {W w1 : World} (hb : Below W.heap.size W w1) : (∀ b o, b < W.heap.size → w1.cell? ⟨b, o, none⟩ = W.cell? ⟨b, o, none⟩) ∧ (∀ b o, b < W.heap.size → w1.frozen? ⟨b, o, none⟩ = W.frozen? ⟨b, o, none⟩) :=
  ⟨fun b o h => hb.cell (p := ⟨b, o, none⟩) h, fun b o h => hb.frozen (p := ⟨b, o, none⟩) h⟩
theorem one_more {w W w1 : World} (h : w.heap.size < W.heap.size ∧ Below w.heap.size w W) (hb : Below W.heap.size W w1) : w.heap.size < w1.heap.size ∧ Below w.heap.size w w1 :=
  ⟨Nat.lt_of_lt_of_le h.1 hb.size, h.2.trans (hb.mono (Nat.le_of_lt h.1))⟩
theorem one_new (w : World) (o : Obj) : w.heap.size < (w.alloc o).heap.size ∧ Below w.heap.size w (w.alloc o) := ⟨by simp, (Below.refl _ _).alloc (Nat.le_refl _) _⟩
set_option maxHeartbeats 400000 in
theorem specMove_any (s : ByteArray) (l : Bool) (a b c d : Int) (w : World) (hs : s.size ≤ maxLen) :
    Calls Tryz0.prog 35 #[.agg #[.string s, .bool l, .int .i64 a, .int .i64 b, .int .i64 c, .int .i64 d]] w fun e w' => e = .returned (.bool (moveB s a b c d)) ∧ Below w.heap.size w w' := by
  go_enter Tryz0.func35, Tryz.ntmps35
  go_wp2_with (first | (go_at_call 58; refine (specName_any _ _ hs).mono ?_; rintro e w' ⟨rfl, rfl⟩) | (go_at_call 21; refine (in_any _ _ _ _).mono ?_; rintro e w' ⟨rfl, rfl⟩))
  all_goals go_ret
  all_goals exact ⟨ret_b (by unfold moveB promB; simp [*] <;> omega), (Below.refl _ _).alloc (Nat.le_refl _) _⟩
set_option maxHeartbeats 400000 in
theorem implMove_any (s : ByteArray) (l : Bool) (a b c d : Int) (w : World) :
    Calls Tryz0.prog 41 #[.agg #[.string s, .bool l, .int .i64 a, .int .i64 b, .int .i64 c, .int .i64 d]] w fun e w' => e = .returned (.bool (moveB s a b c d)) ∧ Below w.heap.size w w' := by
  go_enter Tryz0.func41, Tryz.ntmps41
  go_wp2_with (first | (go_at_call 63; refine (implName_any _ _).mono ?_; rintro e w1 ⟨rfl, hb1⟩; obtain ⟨hc1, hf1⟩ := bcell hb1) | (go_at_call 64; refine (wake_any _ _).mono ?_; rintro e w' ⟨rfl, rfl⟩) | (go_at_call 65; refine (span_any _ _ _).mono ?_; rintro e w' ⟨rfl, rfl⟩) | (go_at_call 66; refine (promise_any _ _ _ _ _ _ _).mono ?_; rintro e w2 ⟨rfl, hb2⟩))
  all_goals go_ret
  all_goals refine ⟨ret_b (by unfold moveB; simp [*]), ?_⟩
  all_goals first
    | exact ((Below.refl _ _).alloc (Nat.le_refl _) _).trans ((hb1.mono (by simp)).trans (hb2.mono (by have := hb1.size; simp at this; omega)))
    | exact ((Below.refl _ _).alloc (Nat.le_refl _) _).trans (hb1.mono (by simp))
theorem sz_any (s : ByteArray) (l : Bool) (a b c d left : Int) (w : World) (hs : s.size ≤ maxLen) (h0 : 0 ≤ left) (h1 : left ≤ 1048576) :
    Calls Tryz0.prog 19 #[.agg #[.string s, .bool l, .int .i64 a, .int .i64 b, .int .i64 c, .int .i64 d], .int .i64 left] w fun e w' => e = .returned (.int .i64 (if left < s.size then -1 else left - s.size)) ∧ Below w.heap.size w w' := by
  unfold maxLen at hs
  by_cases h : left < s.size
  · rw [if_pos h]
    go_enter Tryz0.func19, Tryz.ntmps19
    go_wp2
    go_ret
    exact ⟨rfl, (Below.refl _ _).alloc (Nat.le_refl _) _⟩
  · rw [if_neg h]
    go_enter Tryz0.func19, Tryz.ntmps19
    go_wp2
    go_ret
    exact ⟨rfl, (Below.refl _ _).alloc (Nat.le_refl _) _⟩
theorem to_any (s : ByteArray) (l : Bool) (a b c d : Int) (w : World) :
    Calls Tryz0.prog 23 #[.agg #[.string s, .bool l, .int .i64 a, .int .i64 b, .int .i64 c, .int .i64 d]] w fun e w' => e = .returned (.agg #[.string s, .bool l, .int .i64 a, .int .i64 b, .int .i64 c, .int .i64 d]) ∧ Below w.heap.size w w' := by
  go_enter Tryz0.func23, Tryz.ntmps23
  go_wp2
  refine bodyPost_ret (v := .agg #[.string s, .bool l, .int .i64 a, .int .i64 b, .int .i64 c, .int .i64 d]) (by simp [results, Tryz.results23, go_sem]) rfl ⟨rfl, ?_⟩
  repeat (first | exact Below.refl _ _ | refine Below.alloc ?_ (by simp <;> omega) _)
end Go.Proofs.YtlmcblcijndipabGreat

namespace Go.Proofs.YtlmcblcijndipabGreat
open Go.RowKit
structure MvAt (w : World) (b o : Nat) (m : Mv) : Prop where
  c0 : w.cell? ⟨b, o, none⟩ = some (.string m.name)
  c1 : w.cell? ⟨b, o + 1, none⟩ = some (.bool m.lands)
  c2 : w.cell? ⟨b, o + 2, none⟩ = some (.int .i64 m.wake)
  c3 : w.cell? ⟨b, o + 3, none⟩ = some (.int .i64 m.est)
  c4 : w.cell? ⟨b, o + 4, none⟩ = some (.int .i64 m.late)
  c5 : w.cell? ⟨b, o + 5, none⟩ = some (.int .i64 m.prom)
def MvRow (w : World) (b off n : Nat) (f : Nat → Mv) : Prop := ∀ i, i < n → MvAt w b (off + i * 6) (f i)
theorem MvAt.below {B : Nat} {w w' : World} {b o : Nat} {m : Mv} (h : MvAt w b o m) (hb : Below B w w') (hB : b < B) : MvAt w' b o m :=
  ⟨(hb.cell hB).trans h.c0, (hb.cell hB).trans h.c1, (hb.cell hB).trans h.c2, (hb.cell hB).trans h.c3, (hb.cell hB).trans h.c4, (hb.cell hB).trans h.c5⟩
theorem MvRow.below {B : Nat} {w w' : World} {b off n : Nat} {f : Nat → Mv} (h : MvRow w b off n f) (hb : Below B w w') (hB : b < B) : MvRow w' b off n f :=
  fun i hi => (h i hi).below hb hB
set_option maxHeartbeats 400000 in
theorem szS_row (b off n cap : Nat) (f : Nat → Mv) (left : Int) (w : World) (hn : n ≤ maxLen) (hbs : b < w.heap.size) (hrow : MvRow w b off n f) (hf : ∀ i, i < n → (f i).Fits) (h0 : 0 ≤ left) (h1 : left ≤ 1048576) :
    Calls Tryz0.prog 5 #[.slice (some ⟨b, off, none⟩) n cap, .int .i64 left] w fun e w' => (∃ r : Int, e = .returned (.int .i64 r) ∧ (r = -1 ∨ 0 ≤ r ∧ r + n ≤ left)) ∧ Below w.heap.size w w' := by
  unfold maxLen at hn
  by_cases hl : left < n
  · go_enter Tryz0.func5, Tryz.ntmps5
    go_wp2
    go_ret
    exact ⟨⟨-1, rfl, .inl rfl⟩, Below.refl _ _⟩
  · go_enter Tryz0.func5, Tryz.ntmps5
    go_wp2
    go_loopw [1, 5] (fun l i w' => ∃ (k : Nat) (t : Int), k ≤ n ∧ i = .int .i64 k ∧ l = .int .i64 t ∧ 0 ≤ t ∧ t + n ≤ left ∧ Below w.heap.size w w') (fun _ i _ => n - (intOf i).toNat)
    case atStart => exact ⟨0, left - n, Nat.zero_le _, rfl, rfl, by omega, by omega, Below.refl _ _⟩
    case round =>
      obtain ⟨k, t, hk, rfl, rfl, ht0, ht1, hB⟩ := hrel
      by_cases hlt : k < n
      · obtain ⟨c0, c1, c2, c3, c4, c5⟩ := (hrow.below hB hbs) k hlt
        have hs := (hf k hlt).name
        by_cases hts : t < (f k).name.size
        · go_wp2_with (go_at_call 19; refine (sz_any _ _ _ _ _ _ _ _ hs (by omega) (by omega)).mono ?_; rintro e w1 ⟨rfl, hb1⟩)
          go_ret
          exact ⟨⟨-1, rfl, .inl rfl⟩, hB.trans (hb1.mono hB.size)⟩
        · go_wp2_with (go_at_call 19; refine (sz_any _ _ _ _ _ _ _ _ hs (by omega) (by omega)).mono ?_; rintro e w1 ⟨rfl, hb1⟩)
          go_roundw
          case rel => exact ⟨k + 1, t - (f k).name.size, by omega, by go_num, by rw [if_neg (by omega)], by omega, by omega, hB.trans (hb1.mono hB.size)⟩
          case measure => simp [intOf]; omega
      · go_wp2
        go_ret
        exact ⟨⟨t, rfl, .inr ⟨ht0, ht1⟩⟩, hB⟩
theorem szS_none (a : Option Addr) (cap : Nat) (left : Int) (w : World) (h0 : 0 ≤ left) (h1 : left ≤ 1048576) :
    Calls Tryz0.prog 5 #[.slice a 0 cap, .int .i64 left] w fun e w' => (∃ r : Int, e = .returned (.int .i64 r) ∧ (r = -1 ∨ 0 ≤ r ∧ r + (0 : Nat) ≤ left)) ∧ Below w.heap.size w w' := by
  go_enter Tryz0.func5, Tryz.ntmps5
  go_wp2
  go_loopw [1, 5] (fun l i w' => i = .int .i64 0 ∧ l = .int .i64 left ∧ w' = w) (fun _ _ _ => 0)
  case atStart => exact ⟨rfl, rfl, rfl⟩
  case round =>
    obtain ⟨rfl, rfl, rfl⟩ := hrel
    go_wp2
    go_ret
    exact ⟨⟨left, rfl, .inr ⟨h0, by omega⟩⟩, Below.refl _ _⟩
end Go.Proofs.YtlmcblcijndipabGreat

namespace Go.Proofs.YtlmcblcijndipabGreat
open Go.RowKit
theorem info_move : (Tryz0.prog.info? 48).map (fun i => (i.size, i.bytes, i.zero)) = some (6, 56, some (.agg #[.string ByteArray.empty, .bool false, .int .i64 0, .int .i64 0, .int .i64 0, .int .i64 0])) := by kernel_rfl
theorem make_moves (n : Nat) (hn : n ≤ 1048576) (w : World) :
    (Instr.makeSlice 27 (.int .i64 (n : Int)) (.int .i64 (n : Int))).run Tryz0.prog w = .ok (.slice (some ⟨w.heap.size, 0, none⟩) n n) (w.alloc (.cells (madeCells #[.string ByteArray.empty, .bool false, .int .i64 0, .int .i64 0, .int .i64 0, .int .i64 0] (n * 6)) 48)) := by
  have hi := info_move
  cases hI : Tryz0.prog.info? 48 with
  | none => rw [hI] at hi; simp at hi
  | some i =>
    rw [hI] at hi
    simp only [Option.map_some, Option.some.injEq, Prod.mk.injEq] at hi
    obtain ⟨h6, h56, hz⟩ := hi
    have := run_make (P := Tryz0.prog) w 27 48 i _ (Tryz0.tr_underlying Tryz.underlying27) hI hz .i64 .i64 n n (by omega) (by omega) (by rw [h56]; omega) (by omega)
    rw [h6] at this
    simpa [Value.cells] using this
def setMv (w : World) (g o : Nat) (m : Mv) : World :=
  (((((w.setCell ⟨g, o, none⟩ (.string m.name)).setCell ⟨g, o + 1, none⟩ (.bool m.lands)).setCell ⟨g, o + 2, none⟩ (.int .i64 m.wake)).setCell ⟨g, o + 3, none⟩ (.int .i64 m.est)).setCell ⟨g, o + 4, none⟩ (.int .i64 m.late)).setCell ⟨g, o + 5, none⟩ (.int .i64 m.prom)
theorem setMv_heap (w : World) (g o : Nat) (m : Mv) (cs : Array Value) (t : TypeId) (hg : w.heap[g]? = some (.cells cs t (0, 0))) :
    ∃ cs', (setMv w g o m).heap[g]? = some (.cells cs' t (0, 0)) ∧ cs'.size = cs.size :=
  ⟨_, heap_setCell_same _ _ _ _ _ _ (heap_setCell_same _ _ _ _ _ _ (heap_setCell_same _ _ _ _ _ _ (heap_setCell_same _ _ _ _ _ _ (heap_setCell_same _ _ _ _ _ _ (heap_setCell_same _ _ _ _ _ _ hg))))), by simp⟩
theorem cell_other (w : World) (a b : Addr) (v : Value) (h : a ≠ b) : (w.setCell a v).cell? b = w.cell? b := World.cell?_setCell_other w a b v h
theorem setMv_other (w : World) (g o : Nat) (m : Mv) (j : Nat) (h : j < o ∨ o + 6 ≤ j) : (setMv w g o m).cell? ⟨g, j, none⟩ = w.cell? ⟨g, j, none⟩ := by
  unfold setMv
  rw [cell_other _ _ _ _ (by simp <;> omega), cell_other _ _ _ _ (by simp <;> omega), cell_other _ _ _ _ (by simp <;> omega), cell_other _ _ _ _ (by simp <;> omega), cell_other _ _ _ _ (by simp <;> omega), cell_other _ _ _ _ (by simp <;> omega)]
theorem setMv_at (w : World) (g o : Nat) (m : Mv) (cs : Array Value) (t : TypeId) (hg : w.heap[g]? = some (.cells cs t (0, 0))) (hs : o + 6 ≤ cs.size) : MvAt (setMv w g o m) g o m := by
  have h0 := hg
  have h1 := heap_setCell_same _ _ o _ _ (.string m.name) h0
  have h2 := heap_setCell_same _ _ (o + 1) _ _ (.bool m.lands) h1
  have h3 := heap_setCell_same _ _ (o + 2) _ _ (.int .i64 m.wake) h2
  have h4 := heap_setCell_same _ _ (o + 3) _ _ (.int .i64 m.est) h3
  have h5 := heap_setCell_same _ _ (o + 4) _ _ (.int .i64 m.late) h4
  have h6 := heap_setCell_same _ _ (o + 5) _ _ (.int .i64 m.prom) h5
  constructor <;> (unfold setMv; rw [cell_of_row _ _ _ _ _ _ h6]; simp [Array.getElem?_setIfInBounds]; omega)
theorem setMv_below {B : Nat} {a w : World} (h : Below B a w) {g : Nat} (hg : B ≤ g) (o : Nat) (m : Mv) : Below B a (setMv w g o m) :=
  (((((h.setCell (by simpa using hg) _).setCell (by simpa using hg) _).setCell (by simpa using hg) _).setCell (by simpa using hg) _).setCell (by simpa using hg) _).setCell (by simpa using hg) _
theorem setMv_row {w : World} {g k : Nat} {f : Nat → Mv} {cs : Array Value} {t : TypeId} (hg : w.heap[g]? = some (.cells cs t (0, 0))) (hs : k * 6 + 6 ≤ cs.size) (h : MvRow w g 0 k f) : MvRow (setMv w g (k * 6) (f k)) g 0 (k + 1) f := by
  intro i hi
  by_cases e : i = k
  · subst e
    rw [Nat.zero_add]
    exact setMv_at _ _ _ _ _ _ hg hs
  · have hl : i < k := by omega
    obtain ⟨c0, c1, c2, c3, c4, c5⟩ := h i hl
    exact ⟨(setMv_other _ _ _ _ _ (by omega)).trans c0, (setMv_other _ _ _ _ _ (by omega)).trans c1, (setMv_other _ _ _ _ _ (by omega)).trans c2, (setMv_other _ _ _ _ _ (by omega)).trans c3, (setMv_other _ _ _ _ _ (by omega)).trans c4, (setMv_other _ _ _ _ _ (by omega)).trans c5⟩
def OwnMvs (w : World) (b n : Nat) : Prop := ∃ cs, w.heap[b]? = some (.cells cs 48 (0, 0)) ∧ cs.size = n * 6
theorem OwnMvs.lt {w : World} {b n : Nat} (h : OwnMvs w b n) : b < w.heap.size := by
  obtain ⟨cs, h1, _⟩ := h
  rcases Nat.lt_or_ge b w.heap.size with h | h
  · exact h
  · rw [Array.getElem?_eq_none h] at h1; cases h1
set_option maxHeartbeats 400000 in
theorem toS_own (b off n cap : Nat) (f : Nat → Mv) (w : World) (hn : n ≤ 1048576) (hbs : b < w.heap.size) (hrow : MvRow w b off n f) :
    Calls Tryz0.prog 7 #[.slice (some ⟨b, off, none⟩) n cap] w fun e w' => e = .returned (.slice (some ⟨w.heap.size, 0, none⟩) n n) ∧ MvRow w' w.heap.size 0 n f ∧ OwnMvs w' w.heap.size n ∧ Below w.heap.size w w' := by
  have hmk := make_moves n hn
  go_enter Tryz0.func7, Tryz.ntmps7
  go_wp2
  go_loopw [4] (fun i w' => ∃ (k : Nat) (cs : Array Value), k ≤ n ∧ i = .int .i64 k ∧ w'.heap[w.heap.size]? = some (.cells cs 48 (0, 0)) ∧ cs.size = n * 6 ∧ MvRow w' w.heap.size 0 k f ∧ Below w.heap.size w w') (fun i _ => n - (intOf i).toNat)
  case atStart => exact ⟨0, _, Nat.zero_le _, rfl, heap_alloc_new _ _, size_madeCells _ _, fun i hi => absurd hi (Nat.not_lt_zero _), (Below.refl _ _).alloc (Nat.le_refl _) _⟩
  case round =>
    obtain ⟨k, cs, hk, rfl, hblk, hcs, hold, hB⟩ := hrel
    by_cases hlt : k < n
    · obtain ⟨c0, c1, c2, c3, c4, c5⟩ := (hrow.below hB hbs) k hlt
      have hcell : ∀ j, j < n * 6 → ∃ v, wr.cell? ⟨w.heap.size, j, none⟩ = some v := fun j hj => by
        rw [cell_of_row wr _ j cs _ _ hblk]; exact ⟨_, Array.getElem?_eq_getElem (by omega)⟩
      obtain ⟨v0, e0⟩ := hcell (k * 6) (by omega)
      obtain ⟨v1, e1⟩ := hcell (k * 6 + 1) (by omega)
      obtain ⟨v2, e2⟩ := hcell (k * 6 + 2) (by omega)
      obtain ⟨v3, e3⟩ := hcell (k * 6 + 3) (by omega)
      obtain ⟨v4, e4⟩ := hcell (k * 6 + 4) (by omega)
      obtain ⟨v5, e5⟩ := hcell (k * 6 + 5) (by omega)
      have hfz : ∀ j, wr.frozen? ⟨w.heap.size, j, none⟩ = false := fun j => frozen_of_row wr _ j cs _ hblk
      have hsz : w.heap.size < wr.heap.size := block_lt_of_cell e0
      go_wp2_with (go_at_call 23; refine (to_any _ _ _ _ _ _ _).mono ?_; rintro e w1 ⟨rfl, hb1⟩; obtain ⟨hc1, hf1⟩ := bcell hb1)
      have hblk1 : w1.heap[w.heap.size]? = some (.cells cs 48 (0, 0)) := (hb1.block _ hsz).trans hblk
      have hold1 : MvRow w1 w.heap.size 0 k f := hold.below hb1 hsz
      obtain ⟨cs', hcs', hsz'⟩ := setMv_heap w1 w.heap.size (k * 6) (f k) cs _ hblk1
      go_roundw
      case rel => exact ⟨k + 1, cs', by omega, by go_num, hcs', by omega, setMv_row hblk1 (by omega) hold1, setMv_below (hB.trans (hb1.mono (by omega))) (Nat.le_refl _) _ _⟩
      case measure => simp [intOf]; omega
    · go_wp2
      go_ret
      have hkn : k = n := by omega
      subst hkn
      exact ⟨rfl, hold, ⟨cs, hblk, hcs⟩, hB⟩
theorem toS_noneOwn (a : Option Addr) (cap : Nat) (f : Nat → Mv) (w : World) :
    Calls Tryz0.prog 7 #[.slice a 0 cap] w fun e w' => e = .returned (.slice (some ⟨w.heap.size, 0, none⟩) 0 0) ∧ MvRow w' w.heap.size 0 0 f ∧ OwnMvs w' w.heap.size 0 ∧ Below w.heap.size w w' := by
  have hmk : ∀ w, (Instr.makeSlice 27 (.int .i64 0) (.int .i64 0)).run Tryz0.prog w = .ok (.slice (some ⟨w.heap.size, 0, none⟩) 0 0) (w.alloc (.cells (madeCells #[.string ByteArray.empty, .bool false, .int .i64 0, .int .i64 0, .int .i64 0, .int .i64 0] (0 * 6)) 48)) := make_moves 0 (by omega)
  go_enter Tryz0.func7, Tryz.ntmps7
  go_wp2
  go_loopw [4] (fun i w' => i = .int .i64 0 ∧ OwnMvs w' w.heap.size 0 ∧ Below w.heap.size w w') (fun _ _ => 0)
  case atStart => exact ⟨rfl, ⟨_, heap_alloc_new _ _, size_madeCells _ _⟩, (Below.refl _ _).alloc (Nat.le_refl _) _⟩
  case round =>
    obtain ⟨rfl, hs, hB⟩ := hrel
    go_wp2
    go_ret
    exact ⟨rfl, fun i hi => absurd hi (Nat.not_lt_zero _), hs, hB⟩
end Go.Proofs.YtlmcblcijndipabGreat

namespace Go.Proofs.YtlmcblcijndipabGreat
open Go.RowKit
set_option linter.unusedVariables false
def promMv (m : Mv) (tick now : Int) : Mv := if tick < now + 4 then { m with prom := tick } else m
set_option maxHeartbeats 400000 in
theorem promised_any (m : Mv) (tick now : Int) (w : World) (h0 : 0 ≤ now) (h1 : now ≤ 20000) :
    Calls Tryz0.prog 56 #[.agg #[.string m.name, .bool m.lands, .int .i64 m.wake, .int .i64 m.est, .int .i64 m.late, .int .i64 m.prom], .int .i64 tick, .int .i64 now] w fun e w' => e = .returned (.agg #[.string (promMv m tick now).name, .bool (promMv m tick now).lands, .int .i64 (promMv m tick now).wake, .int .i64 (promMv m tick now).est, .int .i64 (promMv m tick now).late, .int .i64 (promMv m tick now).prom]) ∧ Below w.heap.size w w' := by
  have hwr : IntKind.i64.wrap (now + 4) = now + 4 := by rw [IntKind.wrap_i64]; omega
  by_cases h : tick < now + 4
  · have HP : Hid (promMv m tick now = { m with prom := tick }) := by have h : promMv m tick now = { m with prom := tick } := by unfold promMv; rw [if_pos h]
                                                                      exact h
    go_enter Tryz0.func56, Tryz.ntmps56
    go_wp2
    refine bodyPost_ret (v := .agg #[.string m.name, .bool m.lands, .int .i64 m.wake, .int .i64 m.est, .int .i64 m.late, .int .i64 tick]) (by simp [results, Tryz.results56, go_sem]) rfl ⟨by rw [HP.out], ?_⟩
    repeat (first | exact Below.refl _ _ | refine Below.alloc ?_ (by simp <;> omega) _ | refine Below.setCell ?_ (by simp <;> omega) _)
  · have HP : Hid (promMv m tick now = m) := by have h : promMv m tick now = m := by unfold promMv; rw [if_neg h]
                                                exact h
    go_enter Tryz0.func56, Tryz.ntmps56
    go_wp2
    refine bodyPost_ret (v := .agg #[.string m.name, .bool m.lands, .int .i64 m.wake, .int .i64 m.est, .int .i64 m.late, .int .i64 m.prom]) (by simp [results, Tryz.results56, go_sem]) rfl ⟨by rw [HP.out], ?_⟩
    repeat (first | exact Below.refl _ _ | refine Below.alloc ?_ (by simp <;> omega) _ | refine Below.setCell ?_ (by simp <;> omega) _)
end Go.Proofs.YtlmcblcijndipabGreat
