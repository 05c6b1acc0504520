/- Texts of the proof, one behind another: WI. -/
import Derived.Test.YtlmcblcijndipabGreatM05
import Derived.Test.YtlmcblcijndipabGreatM14
import Derived.Test.YtlmcblcijndipabGreatM15
/- Numbers in a slice: their copy, their comparison. -/
namespace Go.Proofs.YtlmcblcijndipabGreat
open Go.RowKit

/-- n numbers in memory, in a row -/
theorem IntRow.below {B : Nat} {w w' : World} {b off n : Nat} {g : Nat → Int} (h : IntRow w b off n g) (hb : Below B w w') (hB : b < B) : IntRow w' b off n g :=
  fun i hi => (hb.cell hB).trans (h i hi)
/-- a block of n numbers of one's own -/
def OwnInts (w : World) (b n : Nat) (g : Nat → Int) : Prop := (∃ cs, w.heap[b]? = some (.cells cs 3 (0, 0)) ∧ cs.size = n) ∧ IntRow w b 0 n g
theorem OwnInts.below {B : Nat} {w w' : World} {b n : Nat} {g : Nat → Int} (h : OwnInts w b n g) (hb : Below B w w') (hB : b < B) : OwnInts w' b n g := by
  obtain ⟨⟨cs, h1, h2⟩, h3⟩ := h
  exact ⟨⟨cs, (hb.block _ hB).trans h1, h2⟩, h3.below hb hB⟩
theorem OwnInts.lt {w : World} {b n : Nat} {g : Nat → Int} (h : OwnInts w b n g) : b < w.heap.size := by
  obtain ⟨⟨cs, h1, _⟩, _⟩ := h
  rcases Nat.lt_or_ge b w.heap.size with h | h
  · exact h
  · rw [Array.getElem?_eq_none h] at h1; cases h1
theorem OwnInts.frozen {w : World} {b n : Nat} {g : Nat → Int} (h : OwnInts w b n g) (j : Nat) : w.frozen? ⟨b, j, none⟩ = false := by
  obtain ⟨⟨cs, h1, _⟩, _⟩ := h
  exact frozen_of_row w _ j cs _ h1

theorem info_int : (Tryz0.prog.info? 3).map (fun i => (i.size, i.bytes, i.zero)) = some (1, 8, some (.int .i64 0)) := by kernel_rfl
theorem make_ints (n : Nat) (hn : n ≤ 1048576) (w : World) :
    (Instr.makeSlice 24 (.int .i64 (n : Int)) (.int .i64 (n : Int))).run Tryz0.prog w = .ok (.slice (some ⟨w.heap.size, 0, none⟩) n n) (w.alloc (.cells (madeCells #[.int .i64 0] n) 3)) := by
  have hi := info_int
  cases hI : Tryz0.prog.info? 3 with
  | none => rw [hI] at hi; simp at hi
  | some i =>
    rw [hI] at hi
    simp only [Option.map_some, Option.some.injEq, Prod.mk.injEq] at hi
    obtain ⟨h6, h56, hz⟩ := hi
    have := run_make (P := Tryz0.prog) w 24 3 i _ (Tryz0.tr_underlying Tryz.underlying24) hI hz .i64 .i64 n n (by omega) (by omega) (by rw [h56]; omega) (by omega)
    rw [h6] at this
    simpa [Value.cells] using this

/-- a block of n zeros, just made -/
theorem made_ints (w : World) (n : Nat) : OwnInts (w.alloc (.cells (madeCells #[.int .i64 0] n) 3)) w.heap.size n (fun _ => 0) := by
  have hg : (w.alloc (.cells (madeCells #[.int .i64 0] n) 3)).heap[w.heap.size]? = some (.cells (madeCells #[.int .i64 0] n) 3 (0, 0)) := heap_alloc_new _ _
  refine ⟨⟨_, hg, size_madeCells _ _⟩, fun i hi => ?_⟩
  rw [cell_of_row _ _ _ _ _ _ hg]
  simp [madeCells, Nat.mod_one, hi]

/-- a number stored into one's own block -/
theorem OwnInts.set {w : World} {b n : Nat} {g : Nat → Int} (h : OwnInts w b n g) (k : Nat) (hk : k < n) (x : Int) : OwnInts (w.setCell ⟨b, k, none⟩ (.int .i64 x)) b n (fun i => if i = k then x else g i) := by
  obtain ⟨⟨cs, h1, h2⟩, h3⟩ := h
  have h1' := heap_setCell_same _ _ k _ _ (.int .i64 x) h1
  refine ⟨⟨_, h1', by simp [h2]⟩, fun i hi => ?_⟩
  by_cases e : i = k
  · subst e
    rw [cell_of_row _ _ _ _ _ _ h1']
    simp [Array.getElem?_setIfInBounds] <;> omega
  · rw [World.cell?_setCell_other _ _ _ _ (by simp <;> omega)]
    simp only [if_neg e]
    exact h3 i hi
theorem OwnInts.congr {w : World} {b n : Nat} {g g' : Nat → Int} (h : OwnInts w b n g) (e : ∀ i, i < n → g i = g' i) : OwnInts w b n g' :=
  ⟨h.1, fun i hi => by rw [← e i hi]; exact h.2 i hi⟩
theorem OwnInts.cellAt {w : World} {b n : Nat} {g : Nat → Int} (h : OwnInts w b n g) (k : Nat) (hk : k < n) : w.cell? ⟨b, k, none⟩ = some (.int .i64 (g k)) := by
  have := h.2 k hk; simpa using this

set_option maxHeartbeats 400000 in
theorem toI_row (b off n cap : Nat) (g : Nat → Int) (w : World) (hn : n ≤ 1048576) (hbs : b < w.heap.size) (hrow : IntRow w b off n g) :
    Calls Tryz0.prog 32 #[.slice (some ⟨b, off, none⟩) n cap] w fun e w' => e = .returned (.slice (some ⟨w.heap.size, 0, none⟩) n n) ∧ OwnInts w' w.heap.size n g ∧ Below w.heap.size w w' := by
  have hmk := make_ints n hn
  go_enter Tryz0.func32, Tryz.ntmps32
  go_wp2
  go_loopw [4] (fun i w' => ∃ k : Nat, k ≤ n ∧ i = .int .i64 k ∧ OwnInts w' w.heap.size n (fun i => if i < k then g i else 0) ∧ Below w.heap.size w w') (fun i _ => n - (intOf i).toNat)
  case atStart => exact ⟨0, Nat.zero_le _, rfl, (made_ints w n).congr (fun i hi => by simp), (Below.refl _ _).alloc (Nat.le_refl _) _⟩
  case round =>
    obtain ⟨k, hk, rfl, hown, hB⟩ := hrel
    by_cases hlt : k < n
    · have hc := (hrow.below hB hbs) k hlt
      have hd := hown.cellAt k hlt
      have hfz := hown.frozen k
      go_wp2
      go_roundw
      case rel => exact ⟨k + 1, by omega, by go_num, (hown.set k hlt (g k)).congr (fun i hi => by
        by_cases e : i = k
        · subst e; simp
        · simp only [if_neg e]; by_cases h : i < k
          · rw [if_pos h, if_pos (by omega)]
          · rw [if_neg h, if_neg (by omega)]), hB.setCell (by simp) _⟩
      case measure => simp [intOf]; omega
    · go_wp2
      go_ret
      exact ⟨rfl, hown.congr (fun i hi => by rw [if_pos (by omega)]), hB⟩

theorem toI_none (a : Option Addr) (cap : Nat) (g : Nat → Int) (w : World) :
    Calls Tryz0.prog 32 #[.slice a 0 cap] w fun e w' => e = .returned (.slice (some ⟨w.heap.size, 0, none⟩) 0 0) ∧ OwnInts w' w.heap.size 0 g ∧ Below w.heap.size w w' := by
  have hmk : ∀ w, (Instr.makeSlice 24 (.int .i64 0) (.int .i64 0)).run Tryz0.prog w = .ok (.slice (some ⟨w.heap.size, 0, none⟩) 0 0) (w.alloc (.cells (madeCells #[.int .i64 0] 0) 3)) := make_ints 0 (by omega)
  go_enter Tryz0.func32, Tryz.ntmps32
  go_wp2
  go_loopw [4] (fun i w' => i = .int .i64 0 ∧ OwnInts w' w.heap.size 0 g ∧ Below w.heap.size w w') (fun _ _ => 0)
  case atStart => exact ⟨rfl, (made_ints w 0).congr (fun i hi => absurd hi (Nat.not_lt_zero _)), (Below.refl _ _).alloc (Nat.le_refl _) _⟩
  case round =>
    obtain ⟨rfl, hs, hB⟩ := hrel
    go_wp2
    go_ret
    exact ⟨rfl, hs, hB⟩

set_option maxHeartbeats 1000000 in
theorem eqI_same (b off cap b' off' cap' n : Nat) (g : Nat → Int) (w : World) (hn : n ≤ 1048576) (hbs : b < w.heap.size) (hrow : IntRow w b off n g) (hbs' : b' < w.heap.size) (hrow' : IntRow w b' off' n g) :
    Calls Tryz0.prog 9 #[.slice (some ⟨b, off, none⟩) n cap, .slice (some ⟨b', off', none⟩) n cap'] w fun e w' => e = .returned (.bool true) ∧ Below w.heap.size w w' := by
  go_enter Tryz0.func9, Tryz.ntmps9
  go_wp2
  go_loopw [5] (fun i w' => ∃ k : Nat, k ≤ n ∧ i = .int .i64 k ∧ Below w.heap.size w w') (fun i _ => n - (intOf i).toNat)
  case atStart => exact ⟨0, Nat.zero_le _, rfl, Below.refl _ _⟩
  case round =>
    obtain ⟨k, hk, rfl, hB⟩ := hrel
    by_cases hlt : k < n
    · have hr := hrow.below hB hbs k hlt
      have hr' := hrow'.below hB hbs' k hlt
      have hlt' : (k : Int) < n := by omega
      have hne := later_some wr
      have c0 := fun x : Later wr => x.cell hr
      have d0 := fun x : Later wr => x.cell hr'
      go_wp2
      refine wp_region_later (by kernel_rfl) (by kernel_rfl) ?_
      repeat (go_big_quiet_step (fail))
      refine wpQuiet_nil (later_all ?_)
      intro w1 hb1
      go_wp2
      go_roundw
      case rel => exact ⟨k + 1, by omega, by go_num, hB.trans (hb1.mono hB.size)⟩
      case measure => simp [intOf]; omega
    · go_wp2
      go_ret
      exact ⟨rfl, hB⟩
theorem eqI_none (a a' : Option Addr) (cap cap' : Nat) (w : World) :
    Calls Tryz0.prog 9 #[.slice a 0 cap, .slice a' 0 cap'] w fun e w' => e = .returned (.bool true) ∧ Below w.heap.size w w' := by
  go_enter Tryz0.func9, Tryz.ntmps9
  go_wp2
  go_loopw [5] (fun i w' => i = .int .i64 0 ∧ Below w.heap.size w w') (fun _ _ => 0)
  case atStart => exact ⟨rfl, Below.refl _ _⟩
  case round =>
    obtain ⟨rfl, hB⟩ := hrel
    go_wp2
    go_ret
    exact ⟨rfl, hB⟩

/-- numbers in a slice that came in: none, or a row of them -/
def IsInts (w : World) (a : Option Addr) (n : Nat) (g : Nat → Int) : Prop := n ≤ maxLen ∧ (n = 0 ∨ ∃ b off, a = some ⟨b, off, none⟩ ∧ b < w.heap.size ∧ IntRow w b off n g) ∧ ∀ i, i < n → (Lit.int .i64 (g i)).wf = true
theorem IsInts.below {w w' : World} {a : Option Addr} {n : Nat} {g : Nat → Int} (h : IsInts w a n g) (hb : Below w.heap.size w w') : IsInts w' a n g := by
  obtain ⟨hn, hz | ⟨b, off, rfl, hlt, hrow⟩, hf⟩ := h
  · exact ⟨hn, .inl hz, hf⟩
  · exact ⟨hn, .inr ⟨b, off, rfl, Nat.lt_of_lt_of_le hlt hb.size, hrow.below hb hlt⟩, hf⟩
theorem toI_any (a : Option Addr) (n cap : Nat) (g : Nat → Int) (w : World) (h : IsInts w a n g) (hn : n ≤ 1048576) :
    Calls Tryz0.prog 32 #[.slice a n cap] w fun e w' => e = .returned (.slice (some ⟨w.heap.size, 0, none⟩) n n) ∧ OwnInts w' w.heap.size n g ∧ Below w.heap.size w w' := by
  obtain ⟨_, hz | ⟨b, off, rfl, hb, hrow⟩, hf⟩ := h
  · subst hz; exact toI_none a cap g w
  · exact toI_row b off n cap g w hn hb hrow
end Go.Proofs.YtlmcblcijndipabGreat
