/- The copy of moves in a slice. -/
import Derived.Test.YtlmcblcijndipabGreatDoorW5
namespace Go.Proofs.YtlmcblcijndipabGreatDoor
open Go.RowKit

theorem info_move : (Tryz.prog.info? 36).map (fun i => (i.size, i.bytes, i.zero)) = some (6, 56, some (.agg #[.string ByteArray.empty, .bool false, .int .i64 0, .int .i64 0, .int .i64 0, .int .i64 0])) := by kernel_rfl

theorem make_moves (n : Nat) (hn : n ≤ 1048576) (w : World) :
    (Instr.makeSlice 30 (.int .i64 (n : Int)) (.int .i64 (n : Int))).run Tryz.prog w = .ok (.slice (some ⟨w.heap.size, 0, none⟩) n n) (w.alloc (.cells (madeCells #[.string ByteArray.empty, .bool false, .int .i64 0, .int .i64 0, .int .i64 0, .int .i64 0] (n * 6)) 36)) := by
  have hi := info_move
  cases hI : Tryz.prog.info? 36 with
  | none => rw [hI] at hi; simp at hi
  | some i =>
    rw [hI] at hi
    simp only [Option.map_some, Option.some.injEq, Prod.mk.injEq] at hi
    obtain ⟨h6, h56, hz⟩ := hi
    have := run_make (P := Tryz.prog) w 30 36 i _ Tryz.underlying30 hI hz .i64 .i64 n n (by omega) (by omega) (by rw [h56]; omega) (by omega)
    rw [h6] at this
    simpa [Value.cells] using this

/-- a move stored -/
def setMv (w : World) (g o : Nat) (m : Mv) : World :=
  (((((w.setCell ⟨g, o, none⟩ (.string m.name)).setCell ⟨g, o + 1, none⟩ (.bool m.lands)).setCell ⟨g, o + 2, none⟩ (.int .i64 m.wake)).setCell ⟨g, o + 3, none⟩ (.int .i64 m.est)).setCell ⟨g, o + 4, none⟩ (.int .i64 m.late)).setCell ⟨g, o + 5, none⟩ (.int .i64 m.prom)

theorem setMv_heap (w : World) (g o : Nat) (m : Mv) (cs : Array Value) (t : TypeId) (hg : w.heap[g]? = some (.cells cs t (0, 0))) :
    ∃ cs', (setMv w g o m).heap[g]? = some (.cells cs' t (0, 0)) ∧ cs'.size = cs.size :=
  ⟨_, heap_setCell_same _ _ _ _ _ _ (heap_setCell_same _ _ _ _ _ _ (heap_setCell_same _ _ _ _ _ _ (heap_setCell_same _ _ _ _ _ _ (heap_setCell_same _ _ _ _ _ _ (heap_setCell_same _ _ _ _ _ _ hg))))), by simp⟩
theorem cell_other (w : World) (a b : Addr) (v : Value) (h : a ≠ b) : (w.setCell a v).cell? b = w.cell? b := World.cell?_setCell_other w a b v h
theorem setMv_other (w : World) (g o : Nat) (m : Mv) (j : Nat) (h : j < o ∨ o + 6 ≤ j) : (setMv w g o m).cell? ⟨g, j, none⟩ = w.cell? ⟨g, j, none⟩ := by
  unfold setMv
  rw [cell_other _ _ _ _ (by simp <;> omega), cell_other _ _ _ _ (by simp <;> omega), cell_other _ _ _ _ (by simp <;> omega), cell_other _ _ _ _ (by simp <;> omega), cell_other _ _ _ _ (by simp <;> omega), cell_other _ _ _ _ (by simp <;> omega)]
theorem setMv_far (w : World) (g o : Nat) (m : Mv) (b j : Nat) (h : b ≠ g) : (setMv w g o m).cell? ⟨b, j, none⟩ = w.cell? ⟨b, j, none⟩ := by
  unfold setMv
  rw [cell_other _ _ _ _ (by simp <;> omega), cell_other _ _ _ _ (by simp <;> omega), cell_other _ _ _ _ (by simp <;> omega), cell_other _ _ _ _ (by simp <;> omega), cell_other _ _ _ _ (by simp <;> omega), cell_other _ _ _ _ (by simp <;> omega)]
theorem setMv_at (w : World) (g o : Nat) (m : Mv) (cs : Array Value) (t : TypeId) (hg : w.heap[g]? = some (.cells cs t (0, 0))) (hs : o + 6 ≤ cs.size) : MvAt (setMv w g o m) g o m := by
  have h0 := hg
  have h1 := heap_setCell_same _ _ o _ _ (.string m.name) h0
  have h2 := heap_setCell_same _ _ (o + 1) _ _ (.bool m.lands) h1
  have h3 := heap_setCell_same _ _ (o + 2) _ _ (.int .i64 m.wake) h2
  have h4 := heap_setCell_same _ _ (o + 3) _ _ (.int .i64 m.est) h3
  have h5 := heap_setCell_same _ _ (o + 4) _ _ (.int .i64 m.late) h4
  have h6 := heap_setCell_same _ _ (o + 5) _ _ (.int .i64 m.prom) h5
  constructor <;> (unfold setMv; rw [cell_of_row _ _ _ _ _ _ h6]; simp [Array.getElem?_setIfInBounds]; omega)
theorem setMv_below {B : Nat} {a w : World} (h : Below B a w) {g : Nat} (hg : B ≤ g) (o : Nat) (m : Mv) : Below B a (setMv w g o m) :=
  (((((h.setCell (by simpa using hg) _).setCell (by simpa using hg) _).setCell (by simpa using hg) _).setCell (by simpa using hg) _).setCell (by simpa using hg) _).setCell (by simpa using hg) _
theorem setMv_row {w : World} {g k : Nat} {f : Nat → Mv} {cs : Array Value} {t : TypeId} (hg : w.heap[g]? = some (.cells cs t (0, 0))) (hs : k * 6 + 6 ≤ cs.size) (h : MvRow w g 0 k f) : MvRow (setMv w g (k * 6) (f k)) g 0 (k + 1) f := by
  intro i hi
  by_cases e : i = k
  · subst e
    rw [Nat.zero_add]
    exact setMv_at _ _ _ _ _ _ hg hs
  · have hl : i < k := by omega
    obtain ⟨c0, c1, c2, c3, c4, c5⟩ := h i hl
    exact ⟨(setMv_other _ _ _ _ _ (by omega)).trans c0, (setMv_other _ _ _ _ _ (by omega)).trans c1, (setMv_other _ _ _ _ _ (by omega)).trans c2, (setMv_other _ _ _ _ _ (by omega)).trans c3, (setMv_other _ _ _ _ _ (by omega)).trans c4, (setMv_other _ _ _ _ _ (by omega)).trans c5⟩

/-- a block of n moves of one's own -/
def OwnMvs (w : World) (b n : Nat) : Prop := ∃ cs, w.heap[b]? = some (.cells cs 36 (0, 0)) ∧ cs.size = n * 6
theorem OwnMvs.lt {w : World} {b n : Nat} (h : OwnMvs w b n) : b < w.heap.size := by
  obtain ⟨cs, h1, _⟩ := h
  rcases Nat.lt_or_ge b w.heap.size with h | h
  · exact h
  · rw [Array.getElem?_eq_none h] at h1; cases h1

set_option maxHeartbeats 400000 in
theorem toS_own (b off n cap : Nat) (f : Nat → Mv) (w : World) (hn : n ≤ 1048576) (hbs : b < w.heap.size) (hrow : MvRow w b off n f) :
    Calls Tryz.prog 37 #[.slice (some ⟨b, off, none⟩) n cap] w fun e w' => e = .returned (.slice (some ⟨w.heap.size, 0, none⟩) n n) ∧ MvRow w' w.heap.size 0 n f ∧ OwnMvs w' w.heap.size n ∧ Below w.heap.size w w' := by
  have hmk := make_moves n hn
  go_enter Tryz.func37, Tryz.ntmps37
  go_wp2
  go_loopw [4] (fun i w' => ∃ (k : Nat) (cs : Array Value), k ≤ n ∧ i = .int .i64 k ∧ w'.heap[w.heap.size]? = some (.cells cs 36 (0, 0)) ∧ cs.size = n * 6 ∧ MvRow w' w.heap.size 0 k f ∧ Below w.heap.size w w') (fun i _ => n - (intOf i).toNat)
  case atStart => exact ⟨0, _, Nat.zero_le _, rfl, heap_alloc_new _ _, size_madeCells _ _, fun i hi => absurd hi (Nat.not_lt_zero _), (Below.refl _ _).alloc (Nat.le_refl _) _⟩
  case round =>
    obtain ⟨k, cs, hk, rfl, hblk, hcs, hold, hB⟩ := hrel
    by_cases hlt : k < n
    · obtain ⟨c0, c1, c2, c3, c4, c5⟩ := (hrow.below hB hbs) k hlt
      have hcell : ∀ j, j < n * 6 → ∃ v, wr.cell? ⟨w.heap.size, j, none⟩ = some v := fun j hj => by
        rw [cell_of_row wr _ j cs _ _ hblk]; exact ⟨_, Array.getElem?_eq_getElem (by omega)⟩
      obtain ⟨v0, e0⟩ := hcell (k * 6) (by omega)
      obtain ⟨v1, e1⟩ := hcell (k * 6 + 1) (by omega)
      obtain ⟨v2, e2⟩ := hcell (k * 6 + 2) (by omega)
      obtain ⟨v3, e3⟩ := hcell (k * 6 + 3) (by omega)
      obtain ⟨v4, e4⟩ := hcell (k * 6 + 4) (by omega)
      obtain ⟨v5, e5⟩ := hcell (k * 6 + 5) (by omega)
      have hfz : ∀ j, wr.frozen? ⟨w.heap.size, j, none⟩ = false := fun j => frozen_of_row wr _ j cs _ hblk
      have hsz : w.heap.size < wr.heap.size := block_lt_of_cell e0
      go_wp2_with (go_at_call 12; refine (to_any _ _ _ _ _ _ _).mono ?_; rintro e w1 ⟨rfl, hb1⟩; obtain ⟨hc1, hf1⟩ := bcell hb1)
      have hblk1 : w1.heap[w.heap.size]? = some (.cells cs 36 (0, 0)) := (hb1.block _ hsz).trans hblk
      have hold1 : MvRow w1 w.heap.size 0 k f := hold.below hb1 hsz
      obtain ⟨cs', hcs', hsz'⟩ := setMv_heap w1 w.heap.size (k * 6) (f k) cs _ hblk1
      go_roundw
      case rel => exact ⟨k + 1, cs', by omega, by go_num, hcs', by omega, setMv_row hblk1 (by omega) hold1, setMv_below (hB.trans (hb1.mono (by omega))) (Nat.le_refl _) _ _⟩
      case measure => simp [intOf]; omega
    · go_wp2
      go_ret
      have hkn : k = n := by omega
      subst hkn
      exact ⟨rfl, hold, ⟨cs, hblk, hcs⟩, hB⟩

theorem toS_row (b off n cap : Nat) (f : Nat → Mv) (w : World) (hn : n ≤ 1048576) (hbs : b < w.heap.size) (hrow : MvRow w b off n f) :
    Calls Tryz.prog 37 #[.slice (some ⟨b, off, none⟩) n cap] w fun e w' => e = .returned (.slice (some ⟨w.heap.size, 0, none⟩) n n) ∧ MvRow w' w.heap.size 0 n f ∧ w.heap.size < w'.heap.size ∧ Below w.heap.size w w' :=
  (toS_own b off n cap f w hn hbs hrow).mono fun _ _ ⟨h1, h2, h3, h4⟩ => ⟨h1, h2, h3.lt, h4⟩

theorem toS_noneOwn (a : Option Addr) (cap : Nat) (f : Nat → Mv) (w : World) :
    Calls Tryz.prog 37 #[.slice a 0 cap] w fun e w' => e = .returned (.slice (some ⟨w.heap.size, 0, none⟩) 0 0) ∧ MvRow w' w.heap.size 0 0 f ∧ OwnMvs w' w.heap.size 0 ∧ Below w.heap.size w w' := by
  have hmk : ∀ w, (Instr.makeSlice 30 (.int .i64 0) (.int .i64 0)).run Tryz.prog w = .ok (.slice (some ⟨w.heap.size, 0, none⟩) 0 0) (w.alloc (.cells (madeCells #[.string ByteArray.empty, .bool false, .int .i64 0, .int .i64 0, .int .i64 0, .int .i64 0] (0 * 6)) 36)) := make_moves 0 (by omega)
  go_enter Tryz.func37, Tryz.ntmps37
  go_wp2
  go_loopw [4] (fun i w' => i = .int .i64 0 ∧ OwnMvs w' w.heap.size 0 ∧ Below w.heap.size w w') (fun _ _ => 0)
  case atStart => exact ⟨rfl, ⟨_, heap_alloc_new _ _, size_madeCells _ _⟩, (Below.refl _ _).alloc (Nat.le_refl _) _⟩
  case round =>
    obtain ⟨rfl, hs, hB⟩ := hrel
    go_wp2
    go_ret
    exact ⟨rfl, fun i hi => absurd hi (Nat.not_lt_zero _), hs, hB⟩
theorem toS_none (a : Option Addr) (cap : Nat) (f : Nat → Mv) (w : World) :
    Calls Tryz.prog 37 #[.slice a 0 cap] w fun e w' => e = .returned (.slice (some ⟨w.heap.size, 0, none⟩) 0 0) ∧ MvRow w' w.heap.size 0 0 f ∧ w.heap.size < w'.heap.size ∧ Below w.heap.size w w' :=
  (toS_noneOwn a cap f w).mono fun _ _ ⟨h1, h2, h3, h4⟩ => ⟨h1, h2, h3.lt, h4⟩
end Go.Proofs.YtlmcblcijndipabGreatDoor
