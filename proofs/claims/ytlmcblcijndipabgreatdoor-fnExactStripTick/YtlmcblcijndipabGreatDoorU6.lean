/- A tick passes: tried, where the book is ok. -/
import Derived.Test.YtlmcblcijndipabGreatDoorU5
namespace Go.Proofs.YtlmcblcijndipabGreatDoor
open Go.RowKit Go.Extern.Stop Go.Stop Go.Extern
set_option linter.unusedVariables false

theorem bookB_parts {now shift : Int} {f : Nat → Mv} {n : Nat} {t : Nat → Int} {m : Nat} (h : bookB now shift f n t m = true) : (0 ≤ now ∧ now ≤ 10000) ∧ (0 ≤ shift ∧ shift ≤ 6) ∧ fitsB f n t m = true := by
  unfold bookB at h
  simp only [Bool.and_eq_true] at h
  exact ⟨inB_iff.mp h.1.1.1, inB_iff.mp h.1.1.2, h.1.2⟩

section
variable (now shift : Int) (b off n cap : Nat) (f : Nat → Mv) (b' off' m cap' : Nat) (t : Nat → Int) (w : World) (hn : n ≤ 1048576) (hm1 : m ≤ maxLen) (hbs : b < w.heap.size) (hrow : MvRow w b off n f) (hbs' : b' < w.heap.size) (hrow' : IntRow w b' off' m t)
include hn hm1 hbs hrow hbs' hrow'

set_option maxRecDepth 10000 in
set_option maxHeartbeats 2000000 in
theorem tried_B (hb : bookB now shift f n t m = true) (hnow : now = 10000) :
    Calls Tryz.prog 64 #[bkV now shift (.slice (some ⟨b, off, none⟩) n cap) (.slice (some ⟨b', off', none⟩) m cap'), passV] w fun e w' => e = .returned (.tuple #[bkV 0 0 nilV nilV, refV 2]) ∧ Below w.heap.size w w' := by
  subst hnow
  have hB2 : ∀ o1 o2, Below w.heap.size w ((w.alloc o1).alloc o2) := fun o1 o2 => ((Below.refl _ w).alloc (Nat.le_refl _) _).alloc (by simp) _
  have H1 : ∀ o1 o2, Calls Tryz.prog 90 #[.agg #[.int .i64 10000, .int .i64 shift, .slice (some ⟨b, off, none⟩) n cap, .slice (some ⟨b', off', none⟩) m cap']] ((w.alloc o1).alloc o2) fun e w' => e = .returned (.bool true) ∧ Below ((w.alloc o1).alloc o2).heap.size ((w.alloc o1).alloc o2) w' := fun o1 o2 => by
    have := implBook_row 10000 shift b off n cap f b' off' m cap' t _ hn hm1 (Nat.lt_of_lt_of_le hbs (hB2 o1 o2).size) (hrow.below (hB2 o1 o2) hbs) (Nat.lt_of_lt_of_le hbs' (hB2 o1 o2).size) (hrow'.below (hB2 o1 o2) hbs')
    rw [hb] at this; exact this
  have hN1 : ∀ c2 T2 o3, ((w.alloc (.cells c2 T2)).alloc o3).heap[w.heap.size]? = some (.cells c2 T2 (0, 0)) := fun c2 T2 o3 => (Below.heap_alloc _ _ _ (by simp)).trans (heap_alloc_new w (.cells c2 T2))
  have hN2 : ∀ o1 c2 T2, ((w.alloc o1).alloc (.cells c2 T2)).heap[w.heap.size + 1]? = some (.cells c2 T2 (0, 0)) := fun o1 c2 T2 => by have := heap_alloc_new (w.alloc o1) (.cells c2 T2); simpa using this
  have HM := fun W => made_end shift (.slice (some ⟨b, off, none⟩) n cap) (.slice (some ⟨b', off', none⟩) m cap') ⟨_, _, _, rfl⟩ ⟨_, _, _, rfl⟩ W
  have hmm := m_made
  go_enter Tryz.func64, Tryz.ntmps64
  go_wp2_with (first
    | (go_at_call 90; refine (H1 _ _).mono ?_; clear H1; rintro e w1 ⟨rfl, b1⟩; have B1 := (hB2 _ _).trans (b1.mono (hB2 _ _).size); have s1 := b1.size; simp at s1; have g0 := (b1.block w.heap.size (by simp; omega)).trans (hN1 _ _ _); have g1 := (b1.block (w.heap.size + 1) (by simp)).trans (hN2 _ _ _); have p0 := cell_of_row w1 _ 0 _ _ _ g0; have p1 := cell_of_row w1 _ 1 _ _ _ g0; have p2 := cell_of_row w1 _ 2 _ _ _ g0; have p3 := cell_of_row w1 _ 3 _ _ _ g0; simp at p0 p1 p2 p3)
    | (go_at_call 287; refine (HM _).mono ?_; clear HM; rintro e w2 ⟨rfl, b2⟩; have s2 := b2.size; have B2 := B1.trans (b2.mono B1.size); have k1 := (b2.block (w.heap.size + 1) (by omega)).trans g1; have ka : ∀ o, (w2.alloc o).heap[w.heap.size + 1]? = _ := fun o => (Below.heap_alloc w2 o _ (by omega)).trans k1; have r0 := fun o => cell_of_row (w2.alloc o) _ 0 _ _ _ (ka o); have r1 := fun o => cell_of_row (w2.alloc o) _ 1 _ _ _ (ka o); have r2 := fun o => cell_of_row (w2.alloc o) _ 2 _ _ _ (ka o); have r3 := fun o => cell_of_row (w2.alloc o) _ 3 _ _ _ (ka o); have rf := fun o j => frozen_of_row (w2.alloc o) _ j _ _ (ka o); simp at r0 r1 r2 r3))
  refine bodyPost_ret (v := .tuple #[bkV 0 0 nilV nilV, refV 2]) (by simp [results, Tryz.results64, go_sem, r0, r1, r2, r3]) rfl ⟨rfl, ?_⟩
  exact ((((B2.alloc B2.size _).setCell (by simp) _).setCell (by simp) _).setCell (by simp) _).setCell (by simp) _

set_option maxRecDepth 10000 in
set_option maxHeartbeats 2000000 in
theorem tried_C (hb : bookB now shift f n t m = true) (hnow : now ≠ 10000) :
    Calls Tryz.prog 64 #[bkV now shift (.slice (some ⟨b, off, none⟩) n cap) (.slice (some ⟨b', off', none⟩) m cap'), passV] w fun e w' => (∃ v u, e = .returned (.tuple #[bkV (now + 1) shift v u, .nilIface]) ∧ w'.ownsRow w.heap.size 36 6 v (stay now t n).length (stayM f t now (stay now t n)) ∧ w'.ownsRow w.heap.size 3 1 u (stay now t n).length (stayT t (stay now t n))) ∧ Below w.heap.size w w' := by
  obtain ⟨hnw, _, hft⟩ := bookB_parts hb
  obtain ⟨hmv, rfl, _⟩ := fits_parts hft
  have h6 := movesB_six hmv
  clear hft hmv
  have hB2 : ∀ o1 o2, Below w.heap.size w ((w.alloc o1).alloc o2) := fun o1 o2 => ((Below.refl _ w).alloc (Nat.le_refl _) _).alloc (by simp) _
  have H1 : ∀ o1 o2, Calls Tryz.prog 90 #[.agg #[.int .i64 now, .int .i64 shift, .slice (some ⟨b, off, none⟩) m cap, .slice (some ⟨b', off', none⟩) m cap']] ((w.alloc o1).alloc o2) fun e w' => e = .returned (.bool true) ∧ Below ((w.alloc o1).alloc o2).heap.size ((w.alloc o1).alloc o2) w' := fun o1 o2 => by
    have := implBook_row now shift b off m cap f b' off' m cap' t _ hn hm1 (Nat.lt_of_lt_of_le hbs (hB2 o1 o2).size) (hrow.below (hB2 o1 o2) hbs) (Nat.lt_of_lt_of_le hbs' (hB2 o1 o2).size) (hrow'.below (hB2 o1 o2) hbs')
    rw [hb] at this; exact this
  have hN1 : ∀ c2 T2 o3, ((w.alloc (.cells c2 T2)).alloc o3).heap[w.heap.size]? = some (.cells c2 T2 (0, 0)) := fun c2 T2 o3 => (Below.heap_alloc _ _ _ (by simp)).trans (heap_alloc_new w (.cells c2 T2))
  have hN2 : ∀ o1 c2 T2, ((w.alloc o1).alloc (.cells c2 T2)).heap[w.heap.size + 1]? = some (.cells c2 T2 (0, 0)) := fun o1 c2 T2 => by have := heap_alloc_new (w.alloc o1) (.cells c2 T2); simpa using this
  have HM := fun W (hW : Below w.heap.size w W) => made_any now shift b off m cap f b' off' cap' t W h6 hnw.1 (by omega) (Nat.lt_of_lt_of_le hbs hW.size) (hrow.below hW hbs) (Nat.lt_of_lt_of_le hbs' hW.size) (hrow'.below hW hbs')
  have hmm := m_made
  have hap := as_pass
  clear hrow hrow'
  go_enter Tryz.func64, Tryz.ntmps64
  go_wp2_with (first
    | (go_at_call 90; refine (H1 _ _).mono ?_; clear H1; rintro e w1 ⟨rfl, b1⟩; have B1 := (hB2 _ _).trans (b1.mono (hB2 _ _).size); have s1 := b1.size; simp at s1; have g0 := (b1.block w.heap.size (by simp; omega)).trans (hN1 _ _ _); have g1 := (b1.block (w.heap.size + 1) (by simp)).trans (hN2 _ _ _); have p0 := cell_of_row w1 _ 0 _ _ _ g0; have p1 := cell_of_row w1 _ 1 _ _ _ g0; have p2 := cell_of_row w1 _ 2 _ _ _ g0; have p3 := cell_of_row w1 _ 3 _ _ _ g0; simp at p0 p1 p2 p3)
    | (go_at_call 287; refine (HM _ B1).mono ?_; clear HM; rintro e w2 ⟨⟨v, u, rfl, ov, ou⟩, b2⟩; obtain ⟨av, cv, rfl⟩ := own_sl ov; obtain ⟨au, cu, rfl⟩ := own_sl ou; have s2 := b2.size; have B2 := B1.trans (b2.mono B1.size); have k1 := (b2.block (w.heap.size + 1) (by omega)).trans g1; have ka : ∀ o, (w2.alloc o).heap[w.heap.size + 1]? = _ := fun o => (Below.heap_alloc w2 o _ (by omega)).trans k1; have r0 := fun o => cell_of_row (w2.alloc o) _ 0 _ _ _ (ka o); have r1 := fun o => cell_of_row (w2.alloc o) _ 1 _ _ _ (ka o); have r2 := fun o => cell_of_row (w2.alloc o) _ 2 _ _ _ (ka o); have r3 := fun o => cell_of_row (w2.alloc o) _ 3 _ _ _ (ka o); have rf := fun o j => frozen_of_row (w2.alloc o) _ j _ _ (ka o); simp at r0 r1 r2 r3))
  have eW : ∀ o v1 v2 v3 v4 q, q ≠ w.heap.size + 1 → q < w2.heap.size → (((((w2.alloc o).setCell ⟨w.heap.size + 1, 0, none⟩ v1).setCell ⟨w.heap.size + 1, 1, none⟩ v2).setCell ⟨w.heap.size + 1, 2, none⟩ v3).setCell ⟨w.heap.size + 1, 3, none⟩ v4).heap[q]? = w2.heap[q]? := fun o v1 v2 v3 v4 q hq hl => by
    rw [Below.heap_setCell _ _ _ _ (by simpa using hq), Below.heap_setCell _ _ _ _ (by simpa using hq), Below.heap_setCell _ _ _ _ (by simpa using hq), Below.heap_setCell _ _ _ _ (by simpa using hq)]
    exact Below.heap_alloc w2 o q hl
  refine bodyPost_ret (v := .tuple #[bkV (now + 1) shift (.slice av (stay now t m).length cv) (.slice au (stay now t m).length cu), .nilIface]) (by simp [results, Tryz.results64, go_sem, r0, r1, r2, r3]) rfl ⟨⟨_, _, rfl, ?_, ?_⟩, ?_⟩
  · exact own_base (own_same ov (fun B hB => eW _ _ _ _ _ B (by have := (ov.lt B hB).1; omega) (ov.lt B hB).2)) (by omega)
  · exact own_base (own_same ou (fun B hB => eW _ _ _ _ _ B (by have := (ou.lt B hB).1; omega) (ou.lt B hB).2)) (by omega)
  · exact ((((B2.alloc B2.size _).setCell (by simp) _).setCell (by simp) _).setCell (by simp) _).setCell (by simp) _
end
end Go.Proofs.YtlmcblcijndipabGreatDoor
