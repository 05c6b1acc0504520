/- A tick passes: the model's StripTick, where it refuses. -/
import Derived.Test.YtlmcblcijndipabGreatDoorV1
namespace Go.Proofs.YtlmcblcijndipabGreatDoor
open Go.RowKit
set_option linter.unusedVariables false

theorem src_m {w : World} {b off n cap : Nat} {f : Nat → Mv} (h : b < w.heap.size) (hr : MvRow w b off n f) : SrcM w (.slice (some ⟨b, off, none⟩) n cap) n f :=
  ⟨some ⟨b, off, none⟩, cap, rfl, by simp, fun ad had => by cases had; exact ⟨b, off, rfl, h, hr⟩⟩
theorem src_i {w : World} {b off n cap : Nat} {t : Nat → Int} (h : b < w.heap.size) (hr : IntRow w b off n t) : SrcI w (.slice (some ⟨b, off, none⟩) n cap) n t :=
  ⟨some ⟨b, off, none⟩, cap, rfl, by simp, fun ad had => by cases had; exact ⟨b, off, rfl, h, hr⟩⟩
theorem src_om {w : World} {base : Nat} {v : Value} {n : Nat} {f : Nat → Mv} (h : w.ownsRow base 36 6 v n (mcells f n)) : SrcM w v n f := by
  have hh := h
  obtain ⟨h1, ⟨rfl, rfl⟩ | ⟨g, c, cur, rfl, h3, h4, h5⟩⟩ := h
  · exact ⟨none, 0, rfl, fun _ => ⟨rfl, rfl⟩, fun ad had => by cases had⟩
  · exact src_m (Array.getElem?_eq_some_iff.1 h4).1 (own_row hh)
theorem src_oi {w : World} {base : Nat} {v : Value} {n : Nat} {t : Nat → Int} {xs : List Value} (h : w.ownsRow base 3 1 v n xs) (hx : ∀ j, j < n → xs[j]? = some (.int .i64 (t j))) : SrcI w v n t := by
  have hh := h
  obtain ⟨h1, ⟨rfl, rfl⟩ | ⟨g, c, cur, rfl, h3, h4, h5⟩⟩ := h
  · exact ⟨none, 0, rfl, fun _ => ⟨rfl, rfl⟩, fun ad had => by cases had⟩
  · exact src_i (Array.getElem?_eq_some_iff.1 h4).1 (fun j hj => by rw [Nat.zero_add, hh.cellAt j (by omega)]; exact hx j hj)

section
variable (now shift : Int) (b off n cap : Nat) (f : Nat → Mv) (b' off' m cap' : Nat) (t : Nat → Int) (w : World) (hn : n ≤ 1048576) (hm : m ≤ 1048576) (hbs : b < w.heap.size) (hrow : MvRow w b off n f) (hf : ∀ i, i < n → (f i).Fits) (hbs' : b' < w.heap.size) (hrow' : IntRow w b' off' m t)
include hn hm hbs hrow hf hbs' hrow'

set_option maxRecDepth 10000 in
set_option maxHeartbeats 2000000 in
theorem stick_A (hb : bookB now shift f n t m = false) :
    Calls Tryz.prog 21 #[bkV now shift (.slice (some ⟨b, off, none⟩) n cap) (.slice (some ⟨b', off', none⟩) m cap')] w fun e w' => TickSays (tickR now shift f n t m) w e w' ∧ Below w.heap.size w w' := by
  have hB3 : ∀ o1 o2 o3, Below w.heap.size w (((w.alloc o1).alloc o2).alloc o3) := fun o1 o2 o3 => (((Below.refl _ w).alloc (Nat.le_refl _) _).alloc (by simp) _).alloc (by simp; omega) _
  have hN2 : ∀ o1 c2 T2 o3, (((w.alloc o1).alloc (.cells c2 T2)).alloc o3).heap[w.heap.size + 1]? = some (.cells c2 T2 (0, 0)) := fun o1 c2 T2 o3 => (Below.heap_alloc _ _ _ (by simp)).trans (by have := heap_alloc_new (w.alloc o1) (.cells c2 T2); simpa using this)
  have HB := fun W (hW : Below w.heap.size w W) => specBook_row now shift b off n cap f b' off' m cap' t W hn (by unfold maxLen; omega) (Nat.lt_of_lt_of_le hbs hW.size) (hrow.below hW hbs) hf (Nat.lt_of_lt_of_le hbs' hW.size) (hrow'.below hW hbs')
  rw [hb] at HB
  have HR := tickR_A hb
  go_enter Tryz.func21, Tryz.ntmps21
  go_wp2_with (go_at_call 30; refine (HB _ (hB3 _ _ _)).mono ?_; clear HB; rintro e w1 ⟨rfl, b1⟩; have B1 := (hB3 _ _ _).trans (b1.mono (hB3 _ _ _).size); have s1 := b1.size; simp at s1; have g1 := (b1.block (w.heap.size + 1) (by simp)).trans (hN2 _ _ _ _); have r0 := cell_of_row w1 _ 0 _ _ _ g1; have r1 := cell_of_row w1 _ 1 _ _ _ g1; have r2 := cell_of_row w1 _ 2 _ _ _ g1; have r3 := cell_of_row w1 _ 3 _ _ _ g1; have rf := fun j => frozen_of_row w1 _ j _ _ g1; simp at r0 r1 r2 r3)
  refine bodyPost_ret (v := .tuple #[bkV 0 0 (.slice none 0 0) (.slice none 0 0), .slice (some ⟨w.heap.size + 1 + 1, 0, none⟩) 0 0, .int .i64 1]) (by simp [results, Tryz.results21, go_sem, r0, r1, r2, r3]) rfl ⟨?_, ?_⟩
  · rw [HR]
    exact ⟨_, _, _, rfl, .inl ⟨rfl, _, _, rfl⟩, .inl ⟨rfl, _, _, rfl⟩, .inl ⟨rfl, _, _, rfl⟩⟩
  · exact (((B1.setCell (by simp) _).setCell (by simp) _).setCell (by simp) _).setCell (by simp) _

set_option maxRecDepth 10000 in
set_option maxHeartbeats 2000000 in
theorem stick_B (hb : bookB now shift f n t m = true) (hnow : now = 10000) :
    Calls Tryz.prog 21 #[bkV now shift (.slice (some ⟨b, off, none⟩) n cap) (.slice (some ⟨b', off', none⟩) m cap')] w fun e w' => TickSays (tickR now shift f n t m) w e w' ∧ Below w.heap.size w w' := by
  have hB3 : ∀ o1 o2 o3, Below w.heap.size w (((w.alloc o1).alloc o2).alloc o3) := fun o1 o2 o3 => (((Below.refl _ w).alloc (Nat.le_refl _) _).alloc (by simp) _).alloc (by simp; omega) _
  have hN1 : ∀ c2 T2 o3 o4, (((w.alloc (.cells c2 T2)).alloc o3).alloc o4).heap[w.heap.size]? = some (.cells c2 T2 (0, 0)) := fun c2 T2 o3 o4 => (Below.heap_alloc _ _ _ (by simp; omega)).trans ((Below.heap_alloc _ _ _ (by simp)).trans (heap_alloc_new w (.cells c2 T2)))
  have hN2 : ∀ o1 c2 T2 o3, (((w.alloc o1).alloc (.cells c2 T2)).alloc o3).heap[w.heap.size + 1]? = some (.cells c2 T2 (0, 0)) := fun o1 c2 T2 o3 => (Below.heap_alloc _ _ _ (by simp)).trans (by have := heap_alloc_new (w.alloc o1) (.cells c2 T2); simpa using this)
  have HB := fun W (hW : Below w.heap.size w W) => specBook_row now shift b off n cap f b' off' m cap' t W hn (by unfold maxLen; omega) (Nat.lt_of_lt_of_le hbs hW.size) (hrow.below hW hbs) hf (Nat.lt_of_lt_of_le hbs' hW.size) (hrow'.below hW hbs')
  rw [hb] at HB
  have HT := fun W (hW : Below w.heap.size w W) => l5Copy_any now shift (.slice (some ⟨b, off, none⟩) n cap) (.slice (some ⟨b', off', none⟩) m cap') n f m t W hn hm (src_m (Nat.lt_of_lt_of_le hbs hW.size) (hrow.below hW hbs)) (src_i (Nat.lt_of_lt_of_le hbs' hW.size) (hrow'.below hW hbs'))
  have HR := tickR_B hb hnow
  clear hrow hrow' hb hf
  subst hnow
  go_enter Tryz.func21, Tryz.ntmps21
  go_wp2_with (first
    | (go_at_call 30; refine (HB _ (hB3 _ _ _)).mono ?_; clear HB; rintro e w1 ⟨rfl, b1⟩; have B1 := (hB3 _ _ _).trans (b1.mono (hB3 _ _ _).size); have s1 := b1.size; simp at s1; have g0 := (b1.block w.heap.size (by simp; omega)).trans (hN1 _ _ _ _); have g1 := (b1.block (w.heap.size + 1) (by simp)).trans (hN2 _ _ _ _); have p0 := cell_of_row w1 _ 0 _ _ _ g0; have p1 := cell_of_row w1 _ 1 _ _ _ g0; have p2 := cell_of_row w1 _ 2 _ _ _ g0; have p3 := cell_of_row w1 _ 3 _ _ _ g0; simp at p0 p1 p2 p3)
    | (go_at_call 31; refine (HT _ B1).mono ?_; clear HT; rintro e w2 ⟨⟨v, u, rfl, ov, ou⟩, b2⟩; clear p0 p1 p2 p3; have B2 := B1.trans (b2.mono B1.size); have s2 := b2.size; have h0 := (b2.block w.heap.size (by omega)).trans g0; have h1 := (b2.block (w.heap.size + 1) (by omega)).trans g1; have ka : ∀ o, (w2.alloc o).heap[w.heap.size + 1]? = _ := fun o => (Below.heap_alloc w2 o _ (by omega)).trans h1; have kb : ∀ o, (w2.alloc o).heap[w.heap.size]? = _ := fun o => (Below.heap_alloc w2 o _ (by omega)).trans h0; have r0 := fun o => cell_of_row (w2.alloc o) _ 0 _ _ _ (ka o); have r1 := fun o => cell_of_row (w2.alloc o) _ 1 _ _ _ (ka o); have r2 := fun o => cell_of_row (w2.alloc o) _ 2 _ _ _ (ka o); have r3 := fun o => cell_of_row (w2.alloc o) _ 3 _ _ _ (ka o); have rf := fun o j => frozen_of_row (w2.alloc o) _ j _ _ (ka o); have p0 := fun o => cell_of_row (w2.alloc o) _ 0 _ _ _ (kb o); simp at r0 r1 r2 r3 p0; obtain ⟨av, cv, rfl⟩ := own_sl ov; obtain ⟨au, cu, rfl⟩ := own_sl ou))
  have eW : ∀ o v1 v2 v3 v4 q, q ≠ w.heap.size + 1 → q < w2.heap.size → (((((w2.alloc o).setCell ⟨w.heap.size + 1, 0, none⟩ v1).setCell ⟨w.heap.size + 1, 1, none⟩ v2).setCell ⟨w.heap.size + 1, 2, none⟩ v3).setCell ⟨w.heap.size + 1, 3, none⟩ v4).heap[q]? = w2.heap[q]? := fun o v1 v2 v3 v4 q hq hl => by
    rw [Below.heap_setCell _ _ _ _ (by simpa using hq), Below.heap_setCell _ _ _ _ (by simpa using hq), Below.heap_setCell _ _ _ _ (by simpa using hq), Below.heap_setCell _ _ _ _ (by simpa using hq)]
    exact Below.heap_alloc w2 o q hl
  refine bodyPost_ret (v := .tuple #[bkV 10000 shift (.slice av n cv) (.slice au m cu), .slice (some ⟨w.heap.size + 1 + 1, 0, none⟩) 0 0, .int .i64 2]) (by simp [results, Tryz.results21, go_sem, r0, r1, r2, r3]) rfl ⟨?_, ?_⟩
  · rw [HR]
    exact ⟨_, _, _, rfl, own_M (own_base (own_same ov (fun B hB => eW _ _ _ _ _ B (by have := (ov.lt B hB).1; omega) (ov.lt B hB).2)) (by omega)), own_I (own_base (own_same ou (fun B hB => eW _ _ _ _ _ B (by have := (ou.lt B hB).1; omega) (ou.lt B hB).2)) (by omega)) (fun j hj => ivals_get hj), .inl ⟨rfl, _, _, rfl⟩⟩
  · exact ((((B2.alloc B2.size _).setCell (by simp) _).setCell (by simp) _).setCell (by simp) _).setCell (by simp) _
end
end Go.Proofs.YtlmcblcijndipabGreatDoor
