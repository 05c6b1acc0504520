/- A tick passes: the change made, in the program. -/
import Derived.Test.YtlmcblcijndipabGreatDoorU6
namespace Go.Proofs.YtlmcblcijndipabGreatDoor
open Go.RowKit Go.Extern.Stop Go.Stop Go.Extern
set_option linter.unusedVariables false

section
variable (now shift : Int) (b off n cap : Nat) (f : Nat → Mv) (b' off' m cap' : Nat) (t : Nat → Int) (w : World) (hn : n ≤ 1048576) (hm1 : m ≤ maxLen) (hbs : b < w.heap.size) (hrow : MvRow w b off n f) (hbs' : b' < w.heap.size) (hrow' : IntRow w b' off' m t) (hg : ErrT w)
include hn hm1 hbs hrow hbs' hrow' hg

set_option maxRecDepth 10000 in
set_option maxHeartbeats 2000000 in
theorem changed_A (hb : bookB now shift f n t m = false) :
    Calls Tryz.prog 39 #[bkV now shift (.slice (some ⟨b, off, none⟩) n cap) (.slice (some ⟨b', off', none⟩) m cap'), passV] w fun e w' => e = .returned (.tuple #[bkV 0 0 nilV nilV, .int .i64 1]) ∧ Below w.heap.size w w' := by
  have hB2 : ∀ o1 o2, Below w.heap.size w ((w.alloc o1).alloc o2) := fun o1 o2 => ((Below.refl _ w).alloc (Nat.le_refl _) _).alloc (by simp) _
  have hN1 : ∀ c2 T2 o3, ((w.alloc (.cells c2 T2)).alloc o3).heap[w.heap.size]? = some (.cells c2 T2 (0, 0)) := fun c2 T2 o3 => (Below.heap_alloc _ _ _ (by simp)).trans (heap_alloc_new w (.cells c2 T2))
  have hN2 : ∀ o1 c2 T2, ((w.alloc o1).alloc (.cells c2 T2)).heap[w.heap.size + 1]? = some (.cells c2 T2 (0, 0)) := fun o1 c2 T2 => by have := heap_alloc_new (w.alloc o1) (.cells c2 T2); simpa using this
  have HT := fun W (hW : Below w.heap.size w W) => tried_A now shift b off n cap f b' off' m cap' t W hn hm1 (Nat.lt_of_lt_of_le hbs hW.size) (hrow.below hW hbs) (Nat.lt_of_lt_of_le hbs' hW.size) (hrow'.below hW hbs') hb
  have HC := fun W (hW : Below w.heap.size w W) => codeOf_hit 1 W (hg.below hW hg.pos)
  go_enter Tryz.func39, Tryz.ntmps39
  go_wp2_with (first
    | (go_at_call 64; refine (HT _ (hB2 _ _)).mono ?_; clear HT; rintro e w1 ⟨rfl, b1⟩; have B1 := (hB2 _ _).trans (b1.mono (hB2 _ _).size); have s1 := b1.size; simp at s1; have g0 := (b1.block w.heap.size (by simp; omega)).trans (hN1 _ _ _); have g1 := (b1.block (w.heap.size + 1) (by simp)).trans (hN2 _ _ _))
    | (go_at_call 65; refine (HC _ (B1.alloc B1.size _)).mono ?_; clear HC; rintro e w2 ⟨rfl, b2⟩; have B2 := (B1.alloc B1.size _).trans (b2.mono (B1.alloc B1.size _).size); have s2 := b2.size; simp at s2; have x6 := (b2.block w1.heap.size (by simp)).trans (heap_alloc_new w1 _); have k0 := (b2.block w.heap.size (by simp; omega)).trans ((Below.heap_alloc w1 _ _ (by omega)).trans g0); have k1 := (b2.block (w.heap.size + 1) (by simp; omega)).trans ((Below.heap_alloc w1 _ _ (by omega)).trans g1); have q0 := cell_of_row w2 _ 0 _ _ _ x6; have q1 := cell_of_row w2 _ 1 _ _ _ x6; have q2 := cell_of_row w2 _ 2 _ _ _ x6; have q3 := cell_of_row w2 _ 3 _ _ _ x6; have p0 := cell_of_row w2 _ 0 _ _ _ k0; have p1 := cell_of_row w2 _ 1 _ _ _ k0; have p2 := cell_of_row w2 _ 2 _ _ _ k0; have p3 := cell_of_row w2 _ 3 _ _ _ k0; have r0 := cell_of_row w2 _ 0 _ _ _ k1; have r1 := cell_of_row w2 _ 1 _ _ _ k1; have r2 := cell_of_row w2 _ 2 _ _ _ k1; have r3 := cell_of_row w2 _ 3 _ _ _ k1; have rf := fun j => frozen_of_row w2 _ j _ _ k1; simp at q0 q1 q2 q3 p0 p1 p2 p3 r0 r1 r2 r3))
  refine bodyPost_ret (v := .tuple #[bkV 0 0 nilV nilV, .int .i64 1]) (by simp [results, Tryz.results39, go_sem, r0, r1, r2, r3]) rfl ⟨rfl, ?_⟩
  exact (((B2.setCell (by simp) _).setCell (by simp) _).setCell (by simp) _).setCell (by simp) _

set_option maxRecDepth 10000 in
set_option maxHeartbeats 2000000 in
theorem changed_B (hm : m ≤ 1048576) (hb : bookB now shift f n t m = true) (hnow : now = 10000) :
    Calls Tryz.prog 39 #[bkV now shift (.slice (some ⟨b, off, none⟩) n cap) (.slice (some ⟨b', off', none⟩) m cap'), passV] w fun e w' => (∃ v u, e = .returned (.tuple #[bkV now shift v u, .int .i64 2]) ∧ w'.ownsRow w.heap.size 36 6 v n (mcells f n) ∧ w'.ownsRow w.heap.size 3 1 u m (ivals t m)) ∧ Below w.heap.size w w' := by
  have hB2 : ∀ o1 o2, Below w.heap.size w ((w.alloc o1).alloc o2) := fun o1 o2 => ((Below.refl _ w).alloc (Nat.le_refl _) _).alloc (by simp) _
  have hN1 : ∀ c2 T2 o3, ((w.alloc (.cells c2 T2)).alloc o3).heap[w.heap.size]? = some (.cells c2 T2 (0, 0)) := fun c2 T2 o3 => (Below.heap_alloc _ _ _ (by simp)).trans (heap_alloc_new w (.cells c2 T2))
  have hN2 : ∀ o1 c2 T2, ((w.alloc o1).alloc (.cells c2 T2)).heap[w.heap.size + 1]? = some (.cells c2 T2 (0, 0)) := fun o1 c2 T2 => by have := heap_alloc_new (w.alloc o1) (.cells c2 T2); simpa using this
  have HT := fun W (hW : Below w.heap.size w W) => tried_B now shift b off n cap f b' off' m cap' t W hn hm1 (Nat.lt_of_lt_of_le hbs hW.size) (hrow.below hW hbs) (Nat.lt_of_lt_of_le hbs' hW.size) (hrow'.below hW hbs') hb hnow
  have HC := fun W (hW : Below w.heap.size w W) => codeOf_hit 2 W (hg.below hW hg.pos)
  have HY := fun W (hW : Below w.heap.size w W) => copyOf_any now shift b off n cap f b' off' m cap' t W hn hm (Nat.lt_of_lt_of_le hbs hW.size) (hrow.below hW hbs) (Nat.lt_of_lt_of_le hbs' hW.size) (hrow'.below hW hbs')
  clear hrow hrow' hnow
  go_enter Tryz.func39, Tryz.ntmps39
  go_wp2_with (first
    | (go_at_call 64; refine (HT _ (hB2 _ _)).mono ?_; clear HT; rintro e w1 ⟨rfl, b1⟩; have B1 := (hB2 _ _).trans (b1.mono (hB2 _ _).size); have s1 := b1.size; simp at s1; have g0 := (b1.block w.heap.size (by simp; omega)).trans (hN1 _ _ _); have g1 := (b1.block (w.heap.size + 1) (by simp)).trans (hN2 _ _ _))
    | (go_at_call 65; refine (HC _ (B1.alloc B1.size _)).mono ?_; clear HC; rintro e w2 ⟨rfl, b2⟩; have B2 := (B1.alloc B1.size _).trans (b2.mono (B1.alloc B1.size _).size); have s2 := b2.size; simp at s2; have x6 := (b2.block w1.heap.size (by simp)).trans (heap_alloc_new w1 _); have k0 := (b2.block w.heap.size (by simp; omega)).trans ((Below.heap_alloc w1 _ _ (by omega)).trans g0); have k1 := (b2.block (w.heap.size + 1) (by simp; omega)).trans ((Below.heap_alloc w1 _ _ (by omega)).trans g1); have q0 := cell_of_row w2 _ 0 _ _ _ x6; have q1 := cell_of_row w2 _ 1 _ _ _ x6; have q2 := cell_of_row w2 _ 2 _ _ _ x6; have q3 := cell_of_row w2 _ 3 _ _ _ x6; have p0 := cell_of_row w2 _ 0 _ _ _ k0; have p1 := cell_of_row w2 _ 1 _ _ _ k0; have p2 := cell_of_row w2 _ 2 _ _ _ k0; have p3 := cell_of_row w2 _ 3 _ _ _ k0; have r0 := cell_of_row w2 _ 0 _ _ _ k1; have r1 := cell_of_row w2 _ 1 _ _ _ k1; have r2 := cell_of_row w2 _ 2 _ _ _ k1; have r3 := cell_of_row w2 _ 3 _ _ _ k1; have rf := fun j => frozen_of_row w2 _ j _ _ k1; simp at q0 q1 q2 q3 p0 p1 p2 p3 r0 r1 r2 r3)
    | (go_at_call 66; refine (HY _ B2).mono ?_; clear HY; rintro e w3 ⟨⟨v, u, rfl, ov, ou⟩, b3⟩; obtain ⟨av, cv, rfl⟩ := own_sl ov; obtain ⟨au, cu, rfl⟩ := own_sl ou; have s3 := b3.size; have B3 := B2.trans (b3.mono B2.size); have y1 := (b3.block (w.heap.size + 1) (by omega)).trans k1; have z0 := cell_of_row w3 _ 0 _ _ _ y1; have z1 := cell_of_row w3 _ 1 _ _ _ y1; have z2 := cell_of_row w3 _ 2 _ _ _ y1; have z3 := cell_of_row w3 _ 3 _ _ _ y1; have zf := fun j => frozen_of_row w3 _ j _ _ y1; simp at z0 z1 z2 z3))
  have eW : ∀ v1 v2 v3 v4 q, q ≠ w.heap.size + 1 → ((((w3.setCell ⟨w.heap.size + 1, 0, none⟩ v1).setCell ⟨w.heap.size + 1, 1, none⟩ v2).setCell ⟨w.heap.size + 1, 2, none⟩ v3).setCell ⟨w.heap.size + 1, 3, none⟩ v4).heap[q]? = w3.heap[q]? := fun v1 v2 v3 v4 q hq => by
    rw [Below.heap_setCell _ _ _ _ (by simpa using hq), Below.heap_setCell _ _ _ _ (by simpa using hq), Below.heap_setCell _ _ _ _ (by simpa using hq), Below.heap_setCell _ _ _ _ (by simpa using hq)]
  refine bodyPost_ret (v := .tuple #[bkV now shift (.slice av n cv) (.slice au m cu), .int .i64 2]) (by simp [results, Tryz.results39, go_sem, z0, z1, z2, z3]) rfl ⟨⟨_, _, rfl, ?_, ?_⟩, ?_⟩
  · exact own_base (own_same ov (fun B hB => eW _ _ _ _ B (by have := (ov.lt B hB).1; omega))) (by omega)
  · exact own_base (own_same ou (fun B hB => eW _ _ _ _ B (by have := (ou.lt B hB).1; omega))) (by omega)
  · exact (((B3.setCell (by simp) _).setCell (by simp) _).setCell (by simp) _).setCell (by simp) _

set_option maxRecDepth 10000 in
set_option maxHeartbeats 2000000 in
theorem changed_C (hb : bookB now shift f n t m = true) (hnow : now ≠ 10000) :
    Calls Tryz.prog 39 #[bkV now shift (.slice (some ⟨b, off, none⟩) n cap) (.slice (some ⟨b', off', none⟩) m cap'), passV] w fun e w' => (∃ v u, e = .returned (.tuple #[bkV (now + 1) shift v u, .int .i64 0]) ∧ w'.ownsRow w.heap.size 36 6 v (stay now t n).length (stayM f t now (stay now t n)) ∧ w'.ownsRow w.heap.size 3 1 u (stay now t n).length (stayT t (stay now t n))) ∧ Below w.heap.size w w' := by
  have hB2 : ∀ o1 o2, Below w.heap.size w ((w.alloc o1).alloc o2) := fun o1 o2 => ((Below.refl _ w).alloc (Nat.le_refl _) _).alloc (by simp) _
  have hN1 : ∀ c2 T2 o3, ((w.alloc (.cells c2 T2)).alloc o3).heap[w.heap.size]? = some (.cells c2 T2 (0, 0)) := fun c2 T2 o3 => (Below.heap_alloc _ _ _ (by simp)).trans (heap_alloc_new w (.cells c2 T2))
  have hN2 : ∀ o1 c2 T2, ((w.alloc o1).alloc (.cells c2 T2)).heap[w.heap.size + 1]? = some (.cells c2 T2 (0, 0)) := fun o1 c2 T2 => by have := heap_alloc_new (w.alloc o1) (.cells c2 T2); simpa using this
  have HT := fun W (hW : Below w.heap.size w W) => tried_C now shift b off n cap f b' off' m cap' t W hn hm1 (Nat.lt_of_lt_of_le hbs hW.size) (hrow.below hW hbs) (Nat.lt_of_lt_of_le hbs' hW.size) (hrow'.below hW hbs') hb hnow
  have HC := fun W (hW : Below w.heap.size w W) => (fun _ : ErrT w => codeOf_nil W) hg
  clear hrow hrow' hnow
  go_enter Tryz.func39, Tryz.ntmps39
  go_wp2_with (first
    | (go_at_call 64; refine (HT _ (hB2 _ _)).mono ?_; clear HT; rintro e w1 ⟨⟨v, u, rfl, ov, ou⟩, b1⟩; have B1 := (hB2 _ _).trans (b1.mono (hB2 _ _).size); have s1 := b1.size; simp at s1; have g0 := (b1.block w.heap.size (by simp; omega)).trans (hN1 _ _ _); have g1 := (b1.block (w.heap.size + 1) (by simp)).trans (hN2 _ _ _); obtain ⟨av, cv, rfl⟩ := own_sl ov; obtain ⟨au, cu, rfl⟩ := own_sl ou)
    | (go_at_call 65; refine (HC _ (B1.alloc B1.size _)).mono ?_; clear HC; rintro e w2 ⟨rfl, b2⟩; have B2 := (B1.alloc B1.size _).trans (b2.mono (B1.alloc B1.size _).size); have s2 := b2.size; simp at s2; have x6 := (b2.block w1.heap.size (by simp)).trans (heap_alloc_new w1 _); have k0 := (b2.block w.heap.size (by simp; omega)).trans ((Below.heap_alloc w1 _ _ (by omega)).trans g0); have k1 := (b2.block (w.heap.size + 1) (by simp; omega)).trans ((Below.heap_alloc w1 _ _ (by omega)).trans g1); have q0 := cell_of_row w2 _ 0 _ _ _ x6; have q1 := cell_of_row w2 _ 1 _ _ _ x6; have q2 := cell_of_row w2 _ 2 _ _ _ x6; have q3 := cell_of_row w2 _ 3 _ _ _ x6; have p0 := cell_of_row w2 _ 0 _ _ _ k0; have p1 := cell_of_row w2 _ 1 _ _ _ k0; have p2 := cell_of_row w2 _ 2 _ _ _ k0; have p3 := cell_of_row w2 _ 3 _ _ _ k0; have r0 := cell_of_row w2 _ 0 _ _ _ k1; have r1 := cell_of_row w2 _ 1 _ _ _ k1; have r2 := cell_of_row w2 _ 2 _ _ _ k1; have r3 := cell_of_row w2 _ 3 _ _ _ k1; have rf := fun j => frozen_of_row w2 _ j _ _ k1; simp at q0 q1 q2 q3 p0 p1 p2 p3 r0 r1 r2 r3; have ov2 := own_same (w' := w2) ov (fun B hB => (b2.block B (by have := (ov.lt B hB).2; simp; omega)).trans (Below.heap_alloc w1 _ B (ov.lt B hB).2)); have ou2 := own_same (w' := w2) ou (fun B hB => (b2.block B (by have := (ou.lt B hB).2; simp; omega)).trans (Below.heap_alloc w1 _ B (ou.lt B hB).2))))
  have eW : ∀ v1 v2 v3 v4 q, q ≠ w.heap.size + 1 → ((((w2.setCell ⟨w.heap.size + 1, 0, none⟩ v1).setCell ⟨w.heap.size + 1, 1, none⟩ v2).setCell ⟨w.heap.size + 1, 2, none⟩ v3).setCell ⟨w.heap.size + 1, 3, none⟩ v4).heap[q]? = w2.heap[q]? := fun v1 v2 v3 v4 q hq => by
    rw [Below.heap_setCell _ _ _ _ (by simpa using hq), Below.heap_setCell _ _ _ _ (by simpa using hq), Below.heap_setCell _ _ _ _ (by simpa using hq), Below.heap_setCell _ _ _ _ (by simpa using hq)]
  refine bodyPost_ret (v := .tuple #[bkV (now + 1) shift (.slice av (stay now t n).length cv) (.slice au (stay now t n).length cu), .int .i64 0]) (by simp [results, Tryz.results39, go_sem, r0, r1, r2, r3]) rfl ⟨⟨_, _, rfl, ?_, ?_⟩, ?_⟩
  · exact own_base (own_same ov2 (fun B hB => eW _ _ _ _ B (by have := (ov2.lt B hB).1; simp at this; omega))) (by simp; omega)
  · exact own_base (own_same ou2 (fun B hB => eW _ _ _ _ B (by have := (ou2.lt B hB).1; simp at this; omega))) (by simp; omega)
  · exact (((B2.setCell (by simp) _).setCell (by simp) _).setCell (by simp) _).setCell (by simp) _
end
end Go.Proofs.YtlmcblcijndipabGreatDoor
