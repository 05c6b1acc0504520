/- A tick passes: the program's StripTick. -/
import Derived.Test.YtlmcblcijndipabGreatDoorU7
namespace Go.Proofs.YtlmcblcijndipabGreatDoor
open Go.RowKit Go.Extern.Stop Go.Stop Go.Extern
set_option linter.unusedVariables false

/-- what comes of a tick that passes -/
structure TickR where
  now : Int
  shift : Int
  n : Nat
  f : Nat → Mv
  m : Nat
  t : Nat → Int
  k : Nat
  g : Nat → ByteArray
  code : Int
def tickR (now shift : Int) (f : Nat → Mv) (n : Nat) (t : Nat → Int) (m : Nat) : TickR :=
  if bookB now shift f n t m = true then
    if now = 10000 then ⟨now, shift, n, f, m, t, 0, fun _ => ⟨#[]⟩, 2⟩
    else ⟨now + 1, shift, (stay now t n).length, fun j => promMv (f (nth (stay now t n) j)) (t (nth (stay now t n) j)) (now + 1), (stay now t n).length, fun j => t (nth (stay now t n) j), (gone now t n).length, fun j => (f (nth (gone now t n) j)).name, 0⟩
  else ⟨0, 0, 0, f, 0, t, 0, fun _ => ⟨#[]⟩, 1⟩
theorem tickR_A {now shift : Int} {f : Nat → Mv} {n : Nat} {t : Nat → Int} {m : Nat} (h : bookB now shift f n t m = false) : tickR now shift f n t m = ⟨0, 0, 0, f, 0, t, 0, fun _ => ⟨#[]⟩, 1⟩ := by unfold tickR; rw [h]; rfl
theorem tickR_B {now shift : Int} {f : Nat → Mv} {n : Nat} {t : Nat → Int} {m : Nat} (h : bookB now shift f n t m = true) (hn : now = 10000) : tickR now shift f n t m = ⟨now, shift, n, f, m, t, 0, fun _ => ⟨#[]⟩, 2⟩ := by unfold tickR; rw [if_pos h, if_pos hn]
theorem tickR_C {now shift : Int} {f : Nat → Mv} {n : Nat} {t : Nat → Int} {m : Nat} (h : bookB now shift f n t m = true) (hn : now ≠ 10000) : tickR now shift f n t m = ⟨now + 1, shift, (stay now t n).length, fun j => promMv (f (nth (stay now t n) j)) (t (nth (stay now t n) j)) (now + 1), (stay now t n).length, fun j => t (nth (stay now t n) j), (gone now t n).length, fun j => (f (nth (gone now t n) j)).name, 0⟩ := by unfold tickR; rw [if_pos h, if_neg hn]
/-- how StripTick ends -/
def TickSays (r : TickR) (w : World) (e : Ending) (w' : World) : Prop :=
  ∃ v u s, e = .returned (.tuple #[bkV r.now r.shift v u, s, .int .i64 r.code]) ∧ Bks w' w.heap.size w'.heap.size v r.n r.f u r.m r.t s r.k r.g
theorem OwnM.wide {w : World} {lo hi lo' : Nat} {v : Value} {n : Nat} {f : Nat → Mv} (h : OwnM w lo hi v n f) (h1 : lo' ≤ lo) : OwnM w lo' hi v n f := by
  rcases h with h | ⟨B, c, cs, a1, a2, a3, a4⟩
  · exact .inl h
  · exact .inr ⟨B, c, cs, a1, a2, Nat.le_trans h1 a3, a4⟩

section
variable (now shift : Int) (b off n cap : Nat) (f : Nat → Mv) (b' off' m cap' : Nat) (t : Nat → Int) (w : World) (hn : n ≤ 1048576) (hm : m ≤ 1048576) (hbs : b < w.heap.size) (hrow : MvRow w b off n f) (hbs' : b' < w.heap.size) (hrow' : IntRow w b' off' m t) (hg : ErrT w)
include hn hm hbs hrow hbs' hrow' hg

set_option maxRecDepth 10000 in
set_option maxHeartbeats 2000000 in
theorem tick_A (hb : bookB now shift f n t m = false) :
    Calls Tryz.prog 22 #[bkV now shift (.slice (some ⟨b, off, none⟩) n cap) (.slice (some ⟨b', off', none⟩) m cap')] w fun e w' => TickSays (tickR now shift f n t m) w e w' ∧ Below w.heap.size w w' := by
  have hB2 : ∀ o1 o2, Below w.heap.size w ((w.alloc o1).alloc o2) := fun o1 o2 => ((Below.refl _ w).alloc (Nat.le_refl _) _).alloc (by simp) _
  have hN1 : ∀ c2 T2 o3, ((w.alloc (.cells c2 T2)).alloc o3).heap[w.heap.size]? = some (.cells c2 T2 (0, 0)) := fun c2 T2 o3 => (Below.heap_alloc _ _ _ (by simp)).trans (heap_alloc_new w (.cells c2 T2))
  have hN2 : ∀ o1 c2 T2, ((w.alloc o1).alloc (.cells c2 T2)).heap[w.heap.size + 1]? = some (.cells c2 T2 (0, 0)) := fun o1 c2 T2 => by have := heap_alloc_new (w.alloc o1) (.cells c2 T2); simpa using this
  have HT := fun W (hW : Below w.heap.size w W) => changed_A now shift b off n cap f b' off' m cap' t W hn (by unfold maxLen; omega) (Nat.lt_of_lt_of_le hbs hW.size) (hrow.below hW hbs) (Nat.lt_of_lt_of_le hbs' hW.size) (hrow'.below hW hbs') (hg.below hW hg.pos) hb
  have HR := tickR_A hb
  go_enter Tryz.func22, Tryz.ntmps22
  go_wp2_with (go_at_call 39; refine (HT _ (hB2 _ _)).mono ?_; clear HT; rintro e w1 ⟨rfl, b1⟩; have B1 := (hB2 _ _).trans (b1.mono (hB2 _ _).size); have s1 := b1.size; simp at s1; have g0 := (b1.block w.heap.size (by simp; omega)).trans (hN1 _ _ _); have g1 := (b1.block (w.heap.size + 1) (by simp)).trans (hN2 _ _ _); have ka : ∀ o, (w1.alloc o).heap[w.heap.size + 1]? = _ := fun o => (Below.heap_alloc w1 o _ (by omega)).trans g1; have kb : ∀ o, (w1.alloc o).heap[w.heap.size]? = _ := fun o => (Below.heap_alloc w1 o _ (by omega)).trans g0; have r0 := fun o => cell_of_row (w1.alloc o) _ 0 _ _ _ (ka o); have r1 := fun o => cell_of_row (w1.alloc o) _ 1 _ _ _ (ka o); have r2 := fun o => cell_of_row (w1.alloc o) _ 2 _ _ _ (ka o); have r3 := fun o => cell_of_row (w1.alloc o) _ 3 _ _ _ (ka o); have rf := fun o j => frozen_of_row (w1.alloc o) _ j _ _ (ka o); have p0 := fun o => cell_of_row (w1.alloc o) _ 0 _ _ _ (kb o); have p1 := fun o => cell_of_row (w1.alloc o) _ 1 _ _ _ (kb o); have p2 := fun o => cell_of_row (w1.alloc o) _ 2 _ _ _ (kb o); have p3 := fun o => cell_of_row (w1.alloc o) _ 3 _ _ _ (kb o); simp at r0 r1 r2 r3 p0 p1 p2 p3)
  refine bodyPost_ret (v := .tuple #[bkV 0 0 nilV nilV, nilV, .int .i64 1]) (by simp [results, Tryz.results22, go_sem, r0, r1, r2, r3]) rfl ⟨?_, ?_⟩
  · rw [HR]
    exact ⟨_, _, _, rfl, .inl ⟨rfl, _, _, rfl⟩, .inl ⟨rfl, _, _, rfl⟩, .inl ⟨rfl, _, _, rfl⟩⟩
  · exact ((((B1.alloc B1.size _).setCell (by simp) _).setCell (by simp) _).setCell (by simp) _).setCell (by simp) _

set_option maxRecDepth 10000 in
set_option maxHeartbeats 2000000 in
theorem tick_B (hb : bookB now shift f n t m = true) (hnow : now = 10000) :
    Calls Tryz.prog 22 #[bkV now shift (.slice (some ⟨b, off, none⟩) n cap) (.slice (some ⟨b', off', none⟩) m cap')] w fun e w' => TickSays (tickR now shift f n t m) w e w' ∧ Below w.heap.size w w' := by
  have hB2 : ∀ o1 o2, Below w.heap.size w ((w.alloc o1).alloc o2) := fun o1 o2 => ((Below.refl _ w).alloc (Nat.le_refl _) _).alloc (by simp) _
  have hN1 : ∀ c2 T2 o3, ((w.alloc (.cells c2 T2)).alloc o3).heap[w.heap.size]? = some (.cells c2 T2 (0, 0)) := fun c2 T2 o3 => (Below.heap_alloc _ _ _ (by simp)).trans (heap_alloc_new w (.cells c2 T2))
  have hN2 : ∀ o1 c2 T2, ((w.alloc o1).alloc (.cells c2 T2)).heap[w.heap.size + 1]? = some (.cells c2 T2 (0, 0)) := fun o1 c2 T2 => by have := heap_alloc_new (w.alloc o1) (.cells c2 T2); simpa using this
  have HT := fun W (hW : Below w.heap.size w W) => changed_B now shift b off n cap f b' off' m cap' t W hn (by unfold maxLen; omega) (Nat.lt_of_lt_of_le hbs hW.size) (hrow.below hW hbs) (Nat.lt_of_lt_of_le hbs' hW.size) (hrow'.below hW hbs') (hg.below hW hg.pos) hm hb hnow
  have HR := tickR_B hb hnow
  clear hrow hrow' hnow
  go_enter Tryz.func22, Tryz.ntmps22
  go_wp2_with (go_at_call 39; refine (HT _ (hB2 _ _)).mono ?_; clear HT; rintro e w1 ⟨⟨v, u, rfl, ov, ou⟩, b1⟩; have B1 := (hB2 _ _).trans (b1.mono (hB2 _ _).size); have s1 := b1.size; simp at s1; have g0 := (b1.block w.heap.size (by simp; omega)).trans (hN1 _ _ _); have g1 := (b1.block (w.heap.size + 1) (by simp)).trans (hN2 _ _ _); have ka : ∀ o, (w1.alloc o).heap[w.heap.size + 1]? = _ := fun o => (Below.heap_alloc w1 o _ (by omega)).trans g1; have kb : ∀ o, (w1.alloc o).heap[w.heap.size]? = _ := fun o => (Below.heap_alloc w1 o _ (by omega)).trans g0; have r0 := fun o => cell_of_row (w1.alloc o) _ 0 _ _ _ (ka o); have r1 := fun o => cell_of_row (w1.alloc o) _ 1 _ _ _ (ka o); have r2 := fun o => cell_of_row (w1.alloc o) _ 2 _ _ _ (ka o); have r3 := fun o => cell_of_row (w1.alloc o) _ 3 _ _ _ (ka o); have rf := fun o j => frozen_of_row (w1.alloc o) _ j _ _ (ka o); have p0 := fun o => cell_of_row (w1.alloc o) _ 0 _ _ _ (kb o); have p1 := fun o => cell_of_row (w1.alloc o) _ 1 _ _ _ (kb o); have p2 := fun o => cell_of_row (w1.alloc o) _ 2 _ _ _ (kb o); have p3 := fun o => cell_of_row (w1.alloc o) _ 3 _ _ _ (kb o); simp at r0 r1 r2 r3 p0 p1 p2 p3; obtain ⟨av, cv, rfl⟩ := own_sl ov; obtain ⟨au, cu, rfl⟩ := own_sl ou)
  have eW : ∀ o v1 v2 v3 v4 q, q ≠ w.heap.size + 1 → q < w1.heap.size → (((((w1.alloc o).setCell ⟨w.heap.size + 1, 0, none⟩ v1).setCell ⟨w.heap.size + 1, 1, none⟩ v2).setCell ⟨w.heap.size + 1, 2, none⟩ v3).setCell ⟨w.heap.size + 1, 3, none⟩ v4).heap[q]? = w1.heap[q]? := fun o v1 v2 v3 v4 q hq hl => by
    rw [Below.heap_setCell _ _ _ _ (by simpa using hq), Below.heap_setCell _ _ _ _ (by simpa using hq), Below.heap_setCell _ _ _ _ (by simpa using hq), Below.heap_setCell _ _ _ _ (by simpa using hq)]
    exact Below.heap_alloc w1 o q hl
  refine bodyPost_ret (v := .tuple #[bkV now shift (.slice av n cv) (.slice au m cu), nilV, .int .i64 2]) (by simp [results, Tryz.results22, go_sem, r0, r1, r2, r3]) rfl ⟨?_, ?_⟩
  · rw [HR]
    exact ⟨_, _, _, rfl, own_M (own_base (own_same ov (fun B hB => eW _ _ _ _ _ B (by have := (ov.lt B hB).1; simp at this; omega) (ov.lt B hB).2)) (by simp; omega)), own_I (own_base (own_same ou (fun B hB => eW _ _ _ _ _ B (by have := (ou.lt B hB).1; simp at this; omega) (ou.lt B hB).2)) (by simp; omega)) (fun j hj => ivals_get hj), .inl ⟨rfl, _, _, rfl⟩⟩
  · exact ((((B1.alloc B1.size _).setCell (by simp) _).setCell (by simp) _).setCell (by simp) _).setCell (by simp) _

set_option maxRecDepth 10000 in
set_option maxHeartbeats 2000000 in
theorem tick_C (hb : bookB now shift f n t m = true) (hnow : now ≠ 10000) :
    Calls Tryz.prog 22 #[bkV now shift (.slice (some ⟨b, off, none⟩) n cap) (.slice (some ⟨b', off', none⟩) m cap')] w fun e w' => TickSays (tickR now shift f n t m) w e w' ∧ Below w.heap.size w w' := by
  have hB2 : ∀ o1 o2, Below w.heap.size w ((w.alloc o1).alloc o2) := fun o1 o2 => ((Below.refl _ w).alloc (Nat.le_refl _) _).alloc (by simp) _
  have hN1 : ∀ c2 T2 o3, ((w.alloc (.cells c2 T2)).alloc o3).heap[w.heap.size]? = some (.cells c2 T2 (0, 0)) := fun c2 T2 o3 => (Below.heap_alloc _ _ _ (by simp)).trans (heap_alloc_new w (.cells c2 T2))
  have hN2 : ∀ o1 c2 T2, ((w.alloc o1).alloc (.cells c2 T2)).heap[w.heap.size + 1]? = some (.cells c2 T2 (0, 0)) := fun o1 c2 T2 => by have := heap_alloc_new (w.alloc o1) (.cells c2 T2); simpa using this
  have HT := fun W (hW : Below w.heap.size w W) => changed_C now shift b off n cap f b' off' m cap' t W hn (by unfold maxLen; omega) (Nat.lt_of_lt_of_le hbs hW.size) (hrow.below hW hbs) (Nat.lt_of_lt_of_le hbs' hW.size) (hrow'.below hW hbs') (hg.below hW hg.pos) hb hnow
  have HR := tickR_C hb hnow
  obtain ⟨_, _, hft⟩ := bookB_parts hb
  obtain ⟨hmv, rfl, _⟩ := fits_parts hft
  have h6 := movesB_six hmv
  have HY := fun W (hW : Below w.heap.size w W) => namesAt_any now shift now b off m cap f b' off' cap' t W h6 (Nat.lt_of_lt_of_le hbs hW.size) (hrow.below hW hbs) (Nat.lt_of_lt_of_le hbs' hW.size) (hrow'.below hW hbs')
  clear hrow hrow' hnow hft hmv
  go_enter Tryz.func22, Tryz.ntmps22
  go_wp2_with (go_at_call 39; refine (HT _ (hB2 _ _)).mono ?_; clear HT; rintro e w1 ⟨⟨v, u, rfl, ov, ou⟩, b1⟩; have B1 := (hB2 _ _).trans (b1.mono (hB2 _ _).size); have s1 := b1.size; simp at s1; have g0 := (b1.block w.heap.size (by simp; omega)).trans (hN1 _ _ _); have g1 := (b1.block (w.heap.size + 1) (by simp)).trans (hN2 _ _ _); have ka : ∀ o, (w1.alloc o).heap[w.heap.size + 1]? = _ := fun o => (Below.heap_alloc w1 o _ (by omega)).trans g1; have kb : ∀ o, (w1.alloc o).heap[w.heap.size]? = _ := fun o => (Below.heap_alloc w1 o _ (by omega)).trans g0; have r0 := fun o => cell_of_row (w1.alloc o) _ 0 _ _ _ (ka o); have r1 := fun o => cell_of_row (w1.alloc o) _ 1 _ _ _ (ka o); have r2 := fun o => cell_of_row (w1.alloc o) _ 2 _ _ _ (ka o); have r3 := fun o => cell_of_row (w1.alloc o) _ 3 _ _ _ (ka o); have rf := fun o j => frozen_of_row (w1.alloc o) _ j _ _ (ka o); have p0 := fun o => cell_of_row (w1.alloc o) _ 0 _ _ _ (kb o); have p1 := fun o => cell_of_row (w1.alloc o) _ 1 _ _ _ (kb o); have p2 := fun o => cell_of_row (w1.alloc o) _ 2 _ _ _ (kb o); have p3 := fun o => cell_of_row (w1.alloc o) _ 3 _ _ _ (kb o); simp at r0 r1 r2 r3 p0 p1 p2 p3; obtain ⟨av, cv, rfl⟩ := own_sl ov; obtain ⟨au, cu, rfl⟩ := own_sl ou)
  obtain ⟨W, hW⟩ : ∃ W, W = w1.alloc (.cells #[.int .i64 (now + 1), .int .i64 shift, .slice av (stay now t m).length cv, .slice au (stay now t m).length cu] 32) := ⟨_, rfl⟩
  have BW : Below w1.heap.size w1 W := hW ▸ (Below.refl _ _).alloc (Nat.le_refl _) _
  have hz : W.heap.size = w1.heap.size + 1 := by rw [hW]; simp
  have x5 : W.heap[w1.heap.size]? = some (.cells #[.int .i64 (now + 1), .int .i64 shift, .slice av (stay now t m).length cv, .slice au (stay now t m).length cu] 32 (0, 0)) := by rw [hW]; exact heap_alloc_new _ _
  have xb : W.heap[w.heap.size]? = some (.cells #[.int .i64 now, .int .i64 shift, .slice (some ⟨b, off, none⟩) m cap, .slice (some ⟨b', off', none⟩) m cap'] 32 (0, 0)) := by rw [hW]; exact kb _
  have xr : W.heap[w.heap.size + 1]? = some (.cells #[.int .i64 0, .int .i64 0, .slice none 0 0, .slice none 0 0] 32 (0, 0)) := by rw [hW]; exact ka _
  rw [← hW]
  clear hW r0 r1 r2 r3 rf p0 p1 p2 p3 ka kb g0 g1
  have BWw : Below w.heap.size w W := B1.trans (BW.mono B1.size)
  have n1 : w1.heap.size ≠ w.heap.size + 1 := by omega
  have n2 := n1.symm
  have n3 : w.heap.size ≠ w.heap.size + 1 := by omega
  have n4 := n3.symm
  have c0 := cell_of_row W _ 0 _ _ _ x5
  have c1 := cell_of_row W _ 1 _ _ _ x5
  have c2 := cell_of_row W _ 2 _ _ _ x5
  have c3 := cell_of_row W _ 3 _ _ _ x5
  have d0 := cell_of_row W _ 0 _ _ _ xb
  have d1 := cell_of_row W _ 1 _ _ _ xb
  have d2 := cell_of_row W _ 2 _ _ _ xb
  have d3 := cell_of_row W _ 3 _ _ _ xb
  simp at c0 c1 c2 c3 d0 d1 d2 d3
  have HY' : Calls Tryz.prog 49 #[.agg #[.int .i64 now, .int .i64 shift, .slice (some ⟨b, off, none⟩) m cap, .slice (some ⟨b', off', none⟩) m cap'], .int .i64 now] W.drew fun e w' => (∃ s, e = .returned s ∧ w'.ownsRow W.heap.size 9 1 s (gone now t m).length (goneN f (gone now t m))) ∧ Below W.heap.size W w' := (HY W.drew BWw.drew).mono (fun e w' ⟨h1, h2⟩ => ⟨h1, ((Below.refl _ W).drew).trans h2⟩)
  clear HY
  go_region_held3 (fun w' => (w'.cell? ⟨w1.heap.size, 0, none⟩ = some (.int .i64 (now + 1)) ∧ w'.cell? ⟨w1.heap.size, 1, none⟩ = some (.int .i64 shift) ∧ w'.cell? ⟨w1.heap.size, 2, none⟩ = some (.slice av (stay now t m).length cv) ∧ w'.cell? ⟨w1.heap.size, 3, none⟩ = some (.slice au (stay now t m).length cu)) ∧ w'.cell? ⟨w.heap.size, 0, none⟩ = some (.int .i64 now) ∧ w'.cell? ⟨w.heap.size, 1, none⟩ = some (.int .i64 shift) ∧ w'.cell? ⟨w.heap.size, 2, none⟩ = some (.slice (some ⟨b, off, none⟩) m cap) ∧ w'.cell? ⟨w.heap.size, 3, none⟩ = some (.slice (some ⟨b', off', none⟩) m cap')) (go_keep)
    (first
      | (go_at_call 49; refine HY'.mono ?_; clear HY'; rintro e w2 ⟨⟨s, rfl, os⟩, b2⟩; obtain ⟨sa, sc, rfl⟩ := own_sl os; have BB2 := BWw.trans (b2.mono BWw.size); have s2 := b2.size; have y5 := (b2.block w1.heap.size (by omega)).trans x5; have yb := (b2.block w.heap.size (by omega)).trans xb; have yr := (b2.block (w.heap.size + 1) (by omega)).trans xr; have e0 := cell_of_row w2 _ 0 _ _ _ y5; have e1 := cell_of_row w2 _ 1 _ _ _ y5; have e2 := cell_of_row w2 _ 2 _ _ _ y5; have e3 := cell_of_row w2 _ 3 _ _ _ y5; have f0 := cell_of_row w2 _ 0 _ _ _ yb; have f1 := cell_of_row w2 _ 1 _ _ _ yb; have f2 := cell_of_row w2 _ 2 _ _ _ yb; have f3 := cell_of_row w2 _ 3 _ _ _ yb; have r0 := cell_of_row w2 _ 0 _ _ _ yr; have r1 := cell_of_row w2 _ 1 _ _ _ yr; have r2 := cell_of_row w2 _ 2 _ _ _ yr; have r3 := cell_of_row w2 _ 3 _ _ _ yr; have rf := fun j => frozen_of_row w2 _ j _ _ yr; simp at e0 e1 e2 e3 f0 f1 f2 f3 r0 r1 r2 r3))
  rename_i hh
  clear hh
  have eW : ∀ v1 v2 v3 v4 q, q ≠ w.heap.size + 1 → ((((w2.setCell ⟨w.heap.size + 1, 0, none⟩ v1).setCell ⟨w.heap.size + 1, 1, none⟩ v2).setCell ⟨w.heap.size + 1, 2, none⟩ v3).setCell ⟨w.heap.size + 1, 3, none⟩ v4).heap[q]? = w2.heap[q]? := fun v1 v2 v3 v4 q hq => by
    rw [Below.heap_setCell _ _ _ _ (by simpa using hq), Below.heap_setCell _ _ _ _ (by simpa using hq), Below.heap_setCell _ _ _ _ (by simpa using hq), Below.heap_setCell _ _ _ _ (by simpa using hq)]
  have eV : ∀ q, q < w1.heap.size → w2.heap[q]? = w1.heap[q]? := fun q hq => (b2.block q (by omega)).trans (BW.block q hq)
  clear c0 c1 c2 c3 d0 d1 d2 d3 e0 e1 e2 e3 f0 f1 f2 f3
  go_wp2
  refine bodyPost_ret (v := .tuple #[bkV (now + 1) shift (.slice av (stay now t m).length cv) (.slice au (stay now t m).length cu), .slice sa (gone now t m).length sc, .int .i64 0]) (by simp [results, Tryz.results22, go_sem, r0, r1, r2, r3]) rfl ⟨?_, ?_⟩
  · rw [HR]
    rw [stayM_cells] at ov
    exact ⟨_, _, _, rfl, own_M (own_base (own_same ov (fun B hB => (eW _ _ _ _ B (by have := (ov.lt B hB).1; simp at this; omega)).trans (eV B (ov.lt B hB).2))) (by simp; omega)), own_I (own_base (own_same ou (fun B hB => (eW _ _ _ _ B (by have := (ou.lt B hB).1; simp at this; omega)).trans (eV B (ou.lt B hB).2))) (by simp; omega)) (fun j hj => stayT_get t _ j hj), own_S (own_base (own_same os (fun B hB => eW _ _ _ _ B (by have := (os.lt B hB).1; omega))) (by omega)) (fun j hj => goneN_get f _ j hj)⟩
  · exact (((BB2.setCell (by simp) _).setCell (by simp) _).setCell (by simp) _).setCell (by simp) _
end

theorem implTick_row (now shift : Int) (b off n cap : Nat) (f : Nat → Mv) (b' off' m cap' : Nat) (t : Nat → Int) (w : World) (hn : n ≤ 1048576) (hm : m ≤ 1048576) (hbs : b < w.heap.size) (hrow : MvRow w b off n f) (hbs' : b' < w.heap.size) (hrow' : IntRow w b' off' m t) (hg : ErrT w) :
    Calls Tryz.prog 22 #[bkV now shift (.slice (some ⟨b, off, none⟩) n cap) (.slice (some ⟨b', off', none⟩) m cap')] w fun e w' => TickSays (tickR now shift f n t m) w e w' ∧ Below w.heap.size w w' := by
  cases hb : bookB now shift f n t m with
  | false => exact tick_A now shift b off n cap f b' off' m cap' t w hn hm hbs hrow hbs' hrow' hg hb
  | true =>
    by_cases hnow : now = 10000
    · exact tick_B now shift b off n cap f b' off' m cap' t w hn hm hbs hrow hbs' hrow' hg hb hnow
    · exact tick_C now shift b off n cap f b' off' m cap' t w hn hm hbs hrow hbs' hrow' hg hb hnow
end Go.Proofs.YtlmcblcijndipabGreatDoor
