/- Texts of the proof, one behind another: B4, B5. -/
import Derived.Test.YtlmcblcijndipabGreatM30
import Derived.Test.YtlmcblcijndipabGreatM32
import Derived.Test.YtlmcblcijndipabGreatM26
namespace Go.Proofs.YtlmcblcijndipabGreat
open Go.RowKit
set_option linter.unusedVariables false
theorem MvRow.same {w w' : World} {b off n : Nat} {f : Nat → Mv} (h : MvRow w b off n f) (e : w'.heap[b]? = w.heap[b]?) : MvRow w' b off n f := fun i hi => by
  obtain ⟨c0, c1, c2, c3, c4, c5⟩ := h i hi
  have o : ∀ j, w'.cell? ⟨b, j, none⟩ = w.cell? ⟨b, j, none⟩ := fun j => World.cell?_of_block (a := ⟨b, j, none⟩) e
  exact ⟨(o _).trans c0, (o _).trans c1, (o _).trans c2, (o _).trans c3, (o _).trans c4, (o _).trans c5⟩
theorem OwnMvs.same {w w' : World} {b n : Nat} (h : OwnMvs w b n) (e : w'.heap[b]? = w.heap[b]?) : OwnMvs w' b n := by
  obtain ⟨cs, h1, h2⟩ := h
  exact ⟨cs, e.trans h1, h2⟩
theorem OwnInts.same {w w' : World} {b n : Nat} {g : Nat → Int} (h : OwnInts w b n g) (e : w'.heap[b]? = w.heap[b]?) : OwnInts w' b n g := by
  obtain ⟨⟨cs, h1, h2⟩, h3⟩ := h
  exact ⟨⟨cs, e.trans h1, h2⟩, fun i hi => (World.cell?_of_block (a := ⟨b, 0 + i, none⟩) e).trans (h3 i hi)⟩
set_option maxRecDepth 10000 in
set_option maxHeartbeats 1000000 in
theorem toBook_any (now shift : Int) (a : Option Addr) (n cap : Nat) (f : Nat → Mv) (a' : Option Addr) (m cap' : Nat) (t : Nat → Int) (w : World) (h : IsMvs w a n cap f) (hn : n ≤ 1048576) (h' : IsInts w a' m t) (hm : m ≤ 1048576) :
    Calls Tryz0.prog 16 #[.agg #[.int .i64 now, .int .i64 shift, .slice a n cap, .slice a' m cap']] w fun e w' => (∃ BM BT, e = .returned (.agg #[.int .i64 now, .int .i64 shift, .slice (some ⟨BM, 0, none⟩) n n, .slice (some ⟨BT, 0, none⟩) m m]) ∧ w.heap.size ≤ BM ∧ BM < BT ∧ MvRow w' BM 0 n f ∧ OwnMvs w' BM n ∧ OwnInts w' BT m t) ∧ Below w.heap.size w w' := by
  have hB0 : ∀ o1 o2 o3, Below w.heap.size w (((w.alloc o1).alloc o2).alloc o3) := fun o1 o2 o3 => (((Below.refl _ w).alloc (Nat.le_refl _) _).alloc (by simp) _).alloc (by simp; omega) _
  have hN : ∀ o1 o2 c3 T3, (((w.alloc o1).alloc o2).alloc (.cells c3 T3)).heap[w.heap.size + 1 + 1]? = some (.cells c3 T3 (0, 0)) := fun o1 o2 c3 T3 => by have := heap_alloc_new ((w.alloc o1).alloc o2) (.cells c3 T3); simpa using this
  have hN1 : ∀ o1 c2 T2 o3, (((w.alloc o1).alloc (.cells c2 T2)).alloc o3).heap[w.heap.size + 1]? = some (.cells c2 T2 (0, 0)) := fun o1 c2 T2 o3 => (Below.heap_alloc _ _ _ (by simp)).trans (by have := heap_alloc_new (w.alloc o1) (.cells c2 T2); simpa using this)
  have HS : ∀ W, Below w.heap.size w W → Calls Tryz0.prog 7 #[.slice a n cap] W fun e w' => e = .returned (.slice (some ⟨W.heap.size, 0, none⟩) n n) ∧ MvRow w' W.heap.size 0 n f ∧ OwnMvs w' W.heap.size n ∧ Below W.heap.size W w' := fun W hW => toS_anyOwn a n cap f W (h.below hW) hn
  have HI : ∀ W, Below w.heap.size w W → Calls Tryz0.prog 32 #[.slice a' m cap'] W fun e w' => e = .returned (.slice (some ⟨W.heap.size, 0, none⟩) m m) ∧ OwnInts w' W.heap.size m t ∧ Below W.heap.size W w' := fun W hW => toI_any a' m cap' t W (h'.below hW) hm
  clear h h'
  go_enter Tryz0.func16, Tryz.ntmps16
  go_wp2_with (first
    | (go_at_call 7; refine (HS _ (hB0 _ _ _)).mono ?_; clear HS; rintro e w1 ⟨rfl, r1, o1, b1⟩; have B1 := (hB0 _ _ _).trans (b1.mono (hB0 _ _ _).size); have z1 := o1.lt; have g2 := (b1.block (w.heap.size + 1 + 1) (by simp)).trans (hN _ _ _ _); have g1 := (b1.block (w.heap.size + 1) (by simp)).trans (hN1 _ _ _ _); have g0 := b1.cell (p := ⟨w.heap.size, 3, none⟩) (by simp; omega); simp at z1 g0 r1 o1; clear b1 hB0 hN hN1; have p2 := cell_of_row w1 _ 2 _ _ _ g2; have p2f := frozen_of_row w1 _ 2 _ _ g2; simp at p2; have g2' := heap_setCell_same w1 _ 2 _ _ (.slice (some ⟨w.heap.size + 1 + 1 + 1, 0, none⟩) n n) g2; simp at g2')
    | (go_at_call 32; refine (HI _ (B1.setCell (by simp; omega) _)).mono ?_; clear HI; rintro e w2 ⟨rfl, i2, b2⟩; have z2 := i2.lt; have B2 := (B1.setCell (by simp; omega) _).trans (b2.mono (by have := B1.size; simpa using this)); have k2 := (b2.block (w.heap.size + 1 + 1) (by simp; omega)).trans g2'; have k1 := (b2.block (w.heap.size + 1) (by simp; omega)).trans ((Below.heap_setCell w1 _ _ _ (by simp)).trans g1); simp at z2 i2; have e1 : w2.heap[w.heap.size + 1 + 1 + 1]? = w1.heap[w.heap.size + 1 + 1 + 1]? := (b2.block _ (by simp; omega)).trans (Below.heap_setCell w1 _ _ _ (by simp)); clear b2; have f2 := fun j => frozen_of_row w2 _ j _ _ k2; have f1 := fun j => frozen_of_row w2 _ j _ _ k1; have x0 := cell_of_row w2 _ 0 _ _ _ k2; have x1 := cell_of_row w2 _ 1 _ _ _ k2; have x2 := cell_of_row w2 _ 2 _ _ _ k2; have x3 := cell_of_row w2 _ 3 _ _ _ k2; have y0 := cell_of_row w2 _ 0 _ _ _ k1; have y1 := cell_of_row w2 _ 1 _ _ _ k1; have y2 := cell_of_row w2 _ 2 _ _ _ k1; have y3 := cell_of_row w2 _ 3 _ _ _ k1; simp at x0 x1 x2 x3 y0 y1 y2 y3))
  have eW : ∀ k, k ≠ w.heap.size + 1 → k ≠ w.heap.size + 1 + 1 → (((((w2.setCell ⟨w.heap.size + 1 + 1, 3, none⟩ (.slice (some ⟨w1.heap.size, 0, none⟩) m m)).setCell ⟨w.heap.size + 1, 0, none⟩ (.int .i64 now)).setCell ⟨w.heap.size + 1, 1, none⟩ (.int .i64 shift)).setCell ⟨w.heap.size + 1, 2, none⟩ (.slice (some ⟨w.heap.size + 1 + 1 + 1, 0, none⟩) n n)).setCell ⟨w.heap.size + 1, 3, none⟩ (.slice (some ⟨w1.heap.size, 0, none⟩) m m)).heap[k]? = w2.heap[k]? := fun k h1 h2 => by
    rw [Below.heap_setCell _ _ _ _ (by simpa using h1), Below.heap_setCell _ _ _ _ (by simpa using h1), Below.heap_setCell _ _ _ _ (by simpa using h1), Below.heap_setCell _ _ _ _ (by simpa using h1), Below.heap_setCell _ _ _ _ (by simpa using h2)]
  refine bodyPost_ret (v := .agg #[.int .i64 now, .int .i64 shift, .slice (some ⟨w.heap.size + 1 + 1 + 1, 0, none⟩) n n, .slice (some ⟨w1.heap.size, 0, none⟩) m m]) (by simp [results, Tryz.results16, go_sem, y0, y1, y2, y3]) rfl ⟨⟨w.heap.size + 1 + 1 + 1, w1.heap.size, rfl, by omega, z1, ?_, ?_, ?_⟩, ?_⟩
  · exact (r1.same e1).same (eW _ (by omega) (by omega))
  · exact (o1.same e1).same (eW _ (by omega) (by omega))
  · exact i2.same (eW _ (by omega) (by omega))
  · exact ((((B2.setCell (by simp; omega) _).setCell (by simp) _).setCell (by simp) _).setCell (by simp) _).setCell (by simp) _
theorem szI_any (a : Option Addr) (n cap : Nat) (left : Int) (w : World) (hn : n ≤ maxLen) (h0 : 0 ≤ left) (h1 : left ≤ 1048576) :
    Calls Tryz0.prog 29 #[.slice a n cap, .int .i64 left] w fun e w' => e = .returned (.int .i64 (if left < n then -1 else left - n)) ∧ w' = w := by
  unfold maxLen at hn
  by_cases hl : left < n
  · rw [if_pos hl]
    go_enter Tryz0.func29, Tryz.ntmps29
    go_wp2
    go_ret
    exact ⟨rfl, rfl⟩
  · rw [if_neg hl]
    go_enter Tryz0.func29, Tryz.ntmps29
    go_wp2
    go_ret
    exact ⟨rfl, rfl⟩
set_option maxHeartbeats 400000 in
theorem szBook_any (now shift : Int) (a : Option Addr) (n cap : Nat) (f : Nat → Mv) (a' : Option Addr) (m cap' : Nat) (t : Nat → Int) (left : Int) (w : World) (h : IsMvs w a n cap f) (h' : IsInts w a' m t) (h0 : 0 ≤ left) (h1 : left ≤ 1048576) :
    Calls Tryz0.prog 14 #[.agg #[.int .i64 now, .int .i64 shift, .slice a n cap, .slice a' m cap'], .int .i64 left] w fun e w' => (∃ r : Int, e = .returned (.int .i64 r) ∧ (r = -1 ∨ 0 ≤ r ∧ r + n ≤ left ∧ r + m ≤ left)) ∧ Below w.heap.size w w' := by
  have bA : ∀ o, Below w.heap.size w (w.alloc o) := fun o => (Below.refl _ w).alloc (Nat.le_refl _) _
  have hm := h'.1
  have H1 : ∀ o, Calls Tryz0.prog 5 #[.slice a n cap, .int .i64 left] (w.alloc o) fun e w' => (∃ r : Int, e = .returned (.int .i64 r) ∧ (r = -1 ∨ 0 ≤ r ∧ r + n ≤ left)) ∧ Below (w.alloc o).heap.size (w.alloc o) w' := fun o => szS_any a n cap f left _ (h.below (bA o)) h0 h1
  go_enter Tryz0.func14, Tryz.ntmps14
  go_wp2_with (first
    | (go_at_call 5; refine (H1 _).mono ?_; clear H1; rintro e w1 ⟨⟨r, rfl, hr⟩, b1⟩; obtain ⟨hc1, hf1⟩ := bcell b1)
    | (go_at_call 29; refine (szI_any _ _ _ _ _ hm (by omega) (by omega)).mono ?_; rintro e w' ⟨rfl, rfl⟩))
  · go_ret
    exact ⟨⟨-1, rfl, .inl rfl⟩, (bA _).trans (b1.mono (bA _).size)⟩
  · go_ret
    exact ⟨⟨-1, rfl, .inl rfl⟩, (bA _).trans (b1.mono (bA _).size)⟩
  · go_ret
    exact ⟨⟨_, rfl, .inr (by omega)⟩, (bA _).trans (b1.mono (bA _).size)⟩
set_option maxHeartbeats 400000 in
theorem eqBook_same (now shift : Int) (b off cap b2 off2 cap2 n : Nat) (f : Nat → Mv) (b' off' cap' b2' off2' cap2' m : Nat) (t : Nat → Int) (w : World) (hn : n ≤ 1048576) (hm : m ≤ 1048576)
    (h1 : b < w.heap.size) (r1 : MvRow w b off n f) (h2 : b2 < w.heap.size) (r2 : MvRow w b2 off2 n f) (h3 : b' < w.heap.size) (r3 : IntRow w b' off' m t) (h4 : b2' < w.heap.size) (r4 : IntRow w b2' off2' m t) :
    Calls Tryz0.prog 18 #[.agg #[.int .i64 now, .int .i64 shift, .slice (some ⟨b, off, none⟩) n cap, .slice (some ⟨b', off', none⟩) m cap'], .agg #[.int .i64 now, .int .i64 shift, .slice (some ⟨b2, off2, none⟩) n cap2, .slice (some ⟨b2', off2', none⟩) m cap2']] w fun e w' => e = .returned (.bool true) ∧ Below w.heap.size w w' := by
  have bA : ∀ o1 o2, Below w.heap.size w ((w.alloc o1).alloc o2) := fun o1 o2 => ((Below.refl _ w).alloc (Nat.le_refl _) _).alloc (by simp) _
  have H1 : ∀ W, Below w.heap.size w W → Calls Tryz0.prog 10 #[.slice (some ⟨b, off, none⟩) n cap, .slice (some ⟨b2, off2, none⟩) n cap2] W fun e w' => e = .returned (.bool true) ∧ Below W.heap.size W w' := fun W hW => eqS_same b off cap b2 off2 cap2 n f W hn (Nat.lt_of_lt_of_le h1 hW.size) (r1.below hW h1) (Nat.lt_of_lt_of_le h2 hW.size) (r2.below hW h2)
  have H2 : ∀ W, Below w.heap.size w W → Calls Tryz0.prog 9 #[.slice (some ⟨b', off', none⟩) m cap', .slice (some ⟨b2', off2', none⟩) m cap2'] W fun e w' => e = .returned (.bool true) ∧ Below W.heap.size W w' := fun W hW => eqI_same b' off' cap' b2' off2' cap2' m t W hm (Nat.lt_of_lt_of_le h3 hW.size) (r3.below hW h3) (Nat.lt_of_lt_of_le h4 hW.size) (r4.below hW h4)
  clear r1 r2 r3 r4
  go_enter Tryz0.func18, Tryz.ntmps18
  go_wp2_with (first
    | (go_at_call 10; refine (H1 _ (bA _ _)).mono ?_; clear H1; rintro e w1 ⟨rfl, b1⟩; have B1 := (bA _ _).trans (b1.mono (bA _ _).size); obtain ⟨hc1, hf1⟩ := bcell b1)
    | (go_at_call 9; refine (H2 _ B1).mono ?_; clear H2; rintro e w2 ⟨rfl, b2⟩))
  go_ret
  exact ⟨rfl, B1.trans (b2.mono B1.size)⟩
end Go.Proofs.YtlmcblcijndipabGreat

namespace Go.Proofs.YtlmcblcijndipabGreat
open Go.ChangeShapes Go.WideShapes Go.ChangeAt Go.RowKit
set_option linter.unusedVariables false
theorem cells_book : Tryz.prog.cellsOf 35 = 4 := by kernel_rfl
theorem cells_moves : Tryz.prog.cellsOf 22 = 1 := by kernel_rfl
theorem cells_ints : Tryz.prog.cellsOf 24 = 1 := by kernel_rfl
set_option maxRecDepth 100000 in
theorem open_book {H : Type} {enc : TypeId × Value → H} {w : World} {v : Value} {d : DataW H} {p : List MemPlace} {r : Reach} {b0 : Nat} (hv : Value.okWide Tryz.prog w r b0 35 v) (h : DataW.Trod enc Tryz.prog w 0 (fun _ => true) true 35 v d p) :
    ∃ now shift a n cap f a' m cap' t, v = .agg #[.int .i64 now, .int .i64 shift, .slice a n cap, .slice a' m cap'] ∧ IsMvs w a n cap f ∧ IsInts w a' m t := by
  obtain ⟨cs, rfl, hsz⟩ := okWide_struct Tryz.underlying35 hv
  obtain ⟨k, hk⟩ := h
  obtain ⟨xs, k', _, _, hl, hlen, hf⟩ := DataW.trod_struct Tryz.underlying35 hk
  rw [cells_book] at hl
  obtain ⟨l⟩ := cs
  simp only [Value.cells] at hl hf hk
  match l, hl with
  | [c0, c1, c2, c3], _ =>
  match xs, hlen with
  | [y0, y1, y2, y3], _ =>
  have h0 := hf 0 _ rfl
  have h1 := hf 1 _ rfl
  have h2 := hf 2 _ rfl
  have h3 := hf 3 _ rfl
  simp [cells_int, cells_moves, cells_ints] at h0 h1 h2 h3
  obtain ⟨now, e0, _, _⟩ := DataW.trod_int Tryz.underlying3 h0
  obtain ⟨shift, e1, _, _⟩ := DataW.trod_int Tryz.underlying3 h1
  have q2 : ∃ a n cap, c2 = .slice a n cap := by
    rcases Deep.open_slice Tryz.underlying22 h2 with ⟨hcs, _⟩ | ⟨x, l, c, m, k, D, Pl, hcs, _⟩
    · simp at hcs; exact ⟨_, _, _, hcs⟩
    · simp at hcs; exact ⟨_, _, _, hcs⟩
  have q3 : ∃ a n cap, c3 = .slice a n cap := by
    rcases Deep.open_slice1 Tryz.underlying24 cells_int h3 with ⟨hcs, _⟩ | ⟨x, l, c, m, k, V, D, Pl, hcs, _⟩
    · simp at hcs; exact ⟨_, _, _, hcs⟩
    · simp at hcs; exact ⟨_, _, _, hcs⟩
  obtain ⟨a, n, cap, rfl⟩ := q2
  obtain ⟨a', m, cap', rfl⟩ := q3
  simp at e0 e1
  subst e0 e1
  obtain ⟨f, hf2⟩ := open_moves (a := a) (n := n) (cap := cap) (d := y2.1) (p := y2.2) ⟨k', by simpa [Value.cells] using h2⟩
  obtain ⟨t, ht⟩ := open_nums (a := a') (n := m) (cap := cap') (d := y3.1) (p := y3.2) ⟨k', by simpa [Value.cells] using h3⟩
  exact ⟨now, shift, a, n, cap, f, a', m, cap', t, rfl, hf2, ht⟩
end Go.Proofs.YtlmcblcijndipabGreat
