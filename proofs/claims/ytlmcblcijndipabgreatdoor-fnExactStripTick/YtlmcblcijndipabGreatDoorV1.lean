/- A book copied by the model. -/
import Derived.Test.YtlmcblcijndipabGreatDoorU8
namespace Go.Proofs.YtlmcblcijndipabGreatDoor
open Go.RowKit
set_option linter.unusedVariables false

/-- an append onto a slice of one's own, from whatever source, as one step of a region that draws its order -/
theorem step_append_src {P : Program} {ops : Array Oper} {o : Oper} {a : Act} {w : World} {K : Act → World → Prop} {Q : Exit → Act → World → Prop} {E : Prop}
    (hg : o.guard = none) (s x : Operand) (t : TypeId) (hop : o.op = Op.call { callee := Callee.builtin Builtin.append, args := #[s, x], argTypes := #[t, t] })
    (e : TypeId) (i : TypeInfo) (z : Value) (size bytes : Nat) (h1 : P.underlying t = some (.slice e)) (h2 : P.info? e = some i) (h3 : i.zero = some z) (h4 : i.size = size) (h5 : i.bytes = bytes) (h6 : z.cells.size = size) (h7 : 0 < size)
    (base : Nat) (v : Value) (n : Nat) (olds : List Value) (hs : a.eval s = v) (hown : w.ownsRow base e size v n olds)
    (ao : Option Addr) (m c : Nat) (news : List Value) (hx : a.eval x = .slice ao m c) (hn : news.length = m * size) (hnone : ao = none → m = 0 ∧ c = 0) (hc : ∀ ad, ao = some ad → ∀ j u, news[j]? = some u → w.cell? (ad.add j) = some u) (h1c : ∀ u ∈ news, u.oneCell' = true)
    (b1 : n + m ≤ maxLen) (b2 : (n + m) * bytes ≤ 140737488355328) (hb : base ≤ w.heap.size)
    (hK : ∀ v' w', w'.ownsRow base e size v' (n + m) (olds ++ news) → w.grownBy w' v.ownBlock → K (a.put o.dst v') w') :
    if Region.wanted o (yielded ops a.tmps) = true then Oper.wp P o a w K Q else E := by
  cases ao with
  | some ad => exact step_append_own hg s x t hop e i z size bytes h1 h2 h3 h4 h5 h6 h7 base v n olds hs hown ad m c news hx hn (hc ad rfl) h1c b1 b2 hb hK
  | none =>
    obtain ⟨rfl, rfl⟩ := hnone rfl
    have hnews : news = [] := List.eq_nil_of_length_eq_zero (by simpa using hn)
    subst hnews
    have hw : Region.wanted o (yielded ops a.tmps) = true := by simp [Region.wanted, hg]
    rw [if_pos hw]
    have hrun := run_append_owned_none (P := P) w base t o.type e i size h1 h2 _ n olds hown
    unfold Oper.wp
    simp [execOp, hop, resolve, invoke, builtin, hs, hx, hrun, Result.andThen]
    exact hK _ _ (by simpa using hown) (World.grownBy.refl _ _)

/-- moves, numbers in a slice, where they come from -/
def SrcM (w : World) (v : Value) (n : Nat) (f : Nat → Mv) : Prop := ∃ ao c, v = .slice ao n c ∧ (ao = none → n = 0 ∧ c = 0) ∧ ∀ ad, ao = some ad → ∃ b off, ad = ⟨b, off, none⟩ ∧ b < w.heap.size ∧ MvRow w b off n f
def SrcI (w : World) (v : Value) (n : Nat) (t : Nat → Int) : Prop := ∃ ao c, v = .slice ao n c ∧ (ao = none → n = 0 ∧ c = 0) ∧ ∀ ad, ao = some ad → ∃ b off, ad = ⟨b, off, none⟩ ∧ b < w.heap.size ∧ IntRow w b off n t
theorem srcM_cells {w w' : World} {ao : Option Addr} {n : Nat} {f : Nat → Mv} (h : ∀ ad, ao = some ad → ∃ b off, ad = ⟨b, off, none⟩ ∧ b < w.heap.size ∧ MvRow w b off n f) (hb : Below w.heap.size w w') : ∀ ad, ao = some ad → ∀ j u, (mcells f n)[j]? = some u → w'.cell? (ad.add j) = some u := fun ad had => by
  obtain ⟨b, off, rfl, hlt, hr⟩ := h ad had
  exact mrow_cells (hr.below hb hlt)
theorem srcI_cells {w w' : World} {ao : Option Addr} {n : Nat} {t : Nat → Int} (h : ∀ ad, ao = some ad → ∃ b off, ad = ⟨b, off, none⟩ ∧ b < w.heap.size ∧ IntRow w b off n t) (hb : Below w.heap.size w w') : ∀ ad, ao = some ad → ∀ j u, (ivals t n)[j]? = some u → w'.cell? (ad.add j) = some u := fun ad had => by
  obtain ⟨b, off, rfl, hlt, hr⟩ := h ad had
  exact irow_cells (hr.below hb hlt)
/-- the box that is read, and the empty block that waits -/
structure Bx (N : Nat) (now shift : Int) (v u : Value) (W : World) : Prop where
  c0 : W.cell? ⟨N, 0, none⟩ = some (.int .i64 now)
  c1 : W.cell? ⟨N, 1, none⟩ = some (.int .i64 shift)
  c2 : W.cell? ⟨N, 2, none⟩ = some v
  c3 : W.cell? ⟨N, 3, none⟩ = some u
theorem Bx.same {N : Nat} {now shift : Int} {v u : Value} {W W' : World} (h : Bx N now shift v u W) (e : W'.heap[N]? = W.heap[N]?) : Bx N now shift v u W' :=
  ⟨(World.cell?_of_block (a := ⟨N, 0, none⟩) e).trans h.c0, (World.cell?_of_block (a := ⟨N, 1, none⟩) e).trans h.c1, (World.cell?_of_block (a := ⟨N, 2, none⟩) e).trans h.c2, (World.cell?_of_block (a := ⟨N, 3, none⟩) e).trans h.c3⟩

/-- while a book is copied: the box that is read, the box that waits, the rows made so far -/
structure Cp (w : World) (now shift : Int) (v u : Value) (vm : Value) (nm : Nat) (xm : List Value) (vi : Value) (ni : Nat) (xi : List Value) (W : World) : Prop where
  below : Below w.heap.size w W
  size : w.heap.size + 2 ≤ W.heap.size
  box : W.heap[w.heap.size]? = some (.cells #[.int .i64 now, .int .i64 shift, v, u] 32 (0, 0))
  out : W.heap[w.heap.size + 1]? = some (.cells #[.int .i64 0, .int .i64 0, .slice none 0 0, .slice none 0 0] 32 (0, 0))
  om : W.ownsRow (w.heap.size + 2) 36 6 vm nm xm
  oi : W.ownsRow (w.heap.size + 2) 3 1 vi ni xi
section
variable {w : World} {now shift : Int} {v u : Value} {vm : Value} {nm : Nat} {xm : List Value} {vi : Value} {ni : Nat} {xi : List Value} {W : World}
theorem Cp.bx (h : Cp w now shift v u vm nm xm vi ni xi W) : Bx w.heap.size now shift v u W := by
  constructor <;> (rw [cell_of_row _ _ _ _ _ _ h.box]; rfl)
theorem Cp.grow (h : Cp w now shift v u vm nm xm vi ni xi W) {W' : World} (b : Below W.heap.size W W') : Cp w now shift v u vm nm xm vi ni xi W' :=
  ⟨h.below.trans (b.mono h.below.size), Nat.le_trans h.size b.size, (b.block _ (by have := h.size; omega)).trans h.box, (b.block _ (by have := h.size; omega)).trans h.out, own_same h.om (fun B hB => b.block B (h.om.lt B hB).2), own_same h.oi (fun B hB => b.block B (h.oi.lt B hB).2)⟩
theorem Cp.newM (h : Cp w now shift v u vm nm xm vi ni xi W) : Cp w now shift v u (.slice (some ⟨W.heap.size, 0, none⟩) 0 0) 0 [] vi ni xi (W.alloc (.cells #[] 36)) := by
  have g := h.grow (W' := W.alloc (.cells #[] 36)) ((Below.refl _ _).alloc (Nat.le_refl _) _)
  exact ⟨g.below, g.size, g.box, g.out, ⟨rfl, .inr ⟨W.heap.size, 0, #[], rfl, h.size, heap_alloc_new W _, Nat.le_refl _, Nat.zero_le _, rfl, rfl⟩⟩, g.oi⟩
theorem Cp.newI (h : Cp w now shift v u vm nm xm vi ni xi W) : Cp w now shift v u vm nm xm (.slice (some ⟨W.heap.size, 0, none⟩) 0 0) 0 [] (W.alloc (.cells #[] 3)) := by
  have g := h.grow (W' := W.alloc (.cells #[] 3)) ((Below.refl _ _).alloc (Nat.le_refl _) _)
  exact ⟨g.below, g.size, g.box, g.out, g.om, ⟨rfl, .inr ⟨W.heap.size, 0, #[], rfl, h.size, heap_alloc_new W _, Nat.le_refl _, Nat.zero_le _, rfl, rfl⟩⟩⟩
theorem own_tagT {T : TypeId} {base size : Nat} (h : W.ownsRow base T size vm nm xm) {B : Nat} (hB : vm.ownBlock = some B) : ∃ cs, W.heap[B]? = some (.cells cs T (0, 0)) := by
  obtain ⟨h1, ⟨rfl, rfl⟩ | ⟨g, c, cur, rfl, h3, h4, h5⟩⟩ := h
  · cases hB
  · simp [Value.ownBlock] at hB; subst hB; exact ⟨_, h4⟩
theorem Cp.apart (h : Cp w now shift v u vm nm xm vi ni xi W) {B : Nat} (hB : vm.ownBlock = some B) : vi.ownBlock ≠ some B := fun e => by
  obtain ⟨c1, e1⟩ := own_tagT h.om hB
  obtain ⟨c2, e2⟩ := own_tagT h.oi e
  rw [e1] at e2
  simp at e2
theorem Cp.appM (h : Cp w now shift v u vm nm xm vi ni xi W) {v' : Value} {n' : Nat} {x' : List Value} {W' : World} (o : W'.ownsRow (w.heap.size + 2) 36 6 v' n' x') (g : W.grownBy W' vm.ownBlock) : Cp w now shift v u v' n' x' vi ni xi W' := by
  have hs := h.size
  exact ⟨h.below.grown g h.below.size (fun q hq => by have := (h.om.lt q hq).1; omega), Nat.le_trans h.size g.size, (g.block _ (by omega) (fun e => by have := (h.om.lt _ e.symm).1; omega)).trans h.box, (g.block _ (by omega) (fun e => by have := (h.om.lt _ e.symm).1; omega)).trans h.out, o, own_same h.oi (fun B hB => g.block B (h.oi.lt B hB).2 (fun e => h.apart e.symm hB))⟩
theorem Cp.appI (h : Cp w now shift v u vm nm xm vi ni xi W) {v' : Value} {n' : Nat} {x' : List Value} {W' : World} (o : W'.ownsRow (w.heap.size + 2) 3 1 v' n' x') (g : W.grownBy W' vi.ownBlock) : Cp w now shift v u vm nm xm v' n' x' W' := by
  have hs := h.size
  exact ⟨h.below.grown g h.below.size (fun q hq => by have := (h.oi.lt q hq).1; omega), Nat.le_trans h.size g.size, (g.block _ (by omega) (fun e => by have := (h.oi.lt _ e.symm).1; omega)).trans h.box, (g.block _ (by omega) (fun e => by have := (h.oi.lt _ e.symm).1; omega)).trans h.out, own_same h.om (fun B hB => g.block B (h.om.lt B hB).2 (fun e => h.apart hB e.symm)), o⟩
end
theorem Cp.start (w : World) (now shift : Int) (v u : Value) : Cp w now shift v u (.slice none 0 0) 0 [] (.slice none 0 0) 0 [] ((w.alloc (.cells #[.int .i64 now, .int .i64 shift, v, u] 32)).alloc (.cells #[.int .i64 0, .int .i64 0, .slice none 0 0, .slice none 0 0] 32)) := by
  refine ⟨((Below.refl _ w).alloc (Nat.le_refl _) _).alloc (by simp) _, by simp, (Below.heap_alloc _ _ _ (by simp)).trans (heap_alloc_new w _), ?_, ⟨rfl, .inl ⟨rfl, rfl⟩⟩, ⟨rfl, .inl ⟨rfl, rfl⟩⟩⟩
  have := heap_alloc_new (w.alloc (.cells #[.int .i64 now, .int .i64 shift, v, u] 32)) (.cells #[.int .i64 0, .int .i64 0, .slice none 0 0, .slice none 0 0] 32)
  simpa using this

set_option maxRecDepth 10000 in
set_option maxHeartbeats 4000000 in
theorem l5Copy_any (now shift : Int) (v u : Value) (n : Nat) (f : Nat → Mv) (m : Nat) (t : Nat → Int) (w : World) (hn : n ≤ 1048576) (hm : m ≤ 1048576) (hv : SrcM w v n f) (hu : SrcI w u m t) :
    Calls Tryz.prog 31 #[bkV now shift v u] w fun e w' => (∃ v' u', e = .returned (bkV now shift v' u') ∧ w'.ownsRow w.heap.size 36 6 v' n (mcells f n) ∧ w'.ownsRow w.heap.size 3 1 u' m (ivals t m)) ∧ Below w.heap.size w w' := by
  obtain ⟨iM, hI, hz0, hz1, hz2⟩ := info_parts info_mv
  obtain ⟨i0, hI', hy0, hy1, hy2⟩ := info_parts info_i
  obtain ⟨ao, c, rfl, hvn, hvr⟩ := hv
  obtain ⟨bo, d, rfl, hun, hur⟩ := hu
  have hC := Cp.start w now shift (.slice ao n c) (.slice bo m d)
  go_enter Tryz.func31, Tryz.ntmps31
  go_wp2
  have hC := hC.grow (Below.refl _ _).drew
  refine wp_region_held_drew (S := Bx w.heap.size now shift (.slice ao n c) (.slice bo m d)) (by kernel_rfl) hC.bx (fun hHeld => ?_)
  refine take_at (i := 0) (v := .pointer (some ⟨w.heap.size, 0, none⟩)) 3 rfl rfl (by kernel_rfl) (by kernel_rfl) (by kernel_rfl) (fun _ _ _ h => h) (Or.inl ⟨by rfl, fun w' hSw => by (obtain ⟨s0, s1, s2, s3⟩ := hSw; go_simp)⟩) hHeld ?_
  simp only [Act.put, List.setIfInBounds_toArray, List.set_cons_zero, List.set_cons_succ]
  refine take_at (i := 1) (v := .int .i64 now) 4 rfl rfl (by kernel_rfl) (by kernel_rfl) (by kernel_rfl) (fun _ _ _ h => h) (Or.inl ⟨by rfl, fun w' hSw => by (obtain ⟨s0, s1, s2, s3⟩ := hSw; go_simp)⟩) hHeld ?_
  simp only [Act.put, List.setIfInBounds_toArray, List.set_cons_zero, List.set_cons_succ]
  refine take_at (i := 2) (v := .pointer (some ⟨w.heap.size, 1, none⟩)) 5 rfl rfl (by kernel_rfl) (by kernel_rfl) (by kernel_rfl) (fun _ _ _ h => h) (Or.inl ⟨by rfl, fun w' hSw => by (obtain ⟨s0, s1, s2, s3⟩ := hSw; go_simp)⟩) hHeld ?_
  simp only [Act.put, List.setIfInBounds_toArray, List.set_cons_zero, List.set_cons_succ]
  refine take_at (i := 3) (v := .int .i64 shift) 6 rfl rfl (by kernel_rfl) (by kernel_rfl) (by kernel_rfl) (fun _ _ _ h => h) (Or.inl ⟨by rfl, fun w' hSw => by (obtain ⟨s0, s1, s2, s3⟩ := hSw; go_simp)⟩) hHeld ?_
  simp only [Act.put, List.setIfInBounds_toArray, List.set_cons_zero, List.set_cons_succ]
  refine take_at (i := 5) (v := .pointer (some ⟨w.heap.size, 2, none⟩)) 8 rfl rfl (by kernel_rfl) (by kernel_rfl) (by kernel_rfl) (fun _ _ _ h => h) (Or.inl ⟨by rfl, fun w' hSw => by (obtain ⟨s0, s1, s2, s3⟩ := hSw; go_simp)⟩) hHeld ?_
  simp only [Act.put, List.setIfInBounds_toArray, List.set_cons_zero, List.set_cons_succ]
  refine take_at (i := 6) (v := .slice ao n c) 9 rfl rfl (by kernel_rfl) (by kernel_rfl) (by kernel_rfl) (fun _ _ _ h => h) (Or.inl ⟨by rfl, fun w' hSw => by (obtain ⟨s0, s1, s2, s3⟩ := hSw; go_simp)⟩) hHeld ?_
  simp only [Act.put, List.setIfInBounds_toArray, List.set_cons_zero, List.set_cons_succ]
  refine take_at (i := 9) (v := .pointer (some ⟨w.heap.size, 3, none⟩)) 12 rfl rfl (by kernel_rfl) (by kernel_rfl) (by kernel_rfl) (fun _ _ _ h => h) (Or.inl ⟨by rfl, fun w' hSw => by (obtain ⟨s0, s1, s2, s3⟩ := hSw; go_simp)⟩) hHeld ?_
  simp only [Act.put, List.setIfInBounds_toArray, List.set_cons_zero, List.set_cons_succ]
  refine take_at (i := 10) (v := .slice bo m d) 13 rfl rfl (by kernel_rfl) (by kernel_rfl) (by kernel_rfl) (fun _ _ _ h => h) (Or.inl ⟨by rfl, fun w' hSw => by (obtain ⟨s0, s1, s2, s3⟩ := hSw; go_simp)⟩) hHeld ?_
  simp only [Act.put, List.setIfInBounds_toArray, List.set_cons_zero, List.set_cons_succ]
  refine wpAnyH_ready (rs := [4, 8]) (by kernel_rfl) (by simp) ?_
  refine AllReadyH.cons rfl (fun K hK => ?_) (AllReadyH.cons rfl (fun K hK => ?_) (AllReadyH.nil))
  · skip
    go_simp
    have hC := hC.newM
    try simp only [World.size_alloc, World.size_drew] at hC
    refine hK.out _ _ hC.bx (fun hHeld => ?_)
    clear hK K
    refine wpAnyH_ready (rs := [7, 8]) (by kernel_rfl) (by simp) ?_
    refine AllReadyH.cons rfl (fun K hK => ?_) (AllReadyH.cons rfl (fun K hK => ?_) (AllReadyH.nil))
    · skip
      refine step_append_src rfl (.tmp 7) (.tmp 9) 30 rfl 36 iM _ 6 56 Tryz.underlying30 hI hz0 hz1 hz2 rfl (by decide) (w.heap.size + 2) _ 0 [] (by rfl) hC.om ao n c (mcells f n) (by rfl) (by rw [mcells_len]) hvn (srcM_cells hvr hC.below) (mcells_one f n) (by unfold maxLen; omega) (by omega) hC.size ?_
      intro v1 w1 ho1 hg1
      simp only [Nat.zero_add, List.nil_append] at ho1
      have hC := hC.appM ho1 hg1
      clear ho1 hg1
      refine hK.out _ _ hC.bx (fun hHeld => ?_)
      clear hK K
      refine wpAnyH_ready (rs := [8]) (by kernel_rfl) (by simp) ?_
      refine AllReadyH.cons rfl (fun K hK => ?_) (AllReadyH.nil)
      go_simp
      have hC := hC.newI
      try simp only [World.size_alloc, World.size_drew] at hC
      refine hK.out _ _ hC.bx (fun hHeld => ?_)
      clear hK K
      refine wpAnyH_ready (rs := [11]) (by kernel_rfl) (by simp) ?_
      refine AllReadyH.cons rfl (fun K hK => ?_) (AllReadyH.nil)
      refine step_append_src rfl (.tmp 11) (.tmp 13) 23 rfl 3 i0 _ 1 8 Tryz.underlying23 hI' hy0 hy1 hy2 rfl (by decide) (w.heap.size + 2) _ 0 [] (by rfl) hC.oi bo m d (ivals t m) (by rfl) (by rw [ivals_len]; omega) hun (srcI_cells hur hC.below) (ivals_one t m) (by unfold maxLen; omega) (by omega) hC.size ?_
      intro u1 w2 ho2 hg2
      simp only [Nat.zero_add, List.nil_append] at ho2
      have hC := hC.appI ho2 hg2
      clear ho2 hg2
      refine hK.out _ _ hC.bx (fun hHeld => ?_)
      clear hK K
      obtain ⟨av, cv, rfl⟩ := own_sl hC.om
      obtain ⟨au, cu, rfl⟩ := own_sl hC.oi
      refine take_at (i := 12) (v := (.agg #[.int .i64 now, .int .i64 shift, .slice av n cv, .slice au m cu])) 15 rfl rfl (by kernel_rfl) (by kernel_rfl) (by kernel_rfl) (fun _ _ _ h => h) (Or.inl ⟨by rfl, fun w' hSw => by (obtain ⟨s0, s1, s2, s3⟩ := hSw; go_simp)⟩) hHeld ?_
      simp only [Act.put]
      refine wpAnyH_ready (rs := [13]) (by kernel_rfl) (by simp) ?_
      refine AllReadyH.cons rfl (fun K hK => ?_) AllReadyH.nil
      have r0 := cell_of_row w2 _ 0 _ _ _ hC.out; have r1 := cell_of_row w2 _ 1 _ _ _ hC.out; have r2 := cell_of_row w2 _ 2 _ _ _ hC.out; have r3 := cell_of_row w2 _ 3 _ _ _ hC.out; have rf := fun j => frozen_of_row w2 _ j _ _ hC.out; simp at r0 r1 r2 r3
      go_simp
      refine hK.out _ _ (hC.bx.same (by repeat (first | exact rfl | exact Below.heap_setCell _ _ _ _ (by simp) | refine (Below.heap_setCell _ _ _ _ (by simp)).trans ?_))) (fun hHeld => ?_)
      clear hK K
      refine wpAnyH_done (by kernel_rfl) ?_ _
      clear hHeld
      go_wp2
      refine bodyPost_ret (v := bkV now shift (.slice av n cv) (.slice au m cu)) (by simp [results, Tryz.results31, go_sem, r0, r1, r2, r3]) rfl ⟨⟨_, _, rfl, ?_, ?_⟩, ?_⟩
      · exact own_base (own_same hC.om (fun B hB => by have := (hC.om.lt B hB).1; rw [Below.heap_setCell _ _ _ _ (by simp; omega), Below.heap_setCell _ _ _ _ (by simp; omega), Below.heap_setCell _ _ _ _ (by simp; omega), Below.heap_setCell _ _ _ _ (by simp; omega)])) (by omega)
      · exact own_base (own_same hC.oi (fun B hB => by have := (hC.oi.lt B hB).1; rw [Below.heap_setCell _ _ _ _ (by simp; omega), Below.heap_setCell _ _ _ _ (by simp; omega), Below.heap_setCell _ _ _ _ (by simp; omega), Below.heap_setCell _ _ _ _ (by simp; omega)])) (by omega)
      · exact (((hC.below.setCell (by simp) _).setCell (by simp) _).setCell (by simp) _).setCell (by simp) _
    · skip
      go_simp
      have hC := hC.newI
      try simp only [World.size_alloc, World.size_drew] at hC
      refine hK.out _ _ hC.bx (fun hHeld => ?_)
      clear hK K
      refine wpAnyH_ready (rs := [7]) (by kernel_rfl) (by simp) ?_
      refine AllReadyH.cons rfl (fun K hK => ?_) (AllReadyH.nil)
      refine step_append_src rfl (.tmp 7) (.tmp 9) 30 rfl 36 iM _ 6 56 Tryz.underlying30 hI hz0 hz1 hz2 rfl (by decide) (w.heap.size + 2) _ 0 [] (by rfl) hC.om ao n c (mcells f n) (by rfl) (by rw [mcells_len]) hvn (srcM_cells hvr hC.below) (mcells_one f n) (by unfold maxLen; omega) (by omega) hC.size ?_
      intro v1 w1 ho1 hg1
      simp only [Nat.zero_add, List.nil_append] at ho1
      have hC := hC.appM ho1 hg1
      clear ho1 hg1
      refine hK.out _ _ hC.bx (fun hHeld => ?_)
      clear hK K
      refine wpAnyH_ready (rs := [11]) (by kernel_rfl) (by simp) ?_
      refine AllReadyH.cons rfl (fun K hK => ?_) (AllReadyH.nil)
      refine step_append_src rfl (.tmp 11) (.tmp 13) 23 rfl 3 i0 _ 1 8 Tryz.underlying23 hI' hy0 hy1 hy2 rfl (by decide) (w.heap.size + 2) _ 0 [] (by rfl) hC.oi bo m d (ivals t m) (by rfl) (by rw [ivals_len]; omega) hun (srcI_cells hur hC.below) (ivals_one t m) (by unfold maxLen; omega) (by omega) hC.size ?_
      intro u1 w2 ho2 hg2
      simp only [Nat.zero_add, List.nil_append] at ho2
      have hC := hC.appI ho2 hg2
      clear ho2 hg2
      refine hK.out _ _ hC.bx (fun hHeld => ?_)
      clear hK K
      obtain ⟨av, cv, rfl⟩ := own_sl hC.om
      obtain ⟨au, cu, rfl⟩ := own_sl hC.oi
      refine take_at (i := 12) (v := (.agg #[.int .i64 now, .int .i64 shift, .slice av n cv, .slice au m cu])) 15 rfl rfl (by kernel_rfl) (by kernel_rfl) (by kernel_rfl) (fun _ _ _ h => h) (Or.inl ⟨by rfl, fun w' hSw => by (obtain ⟨s0, s1, s2, s3⟩ := hSw; go_simp)⟩) hHeld ?_
      simp only [Act.put]
      refine wpAnyH_ready (rs := [13]) (by kernel_rfl) (by simp) ?_
      refine AllReadyH.cons rfl (fun K hK => ?_) AllReadyH.nil
      have r0 := cell_of_row w2 _ 0 _ _ _ hC.out; have r1 := cell_of_row w2 _ 1 _ _ _ hC.out; have r2 := cell_of_row w2 _ 2 _ _ _ hC.out; have r3 := cell_of_row w2 _ 3 _ _ _ hC.out; have rf := fun j => frozen_of_row w2 _ j _ _ hC.out; simp at r0 r1 r2 r3
      go_simp
      refine hK.out _ _ (hC.bx.same (by repeat (first | exact rfl | exact Below.heap_setCell _ _ _ _ (by simp) | refine (Below.heap_setCell _ _ _ _ (by simp)).trans ?_))) (fun hHeld => ?_)
      clear hK K
      refine wpAnyH_done (by kernel_rfl) ?_ _
      clear hHeld
      go_wp2
      refine bodyPost_ret (v := bkV now shift (.slice av n cv) (.slice au m cu)) (by simp [results, Tryz.results31, go_sem, r0, r1, r2, r3]) rfl ⟨⟨_, _, rfl, ?_, ?_⟩, ?_⟩
      · exact own_base (own_same hC.om (fun B hB => by have := (hC.om.lt B hB).1; rw [Below.heap_setCell _ _ _ _ (by simp; omega), Below.heap_setCell _ _ _ _ (by simp; omega), Below.heap_setCell _ _ _ _ (by simp; omega), Below.heap_setCell _ _ _ _ (by simp; omega)])) (by omega)
      · exact own_base (own_same hC.oi (fun B hB => by have := (hC.oi.lt B hB).1; rw [Below.heap_setCell _ _ _ _ (by simp; omega), Below.heap_setCell _ _ _ _ (by simp; omega), Below.heap_setCell _ _ _ _ (by simp; omega), Below.heap_setCell _ _ _ _ (by simp; omega)])) (by omega)
      · exact (((hC.below.setCell (by simp) _).setCell (by simp) _).setCell (by simp) _).setCell (by simp) _
  · skip
    go_simp
    have hC := hC.newI
    try simp only [World.size_alloc, World.size_drew] at hC
    refine hK.out _ _ hC.bx (fun hHeld => ?_)
    clear hK K
    refine wpAnyH_ready (rs := [4]) (by kernel_rfl) (by simp) ?_
    refine AllReadyH.cons rfl (fun K hK => ?_) (AllReadyH.nil)
    go_simp
    have hC := hC.newM
    try simp only [World.size_alloc, World.size_drew] at hC
    refine hK.out _ _ hC.bx (fun hHeld => ?_)
    clear hK K
    refine wpAnyH_ready (rs := [7]) (by kernel_rfl) (by simp) ?_
    refine AllReadyH.cons rfl (fun K hK => ?_) (AllReadyH.nil)
    refine step_append_src rfl (.tmp 7) (.tmp 9) 30 rfl 36 iM _ 6 56 Tryz.underlying30 hI hz0 hz1 hz2 rfl (by decide) (w.heap.size + 2) _ 0 [] (by rfl) hC.om ao n c (mcells f n) (by rfl) (by rw [mcells_len]) hvn (srcM_cells hvr hC.below) (mcells_one f n) (by unfold maxLen; omega) (by omega) hC.size ?_
    intro v1 w1 ho1 hg1
    simp only [Nat.zero_add, List.nil_append] at ho1
    have hC := hC.appM ho1 hg1
    clear ho1 hg1
    refine hK.out _ _ hC.bx (fun hHeld => ?_)
    clear hK K
    refine wpAnyH_ready (rs := [11]) (by kernel_rfl) (by simp) ?_
    refine AllReadyH.cons rfl (fun K hK => ?_) (AllReadyH.nil)
    refine step_append_src rfl (.tmp 11) (.tmp 13) 23 rfl 3 i0 _ 1 8 Tryz.underlying23 hI' hy0 hy1 hy2 rfl (by decide) (w.heap.size + 2) _ 0 [] (by rfl) hC.oi bo m d (ivals t m) (by rfl) (by rw [ivals_len]; omega) hun (srcI_cells hur hC.below) (ivals_one t m) (by unfold maxLen; omega) (by omega) hC.size ?_
    intro u1 w2 ho2 hg2
    simp only [Nat.zero_add, List.nil_append] at ho2
    have hC := hC.appI ho2 hg2
    clear ho2 hg2
    refine hK.out _ _ hC.bx (fun hHeld => ?_)
    clear hK K
    obtain ⟨av, cv, rfl⟩ := own_sl hC.om
    obtain ⟨au, cu, rfl⟩ := own_sl hC.oi
    refine take_at (i := 12) (v := (.agg #[.int .i64 now, .int .i64 shift, .slice av n cv, .slice au m cu])) 15 rfl rfl (by kernel_rfl) (by kernel_rfl) (by kernel_rfl) (fun _ _ _ h => h) (Or.inl ⟨by rfl, fun w' hSw => by (obtain ⟨s0, s1, s2, s3⟩ := hSw; go_simp)⟩) hHeld ?_
    simp only [Act.put]
    refine wpAnyH_ready (rs := [13]) (by kernel_rfl) (by simp) ?_
    refine AllReadyH.cons rfl (fun K hK => ?_) AllReadyH.nil
    have r0 := cell_of_row w2 _ 0 _ _ _ hC.out; have r1 := cell_of_row w2 _ 1 _ _ _ hC.out; have r2 := cell_of_row w2 _ 2 _ _ _ hC.out; have r3 := cell_of_row w2 _ 3 _ _ _ hC.out; have rf := fun j => frozen_of_row w2 _ j _ _ hC.out; simp at r0 r1 r2 r3
    go_simp
    refine hK.out _ _ (hC.bx.same (by repeat (first | exact rfl | exact Below.heap_setCell _ _ _ _ (by simp) | refine (Below.heap_setCell _ _ _ _ (by simp)).trans ?_))) (fun hHeld => ?_)
    clear hK K
    refine wpAnyH_done (by kernel_rfl) ?_ _
    clear hHeld
    go_wp2
    refine bodyPost_ret (v := bkV now shift (.slice av n cv) (.slice au m cu)) (by simp [results, Tryz.results31, go_sem, r0, r1, r2, r3]) rfl ⟨⟨_, _, rfl, ?_, ?_⟩, ?_⟩
    · exact own_base (own_same hC.om (fun B hB => by have := (hC.om.lt B hB).1; rw [Below.heap_setCell _ _ _ _ (by simp; omega), Below.heap_setCell _ _ _ _ (by simp; omega), Below.heap_setCell _ _ _ _ (by simp; omega), Below.heap_setCell _ _ _ _ (by simp; omega)])) (by omega)
    · exact own_base (own_same hC.oi (fun B hB => by have := (hC.oi.lt B hB).1; rw [Below.heap_setCell _ _ _ _ (by simp; omega), Below.heap_setCell _ _ _ _ (by simp; omega), Below.heap_setCell _ _ _ _ (by simp; omega), Below.heap_setCell _ _ _ _ (by simp; omega)])) (by omega)
    · exact (((hC.below.setCell (by simp) _).setCell (by simp) _).setCell (by simp) _).setCell (by simp) _
end Go.Proofs.YtlmcblcijndipabGreatDoor
