/- Texts of the proof, one behind another: Y3, Y5, Y6. -/
import Derived.Test.YtlmcblcijndipabGreatM49
import Derived.Test.YtlmcblcijndipabGreatM30
import Derived.Test.YtlmcblcijndipabGreatM21
import Derived.Deep.RegionHeld3
import Derived.Test.YtlmcblcijndipabGreatM43
namespace Go.Proofs.YtlmcblcijndipabGreat
open Go Go.Conc Go.RowKit
set_option linter.unusedVariables false
set_option linter.unusedSectionVars false
theorem rowC_app (l : List Mv) (m : Mv) : rowC (mvF (l ++ [m])) (l.length + 1) = rowC (mvF l) l.length ++ m.cells.toList := by
  rw [rowC_succ, rowC_congr (g := mvF l) (fun j hj => by rw [mvF_app, if_neg (by omega)]), mvF_app, if_pos rfl]
theorem thenL_pos {f : Nat → Mv} {t : Nat → Int} {p : Nat} : ∀ {k : Nat}, p < k → 0 < (thenL f t p k).length
  | 0, h => by omega
  | k + 1, h => by
    simp only [thenL]
    by_cases e : p = k
    · subst e; rw [if_neg (by omega)]; simp
    · have := thenL_pos (f := f) (t := t) (p := p) (k := k) (by omega)
      split
      · exact this
      · simp
def BkOwn (w : World) (b : Nat) (now shift : Int) (v u : Value) : Prop := w.heap[b]? = some (.cells #[.int .i64 now, .int .i64 shift, v, u] 39 (0, 0))
theorem BkOwn.lt {w : World} {b : Nat} {now shift : Int} {v u : Value} (h : BkOwn w b now shift v u) : b < w.heap.size := (Array.getElem?_eq_some_iff.1 h).1
theorem BkOwn.same {w w' : World} {b : Nat} {now shift : Int} {v u : Value} (h : BkOwn w b now shift v u) (e : w'.heap[b]? = w.heap[b]?) : BkOwn w' b now shift v u := e.trans h
theorem BkOwn.cells {w : World} {b : Nat} {now shift : Int} {v u : Value} (h : BkOwn w b now shift v u) : w.cell? ⟨b, 0, none⟩ = some (.int .i64 now) ∧ w.cell? ⟨b, 1, none⟩ = some (.int .i64 shift) ∧ w.cell? ⟨b, 2, none⟩ = some v ∧ w.cell? ⟨b, 3, none⟩ = some u ∧ ∀ j, w.frozen? ⟨b, j, none⟩ = false := by
  unfold BkOwn at h
  refine ⟨?_, ?_, ?_, ?_, fun j => frozen_of_row _ _ j _ _ h⟩ <;> simp [World.cell?, h]
structure Rb (w0 : World) (base B2 B4 B7 : Nat) (now shift tick : Int) (x y vM : Value) (l : List Mv) (W : World) : Prop where
  bk : BkOwn W B2 now shift x y
  res : BkOwn W B4 0 0 (.slice none 0 0) (.slice none 0 0)
  nx : BkOwn W B7 tick shift vM (.slice none 0 0)
  own : W.ownsRow base 48 6 vM l.length (rowC (mvF l) l.length)
  below : Below w0.heap.size w0 W
  big : base ≤ W.heap.size
theorem Rb.grow {w0 W W' : World} {base B2 B4 B7 : Nat} {now shift tick : Int} {x y vM : Value} {l : List Mv} (h : Rb w0 base B2 B4 B7 now shift tick x y vM l W) (hb : Below W.heap.size W W') : Rb w0 base B2 B4 B7 now shift tick x y vM l W' :=
  ⟨h.bk.same (hb.block _ h.bk.lt), h.res.same (hb.block _ h.res.lt), h.nx.same (hb.block _ h.nx.lt), h.own.kept (row := none) ⟨hb.os, hb.tape, hb.output, hb.size, fun k hk _ => hb.block k hk⟩ (by cases hv : vM.ownBlock <;> simp), h.below.trans (hb.mono h.below.size), Nat.le_trans h.big hb.size⟩
theorem Rb.append {w0 W w' : World} {base B2 B4 B7 : Nat} {now shift tick : Int} {x y vM v' : Value} {l : List Mv} {m : Mv} (h : Rb w0 base B2 B4 B7 now shift tick x y vM l W) (h2 : B2 < base) (h4 : B4 < base) (h7 : B7 < base) (h27 : B2 ≠ B7) (h47 : B4 ≠ B7) (h70 : w0.heap.size ≤ B7)
    (own : w'.ownsRow base 48 6 v' (l.length + 1) (rowC (mvF l) l.length ++ m.cells.toList)) (hg : W.grownBy w' vM.ownBlock) : Rb w0 base B2 B4 B7 now shift tick x y v' (l ++ [m]) (w'.setCell ⟨B7, 2, none⟩ v') := by
  have hb : ∀ k, k < W.heap.size → k < base → w'.heap[k]? = W.heap[k]? := fun k hk hlt => hg.block k hk (fun e => by have := (h.own.lt k e.symm).1; omega)
  have hs : ∀ k, k ≠ B7 → (w'.setCell ⟨B7, 2, none⟩ v').heap[k]? = w'.heap[k]? := fun k hk => Below.heap_setCell _ _ _ k hk
  have hz := hg.size
  have hbg := h.big
  refine ⟨h.bk.same ((hs _ h27).trans (hb _ h.bk.lt h2)), h.res.same ((hs _ h47).trans (hb _ h.res.lt h4)), ?_, ?_, ?_, by simp; omega⟩
  · have e := (hb _ h.nx.lt h7).trans h.nx
    exact heap_setCell_same w' B7 2 _ _ v' e
  · have e : (l ++ [m]).length = l.length + 1 := by simp
    rw [e, rowC_app]
    exact own.kept (row := some B7) ⟨rfl, rfl, rfl, by simp, fun k _ hk => hs k (fun e => hk (by rw [e]))⟩ (.inr (fun e => by have := (own.lt B7 e).1; omega))
  · refine (h.below.trans ⟨hg.os, hg.tape, hg.output, hg.size, fun k hk => hb k (by have := h.below.size; omega) (by omega)⟩).setCell (by show w0.heap.size ≤ B7; exact h70) _
theorem Rb.nx8 {w0 W w' : World} {base B2 B4 B7 : Nat} {now shift tick : Int} {x y vM : Value} {l : List Mv} (h : Rb w0 base B2 B4 B7 now shift tick x y vM l W) (hg : W.grownBy w' vM.ownBlock) (h7 : B7 < base) : BkOwn w' B7 tick shift vM (.slice none 0 0) :=
  h.nx.same (hg.block B7 h.nx.lt (fun e => by have := (h.own.lt B7 e.symm).1; omega))
theorem ownC_some {w : World} {base : Nat} {T : TypeId} {v : Value} {n : Nat} {xs : List Value} (h : w.ownsRow base T 6 v (n + 1) xs) : ∃ B c, v = .slice (some ⟨B, 0, none⟩) (n + 1) c := by
  rcases h.2 with ⟨_, e⟩ | ⟨g, cap, cur, e, _⟩
  · omega
  · exact ⟨g, cap, e⟩
theorem boxC {w : World} {b : Nat} {m : Mv} {T : TypeId} (h : w.heap[b]? = some (.cells m.cells T (0, 0))) : w.cell? ⟨b, 0, none⟩ = some (.string m.name) ∧ w.cell? ⟨b, 1, none⟩ = some (.bool m.lands) ∧ w.cell? ⟨b, 2, none⟩ = some (.int .i64 m.wake) ∧ w.cell? ⟨b, 3, none⟩ = some (.int .i64 m.est) ∧ w.cell? ⟨b, 4, none⟩ = some (.int .i64 m.late) ∧ w.cell? ⟨b, 5, none⟩ = some (.int .i64 m.prom) := by
  refine ⟨?_, ?_, ?_, ?_, ?_, ?_⟩ <;> simp [World.cell?, h]
theorem setC {w : World} {b : Nat} {m : Mv} {T : TypeId} (h : w.heap[b]? = some (.cells m.cells T (0, 0))) (m' : Mv) : ((((((w.setCell ⟨b, 0, none⟩ (.string m'.name)).setCell ⟨b, 1, none⟩ (.bool m'.lands)).setCell ⟨b, 2, none⟩ (.int .i64 m'.wake)).setCell ⟨b, 3, none⟩ (.int .i64 m'.est)).setCell ⟨b, 4, none⟩ (.int .i64 m'.late)).setCell ⟨b, 5, none⟩ (.int .i64 m'.prom)).heap[b]? = some (.cells m'.cells T (0, 0)) := by
  have := heap_setCell_same _ _ 5 _ _ (.int .i64 m'.prom) (heap_setCell_same _ _ 4 _ _ (.int .i64 m'.late) (heap_setCell_same _ _ 3 _ _ (.int .i64 m'.est) (heap_setCell_same _ _ 2 _ _ (.int .i64 m'.wake) (heap_setCell_same _ _ 1 _ _ (.bool m'.lands) (heap_setCell_same w b 0 _ _ (.string m'.name) h)))))
  simpa using this
theorem newC {w : World} {b : Nat} {m : Mv} {T : TypeId} (h : w.heap[b]? = some (.cells m.cells T (0, 0))) : ∀ (j : Nat) (u : Value), m.cells.toList[j]? = some u → w.cell? ((⟨b, 0, none⟩ : Addr).add j) = some u := fun j u hu => by
  rw [addC_add, Nat.zero_add, cell_of_row _ _ _ _ _ _ h]; simpa using hu
theorem alloc2_new (w : World) (o1 o2 : Obj) : ((w.alloc o1).alloc o2).heap[w.heap.size + 1]? = some o2 := by have := heap_alloc_new (w.alloc o1) o2; simpa using this
theorem then_self (f : Nat → Mv) (t : Nat → Int) (p : Nat) : thenMv f t p p = goneMv (f p) (t p) := by unfold thenMv; rw [if_pos rfl]
theorem then_else {f : Nat → Mv} {t : Nat → Int} {p k : Nat} (h : ¬ k = p) : thenMv f t p k = promMv (f k) (t k) (t p) := by unfold thenMv; rw [if_neg h]
theorem thenL_keep {f : Nat → Mv} {t : Nat → Int} {p k : Nat} (h : ¬ t k < t p) : thenL f t p (k + 1) = thenL f t p k ++ [thenMv f t p k] := by simp only [thenL]; rw [if_neg h]
section
variable [Gl] {ok : Ctx} {c : Frame} {Q : Value → World → Prop}
def RoundPost (f : Nat → Mv) (n : Nat) (t : Nat → Int) (p : Nat) (shift : Int) (V : World) (v : Value) (V' : World) : Prop :=
  (∃ (x0 x1 : Int) (x2 : Option Addr) (l2 c2 : Nat) (x3 : Option Addr) (l3 c3 : Nat), v = .tuple #[.agg #[.int .i64 x0, .int .i64 x1, .slice x2 l2 c2, .slice x3 l3 c3], .bool (roundR f n t p).isSome] ∧ ∀ T, roundR f n t p = some T → ∃ BN BT, V.heap.size ≤ BN ∧ V.heap.size ≤ BT ∧ x0 = t p ∧ x1 = shift ∧ x2 = some ⟨BN, 0, none⟩ ∧ l2 = (thenL f t p n).length ∧ x3 = some ⟨BT, 0, none⟩ ∧ l3 = (thenL f t p n).length ∧ MvRow V' BN 0 (thenL f t p n).length (mvF (thenL f t p n)) ∧ OwnInts V' BT (thenL f t p n).length T) ∧ Bl V.heap.size V V'
theorem WkT.planOp (E : Wenv Tryz0.prog ok c Dr24) (hPl : ok.inn 57 = true) (hSB : ok.inn 8 = true) (hbt : ok.inn 25 = false) {b : Frame} {a : Act} {k : List Item} {cs : List Frame} {V : World} (hb : ok.inn b.fn = true) {ops : Array Oper} {i : Nat} {r : List Nat} {o : Oper} (ho : ops[i]? = some o) (hw : Region.wanted o (yielded ops a.tmps) = true)
    {B n cap : Nat} {g : Nat → Mv} {now shift : Int} (hx : ∀ w, (execOp a.eval o).run Tryz0.prog w = .ok (.enter 57 #[.slice (some ⟨B, 0, none⟩) n cap, .int .i64 now, .int .i64 shift]) w)
    (hn : n ≤ 6) (hg : ∀ i, i < n → (g i).ok = true) (h0 : 0 ≤ now) (h1 : now ≤ 20000) (hbs : B < V.heap.size) (hrow : MvRow V B 0 n g)
    (hcont : ∀ v V', BestPost (planR g n now shift) n V v V' → WkT Tryz0.prog ok c Dr24 Q ⟨b.at (a.put o.dst v) (.inRegion ops r :: k), cs, V'⟩) : WkT Tryz0.prog ok c Dr24 Q ⟨b.at a (.inRegion ops (i :: r) :: k), cs, V⟩ :=
  WkT.enterOp E ho hw hPl hx (wk_plan E hPl hSB hbt (r0 := b.at a (.inRegion ops (i :: r) :: k)) hb hn hg h0 h1 hbs hrow (fun v V' hv => by rw [finish_reg ho]; exact hcont v V' hv))
set_option maxRecDepth 100000 in
set_option maxHeartbeats 4000000 in
theorem wk_round (E : Wenv Tryz0.prog ok c Dr24) (hRo : ok.inn 34 = true) (hPl : ok.inn 57 = true) (hSB : ok.inn 8 = true) (hbt : ok.inn 25 = false) {r0 : Frame} {cs : List Frame} {V : World} (hr0 : ok.inn r0.fn = true)
    {b n cap b' cap' p : Nat} {f : Nat → Mv} {t : Nat → Int} {now shift : Int} (hm : movesB f n = true) (hf : FitTo f t n) (hp : p < n) (hbs : b < V.heap.size) (hrow : MvRow V b 0 n f) (hbs' : b' < V.heap.size) (hrow' : IntRow V b' 0 n t)
    (hcont : ∀ v V', RoundPost f n t p shift V v V' → WkT Tryz0.prog ok c Dr24 Q ⟨r0.finish v, cs, V'⟩) :
    WkT Tryz0.prog ok c Dr24 Q ⟨Frame.enter Tryz0.prog 34 #[.agg #[.int .i64 now, .int .i64 shift, .slice (some ⟨b, 0, none⟩) n cap, .slice (some ⟨b', 0, none⟩) n cap'], .int .i64 p] .normal, r0 :: cs, V⟩ := by
  have hE := enter_at (P := Tryz0.prog) #[.agg #[.int .i64 now, .int .i64 shift, .slice (some ⟨b, 0, none⟩) n cap, .slice (some ⟨b', 0, none⟩) n cap'], .int .i64 p] Tryz0.func34 rfl
  simp only [Tryz.ntmps34, List.size_toArray, List.length_cons, List.length_nil, Nat.reduceAdd, Nat.reduceSub, Array.replicate_succ, Array.replicate_zero, List.push_toArray, List.append_toArray, List.nil_append, List.cons_append] at hE
  rw [hE]
  clear hE
  have h6 := movesB_six hm
  have hokp := Mv.ok_bd (movesB_ok hm p hp)
  have hsp := suits_bd (hf.1 p hp)
  have hpn : (p : Int) < n := by omega
  refine WkT.chain E hRo [_] _ (fun a' w' => Bl V.heap.size V w' ∧ ∃ B2 B4, V.heap.size ≤ B2 ∧ V.heap.size ≤ B4 ∧ B2 ≠ B4 ∧ BkOwn w' B2 now shift (.slice (some ⟨b, 0, none⟩) n cap) (.slice (some ⟨b', 0, none⟩) n cap') ∧ BkOwn w' B4 0 0 (.slice none 0 0) (.slice none 0 0) ∧ FrIs a' (fun u => #[u 0, .int .i64 p, .pointer (some ⟨B2, 0, none⟩), u 3, .pointer (some ⟨B4, 0, none⟩), .bool false, u 6, u 7, u 8, u 9, u 10, u 11, u 12, u 13, u 14, u 15, u 16, u 17, u 18, u 19, u 20, u 21, u 22, u 23, u 24, u 25, u 26, u 27, u 28, u 29, u 30, u 31, u 32, u 33, u 34, u 35, u 36, u 37, u 38, u 39, u 40, u 41, u 42, u 43, u 44, u 45, u 46, u 47, u 48, u 49, u 50, u 51, u 52, u 53, u 54, u 55, u 56, u 57, u 58, u 59, u 60, u 61, u 62, u 63, u 64, u 65, u 66, u 67, u 68, u 69, u 70, u 71, u 72, u 73, u 74, u 75, u 76, u 77, u 78, u 79, u 80])) (fun _ _ => False) ?_ ?_ (fun _ _ _ hh => hh.elim)
  · intro τ d
    clear hcont hrow hrow' hf hm
    simp only [wpChain]
    go_wp2
    left
    refine ⟨by first | rfl | trivial, ⟨by simp [re]; omega, fun k hk => ?_⟩, V.heap.size, V.heap.size + 1, Nat.le_refl _, by omega, by omega, ?_, ?_, rfl, rfl⟩
    · rw [Below.heap_alloc _ _ _ (by simp [re]; omega), Below.heap_alloc _ _ _ (by simpa [re] using hk)]; rfl
    · exact (Below.heap_alloc _ _ _ (by simp [re])).trans (heap_alloc_new (re V τ d) _)
    · have := heap_alloc_new ((re V τ d).alloc (.cells #[.int .i64 now, .int .i64 shift, .slice (some ⟨b, 0, none⟩) n cap, .slice (some ⟨b', 0, none⟩) n cap'] 39)) (.cells #[.int .i64 0, .int .i64 0, .slice none 0 0, .slice none 0 0] 39)
      rw [show ((re V τ d).alloc (.cells #[.int .i64 now, .int .i64 shift, .slice (some ⟨b, 0, none⟩) n cap, .slice (some ⟨b', 0, none⟩) n cap'] 39)).heap.size = V.heap.size + 1 by simp [re]] at this
      exact this
  rintro a' w1 ⟨hb1, B2, B4, hB2, hB4, h24, bk, rs, hfr⟩
  obtain ⟨u, rfl⟩ := hfr.open
  clear hfr
  have hz1 := hb1.size
  have row1 : MvRow w1 b 0 n f := mv_same hrow (hb1.block b hbs)
  have row1' : IntRow w1 b' 0 n t := fun i hi => by have := hrow' i hi; simp only [World.cell?, hb1.block b' hbs'] at this ⊢; exact this
  have hl1 : b < w1.heap.size := by omega
  have hl1' : b' < w1.heap.size := by omega
  refine WkT.chainM E hRo [_, _, _, _] _ (fun a' w' => t p + 6 ≤ (f p).late ∧ Bl V.heap.size V w' ∧ ∃ B7 BN cN, V.heap.size ≤ B7 ∧ B4 ≠ B7 ∧ V.heap.size ≤ BN ∧ BkOwn w' B4 0 0 (.slice none 0 0) (.slice none 0 0) ∧ BkOwn w' B7 (t p) shift (.slice (some ⟨BN, 0, none⟩) (thenL f t p n).length cN) (.slice none 0 0) ∧ MvRow w' BN 0 (thenL f t p n).length (mvF (thenL f t p n)) ∧ BN < w'.heap.size ∧ BN ≠ B4 ∧ BN ≠ B7 ∧ FrIs a' (fun u => #[u 0, u 1, u 2, u 3, .pointer (some ⟨B4, 0, none⟩), u 5, .int .i64 (t p), .pointer (some ⟨B7, 0, none⟩), u 8, u 9, u 10, u 11, u 12, u 13, u 14, u 15, u 16, u 17, u 18, u 19, u 20, u 21, u 22, u 23, u 24, u 25, u 26, u 27, u 28, u 29, u 30, u 31, u 32, u 33, u 34, u 35, u 36, u 37, u 38, u 39, u 40, u 41, u 42, u 43, u 44, u 45, u 46, u 47, u 48, u 49, u 50, u 51, u 52, u 53, u 54, u 55, u 56, u 57, u 58, u 59, u 60, u 61, u 62, u 63, u 64, u 65, u 66, u 67, u 68, u 69, u 70, u 71, u 72, u 73, u 74, u 75, u 76, u 77, u 78, u 79, u 80])) (fun a' w' => (¬ t p + 6 ≤ (f p).late) ∧ Bl V.heap.size V w' ∧ a'.defers = [] ∧ a'.tmps[4]? = some (.pointer (some ⟨B4, 0, none⟩)) ∧ a'.tmps[5]? = some (.bool false) ∧ BkOwn w' B4 0 0 (.slice none 0 0) (.slice none 0 0)) ?_ ?_ ?_
  · intro τ d
    have row0 : MvRow (re w1 τ d) b 0 n f := mv_same row1 rfl
    have row0' : IntRow (re w1 τ d) b' 0 n t := fun i hi => row1' i hi
    have hl : b < (re w1 τ d).heap.size := hl1
    have hl' : b' < (re w1 τ d).heap.size := hl1'
    have bk0 : BkOwn (re w1 τ d) B2 now shift (.slice (some ⟨b, 0, none⟩) n cap) (.slice (some ⟨b', 0, none⟩) n cap') := bk
    have rs0 : BkOwn (re w1 τ d) B4 0 0 (.slice none 0 0) (.slice none 0 0) := rs
    have hbl0 : ∀ W, (∀ k, k < V.heap.size → W.heap[k]? = (re w1 τ d).heap[k]?) → (re w1 τ d).heap.size ≤ W.heap.size → Bl V.heap.size V W := fun W h h2 => ⟨Nat.le_trans hz1 h2, fun k hk => (h k hk).trans (hb1.block k hk)⟩
    have hz0 : V.heap.size ≤ (re w1 τ d).heap.size := hz1
    revert row0 row0' hl hl' bk0 rs0 hbl0 hz0
    generalize re w1 τ d = w0
    intro row0 row0' hl hl' bk0 rs0 hbl0 hz0
    clear hcont hrow hrow' row1 row1' bk rs hb1
    obtain ⟨p0, p1, p2, p3, p4, p5⟩ := row0 p hp
    have tp := row0' p hp
    simp only [Nat.zero_add] at p0 p1 p2 p3 p4 p5 tp
    obtain ⟨k0, k1, k2, k3, k4⟩ := bk0.cells
    obtain ⟨r0', r1', r2', r3', r4'⟩ := rs0.cells
    have hwr : IntKind.i64.wrap (t p + 6) = t p + 6 := by rw [IntKind.wrap_i64]; omega
    have lB2 := bk0.lt
    have lB4 := rs0.lt
    obtain ⟨iM, hI, hz0i, hi1, hi2⟩ := infoC_ex
    have hlen := thenL_len f t p
    simp only [wpChain]
    by_cases hle : t p + 6 ≤ (f p).late
    · have hnl : ¬ (f p).late < t p + 6 := by omega
      go_wp2
      all_goals first | (exfalso; omega) | skip
      go_loopw [34, 8, 9] (fun x _ _ W => ∃ (k : Nat) (vM : Value), x = .int .i64 k ∧ k ≤ n ∧ Rb w0 (w0.heap.size + 1) B2 B4 w0.heap.size now shift (t p) (.slice (some ⟨b, 0, none⟩) n cap) (.slice (some ⟨b', 0, none⟩) n cap') vM (thenL f t p k) W) (fun x _ _ _ => n - (intOf x).toNat)
      case atStart =>
        have bA : Below w0.heap.size w0 (w0.alloc (.cells #[.int .i64 (t p), .int .i64 shift, .slice none 0 0, .slice none 0 0] 39)) := (Below.refl _ _).alloc (Nat.le_refl _) _
        exact ⟨0, .slice none 0 0, rfl, Nat.zero_le _, ⟨bk0.same (bA.block _ lB2), rs0.same (bA.block _ lB4), heap_alloc_new _ _, World.ownsRow_nil _ _ _ _, bA, by simp⟩⟩
      case round =>
        obtain ⟨k, vM, rfl, hk, hR⟩ := hrel
        have lbr := Nat.lt_of_lt_of_le hl hR.below.size
        have lbr' := Nat.lt_of_lt_of_le hl' hR.below.size
        have lb2 := hR.bk.lt
        have lb7 := hR.nx.lt
        by_cases hlt : k < n
        · have hlt' : (k : Int) < n := by omega
          obtain ⟨c0, c1, c2, c3, c4, c5⟩ := row0.below hR.below hl k hlt
          have tk := row0'.below hR.below hl' k hlt
          simp only [Nat.zero_add] at c0 c1 c2 c3 c4 c5 tk
          obtain ⟨m0, m1, m2, m3, m4⟩ := hR.bk.cells
          obtain ⟨x0, x1, x2, x3, x4⟩ := hR.nx.cells
          by_cases hsk : t k < t p
          · go_wp2
            all_goals first | (exfalso; omega) | skip
            go_roundw
            case rel => exact ⟨k + 1, vM, by go_num, by omega, by simp only [thenL, if_pos hsk]; exact hR.grow ((Below.refl _ _).alloc (Nat.le_refl _) _)⟩
            case measure => simp [intOf]; omega
          · by_cases hkp : k = p
            · subst hkp
              have hLk := hlen k
              have HG := fun W (hb : Below wr.heap.size wr W) => hR.grow hb
              go_wp2_with (at_builtin; go_loud (refine wpList_append_own _ rfl (.tmp 62) (.tmp 64) 27 rfl (w0.heap.size + 1) 48 iM _ 6 56 infoC_moves hI hz0i hi1 hi2 rfl (by decide) vM (thenL f t k k).length (rowC (mvF (thenL f t k k)) (thenL f t k k).length) (by rfl) (HG _ (by repeat (first | exact Below.refl _ _ | refine Below.alloc ?_ (by simp <;> omega) _ | refine Below.setCell ?_ (by simp <;> omega) _))).own ⟨wr.heap.size + 1, 0, none⟩ 1 1 (Mv.cells (goneMv (f k) (t k))).toList (by rfl) rfl (newC (alloc2_new _ _ _)) (oneC_mv _) (by unfold maxLen; omega) (by omega) (HG _ (by repeat (first | exact Below.refl _ _ | refine Below.alloc ?_ (by simp <;> omega) _ | refine Below.setCell ?_ (by simp <;> omega) _))).big ?_; intro v8 w8 ho8 hg8 _; obtain ⟨B8, c8, rfl⟩ := ownC_some ho8; obtain ⟨y0, y1, y2, y3, y4⟩ := ((HG _ (by repeat (first | exact Below.refl _ _ | refine Below.alloc ?_ (by simp <;> omega) _ | refine Below.setCell ?_ (by simp <;> omega) _))).nx8 hg8 (by omega)).cells; have l8 : w0.heap.size < w8.heap.size := ((HG _ (by repeat (first | exact Below.refl _ _ | refine Below.alloc ?_ (by simp <;> omega) _ | refine Below.setCell ?_ (by simp <;> omega) _))).nx8 hg8 (by omega)).lt))
              all_goals first | (exfalso; omega) | skip
              go_roundw
              case rel => exact ⟨k + 1, _, by go_num, by omega, by rw [thenL_keep hsk, then_self]; exact (HG _ (by repeat (first | exact Below.refl _ _ | refine Below.alloc ?_ (by simp <;> omega) _ | refine Below.setCell ?_ (by simp <;> omega) _))).append (by omega) (by omega) (by omega) (by omega) (by omega) (Nat.le_refl _) ho8 hg8⟩
              case measure => simp [intOf]; omega
            · have hkp' : ¬ (k : Int) = p := by omega
              have hLk := hlen k
              obtain ⟨m', hm'⟩ : ∃ m', promMv (f k) (t k) (t p) = m' := ⟨_, rfl⟩
              have HP : ∀ W, Calls Tryz0.prog 56 #[.agg #[.string (f k).name, .bool (f k).lands, .int .i64 (f k).wake, .int .i64 (f k).est, .int .i64 (f k).late, .int .i64 (f k).prom], .int .i64 (t k), .int .i64 (t p)] W fun e w' => e = .returned (.agg #[.string m'.name, .bool m'.lands, .int .i64 m'.wake, .int .i64 m'.est, .int .i64 m'.late, .int .i64 m'.prom]) ∧ Below W.heap.size W w' := fun W => by
                rw [← hm']; exact promised_any (f k) (t k) (t p) W (by omega) (by omega)
              go_wp2
              all_goals first | (exfalso; omega) | skip
              have hbox : (wr.alloc (.cells #[.string (f k).name, .bool (f k).lands, .int .i64 (f k).wake, .int .i64 (f k).est, .int .i64 (f k).late, .int .i64 (f k).prom] 48)).heap[wr.heap.size]? = some (.cells (f k).cells 48 (0, 0)) := heap_alloc_new _ _
              have bA : Below wr.heap.size wr (wr.alloc (.cells #[.string (f k).name, .bool (f k).lands, .int .i64 (f k).wake, .int .i64 (f k).est, .int .i64 (f k).late, .int .i64 (f k).prom] 48)) := (Below.refl _ _).alloc (Nat.le_refl _) _
              revert hbox bA
              generalize (wr.alloc (.cells #[.string (f k).name, .bool (f k).lands, .int .i64 (f k).wake, .int .i64 (f k).est, .int .i64 (f k).late, .int .i64 (f k).prom] 48)) = W9
              intro hbox bA
              obtain ⟨B9, hB9⟩ : ∃ B9, B9 = wr.heap.size := ⟨_, rfl⟩
              rw [← hB9] at hbox ⊢
              have hB9l : wr.heap.size ≤ B9 := by omega
              clear hB9
              have n3 := (bA.cell (p := ⟨B2, 3, none⟩) lb2).trans m3
              have ntk := (bA.cell (p := ⟨b', k, none⟩) lbr').trans tk
              obtain ⟨z0, z1, z2, z3, z4, z5⟩ := boxC hbox
              have l9 : B9 < W9.heap.size := (Array.getElem?_eq_some_iff.1 hbox).1
              clear c0 c1 c2 c3 c4 c5 m0 m1 m2 m3 m4 x0 x1 x2 x3 x4 tk
              have l92 : B2 < W9.heap.size := Nat.lt_of_lt_of_le lb2 bA.size
              have l9' : b' < W9.heap.size := Nat.lt_of_lt_of_le lbr' bA.size
              go_region_with (go_at_call 56; refine (HP _).mono ?_; clear HP; rintro e w4 ⟨rfl, b4⟩; have hbx4 : w4.heap[B9]? = some (.cells (f k).cells 48 (0, 0)) := (b4.block B9 l9).trans hbox; obtain ⟨q0, q1, q2, q3, q4, q5⟩ := boxC hbx4; have fr4 := (fun j => frozen_of_row w4 B9 j _ _ hbx4))
              all_goals
                have hst := setC hbx4 m'
                have b4' : Below wr.heap.size wr ((((((w4.setCell ⟨B9, 0, none⟩ (.string m'.name)).setCell ⟨B9, 1, none⟩ (.bool m'.lands)).setCell ⟨B9, 2, none⟩ (.int .i64 m'.wake)).setCell ⟨B9, 3, none⟩ (.int .i64 m'.est)).setCell ⟨B9, 4, none⟩ (.int .i64 m'.late)).setCell ⟨B9, 5, none⟩ (.int .i64 m'.prom)) := ((((((bA.drew.trans (b4.mono bA.drew.size)).setCell (p := ⟨B9, 0, none⟩) hB9l _).setCell (p := ⟨B9, 1, none⟩) hB9l _).setCell (p := ⟨B9, 2, none⟩) hB9l _).setCell (p := ⟨B9, 3, none⟩) hB9l _).setCell (p := ⟨B9, 4, none⟩) hB9l _).setCell (p := ⟨B9, 5, none⟩) hB9l _
                revert hst b4'
                generalize ((((((w4.setCell ⟨B9, 0, none⟩ (.string m'.name)).setCell ⟨B9, 1, none⟩ (.bool m'.lands)).setCell ⟨B9, 2, none⟩ (.int .i64 m'.wake)).setCell ⟨B9, 3, none⟩ (.int .i64 m'.est)).setCell ⟨B9, 4, none⟩ (.int .i64 m'.late)).setCell ⟨B9, 5, none⟩ (.int .i64 m'.prom)) = W6
                intro hst b4'
                clear hbx4 q0 q1 q2 q3 q4 q5 fr4 hbox z0 z1 z2 z3 z4 z5 n3 ntk bA
                have hR6 := hR.grow b4'
                obtain ⟨y0, y1, y2, y3, y4⟩ := hR6.nx.cells
                obtain ⟨z0, z1, z2, z3, z4, z5⟩ := boxC hst
                have lb6 := hR6.nx.lt
                have HG := fun W (hb : Below W6.heap.size W6 W) => hR6.grow hb
                go_wp2_with (at_builtin; refine wpList_append_own _ rfl (.tmp 62) (.tmp 64) 27 rfl (w0.heap.size + 1) 48 iM _ 6 56 infoC_moves hI hz0i hi1 hi2 rfl (by decide) vM (thenL f t p k).length (rowC (mvF (thenL f t p k)) (thenL f t p k).length) (by rfl) (HG _ (by repeat (first | exact Below.refl _ _ | refine Below.alloc ?_ (by simp <;> omega) _ | refine Below.setCell ?_ (by simp <;> omega) _))).own ⟨_, 0, none⟩ 1 1 (Mv.cells m').toList (by rfl) rfl (newC (heap_alloc_new _ _)) (oneC_mv _) (by unfold maxLen; omega) (by omega) (HG _ (by repeat (first | exact Below.refl _ _ | refine Below.alloc ?_ (by simp <;> omega) _ | refine Below.setCell ?_ (by simp <;> omega) _))).big ?_; intro v8 w8 ho8 hg8 _; obtain ⟨B8, c8, rfl⟩ := ownC_some ho8; obtain ⟨k0', k1', k2', k3', k4'⟩ := ((HG _ (by repeat (first | exact Below.refl _ _ | refine Below.alloc ?_ (by simp <;> omega) _ | refine Below.setCell ?_ (by simp <;> omega) _))).nx8 hg8 (by omega)).cells; have l8 : w0.heap.size < w8.heap.size := ((HG _ (by repeat (first | exact Below.refl _ _ | refine Below.alloc ?_ (by simp <;> omega) _ | refine Below.setCell ?_ (by simp <;> omega) _))).nx8 hg8 (by omega)).lt)
                go_roundw
                case rel => exact ⟨k + 1, _, by go_num, by omega, by rw [thenL_keep (by omega), then_else hkp, hm']; exact (HG _ (by repeat (first | exact Below.refl _ _ | refine Below.alloc ?_ (by simp <;> omega) _ | refine Below.setCell ?_ (by simp <;> omega) _))).append (by omega) (by omega) (by omega) (by omega) (by omega) (Nat.le_refl _) ho8 hg8⟩
                case measure => simp [intOf]; omega
        · have hlt' : ¬ (k : Int) < n := by omega
          have hkn : k = n := by omega
          subst hkn
          have hpos := thenL_pos (f := f) (t := t) (p := p) hp
          obtain ⟨BN, cN, rfl⟩ : ∃ BN cN, vM = .slice (some ⟨BN, 0, none⟩) (thenL f t p k).length cN := by
            rcases hR.own.2 with ⟨_, e⟩ | ⟨g, cap, cur, e, _⟩
            · omega
            · exact ⟨g, cap, e⟩
          obtain ⟨lo, hi⟩ := hR.own.lt BN rfl
          go_wp2
          all_goals first | (exfalso; omega) | skip
          exact ⟨hbl0 _ (fun q hq => hR.below.block q (by omega)) hR.below.size, w0.heap.size, hz0, by omega, BN, by omega, hR.res, ⟨cN, hR.nx⟩, rowC_own hR.own, hi, by omega, by omega, rfl, rfl⟩
    · have hnl : (f p).late < t p + 6 := by omega
      go_wp2
      all_goals first | (exfalso; omega) | skip
      rw [put4 rs0]
      have hbl := hbl0 _ (fun k hk => setRow_other w0 B4 _ #[.int .i64 0, .int .i64 0, .slice none 0 0, .slice none 0 0] (by omega)) (by rw [setRow_size]; exact Nat.le_refl _)
      have hB := setRow_heap w0 B4 _ #[.int .i64 0, .int .i64 0, .slice none 0 0, .slice none 0 0] _ _ rs0
      first
        | exact ⟨hbl, rfl, rfl, hB⟩
        | exact ⟨hbl, rfl, rfl, rfl, hB⟩
        | exact ⟨hle, hbl, rfl, rfl, rfl, hB⟩
        | exact ⟨hbl, hB⟩
  · rintro a' w2 ⟨hle, hb2, B7, BN, cN, hB7, h47, hBN, res, nx, rowN, hlN, hN4, hN7, hfr⟩
    clear u row1 row1' bk rs hb1
    obtain ⟨u, rfl⟩ := hfr.open
    clear hfr
    have hRr : roundR f n t p = planR (mvF (thenL f t p n)) (thenL f t p n).length (t p) 6 := by unfold roundR; rw [if_pos hle]
    have hlen := thenL_len f t p n
    have hz2 := hb2.size
    obtain ⟨r, hr⟩ : ∃ r, roundR f n t p = r := ⟨_, rfl⟩
    obtain ⟨br, hbr⟩ : ∃ br, r.isSome = br := ⟨_, rfl⟩
    refine WkT.seq E hRo (WkT.region E hRo ?_)
    rw [range_from]
    refine WkT.opsFrom E hRo 0 3 (by simp) (fun a' w' => (∃ τ d, w' = re w2 τ d) ∧ FrIs a' (fun u => #[u 0, u 1, u 2, u 3, .pointer (some ⟨B4, 0, none⟩), u 5, .int .i64 (t p), .pointer (some ⟨B7, 0, none⟩), u 8, u 9, u 10, u 11, u 12, u 13, u 14, u 15, u 16, u 17, u 18, u 19, u 20, u 21, u 22, u 23, u 24, u 25, u 26, u 27, u 28, u 29, u 30, u 31, u 32, u 33, u 34, u 35, u 36, u 37, u 38, u 39, u 40, u 41, u 42, u 43, u 44, u 45, u 46, u 47, u 48, u 49, u 50, u 51, u 52, u 53, u 54, u 55, u 56, u 57, u 58, u 59, u 60, u 61, u 62, u 63, u 64, u 65, u 66, u 67, u 68, u 69, .slice (some ⟨BN, 0, none⟩) (thenL f t p n).length cN, .int .i64 (t p), u 72, u 73, u 74, u 75, u 76, u 77, u 78, u 79, u 80])) ?_ ?_
    · intro τ d
      have nx' : BkOwn (re w2 τ d) B7 (t p) shift (.slice (some ⟨BN, 0, none⟩) (thenL f t p n).length cN) (.slice none 0 0) := nx
      obtain ⟨y0, y1, y2, y3, y4⟩ := nx'.cells
      clear hcont
      simp only [List.drop_zero, List.take_succ_cons, List.take_zero]
      go_wp2
      exact ⟨⟨τ, d, rfl⟩, rfl, rfl⟩
    rintro a' w' ⟨⟨τ, d, rfl⟩, hfr⟩
    clear u
    obtain ⟨u, rfl⟩ := hfr.open
    clear hfr
    refine WkT.planOp E hPl hSB hbt hRo (i := 3) rfl rfl (B := BN) (n := (thenL f t p n).length) (cap := cN) (g := mvF (thenL f t p n)) (now := t p) (shift := 6) (fun w => by simp [execOp, resolve, invoke, Act.eval, go_sem]) (by omega) (fun i hi => round_prom hm hf hp hle hi) (by omega) (by omega) hlN (mv_same rowN rfl) ?_
    intro v V3 hpost
    rw [← hRr, hr] at hpost
    obtain ⟨v5, rfl, t5, hb3'⟩ := post_tk hpost
    have hb3 : Bl w2.heap.size w2 V3 := ⟨hb3'.size, hb3'.block⟩
    replace t5 : Tk r (thenL f t p n).length w2.heap.size V3 v5 := t5
    rw [hbr]
    clear hpost hb3'
    refine WkT.opsFrom E hRo 4 5 (by simp) (fun a' w' => (∃ τ d, w' = re V3 τ d) ∧ FrIs a' (fun u => #[u 0, u 1, u 2, u 3, .pointer (some ⟨B4, 0, none⟩), u 5, .int .i64 (t p), .pointer (some ⟨B7, 0, none⟩), u 8, u 9, v5, .bool br, u 12, u 13, u 14, u 15, u 16, u 17, u 18, u 19, u 20, u 21, u 22, u 23, u 24, u 25, u 26, u 27, u 28, u 29, u 30, u 31, u 32, u 33, u 34, u 35, u 36, u 37, u 38, u 39, u 40, u 41, u 42, u 43, u 44, u 45, u 46, u 47, u 48, u 49, u 50, u 51, u 52, u 53, u 54, u 55, u 56, u 57, u 58, u 59, u 60, u 61, u 62, u 63, u 64, u 65, u 66, u 67, u 68, u 69, u 70, u 71, u 72, u 73, u 74, u 75, u 76, u 77, u 78, u 79, u 80])) ?_ ?_
    · intro τ d
      clear hcont
      simp only [List.drop_succ_cons, List.drop_zero, List.take_succ_cons, List.take_zero, Act.put]
      go_wp2
      exact ⟨⟨τ, d, rfl⟩, rfl, rfl⟩
    rintro a' w' ⟨⟨τ3, d3, rfl⟩, hfr⟩
    clear u
    obtain ⟨u, rfl⟩ := hfr.open
    clear hfr
    refine WkT.regionEnd E hRo ?_
    have hz3 := hb3.size
    have res3 : BkOwn V3 B4 0 0 (.slice none 0 0) (.slice none 0 0) := res.same (hb3.block B4 res.lt)
    have nx3 : BkOwn V3 B7 (t p) shift (.slice (some ⟨BN, 0, none⟩) (thenL f t p n).length cN) (.slice none 0 0) := nx.same (hb3.block B7 nx.lt)
    have rowN3 : MvRow V3 BN 0 (thenL f t p n).length (mvF (thenL f t p n)) := mv_same rowN (hb3.block BN hlN)
    have hb03 : Bl V.heap.size V V3 := hb2.trans hb3 hz2
    have lN := nx.lt
    have l4 := res.lt
    clear nx res rowN hb2 hb3
    have hfin : ∀ (a' : Act) (w' : World) (todo : List Item), (∃ (x0 x1 : Int) (x2 : Option Addr) (l2 c2 : Nat) (x3 : Option Addr) (l3 c3 : Nat), w'.heap[B4]? = some (.cells #[.int .i64 x0, .int .i64 x1, .slice x2 l2 c2, .slice x3 l3 c3] 39 (0, 0)) ∧ Bl V.heap.size V w' ∧ (∀ T, r = some T → ∃ BN BT, V.heap.size ≤ BN ∧ V.heap.size ≤ BT ∧ x0 = t p ∧ x1 = shift ∧ x2 = some ⟨BN, 0, none⟩ ∧ l2 = (thenL f t p n).length ∧ x3 = some ⟨BT, 0, none⟩ ∧ l3 = (thenL f t p n).length ∧ MvRow w' BN 0 (thenL f t p n).length (mvF (thenL f t p n)) ∧ OwnInts w' BT (thenL f t p n).length T) ∧ FrIs a' (fun u => #[u 0, u 1, u 2, u 3, .pointer (some ⟨B4, 0, none⟩), .bool br, u 6, u 7, u 8, u 9, u 10, u 11, u 12, u 13, u 14, u 15, u 16, u 17, u 18, u 19, u 20, u 21, u 22, u 23, u 24, u 25, u 26, u 27, u 28, u 29, u 30, u 31, u 32, u 33, u 34, u 35, u 36, u 37, u 38, u 39, u 40, u 41, u 42, u 43, u 44, u 45, u 46, u 47, u 48, u 49, u 50, u 51, u 52, u 53, u 54, u 55, u 56, u 57, u 58, u 59, u 60, u 61, u 62, u 63, u 64, u 65, u 66, u 67, u 68, u 69, u 70, u 71, u 72, u 73, u 74, u 75, u 76, u 77, u 78, u 79, u 80])) → WkT Tryz0.prog ok c Dr24 Q ⟨{ (base 34).at a' todo with mode := .returning }, r0 :: cs, w'⟩ := by
      rintro a' w' todo ⟨x0, x1, x2, l2, c2, x3, l3, c3, hc, hbl, hT, hfr⟩
      obtain ⟨u, rfl⟩ := hfr.open
      refine WkT.leave E hr0 (v := .tuple #[.agg #[.int .i64 x0, .int .i64 x1, .slice x2 l2 c2, .slice x3 l3 c3], .bool br]) (fun τ d => ⟨rfl, rfl, rfl, _, Tryz0.func34, ?_⟩) (hcont _ _ ⟨⟨x0, x1, x2, l2, c2, x3, l3, c3, by rw [hr, hbr], fun T hT' => hT T (hr.symm.trans hT')⟩, hbl⟩)
      have q0 : (re w' τ d).cell? ⟨B4, 0, none⟩ = some (.int .i64 x0) := by have h : (re w' τ d).heap[B4]? = _ := hc; simp [World.cell?, h]
      have q1 : (re w' τ d).cell? ⟨B4, 1, none⟩ = some (.int .i64 x1) := by have h : (re w' τ d).heap[B4]? = _ := hc; simp [World.cell?, h]
      have q2 : (re w' τ d).cell? ⟨B4, 2, none⟩ = some (.slice x2 l2 c2) := by have h : (re w' τ d).heap[B4]? = _ := hc; simp [World.cell?, h]
      have q3 : (re w' τ d).cell? ⟨B4, 3, none⟩ = some (.slice x3 l3 c3) := by have h : (re w' τ d).heap[B4]? = _ := hc; simp [World.cell?, h]
      show Sem.run Tryz0.prog (results Tryz.f34 ((fun u => #[u 0, u 1, u 2, u 3, .pointer (some ⟨B4, 0, none⟩), .bool br, u 6, u 7, u 8, u 9, u 10, u 11, u 12, u 13, u 14, u 15, u 16, u 17, u 18, u 19, u 20, u 21, u 22, u 23, u 24, u 25, u 26, u 27, u 28, u 29, u 30, u 31, u 32, u 33, u 34, u 35, u 36, u 37, u 38, u 39, u 40, u 41, u 42, u 43, u 44, u 45, u 46, u 47, u 48, u 49, u 50, u 51, u 52, u 53, u 54, u 55, u 56, u 57, u 58, u 59, u 60, u 61, u 62, u 63, u 64, u 65, u 66, u 67, u 68, u 69, u 70, u 71, u 72, u 73, u 74, u 75, u 76, u 77, u 78, u 79, u 80]) u)) (re w' τ d) = .ok (.tuple #[.agg #[.int .i64 x0, .int .i64 x1, .slice x2 l2 c2, .slice x3 l3 c3], .bool br]) (re w' τ d)
      simp [results, Tryz.f34, go_sem, q0, q1, q2, q3]
    refine WkT.last E hRo [_, _, _] (fun a' w' => ∃ (x0 x1 : Int) (x2 : Option Addr) (l2 c2 : Nat) (x3 : Option Addr) (l3 c3 : Nat), w'.heap[B4]? = some (.cells #[.int .i64 x0, .int .i64 x1, .slice x2 l2 c2, .slice x3 l3 c3] 39 (0, 0)) ∧ Bl V.heap.size V w' ∧ (∀ T, r = some T → ∃ BN BT, V.heap.size ≤ BN ∧ V.heap.size ≤ BT ∧ x0 = t p ∧ x1 = shift ∧ x2 = some ⟨BN, 0, none⟩ ∧ l2 = (thenL f t p n).length ∧ x3 = some ⟨BT, 0, none⟩ ∧ l3 = (thenL f t p n).length ∧ MvRow w' BN 0 (thenL f t p n).length (mvF (thenL f t p n)) ∧ OwnInts w' BT (thenL f t p n).length T) ∧ FrIs a' (fun u => #[u 0, u 1, u 2, u 3, .pointer (some ⟨B4, 0, none⟩), .bool br, u 6, u 7, u 8, u 9, u 10, u 11, u 12, u 13, u 14, u 15, u 16, u 17, u 18, u 19, u 20, u 21, u 22, u 23, u 24, u 25, u 26, u 27, u 28, u 29, u 30, u 31, u 32, u 33, u 34, u 35, u 36, u 37, u 38, u 39, u 40, u 41, u 42, u 43, u 44, u 45, u 46, u 47, u 48, u 49, u 50, u 51, u 52, u 53, u 54, u 55, u 56, u 57, u 58, u 59, u 60, u 61, u 62, u 63, u 64, u 65, u 66, u 67, u 68, u 69, u 70, u 71, u 72, u 73, u 74, u 75, u 76, u 77, u 78, u 79, u 80])) ?_ hfin
    intro τ d
    clear hfin hcont
    have res0 : BkOwn (re (re V3 τ3 d3) τ d) B4 0 0 (.slice none 0 0) (.slice none 0 0) := res3
    have nx0 : BkOwn (re (re V3 τ3 d3) τ d) B7 (t p) shift (.slice (some ⟨BN, 0, none⟩) (thenL f t p n).length cN) (.slice none 0 0) := nx3
    have row0 : MvRow (re (re V3 τ3 d3) τ d) BN 0 (thenL f t p n).length (mvF (thenL f t p n)) := mv_same rowN3 rfl
    have t50 : Tk r (thenL f t p n).length w2.heap.size (re (re V3 τ3 d3) τ d) v5 := t5.same fun _ _ _ => rfl
    have hb0 : Bl V.heap.size V (re (re V3 τ3 d3) τ d) := ⟨hb03.size, hb03.block⟩
    revert res0 nx0 row0 t50 hb0
    generalize re (re V3 τ3 d3) τ d = w0
    intro res0 nx0 row0 t50 hb0
    clear res3 nx3 rowN3 t5 hb03
    obtain ⟨r0', r1', r2', r3', r4'⟩ := res0.cells
    obtain ⟨y0, y1, y2, y3, y4⟩ := nx0.cells
    simp only [wpChain]
    cases r with
    | none =>
      subst hbr
      simp only [Option.isSome_none]
      go_wp2
      all_goals first | (exfalso; omega) | skip
      rw [put4 res0]
      right
      exact ⟨by first | rfl | trivial, _, _, _, _, _, _, _, _, setRow_heap _ _ _ _ _ _ res0, ⟨by rw [setRow_size]; exact hb0.size, fun k hk => (setRow_other _ _ _ _ (by omega)).trans (hb0.block k hk)⟩, (fun T h => by cases h), rfl, rfl⟩
    | some T =>
      obtain ⟨BT, cT, hBT, rfl, oT⟩ := t50
      subst hbr
      simp only [Option.isSome_some]
      go_wp2
      all_goals first | (exfalso; omega) | skip
      have hs : ∀ k, k ≠ B7 → (w0.setCell ⟨B7, 3, none⟩ (.slice (some ⟨BT, 0, none⟩) (thenL f t p n).length cT)).heap[k]? = w0.heap[k]? := fun k hk => Below.heap_setCell _ _ _ k hk
      have hz5 : (w0.setCell ⟨B7, 3, none⟩ (.slice (some ⟨BT, 0, none⟩) (thenL f t p n).length cT)).heap.size = w0.heap.size := by simp
      revert hs hz5
      generalize w0.setCell ⟨B7, 3, none⟩ (.slice (some ⟨BT, 0, none⟩) (thenL f t p n).length cT) = w5
      intro hs hz5
      have res5 := res0.same (hs B4 h47)
      rw [put4 res5]
      have ho : ∀ k, k ≠ B7 → k ≠ B4 → ∀ row, (w5.setRow B4 row).heap[k]? = w0.heap[k]? := fun k h1 h2 row => (setRow_other _ _ _ _ h2).trans (hs k h1)
      left
      exact ⟨by first | rfl | trivial, _, _, _, _, _, _, _, _, setRow_heap _ _ _ _ _ _ res5, ⟨by rw [setRow_size, hz5]; exact hb0.size, fun k hk => (ho k (by omega) (by omega) _).trans (hb0.block k hk)⟩, fun T' h => by
        obtain rfl := Option.some.inj h
        exact ⟨BN, BT, hBN, by omega, rfl, rfl, rfl, rfl, rfl, rfl, mv_same row0 (ho BN hN7 hN4 _), own_same oT (ho BT (by omega) (by omega) _)⟩, rfl, rfl⟩
  · rintro a' w2 todo ⟨hle, hb2, hd, h4, h5, res⟩
    refine WkT.leave E hr0 (v := .tuple #[.agg #[.int .i64 0, .int .i64 0, .slice none 0 0, .slice none 0 0], .bool false]) (fun τ d => ⟨rfl, hd, rfl, _, Tryz0.func34, ?_⟩) (hcont _ _ ⟨⟨0, 0, none, 0, 0, none, 0, 0, by unfold roundR; rw [if_neg hle]; rfl, fun T hT => by unfold roundR at hT; rw [if_neg hle] at hT; cases hT⟩, hb2⟩)
    have hc : (re w2 τ d).heap[B4]? = _ := res
    have q0 : (re w2 τ d).cell? ⟨B4, 0, none⟩ = some (.int .i64 0) := by simp [World.cell?, hc]
    have q1 : (re w2 τ d).cell? ⟨B4, 1, none⟩ = some (.int .i64 0) := by simp [World.cell?, hc]
    have q2 : (re w2 τ d).cell? ⟨B4, 2, none⟩ = some (.slice none 0 0) := by simp [World.cell?, hc]
    have q3 : (re w2 τ d).cell? ⟨B4, 3, none⟩ = some (.slice none 0 0) := by simp [World.cell?, hc]
    show Sem.run Tryz0.prog (results Tryz.f34 a'.tmps) (re w2 τ d) = .ok (.tuple #[.agg #[.int .i64 0, .int .i64 0, .slice none 0 0, .slice none 0 0], .bool false]) (re w2 τ d)
    simp [results, Tryz.f34, go_sem, q0, q1, q2, q3, h4, h5]
end
end Go.Proofs.YtlmcblcijndipabGreat

namespace Go.Proofs.YtlmcblcijndipabGreat
open Go Go.RowKit
set_option linter.unusedVariables false
set_option maxHeartbeats 1000000 in
theorem l5Gone_any (m : Mv) (tick : Int) (w : World) (h0 : 0 ≤ tick) (h1 : tick ≤ 20000) :
    Calls Tryz0.prog 98 #[.agg #[.string m.name, .bool m.lands, .int .i64 m.wake, .int .i64 m.est, .int .i64 m.late, .int .i64 m.prom], .int .i64 tick] w fun e w' => e = .returned (.tuple #[.agg #[.string m.name, .bool m.lands, .int .i64 m.wake, .int .i64 (tick + 6), .int .i64 m.late, .int .i64 (-1)], .bool (decide (tick + 6 ≤ m.late))]) ∧ Below w.heap.size w w' := by
  have hwr : IntKind.i64.wrap (tick + 6) = tick + 6 := by rw [IntKind.wrap_i64]; omega
  go_enter Tryz0.func98, Tryz.ntmps98
  go_wp2
  go_region
  all_goals
    go_wp2
    refine bodyPost_ret (v := .tuple #[.agg #[.string m.name, .bool m.lands, .int .i64 m.wake, .int .i64 (tick + 6), .int .i64 m.late, .int .i64 (-1)], .bool (decide (tick + 6 ≤ m.late))]) (by simp [results, Tryz.results98, go_sem]) rfl ⟨rfl, ?_⟩
    repeat (first | exact Below.refl _ _ | refine Below.drew ?_ | refine Below.alloc ?_ (by simp <;> omega) _ | refine Below.setCell ?_ (by simp <;> omega) _)
def ThenPost (f : Nat → Mv) (n : Nat) (t : Nat → Int) (p : Nat) (shift : Int) (w : World) (e : Ending) (w' : World) : Prop :=
  if t p + 6 ≤ (f p).late then ∃ BN cN, e = .returned (.tuple #[.agg #[.int .i64 (t p), .int .i64 shift, .slice (some ⟨BN, 0, none⟩) (thenL f t p n).length cN, .slice none 0 0], .bool true]) ∧ w.heap.size ≤ BN ∧ BN < w'.heap.size ∧ MvRow w' BN 0 (thenL f t p n).length (mvF (thenL f t p n))
  else e = .returned (.tuple #[.agg #[.int .i64 0, .int .i64 0, .slice none 0 0, .slice none 0 0], .bool false])
set_option maxRecDepth 10000 in
set_option maxHeartbeats 4000000 in
theorem l5Then_row (b n cap b' cap' p : Nat) (f : Nat → Mv) (t : Nat → Int) (now shift : Int) (w : World) (hm : movesB f n = true) (hf : FitTo f t n) (hp : p < n) (hbs : b < w.heap.size) (hrow : MvRow w b 0 n f) (hbs' : b' < w.heap.size) (hrow' : IntRow w b' 0 n t) :
    Calls Tryz0.prog 53 #[.agg #[.int .i64 now, .int .i64 shift, .slice (some ⟨b, 0, none⟩) n cap, .slice (some ⟨b', 0, none⟩) n cap'], .int .i64 p] w fun e w' => ThenPost f n t p shift w e w' ∧ Below w.heap.size w w' := by
  have h6 := movesB_six hm
  have hokp := Mv.ok_bd (movesB_ok hm p hp)
  have hsp := suits_bd (hf.1 p hp)
  have hpn : (p : Int) < n := by omega
  have tp := hrow' p hp
  simp only [Nat.zero_add] at tp
  have hB0 : ∀ o1 o2, Below w.heap.size w ((w.alloc o1).alloc o2) := fun o1 o2 => ((Below.refl _ w).alloc (Nat.le_refl _) _).alloc (by simp) _
  have tp2 : ∀ o1 o2, ((w.alloc o1).alloc o2).cell? ⟨b', p, none⟩ = some (.int .i64 (t p)) := fun o1 o2 => ((hB0 o1 o2).cell (p := ⟨b', p, none⟩) hbs').trans tp
  obtain ⟨iM, hI, hz0i, hi1, hi2⟩ := infoC_ex
  have hlen := thenL_len f t p
  go_enter Tryz0.func53, Tryz.ntmps53
  go_wp2
  have hbk1 : BkOwn (((w.alloc (.cells #[.int .i64 now, .int .i64 shift, .slice (some ⟨b, 0, none⟩) n cap, .slice (some ⟨b', 0, none⟩) n cap'] 39)).alloc (.cells #[.int .i64 0, .int .i64 0, .slice none 0 0, .slice none 0 0] 39)).alloc (.cells #[.int .i64 (t p), .int .i64 shift, .slice none 0 0, .slice none 0 0] 39)) w.heap.size now shift (.slice (some ⟨b, 0, none⟩) n cap) (.slice (some ⟨b', 0, none⟩) n cap') := (Below.heap_alloc _ _ _ (by simp; omega)).trans ((Below.heap_alloc _ _ _ (by simp)).trans (heap_alloc_new _ _))
  have hbk2 : BkOwn (((w.alloc (.cells #[.int .i64 now, .int .i64 shift, .slice (some ⟨b, 0, none⟩) n cap, .slice (some ⟨b', 0, none⟩) n cap'] 39)).alloc (.cells #[.int .i64 0, .int .i64 0, .slice none 0 0, .slice none 0 0] 39)).alloc (.cells #[.int .i64 (t p), .int .i64 shift, .slice none 0 0, .slice none 0 0] 39)) (w.heap.size + 1) 0 0 (.slice none 0 0) (.slice none 0 0) := (Below.heap_alloc _ _ _ (by simp)).trans (alloc2_new _ _ _)
  have hbk3 : BkOwn (((w.alloc (.cells #[.int .i64 now, .int .i64 shift, .slice (some ⟨b, 0, none⟩) n cap, .slice (some ⟨b', 0, none⟩) n cap'] 39)).alloc (.cells #[.int .i64 0, .int .i64 0, .slice none 0 0, .slice none 0 0] 39)).alloc (.cells #[.int .i64 (t p), .int .i64 shift, .slice none 0 0, .slice none 0 0] 39)) (w.heap.size + 1 + 1) (t p) shift (.slice none 0 0) (.slice none 0 0) := by
    have := alloc2_new (w.alloc (.cells #[.int .i64 now, .int .i64 shift, .slice (some ⟨b, 0, none⟩) n cap, .slice (some ⟨b', 0, none⟩) n cap'] 39)) (.cells #[.int .i64 0, .int .i64 0, .slice none 0 0, .slice none 0 0] 39) (.cells #[.int .i64 (t p), .int .i64 shift, .slice none 0 0, .slice none 0 0] 39)
    rw [World.size_alloc] at this
    exact this
  have hbl : Below w.heap.size w (((w.alloc (.cells #[.int .i64 now, .int .i64 shift, .slice (some ⟨b, 0, none⟩) n cap, .slice (some ⟨b', 0, none⟩) n cap'] 39)).alloc (.cells #[.int .i64 0, .int .i64 0, .slice none 0 0, .slice none 0 0] 39)).alloc (.cells #[.int .i64 (t p), .int .i64 shift, .slice none 0 0, .slice none 0 0] 39)) := (hB0 _ _).alloc (by simp; omega) _
  obtain ⟨B4, hB4⟩ : ∃ B, B = w.heap.size + 1 := ⟨_, rfl⟩
  obtain ⟨B7, hB7⟩ : ∃ B, B = w.heap.size + 1 + 1 := ⟨_, rfl⟩
  rw [← hB7] at hbk3 ⊢
  rw [← hB4] at hbk2 ⊢
  have q4 : w.heap.size < B4 ∧ B4 < w.heap.size + 3 ∧ B4 ≠ B7 := ⟨by omega, by omega, by omega⟩
  have q7 : w.heap.size < B7 ∧ B7 < w.heap.size + 3 := ⟨by omega, by omega⟩
  clear hB4 hB7
  obtain ⟨q41, q42, q43⟩ := q4
  obtain ⟨q71, q72⟩ := q7
  go_loopw [8, 9, 10, 11] (fun x _ _ _ W => ∃ (k : Nat) (vM : Value), x = .int .i64 k ∧ k ≤ n ∧ (¬ t p + 6 ≤ (f p).late → k ≤ p) ∧ Rb w (w.heap.size + 3) w.heap.size B4 B7 now shift (t p) (.slice (some ⟨b, 0, none⟩) n cap) (.slice (some ⟨b', 0, none⟩) n cap') vM (thenL f t p k) W) (fun x _ _ _ _ => n - (intOf x).toNat)
  case atStart => exact ⟨0, .slice none 0 0, rfl, Nat.zero_le _, fun _ => Nat.zero_le _, ⟨hbk1, hbk2, hbk3, World.ownsRow_nil _ _ _ _, hbl, by simp⟩⟩
  case round =>
    clear hbk1 hbk2 hbk3 hbl tp2 hB0
    obtain ⟨k, vM, rfl, hk, hkp0, hR⟩ := hrel
    have lbr := Nat.lt_of_lt_of_le hbs hR.below.size
    have lbr' := Nat.lt_of_lt_of_le hbs' hR.below.size
    have lb2 := hR.bk.lt
    have lb4 := hR.res.lt
    have lb7 := hR.nx.lt
    obtain ⟨m0, m1, m2, m3, m4⟩ := hR.bk.cells
    obtain ⟨x0, x1, x2, x3, x4⟩ := hR.nx.cells
    by_cases hlt : k < n
    · have hlt' : (k : Int) < n := by omega
      obtain ⟨c0, c1, c2, c3, c4, c5⟩ := hrow.below hR.below hbs k hlt
      have tk := hrow'.below hR.below hbs' k hlt
      simp only [Nat.zero_add] at c0 c1 c2 c3 c4 c5 tk
      have hLk := hlen k
      by_cases hkp : k = p
      · subst hkp
        have HQ := fun W => l5Gone_any (f k) (t k) W (by omega) (by omega)
        by_cases hle : t k + 6 ≤ (f k).late
        · go_wp2_with (first
            | (go_at_call 98; refine (HQ _).mono ?_; clear HQ; rintro e w3 ⟨rfl, b3⟩; have hR3 := (hR.grow ((Below.refl _ _).alloc (Nat.le_refl _) _)).grow b3; obtain ⟨y0, y1, y2, y3, y4⟩ := hR3.nx.cells; have lb73 := hR3.nx.lt; have y2' : ∀ o, (w3.alloc o).cell? ⟨B7, 2, none⟩ = some vM := (fun o => (World.cell?_alloc_past _ _ _ lb73).trans y2); have HG := fun W (hb : Below w3.heap.size w3 W) => hR3.grow hb)
            | (at_builtin; refine wpList_append_own _ rfl (.tmp 46) (.tmp 48) 27 rfl (w.heap.size + 3) 48 iM _ 6 56 infoC_moves hI hz0i hi1 hi2 rfl (by decide) vM (thenL f t k k).length (rowC (mvF (thenL f t k k)) (thenL f t k k).length) (by rfl) (HG _ (by repeat (first | exact Below.refl _ _ | refine Below.alloc ?_ (by simp <;> omega) _ | refine Below.setCell ?_ (by simp <;> omega) _))).own ⟨w3.heap.size + 1, 0, none⟩ 1 1 (Mv.cells (goneMv (f k) (t k))).toList (by rfl) rfl (newC (alloc2_new _ _ _)) (oneC_mv _) (by unfold maxLen; omega) (by omega) (HG _ (by repeat (first | exact Below.refl _ _ | refine Below.alloc ?_ (by simp <;> omega) _ | refine Below.setCell ?_ (by simp <;> omega) _))).big ?_; intro v8 w8 ho8 hg8 _; obtain ⟨B8, c8, rfl⟩ := ownC_some ho8; obtain ⟨k0', k1', k2', k3', k4'⟩ := ((HG _ (by repeat (first | exact Below.refl _ _ | refine Below.alloc ?_ (by simp <;> omega) _ | refine Below.setCell ?_ (by simp <;> omega) _))).nx8 hg8 (by omega)).cells; have l8 : B7 < w8.heap.size := ((HG _ (by repeat (first | exact Below.refl _ _ | refine Below.alloc ?_ (by simp <;> omega) _ | refine Below.setCell ?_ (by simp <;> omega) _))).nx8 hg8 (by omega)).lt))
          all_goals first | (exfalso; omega) | skip
          go_roundw
          case rel => exact ⟨k + 1, _, by go_num, by omega, fun h => absurd hle h, by rw [thenL_keep (by omega), then_self]; exact (HG _ (by repeat (first | exact Below.refl _ _ | refine Below.alloc ?_ (by simp <;> omega) _ | refine Below.setCell ?_ (by simp <;> omega) _))).append (by omega) (by omega) (by omega) (by omega) (by omega) (by omega) ho8 hg8⟩
          case measure => simp [intOf]; omega
        · have hdl : decide (t k + 6 ≤ (f k).late) = false := by simpa using hle
          have HD : Hid (decide (t k + 6 ≤ (f k).late) = false) := hdl
          go_wp2_with (go_at_call 98; refine (HQ _).mono ?_; clear HQ; rintro e w3 ⟨rfl, b3⟩; rw [HD.out]; have hR3 := (hR.grow ((Below.refl _ _).alloc (Nat.le_refl _) _)).grow b3; obtain ⟨y0, y1, y2, y3, y4⟩ := hR3.res.cells; have lb43 := hR3.res.lt)
          all_goals first | (exfalso; omega) | skip
          rw [put4 hR3.res]
          have hs5 := setRow_heap w3 B4 _ #[.int .i64 0, .int .i64 0, .slice none 0 0, .slice none 0 0] _ _ hR3.res
          have hb5 := below_setRow hR3.below (by omega : w.heap.size ≤ B4) #[.int .i64 0, .int .i64 0, .slice none 0 0, .slice none 0 0]
          have hz5 : (w3.setRow B4 #[.int .i64 0, .int .i64 0, .slice none 0 0, .slice none 0 0]).heap.size = w3.heap.size := setRow_size _ _ _
          revert hs5 hb5 hz5
          generalize w3.setRow B4 #[.int .i64 0, .int .i64 0, .slice none 0 0, .slice none 0 0] = W5
          intro hs5 hb5 hz5
          have hb6 := fun o => hb5.alloc (o := o) hb5.size
          have hs6 := fun o => (Below.heap_alloc W5 o B4 (by omega)).trans hs5
          have q0 : ∀ o, (W5.alloc o).cell? ⟨B4, 0, none⟩ = some (.int .i64 0) := fun o => by simp [World.cell?, hs6]
          have q1 : ∀ o, (W5.alloc o).cell? ⟨B4, 1, none⟩ = some (.int .i64 0) := fun o => by simp [World.cell?, hs6]
          have q2 : ∀ o, (W5.alloc o).cell? ⟨B4, 2, none⟩ = some (.slice none 0 0) := fun o => by simp [World.cell?, hs6]
          have q3 : ∀ o, (W5.alloc o).cell? ⟨B4, 3, none⟩ = some (.slice none 0 0) := fun o => by simp [World.cell?, hs6]
          refine bodyPost_ret (v := .tuple #[.agg #[.int .i64 0, .int .i64 0, .slice none 0 0, .slice none 0 0], .bool false]) ?_ rfl ⟨by unfold ThenPost; rw [if_neg (by omega)], hb6 _⟩
          simp [results, Tryz.f53, go_sem, q0, q1, q2, q3]
      · have hkp' : ¬ (k : Int) = p := by omega
        by_cases hsk : t k < t p
        · go_wp2
          all_goals first | (exfalso; omega) | skip
          go_roundw
          case rel => exact ⟨k + 1, vM, by go_num, by omega, fun h => by have := hkp0 h; omega, by simp only [thenL, if_pos hsk]; exact hR.grow ((Below.refl _ _).alloc (Nat.le_refl _) _)⟩
          case measure => simp [intOf]; omega
        · have hwr : IntKind.i64.wrap (t p + 4) = t p + 4 := by rw [IntKind.wrap_i64]; omega
          have HG := fun W (hb : Below wr.heap.size wr W) => hR.grow hb
          by_cases hso : t k < t p + 4
          · go_wp2_with (at_builtin; refine wpList_append_own _ rfl (.tmp 73) (.tmp 75) 27 rfl (w.heap.size + 3) 48 iM _ 6 56 infoC_moves hI hz0i hi1 hi2 rfl (by decide) vM (thenL f t p k).length (rowC (mvF (thenL f t p k)) (thenL f t p k).length) (by rfl) (HG _ (by repeat (first | exact Below.refl _ _ | refine Below.alloc ?_ (by simp <;> omega) _ | refine Below.setCell ?_ (by simp <;> omega) _))).own ⟨wr.heap.size + 1, 0, none⟩ 1 1 (Mv.cells ({ f k with prom := t k })).toList (by rfl) rfl (newC (alloc2_new _ _ _)) (oneC_mv _) (by unfold maxLen; omega) (by omega) (HG _ (by repeat (first | exact Below.refl _ _ | refine Below.alloc ?_ (by simp <;> omega) _ | refine Below.setCell ?_ (by simp <;> omega) _))).big ?_; intro v8 w8 ho8 hg8 _; obtain ⟨B8, c8, rfl⟩ := ownC_some ho8; obtain ⟨k0', k1', k2', k3', k4'⟩ := ((HG _ (by repeat (first | exact Below.refl _ _ | refine Below.alloc ?_ (by simp <;> omega) _ | refine Below.setCell ?_ (by simp <;> omega) _))).nx8 hg8 (by omega)).cells; have l8 : B7 < w8.heap.size := ((HG _ (by repeat (first | exact Below.refl _ _ | refine Below.alloc ?_ (by simp <;> omega) _ | refine Below.setCell ?_ (by simp <;> omega) _))).nx8 hg8 (by omega)).lt)
            all_goals first | (exfalso; omega) | skip
            go_roundw
            case rel => exact ⟨k + 1, _, by go_num, by omega, fun h => by have := hkp0 h; omega, by rw [thenL_keep (by omega), then_else hkp, show promMv (f k) (t k) (t p) = { f k with prom := t k } by unfold promMv; rw [if_pos (by omega)]]; exact (HG _ (by repeat (first | exact Below.refl _ _ | refine Below.alloc ?_ (by simp <;> omega) _ | refine Below.setCell ?_ (by simp <;> omega) _))).append (by omega) (by omega) (by omega) (by omega) (by omega) (by omega) ho8 hg8⟩
            case measure => simp [intOf]; omega
          · go_wp2_with (at_builtin; refine wpList_append_own _ rfl (.tmp 73) (.tmp 75) 27 rfl (w.heap.size + 3) 48 iM _ 6 56 infoC_moves hI hz0i hi1 hi2 rfl (by decide) vM (thenL f t p k).length (rowC (mvF (thenL f t p k)) (thenL f t p k).length) (by rfl) (HG _ (by repeat (first | exact Below.refl _ _ | refine Below.alloc ?_ (by simp <;> omega) _ | refine Below.setCell ?_ (by simp <;> omega) _))).own ⟨wr.heap.size + 1, 0, none⟩ 1 1 (Mv.cells (f k)).toList (by rfl) rfl (newC (alloc2_new _ _ _)) (oneC_mv _) (by unfold maxLen; omega) (by omega) (HG _ (by repeat (first | exact Below.refl _ _ | refine Below.alloc ?_ (by simp <;> omega) _ | refine Below.setCell ?_ (by simp <;> omega) _))).big ?_; intro v8 w8 ho8 hg8 _; obtain ⟨B8, c8, rfl⟩ := ownC_some ho8; obtain ⟨k0', k1', k2', k3', k4'⟩ := ((HG _ (by repeat (first | exact Below.refl _ _ | refine Below.alloc ?_ (by simp <;> omega) _ | refine Below.setCell ?_ (by simp <;> omega) _))).nx8 hg8 (by omega)).cells; have l8 : B7 < w8.heap.size := ((HG _ (by repeat (first | exact Below.refl _ _ | refine Below.alloc ?_ (by simp <;> omega) _ | refine Below.setCell ?_ (by simp <;> omega) _))).nx8 hg8 (by omega)).lt)
            all_goals first | (exfalso; omega) | skip
            go_roundw
            case rel => exact ⟨k + 1, _, by go_num, by omega, fun h => by have := hkp0 h; omega, by rw [thenL_keep (by omega), then_else hkp, show promMv (f k) (t k) (t p) = f k by unfold promMv; rw [if_neg (by omega)]]; exact (HG _ (by repeat (first | exact Below.refl _ _ | refine Below.alloc ?_ (by simp <;> omega) _ | refine Below.setCell ?_ (by simp <;> omega) _))).append (by omega) (by omega) (by omega) (by omega) (by omega) (by omega) ho8 hg8⟩
            case measure => simp [intOf]; omega
    · have hlt' : ¬ (k : Int) < n := by omega
      have hkn : k = n := by omega
      subst hkn
      have hle : t p + 6 ≤ (f p).late := by
        by_cases h : t p + 6 ≤ (f p).late
        · exact h
        · have := hkp0 h; omega
      have hpos := thenL_pos (f := f) (t := t) (p := p) hp
      obtain ⟨BN, cN, rfl⟩ : ∃ BN cN, vM = .slice (some ⟨BN, 0, none⟩) (thenL f t p k).length cN := by
        rcases hR.own.2 with ⟨_, e⟩ | ⟨g, cap, cur, e, _⟩
        · omega
        · exact ⟨g, cap, e⟩
      obtain ⟨lo, hi⟩ := hR.own.lt BN rfl
      obtain ⟨s0, s1, s2, s3, s4⟩ := hR.res.cells
      go_wp2
      all_goals first | (exfalso; omega) | skip
      rw [put4 hR.res]
      have hs5 := setRow_heap wr B4 _ #[.int .i64 (t p), .int .i64 shift, .slice (some ⟨BN, 0, none⟩) (thenL f t p k).length cN, .slice none 0 0] _ _ hR.res
      have hb5 := below_setRow hR.below (by omega : w.heap.size ≤ B4) #[.int .i64 (t p), .int .i64 shift, .slice (some ⟨BN, 0, none⟩) (thenL f t p k).length cN, .slice none 0 0]
      have hz5 : (wr.setRow B4 #[.int .i64 (t p), .int .i64 shift, .slice (some ⟨BN, 0, none⟩) (thenL f t p k).length cN, .slice none 0 0]).heap.size = wr.heap.size := setRow_size _ _ _
      have hn5 : (wr.setRow B4 #[.int .i64 (t p), .int .i64 shift, .slice (some ⟨BN, 0, none⟩) (thenL f t p k).length cN, .slice none 0 0]).heap[BN]? = wr.heap[BN]? := setRow_other _ _ _ _ (by omega)
      have rN := rowC_own hR.own
      revert hs5 hb5 hz5 hn5
      generalize wr.setRow B4 #[.int .i64 (t p), .int .i64 shift, .slice (some ⟨BN, 0, none⟩) (thenL f t p k).length cN, .slice none 0 0] = W5
      intro hs5 hb5 hz5 hn5
      have q0 : W5.cell? ⟨B4, 0, none⟩ = some (.int .i64 (t p)) := by simp [World.cell?, hs5]
      have q1 : W5.cell? ⟨B4, 1, none⟩ = some (.int .i64 shift) := by simp [World.cell?, hs5]
      have q2 : W5.cell? ⟨B4, 2, none⟩ = some (.slice (some ⟨BN, 0, none⟩) (thenL f t p k).length cN) := by simp [World.cell?, hs5]
      have q3 : W5.cell? ⟨B4, 3, none⟩ = some (.slice none 0 0) := by simp [World.cell?, hs5]
      refine bodyPost_ret (v := .tuple #[.agg #[.int .i64 (t p), .int .i64 shift, .slice (some ⟨BN, 0, none⟩) (thenL f t p k).length cN, .slice none 0 0], .bool true]) ?_ rfl ⟨by unfold ThenPost; rw [if_pos hle]; exact ⟨BN, cN, rfl, by omega, by omega, mv_same rN hn5⟩, hb5⟩
      simp [results, Tryz.f53, go_sem, q0, q1, q2, q3]
end Go.Proofs.YtlmcblcijndipabGreat

namespace Go.Proofs.YtlmcblcijndipabGreat
open Go Go.RowKit
set_option linter.unusedVariables false
def LaterPost (g : Nat → Mv) (n : Nat) (frm : Int) (w : World) (e : Ending) (w' : World) : Prop :=
  if ∀ i, i < n → raiseOk (g i) frm = true then ∃ B c, e = .returned (.tuple #[.slice (some ⟨B, 0, none⟩) n c, .bool true]) ∧ w.heap.size ≤ B ∧ B < w'.heap.size ∧ MvRow w' B 0 n (raiseF g frm)
  else ∃ a l c, e = .returned (.tuple #[.slice a l c, .bool false])
theorem raiseTo_high {g : Nat → Mv} {frm : Int} {k : Nat} (h : (g k).prom = -1) (hx : frm ≤ (g k).est) (i : Nat) : raiseTo g frm k i = raiseTo g frm (k + 1) i := by
  unfold raiseTo
  by_cases e : i = k
  · subst e
    rw [if_neg (by omega), if_pos (by omega)]
    unfold raiseMv
    rw [if_pos h, show max (g i).est frm = (g i).est by omega]
  · by_cases h1 : i < k
    · rw [if_pos h1, if_pos (by omega)]
    · rw [if_neg h1, if_neg (by omega)]
set_option maxRecDepth 10000 in
set_option maxHeartbeats 4000000 in
theorem l5Later_row (b n cap : Nat) (g : Nat → Mv) (frm : Int) (w : World) (hpos : 0 < n) (hn : n ≤ 6) (hg : ∀ i, i < n → (g i).ok = true) (h0 : 0 ≤ frm) (h1 : frm ≤ 30000) (hbs : b < w.heap.size) (hrow : MvRow w b 0 n g) :
    Calls Tryz0.prog 99 #[.slice (some ⟨b, 0, none⟩) n cap, .int .i64 frm] w fun e w' => LaterPost g n frm w e w' ∧ Below w.heap.size w w' := by
  obtain ⟨iM, hI, hz0, hi1, hi2⟩ := infoC_ex
  have bA : Below w.heap.size w (w.alloc (.cells #[] 48)) := (Below.refl _ _).alloc (Nat.le_refl _) _
  have hown : (w.alloc (.cells #[] 48)).ownsRow w.heap.size 48 6 (.slice (some ⟨w.heap.size, 0, none⟩) 0 0) 0 [] := World.ownsRow_made w #[] 0 (Nat.le_refl _) (by unfold maxLen; omega) (by simp)
  have hpl0 : AllPl (w.alloc (.cells #[] 48)) (.slice (some ⟨w.heap.size, 0, none⟩) 0 0) := fun B hB => by
    simp only [Value.ownBlock, Option.some.injEq] at hB
    subst hB
    exact ⟨#[], _, heap_alloc_new _ _, fun v hv => by simp at hv⟩
  go_enter Tryz0.func99, Tryz.ntmps99
  go_wp2_with (at_builtin; refine wpList_append_pl rfl (.tmp 8) (.tmp 9) 27 rfl w.heap.size 48 iM _ 6 56 infoC_moves hI hz0 hi1 hi2 rfl (by decide) (.slice (some ⟨w.heap.size, 0, none⟩) 0 0) 0 [] (by rfl) hown hpl0 ⟨b, 0, none⟩ n cap (rowC g n) (by rfl) (rowC_len g n) (rowC_cells (hrow.below bA hbs)) (rowC_one g n) (rowC_plain g n) plainC_zero (by unfold maxLen; omega) (by omega) (by simp) ?_; intro v8 w8 ho8 hg8 hp8; simp only [Nat.zero_add, List.nil_append] at ho8)
  have hb8 : Below w.heap.size w w8 := bA.grown hg8 bA.size (fun q hq => by simp [Value.ownBlock] at hq; omega)
  obtain ⟨B, c, rfl⟩ : ∃ B c, v8 = .slice (some ⟨B, 0, none⟩) n c := by
    rcases ho8.2 with ⟨e, hz⟩ | ⟨gg, cc, cur, e, _⟩
    · omega
    · exact ⟨gg, cc, e⟩
  have row8 := rowC_own ho8
  have pl8 := hp8 B rfl
  have hB0 := (ho8.lt B rfl).1
  clear ho8 hg8 hp8 hown hpl0 bA
  go_loopw [7] (fun x W => ∃ k : Nat, x = .int .i64 k ∧ k ≤ n ∧ Below w.heap.size w W ∧ MvRow W B 0 n (raiseTo g frm k) ∧ PlainRow W B ∧ ∀ i, i < k → raiseOk (g i) frm = true) (fun x _ => n - (intOf x).toNat)
  case atStart => exact ⟨0, rfl, Nat.zero_le _, hb8, row8.fcongr fun i _ => by unfold raiseTo; rw [if_neg (by omega)], pl8, fun i hi => absurd hi (Nat.not_lt_zero _)⟩
  case round =>
    clear row8 pl8 hb8
    obtain ⟨k, rfl, hk, hBr, hrw, hpl, hall⟩ := hrel
    by_cases hlt : k < n
    · have hlt' : (k : Int) < n := by omega
      have hgk : raiseTo g frm k k = g k := by unfold raiseTo; rw [if_neg (Nat.lt_irrefl _)]
      have hok := Mv.ok_bd (hg k hlt)
      obtain ⟨c0, c1, c2, c3, c4, c5⟩ := hrw k hlt
      rw [hgk] at c0 c1 c2 c3 c4 c5
      simp only [Nat.zero_add] at c0 c1 c2 c3 c4 c5
      have hlB := hpl.lt
      by_cases hp : (g k).prom = -1
      · have hp0 : (g k).prom < 0 := by omega
        by_cases he : (g k).est < frm
        · have hfr3 := plain_fr hpl (k * 6 + 3)
          have hx : max (g k).est frm = frm := by omega
          have rS := (row_est hrw hlt frm).fcongr (fun i _ => raiseTo_up hp hx i)
          have pS : PlainRow (wr.setCell ⟨B, k * 6 + 3, none⟩ (.int .i64 frm)) B := hpl.set (.inr (.inl ⟨_, _, rfl⟩))
          have bS := hBr.setCell (p := ⟨B, k * 6 + 3, none⟩) hB0 (.int .i64 frm)
          have lS : (wr.setCell ⟨B, k * 6 + 3, none⟩ (.int .i64 frm)).cell? ⟨B, k * 6 + 4, none⟩ = some (.int .i64 (g k).late) := (World.cell?_setCell_other _ _ _ _ (by simp)).trans c4
          by_cases hle : frm ≤ (g k).late
          · have hnl : ¬ (g k).late < frm := by omega
            go_wp2
            all_goals first | (exfalso; omega) | skip
            go_roundw
            case rel => exact ⟨k + 1, by go_num, by omega, bS, rS, pS, fun i hi => by
              by_cases e : i = k
              · subst e; rw [raiseOk_at hp]; simpa using hle
              · exact hall i (by omega)⟩
            case measure => simp [intOf]; omega
          · have hnl : (g k).late < frm := by omega
            have hno : ¬ ∀ i, i < n → raiseOk (g i) frm = true := fun h => by
              have := h k hlt
              rw [raiseOk_at hp] at this
              simp at this
              omega
            go_wp2
            all_goals first | (exfalso; omega) | skip
            go_ret2
            exact ⟨by unfold LaterPost; rw [if_neg hno]; exact ⟨_, _, _, rfl⟩, bS⟩
        · go_wp2
          all_goals first | (exfalso; omega) | skip
          go_roundw
          case rel => exact ⟨k + 1, by go_num, by omega, hBr, hrw.fcongr (fun i _ => raiseTo_high hp (by omega) i), hpl, fun i hi => by
            by_cases e : i = k
            · subst e; rw [raiseOk_at hp]; simp; omega
            · exact hall i (by omega)⟩
          case measure => simp [intOf]; omega
      · have hp0 : ¬ (g k).prom < 0 := by omega
        go_wp2
        all_goals first | (exfalso; omega) | skip
        go_roundw
        case rel => exact ⟨k + 1, by go_num, by omega, hBr, hrw.fcongr (fun i _ => raiseTo_stay hp i), hpl, fun i hi => by
          by_cases e : i = k
          · subst e; exact raiseOk_no hp
          · exact hall i (by omega)⟩
        case measure => simp [intOf]; omega
    · have hlt' : ¬ (k : Int) < n := by omega
      have hkn : k = n := by omega
      subst hkn
      go_wp2
      all_goals first | (exfalso; omega) | skip
      go_ret2
      exact ⟨by unfold LaterPost; rw [if_pos hall]; exact ⟨B, c, rfl, hB0, hpl.lt, hrw.fcongr (fun i hi => by unfold raiseTo raiseF; rw [if_pos hi])⟩, hBr⟩
theorem l5Plan_row (b n cap : Nat) (g : Nat → Mv) (now shift : Int) (w : World) (hpos : 0 < n) (hn : n ≤ 6) (hg : ∀ i, i < n → (g i).ok = true) (h0 : 0 ≤ now) (h1 : now ≤ 20000) (hs0 : 0 ≤ shift) (hs6 : shift ≤ 6) (hmv : (∀ i, i < n → raiseOk (g i) (now + 4) = true) → movesB (raiseF g (now + 4)) n = true) (hbs : b < w.heap.size) (hrow : MvRow w b 0 n g) :
    Calls Tryz0.prog 54 #[.slice (some ⟨b, 0, none⟩) n cap, .int .i64 now, .int .i64 shift] w fun e w' => EarlSays (planR g n now shift) n w e w' ∧ Below w.heap.size w w' := by
  have hwr : IntKind.i64.wrap (now + 4) = now + 4 := by rw [IntKind.wrap_i64]; omega
  have H1 := l5Later_row b n cap g (now + 4) w hpos hn hg (by omega) (by omega) hbs hrow
  go_enter Tryz0.func54, Tryz.ntmps54
  by_cases hall : ∀ i, i < n → raiseOk (g i) (now + 4) = true
  · have hm := hmv hall
    have hP : planR g n now shift = bestO (raiseF g (now + 4)) n ((allP n).filter (nearD (raiseF g (now + 4)) n shift)) := by
      unfold planR bestR; rw [if_pos hall, if_pos ⟨hm, hs0, hs6⟩]
    rw [hP]
    clear hmv hP
    go_wp2_with (first
      | (go_at_call 99; refine H1.mono ?_; clear H1; rintro e w1 ⟨l1, b1⟩; unfold LaterPost at l1; rw [if_pos hall] at l1; obtain ⟨B, c, rfl, hB0, hB, r1⟩ := l1; have H2 := l4Best_row B 0 n c (raiseF g (now + 4)) shift w1 hm hB r1 (nearD (raiseF g (now + 4)) n shift) (nearD_near _ n shift))
      | (go_at_call 22; refine H2.mono ?_; clear H2; rintro e w2 ⟨s2, b2⟩; have s2' := says_low s2 b1.size; clear s2; obtain ⟨sa, sn, sc, sb, rfl⟩ := says_form s2'))
    go_ret2
    exact ⟨s2', b1.trans (b2.mono b1.size)⟩
  · have hP : planR g n now shift = none := by unfold planR; rw [if_neg hall]
    rw [hP]
    clear hmv hP
    go_wp2_with (go_at_call 99; refine H1.mono ?_; clear H1; rintro e w1 ⟨l1, b1⟩; unfold LaterPost at l1; rw [if_neg hall] at l1; obtain ⟨a1, n1, c1, rfl⟩ := l1)
    go_ret2
    exact ⟨⟨_, _, rfl⟩, b1.alloc b1.size _⟩
end Go.Proofs.YtlmcblcijndipabGreat
