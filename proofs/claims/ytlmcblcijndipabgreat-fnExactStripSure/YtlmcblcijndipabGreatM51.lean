/- Texts of the proof, one behind another: Y4, Y7, Y8. -/
import Derived.Test.YtlmcblcijndipabGreatM50
import Derived.Test.YtlmcblcijndipabGreatM30
import Derived.Test.YtlmcblcijndipabGreatM33
import Derived.Deep.RegionHeld3
namespace Go.Proofs.YtlmcblcijndipabGreat
open Go Go.Conc Go.RowKit
set_option linter.unusedVariables false
set_option linter.unusedSectionVars false
noncomputable def sureB (now shift : Int) (f : Nat → Mv) (n : Nat) (t : Nat → Int) (m : Nat) : Bool := bookB now shift f n t m && @decide (sureP f n t) (Classical.propDecidable _)
theorem sureB_no {now shift : Int} {f : Nat → Mv} {n m : Nat} {t : Nat → Int} (h : bookB now shift f n t m = false) : sureB now shift f n t m = false := by unfold sureB; rw [h]; rfl
theorem sureB_yes {now shift : Int} {f : Nat → Mv} {n m : Nat} {t : Nat → Int} (h : bookB now shift f n t m = true) (hs : sureP f n t) : sureB now shift f n t m = true := by unfold sureB; rw [h]; simpa using hs
theorem sureB_not {now shift : Int} {f : Nat → Mv} {n m : Nat} {t : Nat → Int} (hs : ¬ sureP f n t) : sureB now shift f n t m = false := by unfold sureB; simp [hs]
theorem book_parts {now shift : Int} {f : Nat → Mv} {n m : Nat} {t : Nat → Int} (h : bookB now shift f n t m = true) : movesB f n = true ∧ m = n ∧ FitTo f t n := by
  cases hf : fitsB f n t m with
  | false => rw [bookB_fits hf] at h; cases h
  | true => exact fits_parts hf
section
variable [Gl] {ok : Ctx} {c : Frame} {Q : Value → World → Prop}
theorem WkT.loopInd {P₀ : Program} {Dr : FuncId → Array Value → World → (Value → World → Prop) → Prop} (E : Wenv P₀ ok c Dr) {b : Frame} {X : Code} {k : List Item} {cs : List Frame} (hb : ok.inn b.fn = true) (Inv : Nat → Act → World → Prop)
    (step : ∀ j a W, Inv j a W → (∀ i, i < j → ∀ a' W', Inv i a' W' → WkT P₀ ok c Dr Q ⟨b.at a' (.inLoop X :: k), cs, W'⟩) → WkT P₀ ok c Dr Q ⟨b.at a (.code X :: .inLoop X :: k), cs, W⟩) :
    ∀ j a W, Inv j a W → WkT P₀ ok c Dr Q ⟨b.at a (.code X :: .inLoop X :: k), cs, W⟩ := by
  intro j
  induction j using Nat.strongRecOn with
  | ind j ih => intro a W h; exact step j a W h fun i hi a' W' h' => WkT.inLoop E hb (ih i hi a' W' h')
theorem WkT.roundOp (E : Wenv Tryz0.prog ok c Dr24) (hRo : ok.inn 34 = true) (hPl : ok.inn 57 = true) (hSB : ok.inn 8 = true) (hbt : ok.inn 25 = false) {fb : Frame} {a : Act} {k : List Item} {cs : List Frame} {V : World} (hb : ok.inn fb.fn = true) {ops : Array Oper} {i : Nat} {r : List Nat} {o : Oper} (ho : ops[i]? = some o) (hw : Region.wanted o (yielded ops a.tmps) = true)
    {b n cap b' cap' p : Nat} {f : Nat → Mv} {t : Nat → Int} {now shift : Int} (hx : ∀ w, (execOp a.eval o).run Tryz0.prog w = .ok (.enter 34 #[.agg #[.int .i64 now, .int .i64 shift, .slice (some ⟨b, 0, none⟩) n cap, .slice (some ⟨b', 0, none⟩) n cap'], .int .i64 p]) w)
    (hm : movesB f n = true) (hf : FitTo f t n) (hp : p < n) (hbs : b < V.heap.size) (hrow : MvRow V b 0 n f) (hbs' : b' < V.heap.size) (hrow' : IntRow V b' 0 n t)
    (hcont : ∀ v V', RoundPost f n t p shift V v V' → WkT Tryz0.prog ok c Dr24 Q ⟨fb.at (a.put o.dst v) (.inRegion ops r :: k), cs, V'⟩) : WkT Tryz0.prog ok c Dr24 Q ⟨fb.at a (.inRegion ops (i :: r) :: k), cs, V⟩ :=
  WkT.enterOp E ho hw hRo hx (wk_round E hRo hPl hSB hbt (r0 := fb.at a (.inRegion ops (i :: r) :: k)) hb hm hf hp hbs hrow hbs' hrow' (fun v V' hv => by rw [finish_reg ho]; exact hcont v V' hv))
set_option maxRecDepth 100000 in
set_option maxHeartbeats 4000000 in
theorem wk_sure (E : Wenv Tryz0.prog ok c Dr24) (hSu : ok.inn 17 = true) (hRo : ok.inn 34 = true) (hPl : ok.inn 57 = true) (hSB : ok.inn 8 = true) (hbt : ok.inn 25 = false) {r0 : Frame} {cs : List Frame} {V : World} (hr0 : ok.inn r0.fn = true)
    {b n cap b' m cap' : Nat} {f : Nat → Mv} {t : Nat → Int} {now shift : Int} (hn : n ≤ 1048576) (hm1 : m ≤ maxLen) (hbs : b < V.heap.size) (hrow : MvRow V b 0 n f) (hbs' : b' < V.heap.size) (hrow' : IntRow V b' 0 m t)
    (hcont : ∀ V', Bl V.heap.size V V' → WkT Tryz0.prog ok c Dr24 Q ⟨r0.finish (.bool (sureB now shift f n t m)), cs, V'⟩) :
    WkT Tryz0.prog ok c Dr24 Q ⟨Frame.enter Tryz0.prog 17 #[.agg #[.int .i64 now, .int .i64 shift, .slice (some ⟨b, 0, none⟩) n cap, .slice (some ⟨b', 0, none⟩) m cap']] .normal, r0 :: cs, V⟩ := by
  have hE := enter_at (P := Tryz0.prog) #[.agg #[.int .i64 now, .int .i64 shift, .slice (some ⟨b, 0, none⟩) n cap, .slice (some ⟨b', 0, none⟩) m cap']] Tryz0.func17 rfl
  simp only [Tryz.ntmps17, List.size_toArray, List.length_cons, List.length_nil, Nat.reduceAdd, Nat.reduceSub, Array.replicate_succ, Array.replicate_zero, List.push_toArray, List.append_toArray, List.nil_append, List.cons_append] at hE
  rw [hE]
  clear hE
  have htop : ∀ (x : Bool) (a' : Act) (w' : World) (todo : List Item), (x = sureB now shift f n t m ∧ Bl V.heap.size V w' ∧ a'.defers = [] ∧ a'.tmps[2]? = some (.bool x)) → WkT Tryz0.prog ok c Dr24 Q ⟨{ (base 17).at a' todo with mode := .returning }, r0 :: cs, w'⟩ := by
    rintro x a' w' todo ⟨rfl, h1, h2, h3⟩
    refine WkT.leave E hr0 (v := .bool (sureB now shift f n t m)) (fun τ d => ⟨rfl, h2, rfl, _, Tryz0.func17, ?_⟩) (hcont _ h1)
    have := results_tmp (fn := Tryz.f17) rfl a'.tmps Tryz0.prog (re w' τ d)
    rw [getD_of h3] at this
    exact this
  refine WkT.chainM E hSu [_, _] _ (fun a' w' => bookB now shift f n t m = true ∧ Bl V.heap.size V w' ∧ ∃ B1, V.heap.size ≤ B1 ∧ BkOwn w' B1 now shift (.slice (some ⟨b, 0, none⟩) n cap) (.slice (some ⟨b', 0, none⟩) m cap') ∧ FrIs a' (fun u => #[u 0, .pointer (some ⟨B1, 0, none⟩), u 2, u 3, u 4, u 5, u 6, u 7, u 8, u 9, u 10, u 11, u 12, u 13, u 14, u 15, u 16, u 17, u 18, u 19, u 20, u 21, u 22, u 23, u 24, u 25, u 26, u 27, u 28, u 29])) (fun a' w' => false = sureB now shift f n t m ∧ Bl V.heap.size V w' ∧ a'.defers = [] ∧ a'.tmps[2]? = some (.bool false)) ?_ ?_ (fun a' w' todo hh => htop false a' w' todo hh)
  · intro τ d
    have bA : Below (re V τ d).heap.size (re V τ d) ((re V τ d).alloc (.cells #[.int .i64 now, .int .i64 shift, .slice (some ⟨b, 0, none⟩) n cap, .slice (some ⟨b', 0, none⟩) m cap'] 39)) := (Below.refl _ _).alloc (Nat.le_refl _) _
    have hbk : BkOwn ((re V τ d).alloc (.cells #[.int .i64 now, .int .i64 shift, .slice (some ⟨b, 0, none⟩) n cap, .slice (some ⟨b', 0, none⟩) m cap'] 39)) V.heap.size now shift (.slice (some ⟨b, 0, none⟩) n cap) (.slice (some ⟨b', 0, none⟩) m cap') := heap_alloc_new (re V τ d) _
    have H1 := implBook_row now shift b 0 n cap f b' 0 m cap' t _ hn hm1 (Nat.lt_of_lt_of_le hbs bA.size) ((mv_same (w' := re V τ d) hrow rfl).below bA hbs) (Nat.lt_of_lt_of_le hbs' bA.size) (IntRow.below (w := re V τ d) (fun i hi => hrow' i hi) bA hbs')
    clear htop hcont hrow hrow'
    simp only [wpChain]
    cases hb : bookB now shift f n t m with
    | false =>
      rw [hb] at H1
      have hno := sureB_no hb
      go_wp2_with (go_at_call 33; refine H1.mono ?_; clear H1; rintro e w1 ⟨rfl, b1⟩)
      have hbl : Bl V.heap.size V w1 := Bl.ofR (bA.trans (b1.mono bA.size))
      first
        | exact ⟨hno.symm, hbl, rfl, rfl⟩
        | exact ⟨hno, hbl⟩
        | exact ⟨hno, hbl, rfl⟩
        | exact ⟨hno.symm, hbl⟩
    | true =>
      rw [hb] at H1
      go_wp2_with (go_at_call 33; refine H1.mono ?_; clear H1; rintro e w1 ⟨rfl, b1⟩)
      have hbl : Bl V.heap.size V w1 := Bl.ofR (bA.trans (b1.mono bA.size))
      have hbk1 := hbk.same (b1.block _ hbk.lt)
      first
        | exact ⟨hbl, V.heap.size, Nat.le_refl _, hbk1, rfl, rfl⟩
        | exact ⟨rfl, hbl, V.heap.size, Nat.le_refl _, hbk1, rfl, rfl⟩
        | exact ⟨trivial, hbl, V.heap.size, Nat.le_refl _, hbk1, rfl, rfl⟩
  rintro a' w1 ⟨hbook, hb1, B1, hB1, bk1, hfr⟩
  obtain ⟨u, rfl⟩ := hfr.open
  clear hfr
  obtain ⟨hm, hmn, hf⟩ := book_parts hbook
  replace hmn := hmn.symm
  subst hmn
  have h6 := movesB_six hm
  have hz1 := hb1.size
  refine WkT.seq E hSu ?_
  refine WkT.chain E hSu [_] _ (fun a' w' => (∃ τ d, w' = re w1 τ d) ∧ ∃ k : Nat, k = 0 ∧ FrIs a' (fun u => #[u 0, .pointer (some ⟨B1, 0, none⟩), u 2, u 3, u 4, u 5, u 6, u 7, u 8, u 9, u 10, .slice (some ⟨b, 0, none⟩) n cap, .int .i64 n, .int .i64 k, u 14, u 15, u 16, u 17, u 18, u 19, u 20, u 21, u 22, u 23, u 24, u 25, u 26, u 27, u 28, u 29])) (fun _ _ => False) ?_ ?_ (fun _ _ _ hh => hh.elim)
  · intro τ d
    have bk0 : BkOwn (re w1 τ d) B1 now shift (.slice (some ⟨b, 0, none⟩) n cap) (.slice (some ⟨b', 0, none⟩) n cap') := bk1
    obtain ⟨y0, y1, y2, y3, y4⟩ := bk0.cells
    clear htop hcont
    simp only [wpChain]
    go_wp2
    left
    exact ⟨by first | rfl | trivial, ⟨τ, d, rfl⟩, 0, rfl, rfl, rfl⟩
  rintro a' w' ⟨⟨τ1, d1, rfl⟩, k, rfl, hfr⟩
  refine WkT.block E hSu (WkT.loop E hSu ?_)
  refine WkT.loopInd E hSu (fun j a' w' => ∃ k : Nat, k + j = n ∧ Bl w1.heap.size w1 w' ∧ (∀ p, p < k → (f p).lands = true → (roundR f n t p).isSome = true) ∧ FrIs a' (fun u => #[u 0, .pointer (some ⟨B1, 0, none⟩), u 2, u 3, u 4, u 5, u 6, u 7, u 8, u 9, u 10, .slice (some ⟨b, 0, none⟩) n cap, .int .i64 n, .int .i64 k, u 14, u 15, u 16, u 17, u 18, u 19, u 20, u 21, u 22, u 23, u 24, u 25, u 26, u 27, u 28, u 29])) ?_ n a' _ ⟨0, by omega, ⟨Nat.le_refl _, fun _ _ => rfl⟩, fun p hp => absurd hp (Nat.not_lt_zero _), hfr⟩
  clear hfr u a'
  rintro j a' W ⟨k, hkj, hbW, hall, hfr⟩ IH
  obtain ⟨u, rfl⟩ := hfr.open
  clear hfr
  have hzW := hbW.size
  have bkW : BkOwn W B1 now shift (.slice (some ⟨b, 0, none⟩) n cap) (.slice (some ⟨b', 0, none⟩) n cap') := bk1.same (hbW.block B1 bk1.lt)
  have rowW : MvRow W b 0 n f := mv_same (mv_same hrow (hb1.block b hbs)) (hbW.block b (by omega))
  have rowW' : IntRow W b' 0 n t := fun i hi => by
    have e := (hbW.block b' (by omega)).trans (hb1.block b' hbs')
    have := hrow' i hi
    simp only [World.cell?, e] at this ⊢
    exact this
  have hbVW : Bl V.heap.size V W := hb1.trans hbW hz1
  refine WkT.chain E hSu [_] _ (fun a' w' => (∃ τ d, w' = re W τ d) ∧ FrIs a' (fun u => #[u 0, .pointer (some ⟨B1, 0, none⟩), u 2, u 3, u 4, u 5, u 6, u 7, u 8, u 9, u 10, .slice (some ⟨b, 0, none⟩) n cap, .int .i64 n, .int .i64 k, .bool (decide (k < n)), u 15, u 16, u 17, u 18, u 19, u 20, u 21, u 22, u 23, u 24, u 25, u 26, u 27, u 28, u 29])) (fun _ _ => False) ?_ ?_ (fun _ _ _ hh => hh.elim)
  · intro τ d
    clear htop hcont IH
    simp only [wpChain]
    go_wp2
    left
    exact ⟨by first | rfl | trivial, ⟨τ, d, rfl⟩, rfl, rfl⟩
  rintro a' w' ⟨⟨τ2, d2, rfl⟩, hfr⟩
  clear u
  obtain ⟨u, rfl⟩ := hfr.open
  clear hfr
  refine WkT.seq E hSu (WkT.cond E hSu (t := decide (k < n)) rfl ?_)
  by_cases hlt : k < n
  · rw [if_pos (by simpa using hlt)]
    refine WkT.skip E hSu (WkT.seq E hSu (WkT.block E hSu ?_))
    have hl1 : b < W.heap.size := by omega
    have hl1' : b' < W.heap.size := by omega
    have hB1W : B1 < W.heap.size := bkW.lt
    refine WkT.chain E hSu [_] _ (fun a' w' => Bl W.heap.size W w' ∧ ∃ B4, w'.heap[B4]? = some (.cells (f k).cells 48 (0, 0)) ∧ FrIs a' (fun u => #[u 0, .pointer (some ⟨B1, 0, none⟩), u 2, .int .i64 k, .pointer (some ⟨B4, 0, none⟩), u 5, u 6, u 7, u 8, u 9, u 10, .slice (some ⟨b, 0, none⟩) n cap, .int .i64 n, .int .i64 k, u 14, u 15, u 16, u 17, u 18, u 19, u 20, u 21, u 22, u 23, u 24, u 25, u 26, u 27, u 28, u 29])) (fun _ _ => False) ?_ ?_ (fun _ _ _ hh => hh.elim)
    · intro τ d
      obtain ⟨c0, c1, c2, c3, c4, c5⟩ := (mv_same (w' := re (re W τ2 d2) τ d) rowW rfl) k hlt
      simp only [Nat.zero_add] at c0 c1 c2 c3 c4 c5
      have hlt' : (k : Int) < n := by omega
      clear htop hcont IH
      simp only [wpChain]
      go_wp2
      left
      refine ⟨by first | rfl | trivial, ⟨by simp [re], fun q hq => ?_⟩, W.heap.size, ?_, rfl, rfl⟩
      · exact (Below.heap_alloc _ _ _ (by simpa [re] using hq)).trans rfl
      · exact heap_alloc_new (re (re W τ2 d2) τ d) _
    rintro a' w2 ⟨hb2, B4, hbx, hfr⟩
    clear u
    obtain ⟨u, rfl⟩ := hfr.open
    clear hfr
    have hz2 := hb2.size
    refine WkT.seq E hSu ?_
    refine WkT.chain E hSu [_] _ (fun a' w' => (∃ τ d, w' = re w2 τ d) ∧ FrIs a' (fun u => #[u 0, .pointer (some ⟨B1, 0, none⟩), u 2, .int .i64 k, u 4, u 5, u 6, u 7, u 8, u 9, u 10, .slice (some ⟨b, 0, none⟩) n cap, .int .i64 n, .int .i64 k, u 14, u 15, u 16, u 17, u 18, u 19, .bool (!(f k).lands), u 21, u 22, u 23, u 24, u 25, u 26, u 27, u 28, u 29])) (fun _ _ => False) ?_ ?_ (fun _ _ _ hh => hh.elim)
    · intro τ d
      obtain ⟨z0, z1, z2, z3, z4, z5⟩ := boxC (w := re w2 τ d) hbx
      clear htop hcont IH
      simp only [wpChain]
      go_wp2
      left
      exact ⟨by first | rfl | trivial, ⟨τ, d, rfl⟩, rfl, rfl⟩
    rintro a' w' ⟨⟨τ3, d3, rfl⟩, hfr⟩
    clear u
    obtain ⟨u, rfl⟩ := hfr.open
    clear hfr
    refine WkT.cond E hSu (t := !(f k).lands) rfl ?_
    by_cases hla : (f k).lands = true
    · rw [if_neg (by rw [hla]; simp)]
      refine WkT.skip E hSu (WkT.seq E hSu (WkT.region E hSu ?_))
      rw [range_from]
      have bk2 : BkOwn w2 B1 now shift (.slice (some ⟨b, 0, none⟩) n cap) (.slice (some ⟨b', 0, none⟩) n cap') := bkW.same (hb2.block B1 hB1W)
      refine WkT.opsFrom E hSu 0 2 (by simp) (fun a' w' => (∃ τ d, w' = re w2 τ d) ∧ FrIs a' (fun u => #[u 0, .pointer (some ⟨B1, 0, none⟩), u 2, .int .i64 k, u 4, u 5, u 6, u 7, u 8, u 9, u 10, .slice (some ⟨b, 0, none⟩) n cap, .int .i64 n, .int .i64 k, u 14, u 15, u 16, u 17, u 18, u 19, u 20, u 21, .agg #[.int .i64 now, .int .i64 shift, .slice (some ⟨b, 0, none⟩) n cap, .slice (some ⟨b', 0, none⟩) n cap'], .int .i64 k, u 24, u 25, u 26, u 27, u 28, u 29])) ?_ ?_
      · intro τ d
        have bk0 : BkOwn (re (re w2 τ3 d3) τ d) B1 now shift (.slice (some ⟨b, 0, none⟩) n cap) (.slice (some ⟨b', 0, none⟩) n cap') := bk2
        obtain ⟨y0, y1, y2, y3, y4⟩ := bk0.cells
        clear htop hcont IH
        simp only [List.drop_zero, List.take_succ_cons, List.take_zero]
        go_wp2
        exact ⟨⟨τ, d, rfl⟩, rfl, rfl⟩
      rintro a' w' ⟨⟨τ4, d4, rfl⟩, hfr⟩
      clear u
      obtain ⟨u, rfl⟩ := hfr.open
      clear hfr
      refine WkT.roundOp E hRo hPl hSB hbt hSu (i := 2) rfl rfl (b := b) (n := n) (cap := cap) (b' := b') (cap' := cap') (p := k) (f := f) (t := t) (now := now) (shift := shift) (fun w => by simp [execOp, resolve, invoke, Act.eval, go_sem]) hm hf hlt (by show b < w2.heap.size; omega) (mv_same (mv_same rowW (hb2.block b hl1)) rfl) (by show b' < w2.heap.size; omega) (fun i hi => by
        have e := hb2.block b' hl1'
        have := rowW' i hi
        simp only [World.cell?, re, e] at this ⊢
        exact this) ?_
      intro v V3 hpost
      obtain ⟨⟨x0, x1, x2, l2, c2, x3, l3, c3, rfl, _⟩, hb3'⟩ := hpost
      have hb3 : Bl w2.heap.size w2 V3 := ⟨hb3'.size, hb3'.block⟩
      clear hb3'
      have hz3 := hb3.size
      have hbW3 : Bl W.heap.size W V3 := hb2.trans hb3 hz2
      obtain ⟨br, hbr⟩ : ∃ br, (roundR f n t k).isSome = br := ⟨_, rfl⟩
      rw [hbr]
      refine WkT.opsFrom E hSu 3 6 (by simp) (fun a' w' => Bl W.heap.size W w' ∧ FrIs a' (fun u => #[u 0, .pointer (some ⟨B1, 0, none⟩), u 2, u 3, u 4, u 5, .bool br, u 7, u 8, u 9, u 10, .slice (some ⟨b, 0, none⟩) n cap, .int .i64 n, .int .i64 k, u 14, u 15, u 16, u 17, u 18, u 19, u 20, u 21, u 22, u 23, u 24, u 25, u 26, u 27, u 28, u 29])) ?_ ?_
      · intro τ d
        clear htop hcont IH
        simp only [List.drop_succ_cons, List.drop_zero, List.take_succ_cons, List.take_zero, Act.put]
        go_wp2
        refine ⟨⟨by have := hbW3.size; simp [re]; omega, fun q hq => ?_⟩, rfl, rfl⟩
        exact (Below.heap_alloc _ _ _ (by have := hbW3.size; simp [re]; omega)).trans (hbW3.block q hq)
      rintro a' w5 ⟨hb5, hfr⟩
      clear u
      obtain ⟨u, rfl⟩ := hfr.open
      clear hfr
      refine WkT.regionEnd E hSu ?_
      refine WkT.chain E hSu [_] _ (fun a' w' => (∃ τ d, w' = re w5 τ d) ∧ FrIs a' (fun u => #[u 0, .pointer (some ⟨B1, 0, none⟩), u 2, u 3, u 4, u 5, u 6, u 7, u 8, u 9, u 10, .slice (some ⟨b, 0, none⟩) n cap, .int .i64 n, .int .i64 k, u 14, u 15, u 16, u 17, u 18, u 19, u 20, u 21, u 22, u 23, u 24, u 25, u 26, u 27, .bool (!br), u 29])) (fun _ _ => False) ?_ ?_ (fun _ _ _ hh => hh.elim)
      · intro τ d
        clear htop hcont IH
        simp only [wpChain]
        go_wp2
        left
        exact ⟨by first | rfl | trivial, ⟨τ, d, rfl⟩, rfl, rfl⟩
      rintro a' w' ⟨⟨τ6, d6, rfl⟩, hfr⟩
      clear u
      obtain ⟨u, rfl⟩ := hfr.open
      clear hfr
      refine WkT.cond E hSu (t := !br) rfl ?_
      cases br with
      | false =>
        rw [if_pos (show (!false) = true from rfl)]
        have hnot : ¬ sureP f n t := fun h => by have := h k hlt hla; rw [hbr] at this; cases this
        have hno := sureB_not (now := now) (shift := shift) (m := n) hnot
        have hbV5 : Bl V.heap.size V w5 := hbVW.trans hb5 (by omega)
        refine WkT.last E hSu [_] (fun a' w' => false = sureB now shift f n t n ∧ Bl V.heap.size V w' ∧ a'.defers = [] ∧ a'.tmps[2]? = some (.bool false)) ?_ (fun a' w' todo hh => htop false a' w' todo hh)
        intro τ d
        clear htop hcont IH
        simp only [wpChain]
        go_wp2
        left
        exact ⟨by first | rfl | trivial, hno.symm, ⟨hbV5.size, hbV5.block⟩, by first | rfl | trivial, by first | rfl | simp⟩
      | true =>
        rw [if_neg (show ¬ (!true) = true by simp)]
        refine WkT.skip E hSu (WkT.inBlock E hSu ?_)
        refine WkT.region E hSu ?_
        rw [range_from]
        refine WkT.opsFrom E hSu 0 2 (by simp) (fun a' w' => (∃ τ d, w' = re w5 τ d) ∧ ∃ k' : Nat, k' = k + 1 ∧ FrIs a' (fun u => #[u 0, .pointer (some ⟨B1, 0, none⟩), u 2, u 3, u 4, u 5, u 6, u 7, u 8, u 9, u 10, .slice (some ⟨b, 0, none⟩) n cap, .int .i64 n, .int .i64 (k' : Nat), u 14, u 15, u 16, u 17, u 18, u 19, u 20, u 21, u 22, u 23, u 24, u 25, u 26, u 27, u 28, u 29])) ?_ ?_
        · intro τ d
          have hwr : IntKind.i64.wrap ((k : Int) + 1) = (k : Int) + 1 := by rw [IntKind.wrap_i64]; omega
          clear htop hcont IH
          simp only [List.drop_zero, List.take_succ_cons, List.take_zero]
          go_wp2
          first | exact ⟨⟨τ, d, rfl⟩, k + 1, rfl, rfl, by simp⟩ | exact ⟨⟨τ, d, rfl⟩, rfl, by simp⟩ | exact ⟨⟨τ, d, rfl⟩, rfl, rfl⟩
        rintro a' w' ⟨⟨τ7, d7, rfl⟩, k', rfl, hfr⟩
        refine WkT.regionEnd E hSu (IH (j - 1) (by omega) _ _ ⟨k + 1, by omega, ?_, fun p hp hl => ?_, hfr⟩)
        · exact ⟨Nat.le_trans hzW hb5.size, fun q hq => (hb5.block q (by omega)).trans (hbW.block q hq)⟩
        · by_cases e : p = k
          · subst e; exact hbr
          · exact hall p (by omega) hl
    · rw [if_pos (by simpa using hla)]
      refine WkT.exit E hSu (k' := _) rfl ?_
      refine WkT.region E hSu ?_
      rw [range_from]
      refine WkT.opsFrom E hSu 0 2 (by simp) (fun a' w' => (∃ τ d, w' = re w2 τ d) ∧ ∃ k' : Nat, k' = k + 1 ∧ FrIs a' (fun u => #[u 0, .pointer (some ⟨B1, 0, none⟩), u 2, u 3, u 4, u 5, u 6, u 7, u 8, u 9, u 10, .slice (some ⟨b, 0, none⟩) n cap, .int .i64 n, .int .i64 (k' : Nat), u 14, u 15, u 16, u 17, u 18, u 19, u 20, u 21, u 22, u 23, u 24, u 25, u 26, u 27, u 28, u 29])) ?_ ?_
      · intro τ d
        have hwr : IntKind.i64.wrap ((k : Int) + 1) = (k : Int) + 1 := by rw [IntKind.wrap_i64]; omega
        clear htop hcont IH
        simp only [List.drop_zero, List.take_succ_cons, List.take_zero]
        go_wp2
        first | exact ⟨⟨τ, d, rfl⟩, k + 1, rfl, rfl, by simp⟩ | exact ⟨⟨τ, d, rfl⟩, rfl, by simp⟩ | exact ⟨⟨τ, d, rfl⟩, rfl, rfl⟩
      rintro a' w' ⟨⟨τ7, d7, rfl⟩, k', rfl, hfr⟩
      refine WkT.regionEnd E hSu (IH (j - 1) (by omega) _ _ ⟨k + 1, by omega, ?_, fun p hp hl => ?_, hfr⟩)
      · exact ⟨Nat.le_trans hzW hz2, fun q hq => (hb2.block q (by omega)).trans (hbW.block q hq)⟩
      · by_cases e : p = k
        · subst e; exact absurd hl hla
        · exact hall p (by omega) hl
  · rw [if_neg (by simpa using hlt)]
    refine WkT.exit E hSu (k' := [.code _]) rfl ?_
    have hsure : sureP f n t := fun p hp => hall p (by omega)
    have hyes := sureB_yes hbook hsure
    refine WkT.last E hSu [_] (fun a' w' => true = sureB now shift f n t n ∧ Bl V.heap.size V w' ∧ a'.defers = [] ∧ a'.tmps[2]? = some (.bool true)) ?_ (fun a' w' todo hh => htop true a' w' todo hh)
    intro τ d
    clear htop hcont IH
    simp only [wpChain]
    go_wp2
    left
    exact ⟨by first | rfl | trivial, hyes.symm, ⟨hbVW.size, hbVW.block⟩, by first | rfl | trivial, by first | rfl | simp⟩
end
end Go.Proofs.YtlmcblcijndipabGreat

namespace Go.Proofs.YtlmcblcijndipabGreat
open Go Go.RowKit
set_option linter.unusedVariables false
def RoundSays (r : Option (Nat → Int)) (e : Ending) : Prop := ∃ (x0 x1 : Int) (x2 : Option Addr) (l2 c2 : Nat) (x3 : Option Addr) (l3 c3 : Nat), e = .returned (.tuple #[.agg #[.int .i64 x0, .int .i64 x1, .slice x2 l2 c2, .slice x3 l3 c3], .bool r.isSome])
theorem res_round (w : World) (B : Nat) (x0 x1 : Int) (x2 : Option Addr) (l2 c2 : Nat) (x3 : Option Addr) (l3 c3 : Nat) (h : w.heap[B]? = some (.cells #[.int .i64 x0, .int .i64 x1, .slice x2 l2 c2, .slice x3 l3 c3] 39 (0, 0))) : w.cell? ⟨B, 0, none⟩ = some (.int .i64 x0) ∧ w.cell? ⟨B, 1, none⟩ = some (.int .i64 x1) ∧ w.cell? ⟨B, 2, none⟩ = some (.slice x2 l2 c2) ∧ w.cell? ⟨B, 3, none⟩ = some (.slice x3 l3 c3) := by
  refine ⟨?_, ?_, ?_, ?_⟩ <;> simp [World.cell?, h]
set_option maxRecDepth 10000 in
set_option maxHeartbeats 4000000 in
theorem l5Round_row (b n cap b' cap' p : Nat) (f : Nat → Mv) (t : Nat → Int) (now shift : Int) (w : World) (hm : movesB f n = true) (hf : FitTo f t n) (hp : p < n) (hbs : b < w.heap.size) (hrow : MvRow w b 0 n f) (hbs' : b' < w.heap.size) (hrow' : IntRow w b' 0 n t) :
    Calls Tryz0.prog 31 #[.agg #[.int .i64 now, .int .i64 shift, .slice (some ⟨b, 0, none⟩) n cap, .slice (some ⟨b', 0, none⟩) n cap'], .int .i64 p] w fun e w' => RoundSays (roundR f n t p) e ∧ Below w.heap.size w w' := by
  have h6 := movesB_six hm
  have hokp := Mv.ok_bd (movesB_ok hm p hp)
  have hsp := suits_bd (hf.1 p hp)
  obtain ⟨wB, hwB⟩ : ∃ W, W = (w.alloc (.cells #[.int .i64 now, .int .i64 shift, .slice (some ⟨b, 0, none⟩) n cap, .slice (some ⟨b', 0, none⟩) n cap'] 39)).alloc (.cells #[.int .i64 0, .int .i64 0, .slice none 0 0, .slice none 0 0] 39) := ⟨_, rfl⟩
  have hbB : Below w.heap.size w wB := by rw [hwB]; exact ((Below.refl _ w).alloc (Nat.le_refl _) _).alloc (by simp) _
  have hrs : BkOwn wB (w.heap.size + 1) 0 0 (.slice none 0 0) (.slice none 0 0) := by rw [hwB]; exact alloc2_new _ _ _
  have H1 := l5Then_row b n cap b' cap' p f t now shift wB hm hf hp (Nat.lt_of_lt_of_le hbs hbB.size) (hrow.below hbB hbs) (Nat.lt_of_lt_of_le hbs' hbB.size) (hrow'.below hbB hbs')
  rw [hwB] at H1
  go_enter Tryz0.func31, Tryz.ntmps31
  by_cases hle : t p + 6 ≤ (f p).late
  · have hR : roundR f n t p = planR (mvF (thenL f t p n)) (thenL f t p n).length (t p) 6 := by unfold roundR; rw [if_pos hle]
    have hpos := thenL_pos (f := f) (t := t) (p := p) hp
    have hlen := thenL_len f t p n
    have HP := fun (BN cN : Nat) (W : World) (hlt : BN < W.heap.size) (hr : MvRow W BN 0 (thenL f t p n).length (mvF (thenL f t p n))) => l5Plan_row BN (thenL f t p n).length cN (mvF (thenL f t p n)) (t p) 6 W hpos (by omega) (fun i hi => round_prom hm hf hp hle hi) (by omega) (by omega) (by omega) (by omega) (fun hr => round_moves hm hf hp hle hr) hlt hr
    rw [hR]
    clear hR
    cases hP : planR (mvF (thenL f t p n)) (thenL f t p n).length (t p) 6 with
    | none =>
      rw [hP] at HP
      go_wp2_with (first
        | (go_at_call 53; refine H1.mono ?_; clear H1; rintro e w1 ⟨l1, b1⟩; rw [← hwB] at b1 l1; unfold ThenPost at l1; rw [if_pos hle] at l1; obtain ⟨BN, cN, rfl, hBN, hlN, rN⟩ := l1; have r1 := hrs.same (b1.block _ hrs.lt); obtain ⟨y0, y1, y2, y3, y4⟩ := r1.cells; have l41 := r1.lt; have hb1 := hbB.trans (b1.mono hbB.size))
        | (go_at_call 54; refine (HP _ _ _ (by simp; omega) (rN.below ((Below.refl _ _).alloc (Nat.le_refl _) _) hlN)).mono ?_; clear HP; rintro e w2 ⟨⟨a2, c2, rfl⟩, b2⟩; have hb2 := ((Below.refl _ w1).alloc (Nat.le_refl _) _).trans (b2.mono (by simp)); have r2 := r1.same (hb2.block _ r1.lt); obtain ⟨z0, z1, z2, z3, z4⟩ := r2.cells; have l42 := r2.lt))
      rw [put4 r2]
      have hs5 := setRow_heap w2 (w.heap.size + 1) _ #[.int .i64 0, .int .i64 0, .slice none 0 0, .slice none 0 0] _ _ r2
      have hb5 := below_setRow (hb1.trans (hb2.mono hb1.size)) (by omega : w.heap.size ≤ w.heap.size + 1) #[.int .i64 0, .int .i64 0, .slice none 0 0, .slice none 0 0]
      revert hs5 hb5
      generalize w2.setRow (w.heap.size + 1) #[.int .i64 0, .int .i64 0, .slice none 0 0, .slice none 0 0] = W5
      intro hs5 hb5
      obtain ⟨q0, q1, q2, q3⟩ := res_round W5 _ 0 0 none 0 0 none 0 0 hs5
      refine bodyPost_ret (v := .tuple #[.agg #[.int .i64 0, .int .i64 0, .slice none 0 0, .slice none 0 0], .bool false]) ?_ rfl ⟨⟨0, 0, none, 0, 0, none, 0, 0, rfl⟩, hb5⟩
      simp [results, Tryz.f31, go_sem, q0, q1, q2, q3]
    | some T =>
      rw [hP] at HP
      go_wp2_with (first
        | (go_at_call 53; refine H1.mono ?_; clear H1; rintro e w1 ⟨l1, b1⟩; rw [← hwB] at b1 l1; unfold ThenPost at l1; rw [if_pos hle] at l1; obtain ⟨BN, cN, rfl, hBN, hlN, rN⟩ := l1; have r1 := hrs.same (b1.block _ hrs.lt); obtain ⟨y0, y1, y2, y3, y4⟩ := r1.cells; have l41 := r1.lt; have hb1 := hbB.trans (b1.mono hbB.size))
        | (go_at_call 54; refine (HP _ _ _ (by simp; omega) (rN.below ((Below.refl _ _).alloc (Nat.le_refl _) _) hlN)).mono ?_; clear HP; rintro e w2 ⟨⟨BT, c2, hBT, rfl, oT⟩, b2⟩; have hb2 := ((Below.refl _ w1).alloc (Nat.le_refl _) _).trans (b2.mono (by simp)); have r2 := r1.same (hb2.block _ r1.lt); obtain ⟨z0, z1, z2, z3, z4⟩ := r2.cells; have l42 := r2.lt; have x2 : BkOwn w2 w1.heap.size (t p) shift (.slice (some ⟨BN, 0, none⟩) (thenL f t p n).length cN) (.slice none 0 0) := (b2.block _ (by simp)).trans (heap_alloc_new _ _); obtain ⟨v0, v1, v2, v3, v4⟩ := x2.cells; have l12 := x2.lt; have hne : w.heap.size + 1 ≠ w1.heap.size := Nat.ne_of_lt l41; have hne' := hne.symm))
      have hs : ∀ k, k ≠ w1.heap.size → (w2.setCell ⟨w1.heap.size, 3, none⟩ (.slice (some ⟨BT, 0, none⟩) (thenL f t p n).length c2)).heap[k]? = w2.heap[k]? := fun k hk => Below.heap_setCell _ _ _ k hk
      have hbS := (hb1.trans (hb2.mono hb1.size)).setCell (p := ⟨w1.heap.size, 3, none⟩) hb1.size (.slice (some ⟨BT, 0, none⟩) (thenL f t p n).length c2)
      revert hs hbS
      generalize w2.setCell ⟨w1.heap.size, 3, none⟩ (.slice (some ⟨BT, 0, none⟩) (thenL f t p n).length c2) = w3
      intro hs hbS
      have r3 := r2.same (hs _ hne)
      rw [put4 r3]
      have hs5 := setRow_heap w3 (w.heap.size + 1) _ #[.int .i64 (t p), .int .i64 shift, .slice (some ⟨BN, 0, none⟩) (thenL f t p n).length cN, .slice (some ⟨BT, 0, none⟩) (thenL f t p n).length c2] _ _ r3
      have hb5 := below_setRow hbS (by omega : w.heap.size ≤ w.heap.size + 1) #[.int .i64 (t p), .int .i64 shift, .slice (some ⟨BN, 0, none⟩) (thenL f t p n).length cN, .slice (some ⟨BT, 0, none⟩) (thenL f t p n).length c2]
      revert hs5 hb5
      generalize w3.setRow (w.heap.size + 1) #[.int .i64 (t p), .int .i64 shift, .slice (some ⟨BN, 0, none⟩) (thenL f t p n).length cN, .slice (some ⟨BT, 0, none⟩) (thenL f t p n).length c2] = W5
      intro hs5 hb5
      obtain ⟨q0, q1, q2, q3⟩ := res_round W5 _ _ _ _ _ _ _ _ _ hs5
      refine bodyPost_ret (v := .tuple #[.agg #[.int .i64 (t p), .int .i64 shift, .slice (some ⟨BN, 0, none⟩) (thenL f t p n).length cN, .slice (some ⟨BT, 0, none⟩) (thenL f t p n).length c2], .bool true]) ?_ rfl ⟨⟨_, _, _, _, _, _, _, _, rfl⟩, hb5⟩
      simp [results, Tryz.f31, go_sem, q0, q1, q2, q3]
  · have hR : roundR f n t p = none := by unfold roundR; rw [if_neg hle]
    rw [hR]
    clear hR
    go_wp2_with (go_at_call 53; refine H1.mono ?_; clear H1; rintro e w1 ⟨l1, b1⟩; rw [← hwB] at b1 l1; unfold ThenPost at l1; rw [if_neg hle] at l1; subst l1; have r1 := hrs.same (b1.block _ hrs.lt); obtain ⟨y0, y1, y2, y3, y4⟩ := r1.cells; have l41 := r1.lt; have hb1 := hbB.trans (b1.mono hbB.size))
    rw [put4 r1]
    have hs5 := setRow_heap w1 (w.heap.size + 1) _ #[.int .i64 0, .int .i64 0, .slice none 0 0, .slice none 0 0] _ _ r1
    have hb5 := below_setRow hb1 (by omega : w.heap.size ≤ w.heap.size + 1) #[.int .i64 0, .int .i64 0, .slice none 0 0, .slice none 0 0]
    have hz5 : (w1.setRow (w.heap.size + 1) #[.int .i64 0, .int .i64 0, .slice none 0 0, .slice none 0 0]).heap.size = w1.heap.size := setRow_size _ _ _
    revert hs5 hb5 hz5
    generalize w1.setRow (w.heap.size + 1) #[.int .i64 0, .int .i64 0, .slice none 0 0, .slice none 0 0] = W5
    intro hs5 hb5 hz5
    have hs6 := fun o => (Below.heap_alloc W5 o (w.heap.size + 1) (by omega)).trans hs5
    have hb6 := fun o => hb5.alloc (o := o) hb5.size
    have q0 := fun o => (res_round (W5.alloc o) _ 0 0 none 0 0 none 0 0 (hs6 o)).1
    have q1 := fun o => (res_round (W5.alloc o) _ 0 0 none 0 0 none 0 0 (hs6 o)).2.1
    have q2 := fun o => (res_round (W5.alloc o) _ 0 0 none 0 0 none 0 0 (hs6 o)).2.2.1
    have q3 := fun o => (res_round (W5.alloc o) _ 0 0 none 0 0 none 0 0 (hs6 o)).2.2.2
    refine bodyPost_ret (v := .tuple #[.agg #[.int .i64 0, .int .i64 0, .slice none 0 0, .slice none 0 0], .bool false]) ?_ rfl ⟨⟨0, 0, none, 0, 0, none, 0, 0, rfl⟩, hb6 _⟩
    simp [results, Tryz.f31, go_sem, q0, q1, q2, q3]
set_option maxRecDepth 10000 in
set_option maxHeartbeats 4000000 in
theorem specSure_row (now shift : Int) (b n cap : Nat) (f : Nat → Mv) (b' m cap' : Nat) (t : Nat → Int) (w : World) (hn : n ≤ 1048576) (hm1 : m ≤ maxLen) (hbs : b < w.heap.size) (hrow : MvRow w b 0 n f) (hfit : ∀ i, i < n → (f i).Fits) (hbs' : b' < w.heap.size) (hrow' : IntRow w b' 0 m t) :
    Calls Tryz0.prog 15 #[.agg #[.int .i64 now, .int .i64 shift, .slice (some ⟨b, 0, none⟩) n cap, .slice (some ⟨b', 0, none⟩) m cap']] w fun e w' => e = .returned (.bool (sureB now shift f n t m)) ∧ Below w.heap.size w w' := by
  obtain ⟨wB, hwB⟩ : ∃ W, W = w.alloc (.cells #[.int .i64 now, .int .i64 shift, .slice (some ⟨b, 0, none⟩) n cap, .slice (some ⟨b', 0, none⟩) m cap'] 39) := ⟨_, rfl⟩
  have hbB : Below w.heap.size w wB := by rw [hwB]; exact (Below.refl _ w).alloc (Nat.le_refl _) _
  have hbk : BkOwn wB w.heap.size now shift (.slice (some ⟨b, 0, none⟩) n cap) (.slice (some ⟨b', 0, none⟩) m cap') := by rw [hwB]; exact heap_alloc_new _ _
  have H1 := specBook_row now shift b 0 n cap f b' 0 m cap' t wB hn hm1 (Nat.lt_of_lt_of_le hbs hbB.size) (hrow.below hbB hbs) hfit (Nat.lt_of_lt_of_le hbs' hbB.size) (hrow'.below hbB hbs')
  rw [hwB] at H1
  go_enter Tryz0.func15, Tryz.ntmps15
  cases hb : bookB now shift f n t m with
  | false =>
    rw [hb] at H1
    rw [sureB_no hb]
    go_wp2_with (go_at_call 30; refine H1.mono ?_; clear H1; rintro e w1 ⟨rfl, b1⟩; rw [← hwB] at b1)
    go_ret
    exact ⟨rfl, hbB.trans (b1.mono hbB.size)⟩
  | true =>
    obtain ⟨hm, hmn, hf⟩ := book_parts hb
    replace hmn := hmn.symm
    subst hmn
    have h6 := movesB_six hm
    rw [hb] at H1
    have HB : Hid (bookB now shift f n t n = true) := hb
    clear hb
    go_wp2_with (go_at_call 30; refine H1.mono ?_; clear H1; rintro e w1 ⟨rfl, b1⟩; rw [← hwB] at b1)
    have hb1 := hbB.trans (b1.mono hbB.size)
    have bk1 := hbk.same (b1.block _ hbk.lt)
    clear b1 hbk hbB hwB
    go_loopw [3, 4, 5] (fun x _ _ W => ∃ k : Nat, x = .int .i64 k ∧ k ≤ n ∧ Below w.heap.size w W ∧ BkOwn W w.heap.size now shift (.slice (some ⟨b, 0, none⟩) n cap) (.slice (some ⟨b', 0, none⟩) n cap') ∧ ∀ p, p < k → (f p).lands = true → (roundR f n t p).isSome = true) (fun x _ _ _ => n - (intOf x).toNat)
    case atStart => exact ⟨0, rfl, Nat.zero_le _, hb1, bk1, fun p hp => absurd hp (Nat.not_lt_zero _)⟩
    case round =>
      clear hb1 bk1
      obtain ⟨k, rfl, hk, hBr, bkr, hall⟩ := hrel
      obtain ⟨y0, y1, y2, y3, y4⟩ := bkr.cells
      have lb1 := bkr.lt
      by_cases hlt : k < n
      · have hlt' : (k : Int) < n := by omega
        have lbr := Nat.lt_of_lt_of_le hbs hBr.size
        have lbr' := Nat.lt_of_lt_of_le hbs' hBr.size
        have H2 := l5Round_row b n cap b' cap' k f t now shift wr hm hf hlt lbr (hrow.below hBr hbs) lbr' (hrow'.below hBr hbs')
        have FACTS : ∀ w2, Below wr.heap.size wr w2 → BkOwn w2 w.heap.size now shift (.slice (some ⟨b, 0, none⟩) n cap) (.slice (some ⟨b', 0, none⟩) n cap') ∧ w2.cell? ⟨b, k * 6 + 1, none⟩ = some (.bool (f k).lands) ∧ b < w2.heap.size := fun w2 hb => by
          have h := ((hrow.below hBr hbs).below hb lbr k hlt).c1
          rw [Nat.zero_add] at h
          exact ⟨bkr.same (hb.block _ lb1), h, Nat.lt_of_lt_of_le lbr hb.size⟩
        cases hr : roundR f n t k with
        | none =>
          cases hla : (f k).lands with
          | false =>
            go_wp2_with (go_at_call 31; refine H2.mono ?_; clear H2; rintro e w2 ⟨⟨x0, x1, x2, l2, c2, x3, l3, c3, rfl⟩, b2⟩; obtain ⟨bk2, d1, lb2'⟩ := FACTS w2 b2; rw [hla] at d1; obtain ⟨z0, z1, z2, z3, z4⟩ := bk2.cells; have lk2 := bk2.lt; rw [hr])
            all_goals first | (exfalso; omega) | skip
            go_roundw
            case rel => exact ⟨k + 1, by go_num, by omega, (hBr.trans (b2.mono hBr.size)).alloc (by have := hBr.size; have := b2.size; omega) _, bk2.same (Below.heap_alloc _ _ _ lk2), fun p hp hl => by
              by_cases e : p = k
              · subst e; rw [hla] at hl; cases hl
              · exact hall p (by omega) hl⟩
            case measure => simp [intOf]; omega
          | true =>
            have hno : sureB now shift f n t n = false := sureB_not (fun h => by have := h k hlt hla; rw [hr] at this; cases this)
            go_wp2_with (go_at_call 31; refine H2.mono ?_; clear H2; rintro e w2 ⟨⟨x0, x1, x2, l2, c2, x3, l3, c3, rfl⟩, b2⟩; obtain ⟨bk2, d1, lb2'⟩ := FACTS w2 b2; rw [hla] at d1; obtain ⟨z0, z1, z2, z3, z4⟩ := bk2.cells; have lk2 := bk2.lt; rw [hr])
            all_goals first | (exfalso; omega) | skip
            go_ret
            exact ⟨by first | rfl | (rw [hno]; rfl) | rw [hno], (hBr.trans (b2.mono hBr.size)).alloc (by have := hBr.size; have := b2.size; omega) _⟩
        | some T =>
          cases hla : (f k).lands with
          | false =>
            go_wp2_with (go_at_call 31; refine H2.mono ?_; clear H2; rintro e w2 ⟨⟨x0, x1, x2, l2, c2, x3, l3, c3, rfl⟩, b2⟩; obtain ⟨bk2, d1, lb2'⟩ := FACTS w2 b2; rw [hla] at d1; obtain ⟨z0, z1, z2, z3, z4⟩ := bk2.cells; have lk2 := bk2.lt; rw [hr])
            all_goals first | (exfalso; omega) | skip
            go_roundw
            case rel => exact ⟨k + 1, by go_num, by omega, (hBr.trans (b2.mono hBr.size)).alloc (by have := hBr.size; have := b2.size; omega) _, bk2.same (Below.heap_alloc _ _ _ lk2), fun p hp hl => by
              by_cases e : p = k
              · subst e; rw [hr]; rfl
              · exact hall p (by omega) hl⟩
            case measure => simp [intOf]; omega
          | true =>
            go_wp2_with (go_at_call 31; refine H2.mono ?_; clear H2; rintro e w2 ⟨⟨x0, x1, x2, l2, c2, x3, l3, c3, rfl⟩, b2⟩; obtain ⟨bk2, d1, lb2'⟩ := FACTS w2 b2; rw [hla] at d1; obtain ⟨z0, z1, z2, z3, z4⟩ := bk2.cells; have lk2 := bk2.lt; rw [hr])
            all_goals first | (exfalso; omega) | skip
            go_roundw
            case rel => exact ⟨k + 1, by go_num, by omega, (hBr.trans (b2.mono hBr.size)).alloc (by have := hBr.size; have := b2.size; omega) _, bk2.same (Below.heap_alloc _ _ _ lk2), fun p hp hl => by
              by_cases e : p = k
              · subst e; rw [hr]; rfl
              · exact hall p (by omega) hl⟩
            case measure => simp [intOf]; omega
      · have hlt' : ¬ (k : Int) < n := by omega
        have hyes : sureB now shift f n t n = true := sureB_yes HB.out (fun p hp => hall p (by omega))
        go_wp2
        all_goals first | (exfalso; omega) | skip
        go_ret
        exact ⟨by first | rfl | (rw [hyes]; rfl) | rw [hyes], hBr⟩
end Go.Proofs.YtlmcblcijndipabGreat

namespace Go.Proofs.YtlmcblcijndipabGreat
open Go Go.Conc Go.RowKit
set_option linter.unusedVariables false
set_option linter.unusedSectionVars false
theorem IsMvs.bl {w w' : World} {a : Option Addr} {n cap N : Nat} {f : Nat → Mv} (h : IsMvs w a n cap f) (hN : w.heap.size ≤ N) (hb : Bl N w w') : IsMvs w' a n cap f := by
  obtain ⟨h1, hz | ⟨b, off, rfl, hlt, hr⟩, hf⟩ := h
  · exact ⟨h1, .inl hz, hf⟩
  · exact ⟨h1, .inr ⟨b, off, rfl, Nat.lt_of_lt_of_le hlt hb.size, mv_same hr (hb.block b (by omega))⟩, hf⟩
def LbOwn (w : World) (b : Nat) (now shift : Int) (v u : Value) : Prop := w.heap[b]? = some (.cells #[.int .i64 now, .int .i64 shift, v, u] 35 (0, 0))
theorem LbOwn.lt {w : World} {b : Nat} {now shift : Int} {v u : Value} (h : LbOwn w b now shift v u) : b < w.heap.size := (Array.getElem?_eq_some_iff.1 h).1
theorem LbOwn.same {w w' : World} {b : Nat} {now shift : Int} {v u : Value} (h : LbOwn w b now shift v u) (e : w'.heap[b]? = w.heap[b]?) : LbOwn w' b now shift v u := e.trans h
theorem LbOwn.cells {w : World} {b : Nat} {now shift : Int} {v u : Value} (h : LbOwn w b now shift v u) : w.cell? ⟨b, 0, none⟩ = some (.int .i64 now) ∧ w.cell? ⟨b, 1, none⟩ = some (.int .i64 shift) ∧ w.cell? ⟨b, 2, none⟩ = some v ∧ w.cell? ⟨b, 3, none⟩ = some u := by
  unfold LbOwn at h
  refine ⟨?_, ?_, ?_, ?_⟩ <;> simp [World.cell?, h]
theorem IsInts.bl {w w' : World} {a : Option Addr} {n N : Nat} {t : Nat → Int} (h : IsInts w a n t) (hN : w.heap.size ≤ N) (hb : Bl N w w') : IsInts w' a n t := by
  obtain ⟨h1, hz | ⟨b, off, rfl, hlt, hr⟩, hf⟩ := h
  · exact ⟨h1, .inl hz, hf⟩
  · exact ⟨h1, .inr ⟨b, off, rfl, Nat.lt_of_lt_of_le hlt hb.size, fun i hi => by have := hr i hi; simp only [World.cell?, hb.block b (by omega)] at this ⊢; exact this⟩, hf⟩
section
variable [Gl] {ok : Ctx} {c : Frame} {Q : Value → World → Prop}
theorem WkT.sureOp (E : Wenv Tryz0.prog ok c Dr24) (hSu : ok.inn 17 = true) (hRo : ok.inn 34 = true) (hPl : ok.inn 57 = true) (hSB : ok.inn 8 = true) (hbt : ok.inn 25 = false) {fb : Frame} {a : Act} {k : List Item} {cs : List Frame} {V : World} (hb : ok.inn fb.fn = true) {ops : Array Oper} {i : Nat} {r : List Nat} {o : Oper} (ho : ops[i]? = some o) (hw : Region.wanted o (yielded ops a.tmps) = true)
    {b n cap b' m cap' : Nat} {f : Nat → Mv} {t : Nat → Int} {now shift : Int} (hx : ∀ w, (execOp a.eval o).run Tryz0.prog w = .ok (.enter 17 #[.agg #[.int .i64 now, .int .i64 shift, .slice (some ⟨b, 0, none⟩) n cap, .slice (some ⟨b', 0, none⟩) m cap']]) w)
    (hn : n ≤ 1048576) (hm1 : m ≤ maxLen) (hbs : b < V.heap.size) (hrow : MvRow V b 0 n f) (hbs' : b' < V.heap.size) (hrow' : IntRow V b' 0 m t)
    (hcont : ∀ V', Bl V.heap.size V V' → WkT Tryz0.prog ok c Dr24 Q ⟨fb.at (a.put o.dst (.bool (sureB now shift f n t m))) (.inRegion ops r :: k), cs, V'⟩) : WkT Tryz0.prog ok c Dr24 Q ⟨fb.at a (.inRegion ops (i :: r) :: k), cs, V⟩ :=
  WkT.enterOp E ho hw hSu hx (wk_sure E hSu hRo hPl hSB hbt (r0 := fb.at a (.inRegion ops (i :: r) :: k)) hb hn hm1 hbs hrow hbs' hrow' (fun V' hv => by rw [finish_reg ho]; exact hcont V' hv))
set_option maxRecDepth 100000 in
set_option maxHeartbeats 4000000 in
theorem wk_lawSure (E : Wenv Tryz0.prog ok c Dr24) (hL : ok.inn 4 = true) (hSu : ok.inn 17 = true) (hRo : ok.inn 34 = true) (hPl : ok.inn 57 = true) (hSB : ok.inn 8 = true) (hbt : ok.inn 25 = false) {V : World}
    {now shift : Int} {a : Option Addr} {n cap : Nat} {f : Nat → Mv} {a' : Option Addr} {m cap' : Nat} {t : Nat → Int} (h : IsMvs V a n cap f) (h' : IsInts V a' m t) :
    WkT Tryz0.prog ok c Dr24 (fun v V' => v = .bool true ∧ Bl V.heap.size V V') ⟨Frame.enter Tryz0.prog 4 #[.agg #[.int .i64 now, .int .i64 shift, .slice a n cap, .slice a' m cap']] .normal, [], V⟩ := by
  have hE := enter_at (P := Tryz0.prog) #[.agg #[.int .i64 now, .int .i64 shift, .slice a n cap, .slice a' m cap']] Tryz0.func4 rfl
  simp only [Tryz.ntmps4, List.size_toArray, List.length_cons, List.length_nil, Nat.reduceAdd, Nat.reduceSub, Array.replicate_succ, Array.replicate_zero, List.push_toArray, List.append_toArray, List.nil_append, List.cons_append] at hE
  rw [hE]
  clear hE
  have hfits := h.2.2
  have htop : ∀ (a' : Act) (w' : World) (todo : List Item), (Bl V.heap.size V w' ∧ a'.defers = [] ∧ a'.tmps[2]? = some (.bool true)) → WkT Tryz0.prog ok c Dr24 (fun v V' => v = .bool true ∧ Bl V.heap.size V V') ⟨{ (base 4).at a' todo with mode := .returning }, [], w'⟩ := by
    rintro a' w' todo ⟨h1, h2, h3⟩
    refine WkT.ends (fun τ d => ⟨rfl, .bool true, ⟨rfl, h2, rfl, _, Tryz0.func4, ?_⟩, rfl, ⟨h1.size, h1.block⟩⟩) ⟨_, 2, Tryz0.func4, rfl⟩
    have := results_tmp (fn := Tryz.f4) rfl a'.tmps Tryz0.prog (re w' τ d)
    rw [getD_of h3] at this
    exact this
  obtain ⟨sb, hsb⟩ : ∃ sb, sureB now shift f n t m = sb := ⟨_, rfl⟩
  refine WkT.chainM E hL [_, _, _, _, _, _] _ (fun a₁ w' => n ≤ 1048576 ∧ m ≤ 1048576 ∧ Bl V.heap.size V w' ∧ ∃ B1 B5 CM CT, LbOwn w' B1 now shift (.slice a n cap) (.slice a' m cap') ∧ BkOwn w' B5 now shift (.slice (some ⟨CM, 0, none⟩) n n) (.slice (some ⟨CT, 0, none⟩) m m) ∧ MvRow w' CM 0 n f ∧ CM < w'.heap.size ∧ OwnInts w' CT m t ∧ FrIs a₁ (fun u => #[u 0, .pointer (some ⟨B1, 0, none⟩), u 2, u 3, .bool sb, .pointer (some ⟨B5, 0, none⟩), u 6, u 7, u 8, u 9, u 10, u 11, u 12, u 13, u 14, u 15, u 16, u 17, u 18, u 19, u 20, u 21, u 22, u 23, u 24, u 25, u 26])) (fun a₁ w' => Bl V.heap.size V w' ∧ a₁.defers = [] ∧ a₁.tmps[2]? = some (.bool true)) ?_ ?_ (fun a₁ w' todo hh => htop a₁ w' todo hh)
  · intro τ d
    have h0 : IsMvs (re V τ d) a n cap f := h.bl (Nat.le_refl _) ⟨Nat.le_refl _, fun _ _ => rfl⟩
    have h0' : IsInts (re V τ d) a' m t := h'.bl (Nat.le_refl _) ⟨Nat.le_refl _, fun _ _ => rfl⟩
    have hbl0 : ∀ W, Below (re V τ d).heap.size (re V τ d) W → Bl V.heap.size V W := fun W h => Bl.ofR h
    revert h0 h0' hbl0
    generalize re V τ d = w
    intro h0 h0' hbl0
    have HZ := fun W (hW : Below w.heap.size w W) => szBook_any now shift a n cap f a' m cap' t 1048576 W (h0.below hW) (h0'.below hW) (by omega) (by omega)
    have G := fun W (hW : Below w.heap.size w W) (hn : n ≤ 1048576) (hm : m ≤ 1048576) => toBook_any now shift a n cap f a' m cap' t W (h0.below hW) hn (h0'.below hW) hm
    clear htop h h' h0 h0'
    have bA : ∀ o, Below w.heap.size w (w.alloc o) := fun o => (Below.refl _ w).alloc (Nat.le_refl _) _
    simp only [wpChain]
    go_wp2_with (go_at_call 14; refine (HZ _ (bA _)).mono ?_; clear HZ; rintro e w1 ⟨⟨r, rfl, hr⟩, b1⟩; have B1 := (bA _).trans (b1.mono (bA _).size); have lb1 : LbOwn w1 w.heap.size now shift (.slice a n cap) (.slice a' m cap') := (b1.block _ (by simp)).trans (heap_alloc_new _ _); obtain ⟨g0, g1, g2, g3⟩ := lb1.cells)
    · have hbl := hbl0 _ B1
      first
        | exact hbl
        | exact ⟨hbl, rfl⟩
        | exact ⟨hbl, rfl, rfl⟩
    · have hn : n ≤ 1048576 := by omega
      have hm : m ≤ 1048576 := by omega
      have H2 := G w1 B1 hn hm
      go_wp2_with (first
        | (go_at_call 16; refine H2.mono ?_; clear H2; rintro e w2 ⟨⟨BM, BT, rfl, l2, l2', r2, o2, i2⟩, b2⟩; have B2 := B1.trans (b2.mono B1.size); have lb2 := lb1.same (b2.block _ lb1.lt); obtain ⟨k0, k1, k2, k3⟩ := lb2.cells; have H3 := specSure_row now shift BM n n f BT m m t w2 hn (by unfold maxLen; omega) o2.lt r2 hfits i2.lt i2.2; rw [hsb] at H3)
        | (go_at_call 15; refine H3.mono ?_; clear H3; rintro e w3 ⟨rfl, b3⟩; have B3 := B2.trans (b3.mono B2.size); have lb3 := lb2.same (b3.block _ lb2.lt); obtain ⟨p0, p1, p2, p3⟩ := lb3.cells; have H4 := G w3 B3 hn hm)
        | (go_at_call 16; refine H4.mono ?_; clear H4; rintro e w4 ⟨⟨CM, CT, rfl, l4, l4', r4, o4, i4⟩, b4⟩; have B4 := B3.trans (b4.mono B3.size); have lb4 := lb3.same (b4.block _ lb3.lt)))
      have bX : Below w4.heap.size w4 (w4.alloc (.cells #[.int .i64 now, .int .i64 shift, .slice (some ⟨CM, 0, none⟩) n n, .slice (some ⟨CT, 0, none⟩) m m] 39)) := (Below.refl _ _).alloc (Nat.le_refl _) _
      have hbl := hbl0 _ (B4.trans (bX.mono B4.size))
      have hbk : BkOwn (w4.alloc (.cells #[.int .i64 now, .int .i64 shift, .slice (some ⟨CM, 0, none⟩) n n, .slice (some ⟨CT, 0, none⟩) m m] 39)) w4.heap.size now shift (.slice (some ⟨CM, 0, none⟩) n n) (.slice (some ⟨CT, 0, none⟩) m m) := heap_alloc_new _ _
      first
        | exact ⟨hn, hm, hbl, w.heap.size, w4.heap.size, CM, CT, lb4.same (bX.block _ lb4.lt), hbk, r4.below bX o4.lt, Nat.lt_of_lt_of_le o4.lt bX.size, i4.below bX i4.lt, rfl, rfl⟩
        | trace_state
  rintro a₁ w1 ⟨hn, hm, hb1, B1, B5, CM, CT, lb1, bk1, row1, hCM, ow1, hfr⟩
  obtain ⟨u, rfl⟩ := hfr.open
  clear hfr
  have hz1 := hb1.size
  refine WkT.seq E hL (WkT.region E hL ?_)
  rw [range_from]
  refine WkT.opsFrom E hL 0 1 (by simp) (fun a₁ w' => (∃ τ d, w' = re w1 τ d) ∧ FrIs a₁ (fun u => #[u 0, .pointer (some ⟨B1, 0, none⟩), u 2, u 3, .bool sb, .pointer (some ⟨B5, 0, none⟩), u 6, u 7, u 8, u 9, u 10, u 11, u 12, u 13, u 14, u 15, u 16, .agg #[.int .i64 now, .int .i64 shift, .slice (some ⟨CM, 0, none⟩) n n, .slice (some ⟨CT, 0, none⟩) m m], u 18, u 19, u 20, u 21, u 22, u 23, u 24, u 25, u 26])) ?_ ?_
  · intro τ d
    have bk0 : BkOwn (re w1 τ d) B5 now shift (.slice (some ⟨CM, 0, none⟩) n n) (.slice (some ⟨CT, 0, none⟩) m m) := bk1
    obtain ⟨y0, y1, y2, y3, y4⟩ := bk0.cells
    clear htop
    simp only [List.drop_zero, List.take_succ_cons, List.take_zero]
    go_wp2
    exact ⟨⟨τ, d, rfl⟩, rfl, rfl⟩
  rintro a₁ w' ⟨⟨τ1, d1, rfl⟩, hfr⟩
  clear u
  obtain ⟨u, rfl⟩ := hfr.open
  clear hfr
  refine WkT.sureOp E hSu hRo hPl hSB hbt hL (i := 1) rfl rfl (b := CM) (n := n) (cap := n) (b' := CT) (m := m) (cap' := m) (f := f) (t := t) (now := now) (shift := shift) (fun w => by simp [execOp, resolve, invoke, Act.eval, go_sem]) hn (by unfold maxLen; omega) hCM (mv_same row1 rfl) ow1.lt (own_same ow1 rfl).2 ?_
  intro V2 hb2'
  rw [hsb]
  have hb2 : Bl w1.heap.size w1 V2 := ⟨hb2'.size, hb2'.block⟩
  clear hb2'
  refine WkT.opsFrom E hL 2 1 (by simp) (fun a₁ w' => (∃ τ d, w' = re V2 τ d) ∧ FrIs a₁ (fun u => #[u 0, .pointer (some ⟨B1, 0, none⟩), u 2, u 3, .bool sb, .pointer (some ⟨B5, 0, none⟩), .bool sb, u 7, u 8, u 9, u 10, u 11, u 12, u 13, u 14, u 15, u 16, u 17, u 18, u 19, u 20, u 21, u 22, u 23, u 24, u 25, u 26])) ?_ ?_
  · intro τ d
    clear htop
    simp only [List.drop_succ_cons, List.drop_zero, List.take_succ_cons, List.take_zero, Act.put]
    go_wp2
    exact ⟨⟨τ, d, rfl⟩, rfl, rfl⟩
  rintro a₁ w' ⟨⟨τ2, d2, rfl⟩, hfr⟩
  clear u
  obtain ⟨u, rfl⟩ := hfr.open
  clear hfr
  refine WkT.regionEnd E hL ?_
  have hz2 := hb2.size
  have hb02 : Bl V.heap.size V V2 := hb1.trans hb2 hz1
  have lb2 := lb1.same (hb2.block _ lb1.lt)
  have bk2 := bk1.same (hb2.block _ bk1.lt)
  have row2 := mv_same row1 (hb2.block CM hCM)
  have ow2 := own_same ow1 (hb2.block CT ow1.lt)
  have hCM2 : CM < V2.heap.size := by omega
  refine WkT.chainM E hL [_, _] _ (fun a₁ w' => Bl V.heap.size V w' ∧ FrIs a₁ (fun u => #[u 0, u 1, u 2, u 3, u 4, u 5, u 6, u 7, u 8, u 9, u 10, u 11, u 12, u 13, u 14, u 15, u 16, u 17, u 18, u 19, u 20, u 21, u 22, u 23, u 24, u 25, u 26])) (fun _ _ => False) ?_ ?_ (fun _ _ _ hh => hh.elim)
  · intro τ d
    have h0 : IsMvs (re (re V2 τ2 d2) τ d) a n cap f := h.bl (Nat.le_refl _) ⟨hb02.size, hb02.block⟩
    have h0' : IsInts (re (re V2 τ2 d2) τ d) a' m t := h'.bl (Nat.le_refl _) ⟨hb02.size, hb02.block⟩
    have hbl0 : ∀ W, Below (re (re V2 τ2 d2) τ d).heap.size (re (re V2 τ2 d2) τ d) W → Bl V.heap.size V W := fun W h => hb02.trans (M := V2.heap.size) ⟨h.size, h.block⟩ hb02.size
    have lb0 : LbOwn (re (re V2 τ2 d2) τ d) B1 now shift (.slice a n cap) (.slice a' m cap') := lb2
    have bk0 : BkOwn (re (re V2 τ2 d2) τ d) B5 now shift (.slice (some ⟨CM, 0, none⟩) n n) (.slice (some ⟨CT, 0, none⟩) m m) := bk2
    have row0 : MvRow (re (re V2 τ2 d2) τ d) CM 0 n f := mv_same row2 rfl
    have ow0 : OwnInts (re (re V2 τ2 d2) τ d) CT m t := own_same ow2 rfl
    have hCM0 : CM < (re (re V2 τ2 d2) τ d).heap.size := hCM2
    revert h0 h0' hbl0 lb0 bk0 row0 ow0 hCM0
    generalize re (re V2 τ2 d2) τ d = w
    intro h0 h0' hbl0 lb0 bk0 row0 ow0 hCM0
    clear htop h h' hb1 hb2 hb02 lb1 lb2 bk1 bk2 row1 row2 ow1 ow2 hCM hCM2
    obtain ⟨g0, g1, g2, g3⟩ := lb0.cells
    obtain ⟨y0, y1, y2, y3, y4⟩ := bk0.cells
    have H6 := (toBook_any now shift a n cap f a' m cap' t w.drew (h0.below (Below.refl _ w).drew) hn (h0'.below (Below.refl _ w).drew) hm)
    have l1 := lb0.lt
    have l5 := bk0.lt
    clear h0 h0'
    simp only [wpChain]
    go_wp2
    go_region_held3 (fun w' => (w'.cell? ⟨B5, 0, none⟩ = some (.int .i64 now) ∧ w'.cell? ⟨B5, 1, none⟩ = some (.int .i64 shift) ∧ w'.cell? ⟨B5, 2, none⟩ = some (.slice (some ⟨CM, 0, none⟩) n n) ∧ w'.cell? ⟨B5, 3, none⟩ = some (.slice (some ⟨CT, 0, none⟩) m m)) ∧ w'.cell? ⟨B1, 0, none⟩ = some (.int .i64 now) ∧ w'.cell? ⟨B1, 1, none⟩ = some (.int .i64 shift) ∧ w'.cell? ⟨B1, 2, none⟩ = some (.slice a n cap) ∧ w'.cell? ⟨B1, 3, none⟩ = some (.slice a' m cap')) (go_keep)
      (first
      | (go_at_call 16; refine H6.mono ?_; clear H6; rintro e w7 ⟨⟨DM, DT, rfl, l7, l7', r7, o7, i7⟩, b7⟩; have B7 : Below w.heap.size w w7 := ((Below.refl _ w).drew).trans b7; have lb7 := lb0.same (B7.block _ l1); have bk7 := bk0.same (B7.block _ l5); obtain ⟨z0, z1, z2, z3, z4⟩ := bk7.cells; obtain ⟨v0, v1, v2, v3⟩ := lb7.cells; have H7 := eqBook_same now shift CM 0 n DM 0 n n f CT 0 m DT 0 m m t w7 hn hm (Nat.lt_of_lt_of_le hCM0 B7.size) (row0.below B7 hCM0) o7.lt r7 (ow0.below B7 ow0.lt).lt (ow0.below B7 ow0.lt).2 i7.lt i7.2)
      | (go_at_call 18; refine H7.mono ?_; clear H7; rintro e w8 ⟨rfl, b8⟩; have B8 := B7.trans (b8.mono B7.size); have lb8 := lb0.same (B8.block _ l1); have bk8 := bk0.same (B8.block _ l5); obtain ⟨x0, x1, x2, x3, x4⟩ := bk8.cells; obtain ⟨t0, t1, t2, t3⟩ := lb8.cells))
    all_goals
      go_wp2
      first
        | exact hbl0 _ B8
        | exact ⟨hbl0 _ B8, rfl, rfl⟩
        | trace_state
  rintro a₁ w3 ⟨hb3, hfr⟩
  clear u
  obtain ⟨u, rfl⟩ := hfr.open
  clear hfr
  refine WkT.last E hL [_] (fun a₁ w' => Bl V.heap.size V w' ∧ a₁.defers = [] ∧ a₁.tmps[2]? = some (.bool true)) ?_ (fun a₁ w' todo hh => htop a₁ w' todo hh)
  intro τ d
  simp only [wpChain]
  go_wp2
  exact ⟨hb3.size, hb3.block⟩
end
end Go.Proofs.YtlmcblcijndipabGreat
