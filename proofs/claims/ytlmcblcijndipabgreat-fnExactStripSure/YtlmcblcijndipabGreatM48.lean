/- Texts of the proof, one behind another: H1, HA. -/
import Derived.Test.YtlmcblcijndipabGreatM46
import Derived.Test.YtlmcblcijndipabGreatM21
import Derived.Test.YtlmcblcijndipabGreatM45
import Derived.Test.YtlmcblcijndipabGreatM42
import Derived.Test.YtlmcblcijndipabGreatM43
namespace Go.Proofs.YtlmcblcijndipabGreat
open Go Go.Conc Go.RowKit
set_option linter.unusedVariables false
set_option linter.unusedSectionVars false
theorem mv_same {w w' : World} {b off n : Nat} {f : Nat → Mv} (h : MvRow w b off n f) (e : w'.heap[b]? = w.heap[b]?) : MvRow w' b off n f := fun i hi => by
  obtain ⟨c0, c1, c2, c3, c4, c5⟩ := h i hi
  have k : ∀ {j : Nat} {v : Value}, w.cell? ⟨b, j, none⟩ = some v → w'.cell? ⟨b, j, none⟩ = some v := fun {j v} hv => by simp only [World.cell?, e] at hv ⊢; exact hv
  exact ⟨k c0, k c1, k c2, k c3, k c4, k c5⟩
theorem own_same {w w' : World} {b n : Nat} {g : Nat → Int} (h : OwnInts w b n g) (e : w'.heap[b]? = w.heap[b]?) : OwnInts w' b n g := by
  obtain ⟨⟨cs, h1, h2⟩, h3⟩ := h
  exact ⟨⟨cs, e.trans h1, h2⟩, fun i hi => by have := h3 i hi; simp only [World.cell?, e] at this ⊢; exact this⟩
theorem plain_same {w w' : World} {b : Nat} (h : PlainRow w b) (e : w'.heap[b]? = w.heap[b]?) : PlainRow w' b := by
  obtain ⟨cs, t, h1, h2⟩ := h
  exact ⟨cs, t, e.trans h1, h2⟩
theorem getD_of {a : Array Value} {i : Nat} {v : Value} (h : a[i]? = some v) : a.getD i undef = v := by simp [Array.getD_eq_getD_getElem?, h]
def BestPost (r : Option (Nat → Int)) (n : Nat) (V : World) (v : Value) (V' : World) : Prop :=
  (match r with
  | some T => ∃ B c, V.heap.size ≤ B ∧ v = .tuple #[.slice (some ⟨B, 0, none⟩) n c, .bool true] ∧ OwnInts V' B n T
  | none => ∃ a c, v = .tuple #[.slice a 0 c, .bool false]) ∧ Bl V.heap.size V V'
theorem near_pos {b off n cap : Nat} {f : Nat → Mv} {shift : Int} {w : World} (hn : n ≤ 1048576) (hbs : b < w.heap.size) (hrow : MvRow w b off n f) {p : List Nat → Bool} (hp : NearP f n shift p) (h0 : 0 ≤ shift) : 0 < ((allP n).filter p).length := by
  obtain ⟨e, w', ⟨g, _, _, hg, _⟩, _⟩ := ex_of_calls (specFirst_row b off n cap f w hn hbs hrow)
  obtain ⟨l, hl, hgl⟩ := allP_all (n := n) (g := g) hg.low hg.inj
  have hs : IsShift (fun i => ((pl l i : Nat) : Int)) (fun i => ((g i : Nat) : Int)) n 0 := by
    refine ⟨Int.le_refl _, by omega, fun i k hi hk he => ?_, .inl rfl⟩
    rw [hgl i hi] at he
    have : i = k := by
      rcases Nat.lt_trichotomy i k with h | h | h
      · exact absurd (by omega) (hg.inj i k h hk)
      · exact h
      · exact absurd (by omega) (hg.inj k i h hi)
    omega
  have := (hp g hg l hl 0 hs).2 h0
  exact List.length_pos_of_mem (List.mem_filter.2 ⟨hl, this⟩)
theorem fed_of {w : World} {b off n NB nc : Nat} {f : Nat → Mv} {p : List Nat → Bool} {vals : List Value} {lo : Nat} (hm : movesB f n = true) (hrow : MvRow w b off n f) (hplain : PlainRow w b) (hpos : 0 < ((allP n).filter p).length)
    (own : w.ownsRow lo 85 1 (.slice (some ⟨NB, 0, none⟩) ((allP n).filter p).length nc) ((allP n).filter p).length vals) (rows : RowsIn w n lo vals ((allP n).filter p)) :
    ∃ tb toff tc, Fed w b off n NB 0 ((allP n).filter p).length f tb toff tc (fun i => pl (((allP n).filter p).getD i [])) := by
  have h6 := movesB_six hm
  have hx : ∀ i, ∃ q : Nat × Nat, i < ((allP n).filter p).length → vals[i]? = some (Value.slice (some ⟨q.1, 0, none⟩) n q.2) ∧ n ≤ q.2 ∧ IntsB w q.1 ∧ IntRow w q.1 0 n (fun j => ((pl (((allP n).filter p).getD i []) j : Nat) : Int)) := fun i => by
    by_cases hi : i < ((allP n).filter p).length
    · obtain ⟨tb, tc, h1, h2, h3, h4, h5⟩ := rows i (((allP n).filter p).getD i []) (by simp [hi])
      exact ⟨(tb, tc), fun _ => ⟨h1, h2, h4, h5⟩⟩
    · exact ⟨(0, 0), fun h => absurd h hi⟩
  have hmem : ∀ i, i < ((allP n).filter p).length → ((allP n).filter p).getD i [] ∈ allP n := fun i hi => by
    have : ((allP n).filter p).getD i [] ∈ (allP n).filter p := by simp only [List.getD_eq_getElem?_getD, List.getElem?_eq_getElem hi, Option.getD_some]; exact List.getElem_mem hi
    exact (List.mem_filter.1 this).1
  refine ⟨fun i => (hx i).choose.1, fun _ => 0, fun i => (hx i).choose.2, ⟨hm, hrow, hplain, fun i hi => ?_, fun i hi => ?_, fun i hi => ((hx i).choose_spec hi).2.1, fun i hi => ((hx i).choose_spec hi).2.2.2, fun i hi => (allP_ord (hmem i hi)).2.1, fun i hi => (allP_ord (hmem i hi)).2.2, ?_, hpos⟩⟩
  · rw [Nat.zero_add, own.cellAt i (by omega)]
    exact ((hx i).choose_spec hi).1
  · obtain ⟨cs, g1, g2⟩ := ((hx i).choose_spec hi).2.2.1
    exact ⟨cs, _, g1, fun v hv => .inr (.inl (by obtain ⟨x, rfl⟩ := g2 v hv; exact ⟨_, _, rfl⟩))⟩
  · have h1 := (allP_length n h6).1
    have h2 := List.length_filter_le p (allP n)
    omega
section
variable [Gl] {ok : Ctx} {c : Frame} {Dr : FuncId → Array Value → World → (Value → World → Prop) → Prop} {Q : Value → World → Prop} {P₀ : Program}
theorem WkT.ret {b : Frame} {a : Act} {k : List Item} {cs : List Frame} {V : World} (E : Wenv P₀ ok c Dr) (hb : ok.inn b.fn = true) (h : WkT P₀ ok c Dr Q ⟨{ b.at a (.code .ret :: k) with mode := .returning }, cs, V⟩) : WkT P₀ ok c Dr Q ⟨b.at a (.code .ret :: k), cs, V⟩ :=
  WkT.of_steps E.pair E.shut E.floor (fun s1 => ∃ τ d, s1 = St.re ⟨{ b.at a (.code .ret :: k) with mode := .returning }, cs, V⟩ τ d) (by rintro _ ⟨τ, d, rfl⟩; exact hb) (fun τ d => ⟨_, ⟨τ, d, rfl⟩, .one step_ret⟩) (by rintro _ ⟨τ, d, rfl⟩; exact fun τ' d' => h τ' d')
theorem WkT.last {b : Frame} {a : Act} {k : List Item} {cs : List Frame} {V : World} (E : Wenv P₀ ok c Dr) (hb : ok.inn b.fn = true) (ss : List Code) (R : Act → World → Prop)
    (h : ∀ τ d, wpChain P₀ (fun e a w => (e = .normal ∧ R a w) ∨ (e = .ret ∧ R a w)) ss a (re V τ d)) (hR : ∀ a' w' todo, R a' w' → WkT P₀ ok c Dr Q ⟨{ b.at a' todo with mode := .returning }, cs, w'⟩) :
    WkT P₀ ok c Dr Q ⟨b.at a (.code (Proofs.YtlmcblcijndipabGreat.chain ss .ret) :: k), cs, V⟩ :=
  WkT.chain E hb ss .ret R R h (fun a' w' h' => WkT.ret E hb (hR a' w' _ h')) hR
theorem WkT.opsFrom {b : Frame} {a : Act} {k : List Item} {cs : List Frame} {V : World} (E : Wenv P₀ ok c Dr) (hb : ok.inn b.fn = true) {ops : Array Oper} (j m : Nat) (hm : j + m ≤ ops.size) (K : Act → World → Prop)
    (h : ∀ τ d, wpList P₀ ops (fun e a w => e = .normal ∧ K a w) ((ops.toList.drop j).take m) a (re V τ d)) (hK : ∀ a' w', K a' w' → WkT P₀ ok c Dr Q ⟨b.at a' (.inRegion ops (List.range' (j + m) (ops.size - (j + m))) :: k), cs, w'⟩) :
    WkT P₀ ok c Dr Q ⟨b.at a (.inRegion ops (List.range' j (ops.size - j)) :: k), cs, V⟩ := by
  have hl : ((ops.toList.drop j).take m).length = m := by simp; omega
  have e : List.range' j (ops.size - j) = List.range' j ((ops.toList.drop j).take m).length ++ List.range' (j + m) (ops.size - (j + m)) := by
    rw [hl, List.range'_append_1]
    congr 1
    omega
  rw [e]
  refine WkT.ops E hb j _ _ K (fun i hi => ?_) h hK
  rw [hl] at hi
  rw [List.getElem?_take, if_pos hi, List.getElem?_drop]
  simp
theorem range_from {ops : Array Oper} : List.range ops.size = List.range' 0 (ops.size - 0) := by rw [List.range_eq_range']; rfl
theorem wk_best (E : Wenv Tryz0.prog ok c Dr24) (hSB : ok.inn 8 = true) (hbt : ok.inn 25 = false) {r0 : Frame} {cs : List Frame} {V : World} (hr0 : ok.inn r0.fn = true)
    {b off n cap : Nat} {f : Nat → Mv} {shift : Int} (hn : n ≤ 1048576) (hbs : b < V.heap.size) (hrow : MvRow V b off n f) (hplain : PlainRow V b) {p : List Nat → Bool} (hp : NearP f n shift p)
    (hcont : ∀ v V', BestPost (bestR f n shift p) n V v V' → WkT Tryz0.prog ok c Dr24 Q ⟨r0.finish v, cs, V'⟩) :
    WkT Tryz0.prog ok c Dr24 Q ⟨Frame.enter Tryz0.prog 8 #[.slice (some ⟨b, off, none⟩) n cap, .int .i64 shift] .normal, r0 :: cs, V⟩ := by
  have hE := enter_at (P := Tryz0.prog) #[.slice (some ⟨b, off, none⟩) n cap, .int .i64 shift] Tryz0.func8 rfl
  simp only [Tryz.ntmps8, List.size_toArray, List.length_cons, List.length_nil, Nat.reduceAdd, Nat.reduceSub, Array.replicate_succ, Array.replicate_zero, List.push_toArray, List.append_toArray, List.nil_append, List.cons_append] at hE
  rw [hE]
  by_cases hg : movesB f n = true ∧ 0 ≤ shift ∧ shift ≤ 6
  · obtain ⟨hm, hs0, hs6⟩ := hg
    have hs0' : ¬ shift < 0 := by omega
    have hs6' : ¬ 6 < shift := by omega
    refine WkT.chain E hSB [_, _] _ (fun a w => Bl V.heap.size V w ∧ ∃ u2 u3 u4 u5 u6 u7 u8 u9 u10 u11 u12 u13 u14 u15 u16 u17 u18 u19 u20 u21 u22 u23 u24 u25 u26, a = ⟨#[.slice (some ⟨b, off, none⟩) n cap, .int .i64 shift, u2, u3, u4, u5, u6, u7, u8, u9, u10, u11, u12, u13, u14, u15, u16, u17, u18, u19, u20, u21, u22, u23, u24, u25, u26], []⟩) (fun _ _ => False) ?_ ?_ (fun _ _ _ h => h.elim)
    · intro τ d
      have H1 := implMoves_row b off n cap f (re V τ d) hn hbs (mv_same hrow rfl)
      rw [hm] at H1
      simp only [wpChain]
      clear hE
      go_wp2_with (go_at_call 24; refine H1.mono ?_; clear H1; rintro e w1 ⟨rfl, b1⟩)
      left
      refine ⟨by first | rfl | trivial, Bl.ofR b1, ?_⟩
      repeat apply Exists.intro
      rfl
    · rintro a w1 ⟨hb1, u2, u3, u4, u5, u6, u7, u8, u9, u10, u11, u12, u13, u14, u15, u16, u17, u18, u19, u20, u21, u22, u23, u24, u25, u26, rfl⟩
      refine WkT.seq E hSB (WkT.region E hSB ?_)
      rw [range_from]
      have hrow1 := mv_same hrow (hb1.block b hbs)
      have hz1 := hb1.size
      have hpos := near_pos (cap := cap) hn hbs hrow hp hs0
      refine WkT.opsFrom E hSB 0 4 (by simp) (fun a w => Bl w1.heap.size w1 w ∧ (∃ NB nc vals, w.ownsRow w1.heap.size 85 1 (.slice (some ⟨NB, 0, none⟩) ((allP n).filter p).length nc) ((allP n).filter p).length vals ∧ RowsIn w n w1.heap.size vals ((allP n).filter p) ∧ ∃ u2 u3 u4 u5 u6 u7 u8 u9 u10 u11 u12 u13 u14 u15 u16 u17 u19 u20 u22 u23 u24 u25 u26, a = ⟨#[.slice (some ⟨b, off, none⟩) n cap, .int .i64 shift, u2, u3, u4, u5, u6, u7, u8, u9, u10, u11, u12, u13, u14, u15, u16, u17, .slice (some ⟨b, off, none⟩) n cap, u19, u20, .slice (some ⟨NB, 0, none⟩) ((allP n).filter p).length nc, u22, u23, u24, u25, u26], []⟩)) ?_ ?_
      · intro τ d
        have H2 := near_row b off n cap f shift (re w1 τ d) hm (by show b < w1.heap.size; omega) (mv_same hrow1 rfl) p hp
        clear hE
        simp only [List.drop_zero, List.take_succ_cons, List.take_zero]
        go_wp2_with (go_at_call 26; refine H2.mono ?_; clear H2; rintro e w2 ⟨⟨v, vals, rfl, o2, r2⟩, b2⟩)
        obtain ⟨M, hM⟩ : ∃ M, ((allP n).filter p).length = M + 1 := ⟨((allP n).filter p).length - 1, by omega⟩
        obtain ⟨NB, nc, rfl⟩ : ∃ NB nc, v = .slice (some ⟨NB, 0, none⟩) ((allP n).filter p).length nc := by rw [hM] at o2 ⊢; exact own_succ o2
        exact ⟨Bl.ofR b2, NB, nc, vals, o2, r2, rfl⟩
      · rintro a w2 ⟨hb2, NB, nc, vals, o2, r2, u2, u3, u4, u5, u6, u7, u8, u9, u10, u11, u12, u13, u14, u15, u16, u17, u19, u20, u22, u23, u24, u25, u26, rfl⟩
        have hb12 : Bl V.heap.size V w2 := hb1.trans hb2 hz1
        have hz2 := hb2.size
        obtain ⟨tb, toff, tc, hfed⟩ := fed_of hm (mv_same hrow (hb12.block b hbs)) (plain_same hplain (hb12.block b hbs)) hpos o2 r2
        refine WkT.doorOp E (i := 4) rfl rfl hbt (fun w => ?_) (fun τ d => ⟨rfl, b, off, n, cap, NB, 0, _, nc, f, tb, toff, tc, _, rfl, hfed.re τ d, rfl⟩) ?_
        · simp [execOp, resolve, invoke, Act.eval, go_sem]
        · rintro τ d v V3 ⟨x, aL, hA, haL, rfl, hfr⟩
          have hbst := ans_best hA
          have hB3 : Bl w2.heap.size w2 V3 := by
            rcases hfr with ⟨_, _, rfl⟩ | ⟨cs, _, rfl, _⟩
            · exact ⟨Nat.le_refl _, fun _ _ => rfl⟩
            · exact ⟨by simp [re], fun k hk => Below.heap_alloc _ _ _ hk⟩
          have hB03 : Bl V.heap.size V V3 := hb12.trans hB3 (by omega)
          have hz3 := hB3.size
          have hpost : ∀ w', Bl V3.heap.size V3 w' → BestPost (bestR f n shift p) n V (.tuple #[.slice aL x.n x.cap, .bool x.ok]) w' := fun w' hw' => by
            refine ⟨?_, hB03.trans hw' (by omega)⟩
            unfold bestR
            rw [if_pos ⟨hm, hs0, hs6⟩]
            cases hO : bestO f n ((allP n).filter p) with
            | none =>
              rw [hO] at hbst
              obtain ⟨h1, h2, h3, h4⟩ := hbst
              exact ⟨aL, x.cap, by rw [h1, h2]⟩
            | some T =>
              rw [hO] at hbst
              obtain ⟨h1, h2, h3, h4, h5⟩ := hbst
              rcases hfr with ⟨h, _⟩ | ⟨cs, ha, rfl, hi, hrow3, _, hsz⟩
              · exact absurd (haL.2 h) h4
              · replace ha : aL = some ⟨w2.heap.size, 0, none⟩ := ha
                replace hsz : cs.size = x.n := hsz
                have hnew : ((re w2 τ d).alloc (.cells cs 3)).heap[w2.heap.size]? = some (.cells cs 3 (0, 0)) := heap_alloc_new (re w2 τ d) _
                have hrow4 : IntRow ((re w2 τ d).alloc (.cells cs 3)) w2.heap.size 0 n T := by
                  rcases hrow3 with h | ⟨b5, o5, h, hr⟩
                  · replace h : x.n = 0 := h
                    intro i hi'
                    omega
                  · replace h : aL = some ⟨b5, o5, none⟩ := h
                    rw [ha] at h
                    simp only [Option.some.injEq, Addr.mk.injEq] at h
                    obtain ⟨rfl, rfl, _⟩ := h
                    intro i hi'
                    have := hr i (by show i < x.n; omega)
                    rw [this]
                    exact congrArg (fun z => some (Value.int .i64 z)) (h5 i hi')
                refine ⟨w2.heap.size, x.cap, by omega, by rw [h1, h2, ha], ?_⟩
                have hlt : w2.heap.size < ((re w2 τ d).alloc (.cells cs 3)).heap.size := by simp [re]
                exact own_same ⟨⟨cs, hnew, by omega⟩, hrow4⟩ (hw'.block _ hlt)
          clear hA hbst hfr
          refine WkT.opsFrom E hSB 5 2 (by simp) (fun a w => Bl V3.heap.size V3 w ∧ ∃ B6, w.cell? ⟨B6, 0, none⟩ = some (.bool x.ok) ∧ w.cell? ⟨B6, 3, none⟩ = some (.slice aL x.n x.cap) ∧ ∃ u0 u1 u2 u3 u4 u5 u7 u8 u9 u10 u11 u12 u13 u14 u15 u16 u17 u18 u19 u20 u21 u22 u23 u24 u25 u26, a = ⟨#[u0, u1, u2, u3, u4, u5, .pointer (some ⟨B6, 0, none⟩), u7, u8, u9, u10, u11, u12, u13, u14, u15, u16, u17, u18, u19, u20, u21, u22, u23, u24, u25, u26], []⟩) ?_ ?_
          · intro τ' d'
            clear hE hpost
            simp only [List.drop_succ_cons, List.drop_zero, List.take_succ_cons, List.take_zero, Act.put, TryV.val]
            go_wp2
            exact ⟨by simp [re], fun k hk => Below.heap_alloc _ _ _ hk⟩
          · rintro a w4 ⟨hb4, B6, c0, c3, u0, u1, u2, u3, u4, u5, u7, u8, u9, u10, u11, u12, u13, u14, u15, u16, u17, u18, u19, u20, u21, u22, u23, u24, u25, u26, rfl⟩
            refine WkT.regionEnd E hSB ?_
            refine WkT.last E hSB [_] (fun a w => Bl V3.heap.size V3 w ∧ a.defers = [] ∧ a.tmps[4]? = some (.slice aL x.n x.cap) ∧ a.tmps[5]? = some (.bool x.ok)) ?_ ?_
            · intro τ' d'
              have c0' : (re w4 τ' d').cell? ⟨B6, 0, none⟩ = some (.bool x.ok) := c0
              have c3' : (re w4 τ' d').cell? ⟨B6, 3, none⟩ = some (.slice aL x.n x.cap) := c3
              clear hE hpost c0 c3
              simp only [wpChain]
              go_quiet (fail)
              left
              refine ⟨by first | rfl | trivial, hb4.trans (M := w4.heap.size) ⟨Nat.le_refl _, fun _ _ => rfl⟩ hb4.size, ?_⟩
              first | exact ⟨rfl, rfl, rfl⟩ | simp
            · rintro a w5 todo ⟨h1, h2, h3, h4⟩
              refine WkT.leave E hr0 (v := .tuple #[.slice aL x.n x.cap, .bool x.ok]) (fun τ d => ⟨rfl, h2, rfl, _, Tryz0.func8, ?_⟩) (hcont _ _ (hpost _ h1))
              have := results_tmp2 (fn := Tryz.f8) rfl a.tmps Tryz0.prog (re w5 τ d)
              rw [getD_of h3, getD_of h4] at this
              exact this
  · refine WkT.chain E hSB [_, _] _ (fun _ _ => False) (fun a w => Bl V.heap.size V w ∧ a.defers = [] ∧ a.tmps[4]? = some (.slice none 0 0) ∧ a.tmps[5]? = some (.bool false)) ?_ (fun _ _ h => h.elim) ?_
    · intro τ d
      have H1 := implMoves_row b off n cap f (re V τ d) hn hbs (mv_same hrow rfl)
      simp only [wpChain]
      cases hm : movesB f n with
      | false =>
        rw [hm] at H1
        clear hE
        go_wp2_with (go_at_call 24; refine H1.mono ?_; clear H1; rintro e w1 ⟨rfl, b1⟩)
        right; refine ⟨by first | rfl | trivial, Bl.ofR b1, ?_⟩; first | exact ⟨rfl, rfl, rfl⟩ | simp
      | true =>
        rw [hm] at H1
        by_cases h0 : shift < 0
        · clear hE
          go_wp2_with (go_at_call 24; refine H1.mono ?_; clear H1; rintro e w1 ⟨rfl, b1⟩)
          right; refine ⟨by first | rfl | trivial, Bl.ofR b1, ?_⟩; first | exact ⟨rfl, rfl, rfl⟩ | simp
        · have h6 : 6 < shift := by have : ¬ (0 ≤ shift ∧ shift ≤ 6) := fun h => hg ⟨hm, h⟩; omega
          have h0' : 0 ≤ shift := by omega
          clear hE
          go_wp2_with (go_at_call 24; refine H1.mono ?_; clear H1; rintro e w1 ⟨rfl, b1⟩)
          right; refine ⟨by first | rfl | trivial, Bl.ofR b1, ?_⟩; first | exact ⟨rfl, rfl, rfl⟩ | simp
    · rintro a w todo ⟨h1, h2, h3, h4⟩
      refine WkT.leave E hr0 (v := .tuple #[.slice none 0 0, .bool false]) (fun τ d => ⟨rfl, h2, rfl, _, Tryz0.func8, ?_⟩) (hcont _ _ ⟨by unfold bestR; rw [if_neg hg]; exact ⟨none, 0, rfl⟩, h1⟩)
      have := results_tmp2 (fn := Tryz.f8) rfl a.tmps Tryz0.prog (re w τ d)
      rw [getD_of h3, getD_of h4] at this
      exact this
end
end Go.Proofs.YtlmcblcijndipabGreat

namespace Go.Proofs.YtlmcblcijndipabGreat
open Go Go.Conc Go.RowKit
set_option linter.unusedVariables false
set_option linter.unusedSectionVars false
def FrIs (a : Act) (s : (Nat → Value) → Array Value) : Prop := a.defers = [] ∧ a.tmps = s (fun i => a.tmps.getD i undef)
theorem FrIs.open {a : Act} {s : (Nat → Value) → Array Value} (h : FrIs a s) : ∃ u, a = ⟨s u, []⟩ := by
  obtain ⟨h1, h2⟩ := h
  refine ⟨fun i => a.tmps.getD i undef, ?_⟩
  rw [← h2, ← h1]
theorem finish_reg {b : Frame} {a : Act} {ops : Array Oper} {i : Nat} {r : List Nat} {k : List Item} {o : Oper} (ho : ops[i]? = some o) (v : Value) : (b.at a (.inRegion ops (i :: r) :: k)).finish v = b.at (a.put o.dst v) (.inRegion ops r :: k) := by
  rw [Frame.finish_at, ho]; rfl
section
variable [Gl] {ok : Ctx} {c : Frame}
theorem WkT.bestOp {Q : Value → World → Prop} (E : Wenv Tryz0.prog ok c Dr24) (hSB : ok.inn 8 = true) (hbt : ok.inn 25 = false) {b : Frame} {a : Act} {k : List Item} {cs : List Frame} {V : World} (hb : ok.inn b.fn = true) {ops : Array Oper} {i : Nat} {r : List Nat} {o : Oper} (ho : ops[i]? = some o) (hw : Region.wanted o (yielded ops a.tmps) = true)
    {B off n cap : Nat} {f : Nat → Mv} {shift : Int} (hx : ∀ w, (execOp a.eval o).run Tryz0.prog w = .ok (.enter 8 #[.slice (some ⟨B, off, none⟩) n cap, .int .i64 shift]) w)
    (hn : n ≤ 1048576) (hbs : B < V.heap.size) (hrow : MvRow V B off n f) (hplain : PlainRow V B) {p : List Nat → Bool} (hp : NearP f n shift p)
    (hcont : ∀ v V', BestPost (bestR f n shift p) n V v V' → WkT Tryz0.prog ok c Dr24 Q ⟨b.at (a.put o.dst v) (.inRegion ops r :: k), cs, V'⟩) : WkT Tryz0.prog ok c Dr24 Q ⟨b.at a (.inRegion ops (i :: r) :: k), cs, V⟩ :=
  WkT.enterOp E ho hw hSB hx (wk_best E hSB hbt (r0 := b.at a (.inRegion ops (i :: r) :: k)) hb hn hbs hrow hplain hp (fun v V' hv => by rw [finish_reg ho]; exact hcont v V' hv))
end
end Go.Proofs.YtlmcblcijndipabGreat
