/- Texts of the proof, one behind another: Q44, J1, GS. -/
import Derived.Test.YtlmcblcijndipabGreatM10b
import Derived.Test.YtlmcblcijndipabGreatM45
import Derived.Test.YtlmcblcijndipabGreatM03
import Derived.Test.YtlmcblcijndipabGreatM13
namespace Go.Proofs.YtlmcblcijndipabGreat
open Go Go.Conc Go.RowKit
set_option linter.unusedVariables false
structure Fed (V : World) (b off n nb no nn : Nat) (f : Nat → Mv) (tb toff tc : Nat → Nat) (o : Nat → Nat → Nat) : Prop where
  moves : movesB f n = true
  row : MvRow V b off n f
  plain : PlainRow V b
  near : ∀ i, i < nn → V.cell? ⟨nb, no + i, none⟩ = some (.slice (some ⟨tb i, toff i, none⟩) n (tc i))
  tplain : ∀ i, i < nn → PlainRow V (tb i)
  tcap : ∀ i, i < nn → n ≤ tc i
  turn : ∀ i, i < nn → IntRow V (tb i) (toff i) n (fun j => (o i j : Int))
  lt : ∀ i, i < nn → ∀ j, j < n → o i j < n
  ne : ∀ i, i < nn → ∀ j k, j < k → k < n → o i j ≠ o i k
  small : nn + 4 < 4611686018427387904
  some_ : 0 < nn
theorem Fed.re {V : World} {b off n nb no nn : Nat} {f : Nat → Mv} {tb toff tc : Nat → Nat} {o : Nat → Nat → Nat} (h : Fed V b off n nb no nn f tb toff tc o) (τ : Nat → Question → Nat) (d : Nat) : Fed (re V τ d) b off n nb no nn f tb toff tc o :=
  ⟨h.moves, fun i hi => by obtain ⟨c0, c1, c2, c3, c4, c5⟩ := h.row i hi; exact ⟨c0, c1, c2, c3, c4, c5⟩, h.plain, h.near, h.tplain, h.tcap, fun i hi j hj => h.turn i hi j hj, h.lt, h.ne, h.small, h.some_⟩
def FreshTry (V : World) (x : TryV) (V' : World) : Prop :=
  (x.a = none ∧ x.n = 0 ∧ V' = V) ∨ ∃ cs, x.a = some ⟨V.heap.size, 0, none⟩ ∧ V' = V.alloc (.cells cs 3) ∧ (∀ v ∈ cs, ∃ n : Int, v = .int .i64 n) ∧ LaidI V' x.a x.n x.g ∧ x.n ≤ 1048576 ∧ cs.size = x.n
def Dr24 (f : FuncId) (xs : Array Value) (V : World) (R : Value → World → Prop) : Prop :=
  f = 25 ∧ ∃ b off n cap nb no nn nc mv tb toff tc o, xs = #[.slice (some ⟨b, off, none⟩) n cap, .slice (some ⟨nb, no, none⟩) nn nc] ∧ Fed V b off n nb no nn mv tb toff tc o ∧
    R = fun v V' => ∃ (x : TryV) (aL : Option Addr), Ans ltTry (fun i x => TryIs mv n (o i) x) nn x ∧ (x.a = none ↔ aL = none) ∧ v = TryV.val { x with a := aL } ∧ FreshTry V { x with a := aL } V'
section
variable [Gl] {ok okw : Ctx} {ρ : Ren} {V W : World}
theorem WRel.cell (hw : WRel ok true ρ V W) {b b' j : Nat} (hb : ρ b = some b') {v : Value} (hv : V.cell? ⟨b, j, none⟩ = some v) : ∃ v', W.cell? ⟨b', j, none⟩ = some v' ∧ VRel ok ρ v v' := by
  obtain ⟨o, o', h1, h2, h3⟩ := hw.heap b b' hb
  simp only [World.cell?, h1, h2] at hv ⊢
  cases h3 with
  | cells hc _ =>
    obtain ⟨v', e, r⟩ := hc.get hv
    exact ⟨v', e, r⟩
  | _ => simp at hv
theorem WRel.intCell (hw : WRel ok true ρ V W) {b b' j : Nat} (hb : ρ b = some b') {k : IntKind} {n : Int} (hv : V.cell? ⟨b, j, none⟩ = some (.int k n)) : W.cell? ⟨b', j, none⟩ = some (.int k n) := by
  obtain ⟨v', e, r⟩ := hw.cell hb hv
  cases r; exact e
theorem WRel.boolCell (hw : WRel ok true ρ V W) {b b' j : Nat} (hb : ρ b = some b') {n : Bool} (hv : V.cell? ⟨b, j, none⟩ = some (.bool n)) : W.cell? ⟨b', j, none⟩ = some (.bool n) := by
  obtain ⟨v', e, r⟩ := hw.cell hb hv
  cases r; exact e
theorem WRel.strCell (hw : WRel ok true ρ V W) {b b' j : Nat} (hb : ρ b = some b') {n : ByteArray} (hv : V.cell? ⟨b, j, none⟩ = some (.string n)) : W.cell? ⟨b', j, none⟩ = some (.string n) := by
  obtain ⟨v', e, r⟩ := hw.cell hb hv
  cases r; exact e
theorem WRel.plain (hw : WRel ok true ρ V W) {b b' : Nat} (hb : ρ b = some b') (hp : PlainRow V b) : PlainRow W b' := by
  obtain ⟨cs, e, h1, h2⟩ := hp
  obtain ⟨o, o', g1, g2, g3⟩ := hw.heap b b' hb
  rw [h1] at g1
  obtain rfl := Option.some.inj g1
  cases g3 with
  | @cells _ c' _ _ z' hc hz =>
    replace hz := hz.resolve_right (fun h => by have := congrArg Prod.snd h.2.1; have h0 := h.2.2; simp at this; omega)
    refine ⟨c', e, by rw [g2, hz]; rfl, fun v hv => ?_⟩
    obtain ⟨i, hi, rfl⟩ := Array.mem_iff_getElem.1 hv
    have hi' : i < cs.size := by rw [hc.size]; exact hi
    have hr := hc.at_ i cs[i] c'[i] (Array.getElem?_eq_getElem hi') (Array.getElem?_eq_getElem hi)
    generalize c'[i] = u at hr
    rcases h2 cs[i] (Array.getElem_mem hi') with ⟨x, e⟩ | ⟨k, x, e⟩ | ⟨s, e⟩
    · rw [e] at hr; cases hr; exact .inl ⟨_, rfl⟩
    · rw [e] at hr; cases hr; exact .inr (.inl ⟨_, _, rfl⟩)
    · rw [e] at hr; cases hr; exact .inr (.inr ⟨_, rfl⟩)
theorem WRel.mvRow (hw : WRel ok true ρ V W) {b b' off n : Nat} {f : Nat → Mv} (hb : ρ b = some b') (hr : MvRow V b off n f) : MvRow W b' off n f := by
  intro j hj
  obtain ⟨c0, c1, c2, c3, c4, c5⟩ := hr j hj
  exact ⟨by first | exact hw.strCell hb c0 | exact hw.intCell hb c0 | exact hw.boolCell hb c0, by first | exact hw.strCell hb c1 | exact hw.intCell hb c1 | exact hw.boolCell hb c1, by first | exact hw.strCell hb c2 | exact hw.intCell hb c2 | exact hw.boolCell hb c2, by first | exact hw.strCell hb c3 | exact hw.intCell hb c3 | exact hw.boolCell hb c3, by first | exact hw.strCell hb c4 | exact hw.intCell hb c4 | exact hw.boolCell hb c4, by first | exact hw.strCell hb c5 | exact hw.intCell hb c5 | exact hw.boolCell hb c5⟩
theorem slice_of {a : Addr} {n c : Nat} {v' : Value} (h : VRel ok ρ (.slice (some a) n c) v') : ∃ a', v' = .slice (some a') n c ∧ ARel ρ a a' := by
  cases h with
  | slice _ _ r => exact ⟨_, rfl, r⟩
theorem dself24 : DoorSelf ok Dr24 := by
  rintro f xs V V' v ρ R ⟨rfl, b, off, n, cap, nb, no, nn, nc, mv, tb, toff, tc, o, rfl, hf, rfl⟩ ⟨x₀, aL, _, _, rfl, hfr⟩ _ hw
  generalize ({ x₀ with a := aL } : TryV) = x at hfr ⊢
  rcases hfr with ⟨h1, _, rfl⟩ | ⟨cs, h1, rfl, h3, _, _⟩
  · refine ⟨ρ, Ren.le_refl _, ?_, hw⟩
    rw [TryV.val, h1]
    exact (VRel.agg rfl fun i x x' h h' => by
      match i with
      | 0 => simp at h h'; subst h h'; exact .bool _
      | 1 => simp at h h'; subst h h'; exact .int _ _
      | 2 => simp at h h'; subst h h'; exact .int _ _
      | 3 => simp at h h'; subst h h'; exact .slice0 _ _
      | i + 4 => simp at h)
  · have hlt : ∀ b c, ρ b = some c → b ≠ V.heap.size ∧ c ≠ V.heap.size := fun b c hb => by have := hw.lt hb; omega
    refine ⟨ρ.ext V.heap.size V.heap.size hlt hw.gV hw.gV, fun b c hb => ?_, ?_, ?_⟩
    · show (if b = V.heap.size then some V.heap.size else ρ b) = some c
      rw [if_neg (hlt b c hb).1]; exact hb
    · rw [TryV.val, h1]
      exact (VRel.agg rfl fun i x x' h h' => by
        match i with
        | 0 => simp at h h'; subst h h'; exact .bool _
        | 1 => simp at h h'; subst h h'; exact .int _ _
        | 2 => simp at h h'; subst h h'; exact .int _ _
        | 3 => simp at h h'; subst h h'; exact .slice _ _ ⟨if_pos rfl, rfl, rfl⟩
        | i + 4 => simp at h)
    · refine ⟨fun b c hb => ?_, rfl, rfl, by simp; exact Nat.le_succ_of_le hw.gV, by simp; exact Nat.le_succ_of_le hw.gV⟩
      have hle : ρ.le (ρ.ext V.heap.size V.heap.size hlt hw.gV hw.gV) := fun b c hb => by show (if b = V.heap.size then some V.heap.size else ρ b) = some c; rw [if_neg (hlt b c hb).1]; exact hb
      have hb' : (if b = V.heap.size then some V.heap.size else ρ b) = some c := hb
      split at hb'
      · rename_i e1
        obtain rfl := Option.some.inj hb'
        rw [e1]
        refine ⟨_, _, heap_alloc_new _ _, heap_alloc_new _ _, .cells ⟨rfl, fun i x x' hx hx' => ?_⟩ (.inl rfl)⟩
        rw [hx] at hx'
        obtain rfl := Option.some.inj hx'
        obtain ⟨n, rfl⟩ := h3 x (Array.mem_of_getElem? hx)
        exact .int _ _
      · obtain ⟨o, o', g1, g2, g3⟩ := hw.heap b c hb'
        have := hw.lt hb'
        exact ⟨o, o', by rw [Below.heap_alloc _ _ _ this.1]; exact g1, by rw [Below.heap_alloc _ _ _ this.2]; exact g2, g3.mono hle⟩
theorem door_ok24 {P₀ : Program} {c : Frame} (hA : P₀ = Tryz0.prog) (hP₀ : Pair P₀ P₀ okw) (hP : Pair P₀ Tryz.prog okw) (hin : ∀ f, okw.fn f = true → okw.inn f = true) (hFl : Floor P₀ c)
    (hok : okw.inn 81 = true ∧ okw.inn 47 = true ∧ okw.fn 48 = true) : DoorOk Tryz.prog ok Dr24 := by
  subst hA
  rintro f xs V ρ xs' W M Shun gs r0 rest t q sl R ⟨rfl, b, off, n, cap, nb, no, nn, nc, mv, tb, toff, tc, o, rfl, hf, rfl⟩ hxs hw ho hl
  have hV : ∀ a, (re V W.tape W.drawn).cell? a = V.cell? a := fun _ => rfl
  have hf0 := hf
  replace hf := hf.re W.tape W.drawn
  obtain ⟨x0, e0, r0'⟩ := hxs.get (i := 0) rfl
  obtain ⟨x1, e1, r1'⟩ := hxs.get (i := 1) rfl
  obtain ⟨a0, rfl, s0⟩ := slice_of r0'
  obtain ⟨a1, rfl, s1⟩ := slice_of r1'
  obtain ⟨b', off', sp⟩ := a0
  obtain ⟨nb', no', sp'⟩ := a1
  have q1 := s0.off
  have q2 := s0.spot
  have q3 := s1.off
  have q4 := s1.spot
  have hb : ρ b = some b' := s0.blk
  have hnb : ρ nb = some nb' := s1.blk
  simp only at q1 q2 q3 q4
  subst q1 q2 q3 q4
  have hx : xs' = #[.slice (some ⟨b', off', none⟩) n cap, .slice (some ⟨nb', no', none⟩) nn nc] := by
    have hz := hxs.size
    refine Array.ext (by simpa using hz.symm) fun i h1 h2 => ?_
    have h2 : i < 2 := h2
    match i with
    | 0 => rw [Array.getElem?_eq_getElem h1] at e0; exact Option.some.inj e0
    | 1 => rw [Array.getElem?_eq_getElem h1] at e1; exact Option.some.inj e1
  subst hx
  have hnear : ∀ i, i < nn → ∃ t', ρ (tb i) = some t' ∧ W.cell? ⟨nb', no' + i, none⟩ = some (.slice (some ⟨t', toff i, none⟩) n (tc i)) := fun i hi => by
    obtain ⟨v', h1, h2⟩ := hw.cell hnb (hf.near i hi)
    obtain ⟨a', rfl, r⟩ := slice_of h2
    obtain ⟨t', o', sp⟩ := a'
    have h3 := r.off
    have h4 := r.spot
    simp only at h3 h4
    subst h3 h4
    exact ⟨t', r.blk, h1⟩
  let tb' : Nat → Nat := fun i => (ρ (tb i)).getD 0
  have htb : ∀ i, i < nn → ρ (tb i) = some (tb' i) := fun i hi => by obtain ⟨t', h1, _⟩ := hnear i hi; simp [tb', h1]
  have hfd := feed (ok := okw) (M := M) (w := W) (b := b') (off := off') (n := n) (cap := cap) (nb := nb') (no := no') (nn := nn) (f := mv) (tb := tb') (toff := toff) (tc := tc) (o := o) hf.moves (hw.mvRow hb hf.row) (hw.plain hb hf.plain) (ho _ _ hb) (ho _ _ hnb)
    (fun i hi => by obtain ⟨t', h1, h2⟩ := hnear i hi; rw [htb i hi] at h1; rw [h2, ← Option.some.inj h1]) (fun i hi => ho _ _ (htb i hi)) (fun i hi => hw.plain (htb i hi) (hf.tplain i hi)) hf.tcap (fun i hi j hj => hw.intCell (htb i hi) (hf.turn i hi j hj)) hf.lt hf.ne hok
  have hbd : Tryz.f25.body = some body24 := by unfold body24; kernel_rfl
  have hE : Frame.enter Tryz.prog 25 #[.slice (some ⟨b', off', none⟩) n cap, .slice (some ⟨nb', no', none⟩) nn nc] .normal = (base 25).at ⟨#[.slice (some ⟨b', off', none⟩) n cap, .slice (some ⟨nb', no', none⟩) nn nc, undef, undef, undef, undef, undef, undef, undef, undef, undef, undef, undef, undef, undef, undef, undef, undef, undef, undef, undef], []⟩ [.code body24] :=
    (enter_at _ Tryz.func25 hbd).trans (by simp only [Tryz.ntmps25, List.size_toArray, List.length_cons, List.length_nil, Nat.reduceAdd, Nat.reduceSub, Array.replicate_succ, Array.replicate_zero, List.push_toArray, List.append_toArray, List.nil_append, List.cons_append])
  rw [hE] at hl
  obtain ⟨N, gs', w', sl', t', q', Shun', M', x, g1, g2, g3, g4, g5⟩ := door24 (sl := sl) hP₀ hP hin hFl hf.small hl hfd hw.gW
  have hk : ∀ b d, ρ b = some d → w'.heap[d]? = W.heap[d]? := fun b d hb => g3.keep.block d (ho b d hb)
  have hsz := g3.keep.size
  cases ha : x.a with
  | none =>
    have hn0 : x.n = 0 := by
      rcases g4.row with h | ⟨_, _, h, _⟩
      · exact h
      · rw [ha] at h; cases h
    have hxe : ({ x with a := none } : TryV) = x := by rw [← ha]
    refine ⟨N, gs', w', sl', t', q', Shun', M', x.val, ρ, x.val, V, g1, g2, Ren.le_refl _, ?_, ⟨fun b d hb => ?_, rfl, rfl, hw.gV, Nat.le_trans hw.gW hsz⟩, fun b d hb => g3.own d (ho b d hb), ⟨x, none, g5, by rw [ha], by rw [hxe], by rw [hxe]; exact .inl ⟨ha, hn0, rfl⟩⟩, g3.keep, g3.own, fun b d hb => .inl hb, fun b _ => rfl⟩
    · rw [TryV.val, ha]
      exact (VRel.agg rfl fun i x x' h h' => by
        match i with
        | 0 => simp at h h'; subst h h'; exact .bool _
        | 1 => simp at h h'; subst h h'; exact .int _ _
        | 2 => simp at h h'; subst h h'; exact .int _ _
        | 3 => simp at h h'; subst h h'; exact .slice0 _ _
        | i + 4 => simp at h)
    · obtain ⟨o, o', i1, i2, i3⟩ := hw.heap b d hb
      exact ⟨o, o', i1, (hk b d hb).trans i2, i3⟩
  | some a =>
    obtain ⟨j1, ⟨j2, j3⟩, cs0, e0, j40, j5⟩ := g4.blk a ha
    obtain ⟨j6, cs, j4, j7⟩ := g4.full a ha
    rw [j4] at j40
    simp only [Option.some.injEq, Obj.cells.injEq] at j40
    obtain ⟨y1, y2, _⟩ := j40
    subst y1 y2
    have hgV : Gl.n ≤ V.heap.size := hw.gV
    have hlt : ∀ b d, ρ b = some d → b ≠ V.heap.size ∧ d ≠ a.block := fun b d hb => by
      have h1 : b < V.heap.size := (hw.lt hb).1
      have h2 := (hw.lt hb).2
      omega
    have hga : Gl.n ≤ a.block := Nat.le_trans hw.gW j3
    have hle : ρ.le (ρ.ext V.heap.size a.block hlt hgV hga) := fun b d hb => by show (if b = V.heap.size then some a.block else ρ b) = some d; rw [if_neg (hlt b d hb).1]; exact hb
    have hrow : LaidI (V.alloc (.cells cs 3)) (some ⟨V.heap.size, 0, none⟩) x.n x.g := by
      rcases g4.row with h | ⟨b1, o1, h, hr⟩
      · exact .inl h
      · rw [ha] at h
        obtain rfl := Option.some.inj h
        have j6' : o1 = 0 := j6
        subst j6'
        refine .inr ⟨_, _, rfl, fun i hi => ?_⟩
        have := hr i hi
        simp only [World.cell?, j4] at this
        simp only [World.cell?, heap_alloc_new]
        exact this
    refine ⟨N, gs', w', sl', t', q', Shun', M', x.val, ρ.ext V.heap.size a.block hlt hgV hga, TryV.val { x with a := some ⟨V.heap.size, 0, none⟩ }, V.alloc (.cells cs 3), g1, g2, hle, ?_, ⟨fun b d hb => ?_, rfl, rfl, ?_, Nat.le_trans hw.gW hsz⟩, fun b d hb => ?_, ⟨x, some ⟨V.heap.size, 0, none⟩, g5, by rw [ha]; simp, rfl, .inr ⟨cs, rfl, rfl, j5, hrow, g4.small, j7⟩⟩, g3.keep, g3.own, fun b d hb => ?_, fun b hr => ?_⟩
    · rw [TryV.val, TryV.val, ha]
      exact (VRel.agg rfl fun i x x' h h' => by
        match i with
        | 0 => simp at h h'; subst h h'; exact .bool _
        | 1 => simp at h h'; subst h h'; exact .int _ _
        | 2 => simp at h h'; subst h h'; exact .int _ _
        | 3 => simp at h h'; subst h h'; exact .slice _ _ ⟨if_pos rfl, j6, j1⟩
        | i + 4 => simp at h)
    · have hb' : (if b = V.heap.size then some a.block else ρ b) = some d := hb
      split at hb'
      · rename_i e1
        obtain rfl := Option.some.inj hb'
        rw [e1]
        refine ⟨_, _, heap_alloc_new _ _, j4, .cells ⟨rfl, fun i x x' hx hx' => ?_⟩ (.inl rfl)⟩
        rw [hx] at hx'
        obtain rfl := Option.some.inj hx'
        obtain ⟨n, rfl⟩ := j5 x (Array.mem_of_getElem? hx)
        exact .int _ _
      · obtain ⟨o, o', i1, i2, i3⟩ := hw.heap b d hb'
        have h1 : b < V.heap.size := (hw.lt hb').1
        exact ⟨o, o', (Below.heap_alloc _ _ _ h1).trans i1, (hk b d hb').trans i2, i3.mono hle⟩
    · show Gl.n ≤ (V.alloc (.cells cs 3)).heap.size
      simp
      omega
    · have hb' : (if b = V.heap.size then some a.block else ρ b) = some d := hb
      split at hb'
      · obtain rfl := Option.some.inj hb'; exact j2
      · exact g3.own d (ho b d hb')
    · have hb' : (if b = V.heap.size then some a.block else ρ b) = some d := hb
      split at hb'
      · obtain rfl := Option.some.inj hb'; exact .inr j3
      · exact .inl hb'
    · obtain ⟨c, e, hr⟩ := hr
      exact Below.heap_alloc _ _ _ (Array.getElem?_eq_some_iff.1 hr).1
end
end Go.Proofs.YtlmcblcijndipabGreat

namespace Go.Proofs.YtlmcblcijndipabGreat
open Go Go.Conc Go.RowKit
set_option linter.unusedVariables false
@[reducible] def gl0 : Gl := ⟨0⟩
theorem opOk_fs (P : Program) (fs : Array Func) (fn : FuncId → Bool) (op : Op) : opOk { P with funcs := fs } fn op = opOk P fn op := by cases op <;> rfl
theorem codeOk_fs (P : Program) (fs : Array Func) (fn : FuncId → Bool) : ∀ c, codeOk { P with funcs := fs } fn c = codeOk P fn c := by
  intro c
  induction c with
  | seq a b ha hb => simp only [codeOk, ha, hb]
  | cond x a b ha hb => simp only [codeOk, ha, hb]
  | block i b hb => simp only [codeOk, hb]
  | loop b hb => simp only [codeOk, hb]
  | scope b hb => simp only [codeOk, hb]
  | rangeFunc f ps a b ha hb => simp only [codeOk, ha, hb]
  | region i ops d => simp only [codeOk, opOk_fs]
  | _ => rfl
theorem codeOk0 (fn : FuncId → Bool) (c : Code) : codeOk Tryz0.prog fn c = codeOk Tryz.prog fn c := codeOk_fs Tryz.prog _ fn c
noncomputable def fnGood (fns : List Nat) (fn : Func) : Bool := !(fn.name == "runtime.NumGoroutine") && (match fn.body with | some c => codeOk Tryz.prog (fun f => fns.contains f) c | none => false)
noncomputable def fnsOk (fns : List Nat) : Bool := fns.all fun k => k == 25 || (match Tryz.prog.funcs[k]? with | some fn => fnGood fns fn | none => false)
theorem fnsOk_get {fns : List Nat} (h : fnsOk fns = true) {f : Nat} (hf : fns.contains f = true) (hne : f ≠ 25) : ∃ fn c, Tryz.prog.funcs[f]? = some fn ∧ fn.body = some c ∧ (fn.name == "runtime.NumGoroutine") = false ∧ codeOk Tryz.prog (fun f => fns.contains f) c = true := by
  unfold fnsOk at h
  rw [List.all_eq_true] at h
  have h1 := h f (by simpa using hf)
  rw [Bool.or_eq_true] at h1
  have h2 := h1.resolve_left (by simpa using hne)
  generalize Tryz.prog.funcs[f]? = x at h2
  cases x with
  | none => cases h2
  | some fn =>
    replace h2 : fnGood fns fn = true := h2
    unfold fnGood at h2
    rw [Bool.and_eq_true] at h2
    obtain ⟨h3, h4⟩ := h2
    cases hb : fn.body with
    | none => rw [hb] at h4; cases h4
    | some c => rw [hb] at h4; exact ⟨fn, c, rfl, hb, by simpa using h3, h4⟩
theorem try_fn : Tryz.f25.body.isSome = true ∧ (Tryz.f25.name == "runtime.NumGoroutine") = false := ⟨by kernel_rfl, by kernel_rfl⟩
theorem try_fn0 : Tryz0.fn0.body.isSome = true ∧ (Tryz0.fn0.name == "runtime.NumGoroutine") = false := ⟨rfl, try_fn.2⟩
theorem func0 {f : Nat} {fn : Func} (hne : f ≠ 25) (h : Tryz.prog.funcs[f]? = some fn) : Tryz0.prog.funcs[f]? = some fn := Tryz0.g_fn Tryz.prog Tryz0.fn0 (j := 25) (fun e => hne e.symm) h
theorem no_info : Tryz.prog.info? 1000000000 = none := by kernel_rfl
theorem no_info0 : Tryz0.prog.info? 1000000000 = none := no_info
theorem no_globals : Tryz.prog.globals.size = 0 := by kernel_rfl
theorem pair_of {fns : List Nat} (h : fnsOk fns = true) {ok : Ctx} (h1 : ∀ f, ok.fn f = fns.contains f) (h2 : ∀ f, ok.inn f = true → fns.contains f = true ∧ f ≠ 25) (h3 : ∀ c, ok.code c = codeOk Tryz.prog ok.fn c) : @Pair gl0 Tryz0.prog Tryz0.prog ok ∧ @Pair gl0 Tryz0.prog Tryz.prog ok := by
  letI := gl0
  have hfn : ok.fn = fun f => fns.contains f := funext h1
  have kl : ∀ f, ok.fn f = true → ∃ fn, Tryz0.prog.funcs[f]? = some fn ∧ fn.body.isSome = true ∧ (fn.name == "runtime.NumGoroutine") = false := fun f hf => by
    by_cases e : f = 25
    · subst e; exact ⟨_, Tryz0.func25, try_fn0⟩
    · obtain ⟨fn, c, a1, a2, a3, _⟩ := fnsOk_get h ((h1 f).symm.trans hf) e
      exact ⟨fn, func0 e a1, by rw [a2]; rfl, a3⟩
  have kr : ∀ f, ok.fn f = true → ∃ fn, Tryz.prog.funcs[f]? = some fn ∧ fn.body.isSome = true ∧ (fn.name == "runtime.NumGoroutine") = false := fun f hf => by
    by_cases e : f = 25
    · subst e; exact ⟨_, Tryz.func25, try_fn⟩
    · obtain ⟨fn, c, a1, a2, a3, _⟩ := fnsOk_get h ((h1 f).symm.trans hf) e
      exact ⟨fn, a1, by rw [a2]; rfl, a3⟩
  constructor
  · exact { left := kl, right := kl, hole := no_info0, same := fun f hf => by
              obtain ⟨hc, hne⟩ := h2 f hf
              obtain ⟨fn, c, a1, a2, a3, a4⟩ := fnsOk_get h hc hne
              exact ⟨fn, c, func0 hne a1, func0 hne a1, a2, by rw [hfn, codeOk0]; exact a4⟩
            code := fun c => (h3 c).trans (codeOk0 ok.fn c).symm, tab := rfl, glob := no_globals }
  · exact { left := kl, right := kr, hole := no_info0, same := fun f hf => by
              obtain ⟨hc, hne⟩ := h2 f hf
              obtain ⟨fn, c, a1, a2, a3, a4⟩ := fnsOk_get h hc hne
              exact ⟨fn, c, func0 hne a1, a1, a2, by rw [hfn]; exact a4⟩
            code := h3, tab := rfl, glob := no_globals }
def ground : Frame := { fn := 1000000000, tmps := #[], todo := [.call { target := .nil, args := #[] } false "fmt's door: none" #[]], defers := [], mode := .run, kind := .normal }
theorem no_fn : Tryz0.prog.funcs[1000000000]? = none := by kernel_rfl
theorem no_row : (Extern.next "fmt's door: none").isNone = true := by kernel_rfl
theorem floor0 : Floor Tryz0.prog ground where
  ret := fun v w => by
    have h : Extern.next "fmt's door: none" = none := by have := no_row; simpa using this
    exact ⟨_, _, _, by simp [ground, Frame.finish, stepG, stepG.exec, G, h]; exact ⟨rfl, rfl, rfl⟩⟩
  pan := fun ch w => by
    have hc : Frame.catches Tryz0.prog (ground.raise ch) = true := by
      simp [ground, Frame.raise, Frame.catches, no_fn]
    exact ⟨_, _, _, by simp [stepG, G, ground, Frame.raise, unwind] at hc ⊢; simp [hc]; exact ⟨rfl, rfl, rfl⟩⟩
theorem shut_of {fns : List Nat} {ok : Ctx} (h1 : ∀ f, ok.fn f = fns.contains f) (h2 : ∀ f, ok.inn f = (fns.contains f && !(f == 25))) : @Shut Tryz0.prog ok := by
  intro f xs cs V hf hi
  rw [h1] at hf
  rw [h2, hf] at hi
  have : f = 25 := by simpa using hi
  subst this
  have hb : Tryz0.fn0.body = some Tryz0.body0 := rfl
  exact ⟨_, _, _, by simp [Frame.enter, Tryz0.func25, hb, Tryz0.body0, stepG, stepG.exec, G]; exact ⟨rfl, rfl, rfl⟩⟩
def fnsW : List Nat := [81, 47, 48, 64, 87, 88, 89, 111, 112, 114, 122, 123, 124, 136]
theorem fnsW_ok : fnsOk fnsW = true := by kernel_rfl
theorem fnsW_no : fnsW.contains 25 = false := by kernel_rfl
theorem door_w {ok okw : Ctx} (h1 : ∀ f, okw.fn f = fnsW.contains f) (h2 : ∀ f, okw.inn f = fnsW.contains f) (hp : @Pair gl0 Tryz0.prog Tryz0.prog okw ∧ @Pair gl0 Tryz0.prog Tryz.prog okw) : @DoorOk gl0 Tryz.prog ok (@Dr24) :=
  letI := gl0
  door_ok24 (okw := okw) (c := ground) (P₀ := Tryz0.prog) rfl hp.1 hp.2 (fun f h => by rw [h1] at h; rw [h2]; exact h) floor0 ⟨by rw [h2]; kernel_rfl, by rw [h2]; kernel_rfl, by rw [h1]; kernel_rfl⟩
theorem door_of {ok : Ctx} : @DoorOk gl0 Tryz.prog ok (@Dr24) :=
  let okw : Ctx := ⟨fun f => fnsW.contains f, fun f => fnsW.contains f, fun c => codeOk Tryz.prog (fun f => fnsW.contains f) c⟩
  door_w (okw := okw) (fun _ => rfl) (fun _ => rfl) (pair_of (ok := okw) fnsW_ok (fun _ => rfl) (fun f h => ⟨h, fun e => by have h : fnsW.contains f = true := h; rw [e, fnsW_no] at h; cases h⟩) (fun _ => rfl))
end Go.Proofs.YtlmcblcijndipabGreat

namespace Go.Proofs.YtlmcblcijndipabGreat
open Go Go.Conc Go.RowKit
def fnsS : List Nat := [4, 14, 16, 15, 17, 18, 5, 29, 7, 32, 30, 31, 33, 34, 10, 9, 19, 23, 21, 52, 53, 54, 55, 56, 57, 27, 20, 97, 98, 99, 22, 24, 100, 101, 102, 103, 8, 35, 61, 36, 37, 38, 39, 40, 41, 105, 121, 122, 26, 25, 58, 59, 60, 62, 63, 64, 65, 66, 136, 49, 50, 51, 104, 90, 92, 91, 93, 96, 117, 116, 115, 95, 94, 118, 88, 119, 87, 133, 134, 125, 126, 127, 128, 129, 130, 131, 132, 120, 114, 135, 137, 138, 139, 140, 141, 142]
set_option maxRecDepth 100000 in
theorem fnsS_ok : fnsOk fnsS = true := by kernel_rfl
theorem fnsS_ini : fnsS.all (fun f => (Tryz.prog.inits.idxOf? f).isNone) = true := by kernel_rfl
end Go.Proofs.YtlmcblcijndipabGreat
