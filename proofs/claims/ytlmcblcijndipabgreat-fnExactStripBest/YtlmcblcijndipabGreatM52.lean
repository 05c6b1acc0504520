/- FnExactStripBest answers true at every list of moves and every number and leaves them as they were: the program's StripBest is the model's, writes into no argument, and its answer owns its memory, behind another call too. No condition. It starts goroutines; they leave. -/
import Derived.Test.YtlmcblcijndipabGreatM04
import Derived.Test.YtlmcblcijndipabGreatM10
import Derived.Test.YtlmcblcijndipabGreatM51
import Derived.Conc.LeavingOf
/- From a walk with doors to a good run of the program. -/
namespace Go.Proofs.YtlmcblcijndipabGreat
open Go Go.Conc Go.RowKit
set_option linter.unusedVariables false
set_option linter.unusedSectionVars false

section
variable [Gl] {P₀ P : Program} {ok : Ctx} {c : Frame} {Dr : FuncId → Array Value → World → (Value → World → Prop) → Prop} {Q : Value → World → Prop}
/-- whatever the value, something may stand for it -/
theorem holeFor {ρ : Ren} : (v : Value) → ∃ x, VRel ok ρ x v ∧ VRel ok ρ x x
  | .bool b => ⟨.bool b, .bool b, .bool b⟩
  | .int k n => ⟨.int k n, .int k n, .int k n⟩
  | .string s => ⟨.string s, .string s, .string s⟩
  | .pointer none => ⟨.pointer none, .ptr0, .ptr0⟩
  | .slice none l k => ⟨.slice none l k, .slice0 l k, .slice0 l k⟩
  | .nilFunc => ⟨.nilFunc, .nilFunc, .nilFunc⟩
  | .nilIface => ⟨.nilIface, .nilIface, .nilIface⟩
  | .pointer (some a) => ⟨hole, .hole rfl, .hole rfl⟩
  | .slice (some a) l k => ⟨hole, .hole rfl, .hole rfl⟩
  | .float k b => ⟨hole, .hole rfl, .hole rfl⟩
  | .complex k a b => ⟨hole, .hole rfl, .hole rfl⟩
  | .map r => ⟨hole, .hole rfl, .hole rfl⟩
  | .chan r => ⟨hole, .hole rfl, .hole rfl⟩
  | .func f xs ys => ⟨hole, .hole rfl, .hole rfl⟩
  | .iface t v => ⟨hole, .hole rfl, .hole rfl⟩
  | .agg xs => by
    have h : ∀ i : Fin xs.size, ∃ x, VRel ok ρ x xs[i] ∧ VRel ok ρ x x := fun i => holeFor xs[i]
    refine ⟨.agg (Array.ofFn fun i => (h i).choose), .agg (by simp) fun i x x' hx hx' => ?_, .agg rfl fun i x x' hx hx' => ?_⟩
    · obtain ⟨hi, rfl⟩ := Array.getElem?_eq_some_iff.1 hx
      obtain ⟨hi', rfl⟩ := Array.getElem?_eq_some_iff.1 hx'
      rw [Array.getElem_ofFn]
      exact (h ⟨i, hi'⟩).choose_spec.1
    · rw [hx] at hx'
      obtain rfl := Option.some.inj hx'
      obtain ⟨hi, rfl⟩ := Array.getElem?_eq_some_iff.1 hx
      rw [Array.getElem_ofFn]
      exact (h _).choose_spec.2
  | .tuple xs => by
    have h : ∀ i : Fin xs.size, ∃ x, VRel ok ρ x xs[i] ∧ VRel ok ρ x x := fun i => holeFor xs[i]
    refine ⟨.tuple (Array.ofFn fun i => (h i).choose), .tuple (by simp) fun i x x' hx hx' => ?_, .tuple rfl fun i x x' hx hx' => ?_⟩
    · obtain ⟨hi, rfl⟩ := Array.getElem?_eq_some_iff.1 hx
      obtain ⟨hi', rfl⟩ := Array.getElem?_eq_some_iff.1 hx'
      rw [Array.getElem_ofFn]
      exact (h ⟨i, hi'⟩).choose_spec.1
    · rw [hx] at hx'
      obtain rfl := Option.some.inj hx'
      obtain ⟨hi, rfl⟩ := Array.getElem?_eq_some_iff.1 hx
      rw [Array.getElem_ofFn]
      exact (h _).choose_spec.2
termination_by v => SizeOf.sizeOf v
decreasing_by
  all_goals
    have := Array.sizeOf_get xs i i.isLt
    simp
    first | omega | (have h2 : SizeOf.sizeOf xs[i] < SizeOf.sizeOf xs := this; omega)
/-- alone, at the start -/
theorem lone_start {fr : Frame} {W : World} : Lone0 P (fun _ => False) (fun _ => False) (fun _ => False) (fun b => b < W.heap.size) #[G fr []] (G fr []) W #[] (fun _ => 0) where
  main := rfl
  quit := ⟨fun i g h0 h => by
    have : i < 1 := by simpa using (Array.getElem?_eq_some_iff.1 h).1
    omega, fun j _ => rfl⟩
  past := ⟨fun said h => by
    obtain ⟨i, j, _, ⟨a, b, h1, _⟩, _⟩ := h
    simp [Trace.act?] at h1, fun i a h => by simp [touchAt, Trace.act?] at h, fun i g h => by simp [Trace.g?] at h, rfl, fun i a h => by simp [touchAt, Trace.act?] at h, fun i op x h => by simp at h, fun i a h => by simp [touchAt, Trace.act?] at h⟩
  who := fun i op h => by simp at h
  lt := fun b h => h.elim id (fun x => x.elim)
  shun := fun _ _ _ _ h => h
  low := fun _ h => h.elim
  un := fun i a h => by simp [touchAt, Trace.act?] at h
  vlt := fun _ h => h.elim
  vm := fun _ h => h.elim
end
end Go.Proofs.YtlmcblcijndipabGreat

/- A walk with doors makes a good run of the program. -/
namespace Go.Proofs.YtlmcblcijndipabGreat
open Go Go.Conc Go.RowKit
set_option linter.unusedVariables false
set_option linter.unusedSectionVars false

section
variable [Gl] {P₀ P : Program} {ok : Ctx} {c : Frame} {Dr : FuncId → Array Value → World → (Value → World → Prop) → Prop} {Q : Value → World → Prop}
/-- the last step, where goroutine 0 is at its end -/
theorem step_last {fr : Frame} {W : World} {fn : Func} {t : Tmp} (hm : fr.mode = .returning) (hd : fr.defers = []) (hk : fr.kind = .normal) (hf : P.funcs[fr.fn]? = some fn) (hr : fn.results = #[.tmp t]) (hi : P.inits.idxOf? fr.fn = none) :
    stepG P true (G fr []) W = .ended (.done (fr.tmps.getD t undef)) W #[] := by
  rw [stepG_unw (by rw [hm]; simp)]
  obtain ⟨fn', tmps', todo', defers', mode', kind', roundOf'⟩ := fr
  simp only at hd hm hk hf hi ⊢
  subst hd hm hk
  have h1 : (results fn tmps').runT P W #[] = (.ok (tmps'.getD t undef) W, #[]) := by
    have h2 := Sem.runT_fst P (results fn tmps') W #[]
    have h3 : ((results fn tmps').runT P W #[]).2 = _ := events_results_tmp (P := P) (w := W) hr tmps' #[]
    rw [results_tmp hr] at h2
    exact Prod.ext h2 h3
  simp only [unwind, hf, h1, doReturn, hi, GStep.after]
  simp [seen]
/-- FROM A WALK WITH DOORS TO A GOOD RUN -/
theorem good_run (hP₀ : Pair P₀ P₀ ok) (hP : Pair P₀ P ok) (hN : ∀ f, ok.inn f = false → ((P₀.funcs[f]?).map (·.ntmps)).getD 0 = ((P.funcs[f]?).map (·.ntmps)).getD 0) (hD : DoorOk P ok Dr) (hI : ∀ f, ok.inn f = true → P.inits.idxOf? f = none)
    {f : FuncId} {xs xs' : Array Value} {V W : World} {ρ ρ₀ : Ren} (hf : ok.inn f = true) (hk : WkT P₀ ok c Dr Q ⟨Frame.enter P₀ f xs .normal, [], V⟩)
    (hx : VsRel ok ρ xs xs') (hx₀ : VsRel ok ρ₀ xs xs) (hw : WRel ok true ρ (re V W.tape W.drawn) W) (hw₀ : WRel ok true ρ₀ V V) {F : Nat → Prop} (hF : ∀ d, F d → d < W.heap.size ∧ ((∀ b, ρ b ≠ some d) ∨ ∃ b, ρ b = some d ∧ Ro V b)) :
    ∃ M last o w' t', runNT P (M + 1) (solo (G (Frame.enter P f xs' .normal) []) W) #[] = (.ended o w', t') ∧ runN P M (solo (G (Frame.enter P f xs' .normal) []) W) = .next last ∧ step P last = .ended o w' ∧
      Conc.Good P (fun v' W' => ∃ v V' σ, Q v V' ∧ VRel ok σ v v' ∧ ρ.le σ ∧ WRel ok true σ V' W' ∧ Keep F W W') last o w' t' := by
  have hb : ∀ p : Program, Bot (Frame.enter p f xs .normal) [] := fun p g hg => by
    simp only [List.getLast?_singleton, Option.some.injEq] at hg
    subst hg; rfl
  have hself : Self P₀ ok (St.re ⟨Frame.enter P₀ f xs .normal, [], V⟩ W.tape W.drawn) := ⟨ρ₀, enter_rel hP₀.toSame hf hx₀, .nil, hb _, ⟨hw₀.heap, rfl, rfl, hw₀.gV, hw₀.gW⟩⟩
  have hg : GoRel P₀ P ok ρ [c] [] (G (Frame.enter P₀ f xs .normal) ([] ++ [c])) (G (Frame.enter P f xs' .normal) ([] ++ [])) := .inside (enter_rel hP.toSame hf hx) .nil (hb _)
  obtain ⟨N, gs', W', sl', t', q', Shun', M', σ, s', fr', r1, r2, r3, r4, r5, r6, r7, r8, fn, t, r9, r10⟩ := (hk W.tape W.drawn hself).beside (F := F) (sl := none) hP hN hD hg hw (fun b d hb => (hw.lt hb).2) lone_start hF
  obtain ⟨N2, last, o, w', t2, k1, k2, k3, k4⟩ := r2.ends (sl := sl') (Post := fun v' W₂ => ∃ v V' σ, Q v V' ∧ VRel ok σ v v' ∧ ρ.le σ ∧ WRel ok true σ V' W₂ ∧ Keep F W W₂) (fun d => by
    obtain ⟨e1, v, ⟨l1, l2, l3, fn', l4, l5⟩, hq⟩ := r7 W'.tape d
    have l1 : s'.fr.mode = .returning := l1
    have l2 : s'.fr.defers = [] := l2
    have l4 : P₀.funcs[s'.fr.fn]? = some fn' := l4
    have l5 : (results fn' s'.fr.tmps).run P₀ (re s'.V W'.tape d) = .ok v (re s'.V W'.tape d) := l5
    have hd : fr'.defers = [] := by have := r4.defers; rw [l2] at this; generalize fr'.defers = x at this; cases this; rfl
    have hm : fr'.mode = .returning := by have := r4.mode; rw [l1] at this; generalize fr'.mode = x at this; cases this; rfl
    obtain rfl : fn' = fn := Option.some.inj (l4.symm.trans r9)
    have l6 : P.funcs[fr'.fn]? = some fn' := by
      obtain ⟨F, cd, f1, f2, _⟩ := hP.same _ r4.inn
      rw [r4.fn, f2, ← f1]; exact l4
    rw [results_tmp r10] at l5
    simp only [Result.ok.injEq] at l5
    refine ⟨rfl, _, _, step_last (W := W'.at d) hm hd r4.kind' l6 r10 (by rw [r4.fn]; exact hI _ r4.inn), fun e he => by simp at he, v, _, σ, hq, ?_, r3, ⟨r5.heap, rfl, rfl, r5.gV, r5.gW⟩, ?_⟩
    · rw [← l5.1]
      exact r4.tmps.getD t
    · exact ⟨r8.block, r8.size, r8.os, r8.out⟩)
  rw [solo_eq_crowd]
  refine ⟨N + N2, last, o, w', t2, ?_, ?_, k3, k4⟩
  · rw [Nat.add_assoc]
    exact runNT_add k1 _ _ _ (by simpa using r1)
  · rw [runN_add]
    have : runN P N (crowd #[G (Frame.enter P f xs' .normal) []] W none) = .next (crowd gs' W' sl') := by
      rw [← runNT_fst _ _ _ #[]]
      have := congrArg Prod.fst r1
      simpa using this
    rw [this]
    exact k2
end
end Go.Proofs.YtlmcblcijndipabGreat

/- A good run of the law, from every start. -/
namespace Go.Proofs.YtlmcblcijndipabGreat
open Go Go.Conc Go.RowKit
set_option linter.unusedVariables false
set_option linter.unusedSectionVars false

section
variable [Gl] {ok : Ctx}
/-- one block stands for itself -/
theorem only_inj (b d d' c : Nat) (h : (if d = b then some b else none) = some c) (h' : (if d' = b then some b else none) = some c) : d = d' := by
  split at h <;> split at h' <;> first | omega | (cases h; done) | (cases h'; done)
theorem only_glob (b n d c : Nat) (h : (if d = b then some b else none) = some c) : d < n ↔ c < n := by
  split at h
  · rename_i e; simp only [Option.some.injEq] at h; rw [e, h]
  · cases h
def only (b : Nat) : Ren := ⟨fun d => if d = b then some b else none, only_inj b, only_glob b Gl.n⟩
theorem only_at (b : Nat) : only b b = some b := by simp [only]
theorem only_of {b d c : Nat} (h : only b d = some c) : d = b ∧ c = b := by
  simp only [only] at h
  split at h
  · rename_i e; exact ⟨e, (Option.some.inj h).symm⟩
  · cases h
def nobody : Ren := ⟨fun _ => none, fun _ _ _ h => (by cases h), fun _ _ h => (by cases h)⟩
/-- another world, whose argument's block may not be written into and holds nothing but plain values -/
theorem law_world (hg : Gl.n = 0) {W : World} {b off n cap : Nat} {f : Nat → Mv} {cs : Array Value} {e : TypeId} {z : Nat × Nat} (hb : W.heap[b]? = some (.cells cs e z)) (h : IsMvs W (some ⟨b, off, none⟩) n cap f) :
    ∃ V : World, V.heap.size = W.heap.size ∧ WRel ok true (only b) (re V W.tape W.drawn) W ∧ WRel ok true (only b) V V ∧ IsMvs V (some ⟨b, off, none⟩) n cap f ∧ (0 < cs.size → Ro V b) ∧ (cs.size = 0 → V.heap[b]? = W.heap[b]?) := by
  have hole : ∀ i : Fin cs.size, ∃ x, VRel ok (only b) x cs[i] ∧ VRel ok (only b) x x := fun i => holeFor cs[i]
  generalize hh : (Array.ofFn fun i => (hole i).choose) = hs
  have hsz : hs.size = cs.size := by rw [← hh]; simp
  have r1 : VsRel ok (only b) hs cs := ⟨hsz, fun i x x' hx hx' => by
    subst hh
    obtain ⟨hi, rfl⟩ := Array.getElem?_eq_some_iff.1 hx
    obtain ⟨hi', rfl⟩ := Array.getElem?_eq_some_iff.1 hx'
    rw [Array.getElem_ofFn]
    exact (hole ⟨i, hi'⟩).choose_spec.1⟩
  have r2 : VsRel ok (only b) hs hs := ⟨rfl, fun i x x' hx hx' => by
    subst hh
    rw [hx] at hx'
    obtain rfl := Option.some.inj hx'
    obtain ⟨hi, rfl⟩ := Array.getElem?_eq_some_iff.1 hx
    rw [Array.getElem_ofFn]
    exact (hole _).choose_spec.2⟩
  have hlt : b < W.heap.size := (Array.getElem?_eq_some_iff.1 hb).1
  have hV : (W.heap.setIfInBounds b (.cells hs e (if cs.size = 0 then z else (0, cs.size))))[b]? = some (.cells hs e (if cs.size = 0 then z else (0, cs.size))) := by
    rw [Array.getElem?_setIfInBounds, if_pos rfl, if_pos hlt]
  refine ⟨{ W with heap := W.heap.setIfInBounds b (.cells hs e (if cs.size = 0 then z else (0, cs.size))) }, by simp, ⟨fun d c hd => ?_, rfl, rfl, by rw [hg]; exact Nat.zero_le _, by rw [hg]; exact Nat.zero_le _⟩, ⟨fun d c hd => ?_, rfl, rfl, by rw [hg]; exact Nat.zero_le _, by rw [hg]; exact Nat.zero_le _⟩, ?_, fun h0 => ⟨hs, e, ?_⟩, fun h0 => ?_⟩
  · obtain ⟨rfl, rfl⟩ := only_of hd
    refine ⟨_, _, hV, hb, .cells r1 ?_⟩
    by_cases h0 : cs.size = 0
    · rw [if_pos h0]; exact .inl rfl
    · rw [if_neg h0]; exact .inr ⟨rfl, by rw [hsz], by omega⟩
  · obtain ⟨rfl, rfl⟩ := only_of hd
    exact ⟨_, _, hV, hV, .cells r2 (.inl rfl)⟩
  · obtain ⟨h1, h2, h3⟩ := h
    refine ⟨h1, h2.imp id fun ⟨b', off', e1, e2, e3⟩ => ⟨b', off', e1, by simpa using e2, ?_⟩, h3⟩
    simp only [Option.some.injEq, Addr.mk.injEq] at e1
    obtain ⟨rfl, rfl, _⟩ := e1
    have key : ∀ (j : Nat) (v : Value), (∀ x, VRel ok (only b) x v → x = v) → W.cell? ⟨b, j, none⟩ = some v → World.cell? { W with heap := W.heap.setIfInBounds b (.cells hs e (if cs.size = 0 then z else (0, cs.size))) } ⟨b, j, none⟩ = some v := by
      intro j v hv hc
      simp only [World.cell?, hb, hV] at hc ⊢
      have hc' : cs[j]? = some v := by simpa using hc
      obtain ⟨hj, _⟩ := Array.getElem?_eq_some_iff.1 hc'
      have hx : hs[j]? = some hs[j] := Array.getElem?_eq_getElem (by rw [hsz]; exact hj)
      have := hv _ (r1.at_ j _ _ hx hc')
      rw [this] at hx
      simpa using hx
    have ks : ∀ s (x : Value), VRel ok (only b) x (.string s) → x = .string s := fun s x hx => by
      generalize hv : Value.string s = v at hx
      cases hx with
      | hole hh => subst hv; cases hh
      | _ => first | rfl | (cases hv; done)
    have kb : ∀ s (x : Value), VRel ok (only b) x (.bool s) → x = .bool s := fun s x hx => by
      generalize hv : Value.bool s = v at hx
      cases hx with
      | hole hh => subst hv; cases hh
      | _ => first | rfl | (cases hv; done)
    have ki : ∀ k s (x : Value), VRel ok (only b) x (.int k s) → x = .int k s := fun k s x hx => by
      generalize hv : Value.int k s = v at hx
      cases hx with
      | hole hh => subst hv; cases hh
      | _ => first | rfl | (cases hv; done)
    intro i hi
    obtain ⟨c0, c1, c2, c3, c4, c5⟩ := e3 i hi
    exact ⟨key _ _ (ks _) c0, key _ _ (kb _) c1, key _ _ (ki _ _) c2, key _ _ (ki _ _) c3, key _ _ (ki _ _) c4, key _ _ (ki _ _) c5⟩
  · rw [hV, if_neg (by omega), hsz]
  · rw [hV, if_pos h0, hb]
    have : hs = cs := by
      have h1 : hs = #[] := Array.eq_empty_of_size_eq_zero (by omega)
      have h2 : cs = #[] := Array.eq_empty_of_size_eq_zero h0
      rw [h1, h2]
    rw [this]
theorem vrel_true {ρ : Ren} {v : Value} (h : VRel ok ρ (.bool true) v) : v = .bool true := by cases h; rfl
end

theorem fn_nt (F : Func) (c : Option Code) : ({ F with body := c } : Func).ntmps = F.ntmps := rfl
theorem set_ntmps (P : Program) (k : Nat) (g h : Func) (hk : P.funcs[k]? = some h) (e : g.ntmps = h.ntmps) (f : Nat) : ((({ P with funcs := P.funcs.setIfInBounds k g } : Program).funcs[f]?).map (·.ntmps)).getD 0 = ((P.funcs[f]?).map (·.ntmps)).getD 0 := by
  show (((P.funcs.setIfInBounds k g)[f]?).map (·.ntmps)).getD 0 = _
  rw [Array.getElem?_setIfInBounds]
  by_cases hf : k = f
  · subst hf
    rw [if_pos rfl, if_pos (Array.getElem?_eq_some_iff.1 hk).1, hk]
    simp [e]
  · rw [if_neg hf]
theorem ntmps_same (f : Nat) : ((Tryz0.prog.funcs[f]?).map (·.ntmps)).getD 0 = ((Tryz.prog.funcs[f]?).map (·.ntmps)).getD 0 := set_ntmps Tryz.prog 25 Tryz0.fn0 Tryz.f25 Tryz.func25 (fn_nt Tryz.f25 (some Tryz0.body0)) f
theorem no_inits : fnsL.all (fun f => (Tryz.prog.inits.idxOf? f).isNone) = true := by kernel_rfl
/-- A GOOD RUN OF THE LAW -/
theorem law_good {W : World} {a : Option Addr} {n cap : Nat} {f : Nat → Mv} {shift : Int} (h : IsMvs W a n cap f) (ha : ∀ x, a = some x → x.spot = none ∧ ∃ cs e z, W.heap[x.block]? = some (.cells cs e z)) :
    ∃ M last o w' t', runNT Tryz.prog (M + 1) (solo (G (Frame.enter Tryz.prog 3 #[.slice a n cap, .int .i64 shift] .normal) []) W) #[] = (.ended o w', t') ∧
      runN Tryz.prog M (solo (G (Frame.enter Tryz.prog 3 #[.slice a n cap, .int .i64 shift] .normal) []) W) = .next last ∧ step Tryz.prog last = .ended o w' ∧
      Conc.Good Tryz.prog (fun v' W' => v' = .bool true ∧ Keep (fun d => d < W.heap.size) W W') last o w' t' := by
  letI := gl0
  obtain ⟨ok, h1, h2, h3⟩ := ctxL
  obtain ⟨okw, g1, g2, g3⟩ := ctxW
  have hinn : ∀ f, ok.inn f = true → fnsL.contains f = true ∧ f ≠ 25 := fun f hf => innL h2 hf
  have hN : ∀ f, ok.inn f = false → ((Tryz0.prog.funcs[f]?).map (·.ntmps)).getD 0 = ((Tryz.prog.funcs[f]?).map (·.ntmps)).getD 0 := fun f _ => ntmps_same f
  have hI : ∀ f, ok.inn f = true → Tryz.prog.inits.idxOf? f = none := fun f hf => by
    have h4 := (hinn f hf).1
    have h5 := no_inits
    simp only [List.all_eq_true, List.contains_iff_mem] at h4 h5
    have := h5 f h4
    simpa using this
  have hf : ok.inn 3 = true := by rw [h2]; kernel_rfl
  have run := fun {V : World} {ρ : Ren} {F : Nat → Prop} (hm : IsMvs V a n cap f) hx hx0 hw hw0 hF => good_run (ok := ok) (W := W) (V := V) (ρ := ρ) (ρ₀ := ρ) (F := F) (xs := #[.slice a n cap, .int .i64 shift]) (xs' := #[.slice a n cap, .int .i64 shift]) (pairL0 h1 hinn h3) (pairL h1 hinn h3) hN (doorL (ok := ok) g1 g2 g3) hI hf (lawL h1 h2 h3 (shift := shift) hm) hx hx0 hw hw0 hF
  cases a with
  | none =>
    have hx : VsRel ok nobody #[.slice none n cap, .int .i64 shift] #[.slice none n cap, .int .i64 shift] := ⟨rfl, fun i x x' hx hx' => by
      match i with
      | 0 => simp at hx hx'; subst hx hx'; exact .slice0 _ _
      | 1 => simp at hx hx'; subst hx hx'; exact .int _ _
      | i + 2 => simp at hx⟩
    obtain ⟨M, last, o, w', t', q1, q2, q3, q4⟩ := run (V := W) (ρ := nobody) (F := fun d => d < W.heap.size) h hx hx ⟨fun _ _ h => (by cases h), rfl, rfl, Nat.zero_le _, Nat.zero_le _⟩ ⟨fun _ _ h => (by cases h), rfl, rfl, Nat.zero_le _, Nat.zero_le _⟩ (fun d hd => ⟨hd, .inl fun b hb => by cases hb⟩)
    refine ⟨M, last, o, w', t', q1, q2, q3, q4.mono fun v hv => ?_⟩
    obtain ⟨v0, V', σ, ⟨rfl, _⟩, hv, _, _, hk⟩ := hv
    exact ⟨vrel_true hv, hk⟩
  | some x =>
    obtain ⟨hs, cs, e, z, hb⟩ := ha x rfl
    obtain ⟨b, off, spot⟩ := x
    simp only at hs hb
    subst hs
    obtain ⟨V, v1, v2, v3, v4, v5, v6⟩ := law_world (ok := ok) rfl hb h
    have hx : VsRel ok (only b) #[.slice (some ⟨b, off, none⟩) n cap, .int .i64 shift] #[.slice (some ⟨b, off, none⟩) n cap, .int .i64 shift] := ⟨rfl, fun i x x' hx hx' => by
      match i with
      | 0 => simp at hx hx'; subst hx hx'; exact .slice _ _ ⟨only_at b, rfl, rfl⟩
      | 1 => simp at hx hx'; subst hx hx'; exact .int _ _
      | i + 2 => simp at hx⟩
    obtain ⟨M, last, o, w', t', q1, q2, q3, q4⟩ := run (V := V) (ρ := only b) (F := fun d => d < W.heap.size ∧ (d = b → 0 < cs.size)) v4 hx hx v2 v3 (fun d hd => ⟨hd.1, by
      by_cases hdb : d = b
      · exact .inr ⟨b, by rw [hdb]; exact only_at b, v5 (hd.2 hdb)⟩
      · exact .inl fun b' hb' => hdb (only_of hb').2⟩)
    refine ⟨M, last, o, w', t', q1, q2, q3, q4.mono fun v hv => ?_⟩
    obtain ⟨v0, V', σ, ⟨rfl, hbl⟩, hv, hle, hw, hk⟩ := hv
    refine ⟨vrel_true hv, fun d hd => ?_, hk.size, hk.os, hk.out⟩
    by_cases hdb : d = b → 0 < cs.size
    · exact hk.block d ⟨hd, hdb⟩
    · have hd' : d = b ∧ cs.size = 0 := by
        by_cases e1 : d = b
        · refine ⟨e1, ?_⟩
          by_cases e2 : cs.size = 0
          · exact e2
          · exact absurd (fun _ => by omega) hdb
        · exact absurd (fun e2 => absurd e2 e1) hdb
      obtain ⟨rfl, h0⟩ := hd'
      obtain ⟨o1, o2, i1, i2, i3⟩ := hw.heap d d (hle d d (only_at d))
      rw [hbl.block d (by rw [v1]; exact hd), v6 h0, hb] at i1
      obtain rfl := Option.some.inj i1
      rw [i2, hb]
      cases i3 with
      | @cells _ c' _ _ z' hc hz =>
        have hz : z' = z := hz.resolve_right (fun h => by omega)
        have hc' : c' = cs := by
          have h1 : c' = #[] := Array.eq_empty_of_size_eq_zero (by rw [← hc.size]; exact h0)
          have h2 : cs = #[] := Array.eq_empty_of_size_eq_zero h0
          rw [h1, h2]
        rw [hz, hc']
end Go.Proofs.YtlmcblcijndipabGreat

/- FnExactStripBest answers true at every list of moves and every number and leaves them as they were: the program's StripBest is the model's, writes into no argument, and its answer owns its memory, behind another call too. No condition. It starts goroutines; they leave. -/
namespace Go.Proofs.YtlmcblcijndipabGreat
open Go.ChangeShapes Go.WideShapes Go.ChangeAt Go.RowKit Go.Conc
set_option linter.unusedVariables false

namespace LawBest
theorem keep_below {W W' : World} (h : Keep (fun d => d < W.heap.size) W W') : Below W.heap.size W { W' with tape := W.tape } := ⟨h.os, rfl, h.out, h.size, h.block⟩
theorem keep_frame {W W' : World} (h : Keep (fun d => d < W.heap.size) W W') (may : MemPlace → Prop) : W.keptBut W' may := by
  refine ⟨h.os, h.out, fun i hi => ?_⟩
  rw [h.block i hi]
  split <;> simp_all
theorem has_block {P : Program} {W : World} {r : Reach} {base : Nat} {t e : TypeId} {x : Addr} {n cap : Nat} (ht : P.underlying t = some (.slice e)) (h : Value.okWide P W r base t (.slice (some x) n cap)) : x.spot = none ∧ ∃ cs e z, W.heap[x.block]? = some (.cells cs e z) := by
  simp only [Value.okWide, ht, Cell.okWide, Cell.ok] at h
  obtain ⟨_, _, _, hs, row, cells, hsh, _⟩ := h
  refine ⟨hs, ?_⟩
  unfold World.shape? at hsh
  split at hsh
  · rename_i c el z hc; exact ⟨c, el, z, hc⟩
  · cases hsh

set_option maxRecDepth 100000 in
theorem lifted (os : Os) (started : os.Started) (H : Type) (enc : TypeId × Value → H) :
    ReturnsInLeavingWide {} Tryz.checked os 3 .any (Rows.fnExactStripBestSpec.pre6 enc Tryz.prog Tryz.f3 Rows.fnExactStripBestRow.domain false) (Rows.fnExactStripBestSpec.post enc Tryz.prog Tryz.f3 false true false false) := by
  refine returnsInLeavingWide_of_change_sized (C := Tryz.checked) own started Tryz.func3
    (ChangeSpec.witness6 (enc := enc) (C := Tryz.checked) false ⟨#[], #[.slice none 0 0, .int .i64 0], []⟩ 8 (by kernel_rfl) (by kernel_rfl) (by kernel_rfl) (by kernel_rfl)) ?_
  intro W base args ds gs before hval0 hW hcnd _ _
  have hval : ∀ (j : Nat) t v, Tryz.f3.params[j]? = some t → args[j]? = some v → Value.okWide Tryz.prog W .any base t v := hval0
  have hW' := hW
  obtain ⟨p, q, hA0, hV, rfl, hfz, hnd⟩ := hW
  have hA : DataW.TrodAll enc Tryz.prog W 0 (fun _ => true) true Tryz.f3.params.toList args.toList ds p := hA0
  rw [Tryz.params3] at hA hval
  obtain ⟨v0, vs0, d0, ds0, p0, q0, hargs, rfl, rfl, h0, r0⟩ := trodAll_cons hA
  obtain ⟨v1, vs1, d1, ds1, p1, q1, hargs1, rfl, rfl, h1, r1⟩ := trodAll_cons r0
  obtain ⟨rfl, rfl, rfl⟩ := trodAll_nil r1
  obtain rfl : args = #[v0, v1] := by cases args; simp_all
  obtain ⟨rfl, rfl⟩ := trodVars_none hV
  have hv0 := hval 0 22 v0 rfl rfl
  obtain ⟨a0, len0, cap0, rfl⟩ := okWide_slice Tryz.underlying22 hv0
  obtain ⟨z1, rfl⟩ := okWide_int Tryz.underlying3 (hval 1 3 v1 rfl rfl)
  have k0 := h0
  have k1 := h1
  have lt0 : ∀ x ∈ p0, x.block < W.heap.size := by obtain ⟨m, hm⟩ := k0; exact DataW.trod_lt m _ _ _ hm
  have lt1 : ∀ x ∈ p1, x.block < W.heap.size := by obtain ⟨m, hm⟩ := k1; exact DataW.trod_lt m _ _ _ hm
  obtain ⟨f0, w0⟩ := open_moves h0
  clear hA0 hval0
  obtain ⟨M, last, o, w', t', g1, g2, g3, g4⟩ := law_good (shift := z1) w0 (fun x hx => by subst hx; exact has_block Tryz.underlying22 hv0)
  refine ⟨M, last, o, w', t', g1, g2, g3, g4.mono fun v hv => ?_⟩
  obtain ⟨rfl, hk⟩ := hv
  have bel := keep_below hk
  have hh : ({ w' with tape := W.tape } : World).heap = w'.heap := rfl
  have e0 := (Below.trod laidOut (by kernel_rfl) (of_decide_eq_true (by kernel_rfl)) k0 bel lt0).of_heap (w' := w') hh
  have e1 := (Below.trod laidOut (by kernel_rfl) (of_decide_eq_true (by kernel_rfl)) k1 bel lt1).of_heap (w' := w') hh
  exact ⟨_, _, _, [], _, [], hW', trodAll_mk1 (shut_bool Tryz.underlying4 _), (trodAll_cons_mk e0 (trodAll_cons_mk e1 trodAll_mk0)), rfl, keep_frame hk _, fun h => by cases h⟩

theorem over : Rows.fnExactStripBestRow.holds Tryz.pinned (OpenSpec.ofChange Rows.fnExactStripBestSpec) :=
  OpenClaim.holds_of_wide_leaving 3 Tryz.f3 rfl rfl rfl rfl rfl rfl rfl ⟨rfl, rfl, rfl, rfl, rfl⟩ rfl rfl rfl rfl rfl (by kernel_rfl) Tryz.func3 (by kernel_rfl)
    (of_decide_eq_true (by kernel_rfl)) (by unfold Func.isWrapper; first | (rw [if_pos (by decide +kernel)]; kernel_rfl) | (rw [if_neg (by decide +kernel)]; exact ⟨rfl, rfl⟩))
    (fun os started H enc _ => lifted os started H enc)
end LawBest

/-- the given statement -/
theorem fnExactStripBest_holds : Rows.FnExactStripBestSaid := LawBest.over
#print axioms fnExactStripBest_holds
end Go.Proofs.YtlmcblcijndipabGreat
