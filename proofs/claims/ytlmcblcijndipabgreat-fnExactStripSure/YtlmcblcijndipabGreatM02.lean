/- Texts of the proof, one behind another: R8, R9, R10, R11, R12, R13, R14, R15. -/
import Derived.Test.YtlmcblcijndipabGreatM01
import Derived.Conc.Own
namespace Go.Proofs.YtlmcblcijndipabGreat
open Go
variable [Gl]
inductive NRel (ok : Ctx) (ρ : Ren) : Next → Next → Prop
  | value {v v' : Value} : VRel ok ρ v v' → NRel ok ρ (.value v) (.value v')
  | skip : NRel ok ρ .skip .skip
  | enter (f : FuncId) {xs xs' : Array Value} : ok.fn f = true → VsRel ok ρ xs xs' → NRel ok ρ (.enter f xs) (.enter f xs')
  | round {l l' : Nat} (f : FuncId) {xs xs' : Array Value} {a b : Code} : ρ l = some l' → ok.inn f = true → VsRel ok ρ xs xs' → ok.code a = true → ok.code b = true → NRel ok ρ (.round l f xs a b) (.round l' f xs' a b)
structure Callable (P₀ P : Program) (ok : Ctx) : Prop where
  left : ∀ f, ok.fn f = true → ∃ fn, P₀.funcs[f]? = some fn ∧ fn.body.isSome = true ∧ (fn.name == "runtime.NumGoroutine") = false
  right : ∀ f, ok.fn f = true → ∃ fn, P.funcs[f]? = some fn ∧ fn.body.isSome = true ∧ (fn.name == "runtime.NumGoroutine") = false
  hole : P₀.info? 1000000000 = none
def opnd (fn : FuncId → Bool) : Operand → Bool
  | .tmp _ => true
  | .const v => plainV v
  | .global _ => false
  | .func f => fn f
def fieldOk (P : Program) (s : TypeId) (f : Nat) : Bool :=
  match P.underlying s with
  | some (.struct fs) => (match fs[f]? with | some x => (match P.info? x.type with | some i => i.size != 0 | none => true) | none => true)
  | _ => true
def builtinOk : Builtin → Bool
  | .len | .cap | .max | .min => true
  | _ => false
def builtOk (P : Program) (ts : Array TypeId) (b : Builtin) : Bool := builtinOk b || (b == .append && appOk P ts)
def callOk (P : Program) (ok : FuncId → Bool) (c : Call) : Bool :=
  (match c.callee with | .builtin b => builtOk P c.argTypes b | .value f => opnd ok f | _ => false) && c.args.all (opnd ok)
def fnOk (ok : FuncId → Bool) : Fn → Bool
  | .func f => ok f
  | _ => false
def strOk (P : Program) (t : TypeId) : Bool :=
  match P.underlying t with
  | some .string => true
  | _ => false
def intOk (P : Program) (t : TypeId) : Bool :=
  match P.underlying t with
  | some (.int _) => true
  | _ => false
def bytesOk (P : Program) (t : TypeId) : Bool :=
  match P.underlying t with
  | some (.slice e) => (match P.underlying e with | some (.int .u8) => true | _ => false)
  | _ => false
def opOk (P : Program) (ok : FuncId → Bool) : Op → Bool
  | .move x | .assign x => opnd ok x
  | .pick c a b => opnd ok c && opnd ok a && opnd ok b
  | .alloc t => zok P t
  | .box _ x => opnd ok x
  | .build t parts => zok P t && parts.all (fun x => opnd ok x.2)
  | .buildSlice t _ parts => zokS P t && parts.all (fun x => opnd ok x.2)
  | .load _ a => opnd ok a
  | .store _ a x => opnd ok a && opnd ok x
  | .binOp op t x y _ => binOk P op t && opnd ok x && opnd ok y
  | .unOp _ _ x => opnd ok x
  | .makeFunc f a b => fnOk ok f && a.all (opnd ok) && b.all (opnd ok)
  | .makeSlice t l c => zokS P t && opnd ok l && opnd ok c
  | .slice _ x a b c => opnd ok x && a.all (opnd ok) && b.all (opnd ok) && c.all (opnd ok)
  | .fieldAddr s x f => fieldOk P s f && opnd ok x
  | .field _ x _ => opnd ok x
  | .indexAddr _ x i => opnd ok x && opnd ok i
  | .index _ x i => opnd ok x && opnd ok i
  | .extract x _ => opnd ok x
  | .call c => callOk P ok c
  | .nilCheck x => opnd ok x
  | .convert a b x => ((intOk P a && intOk P b) || (bytesOk P a && strOk P b)) && opnd ok x
  | .range t x => strOk P t && opnd ok x
  | .next it b => b && opnd ok it
  | _ => false
section
variable {P₀ P : Program} {ok : Ctx} {str : Bool} {ρ : Ren}
theorem sr_len (hT : P₀.toTables = P.toTables) (ts : Array TypeId) (t : TypeId) {xs xs' : Array Value} (h : VsRel ok ρ xs xs') : SemRel P₀ P ok str (fun σ x y => VRel ok σ x y) ρ (Builtin.len_ ts t xs) (Builtin.len_ ts t xs') := by
  unfold Builtin.len_
  cases ht : ts[0]? with
  | none => cases hx : xs[0]? <;> exact .halt _ _
  | some t =>
    cases hx : xs[0]? with
    | none => exact .halt _ _
    | some x =>
      obtain ⟨x', hx', r⟩ := h.get hx
      rw [hx']
      refine sr_bind _ (sr_underlying hT t) ?_
      rintro σ d _ l ⟨rfl, _⟩
      have r := r.mono l
      cases d with
      | string => cases r <;> first | exact sr_pure (.int _ _) | exact .halt _ _
      | array n e => exact sr_pure (.int _ _)
      | pointer a =>
        refine sr_bind _ (sr_underlying hT a) ?_
        rintro τ d _ l ⟨rfl, _⟩
        cases d with
        | array n e => exact sr_pure (.int _ _)
        | _ => exact .halt _ _
      | slice e => cases r <;> first | exact sr_pure (.int _ _) | exact .halt _ _
      | _ => cases r <;> exact .halt _ _
theorem sr_cap (hT : P₀.toTables = P.toTables) (ts : Array TypeId) (t : TypeId) {xs xs' : Array Value} (h : VsRel ok ρ xs xs') : SemRel P₀ P ok str (fun σ x y => VRel ok σ x y) ρ (Builtin.cap_ ts t xs) (Builtin.cap_ ts t xs') := by
  unfold Builtin.cap_
  cases ht : ts[0]? with
  | none => cases hx : xs[0]? <;> exact .halt _ _
  | some t =>
    cases hx : xs[0]? with
    | none => exact .halt _ _
    | some x =>
      obtain ⟨x', hx', r⟩ := h.get hx
      rw [hx']
      refine sr_bind _ (sr_underlying hT t) ?_
      rintro σ d _ l ⟨rfl, _⟩
      have r := r.mono l
      cases d with
      | array n e => exact sr_pure (.int _ _)
      | pointer a =>
        refine sr_bind _ (sr_underlying hT a) ?_
        rintro τ d _ l ⟨rfl, _⟩
        cases d with
        | array n e => exact sr_pure (.int _ _)
        | _ => exact .halt _ _
      | slice e => cases r <;> first | exact sr_pure (.int _ _) | exact .halt _ _
      | _ => cases r <;> exact .halt _ _
theorem sr_max2 {x x' y y' : Value} (h : VRel ok ρ x x') (h' : VRel ok ρ y y') : SemRel P₀ P ok str (fun σ x y => VRel ok σ x y) ρ (Builtin.max2 x y) (Builtin.max2 x' y') := by
  cases h with
  | int k a => cases h' <;> first | exact sr_pure (.int _ _) | exact .halt _ _
  | string a =>
    cases h' with
    | string b =>
      refine sr_bind _ (sr_stringOp _ _ _) ?_
      intro σ u u' _ hu
      refine sr_bind _ (sr_asBool hu) ?_
      rintro τ b _ _ rfl
      split <;> exact sr_pure (.string _)
    | _ => exact .halt _ _
  | _ => cases h' <;> exact .halt _ _
theorem sr_min2 {x x' y y' : Value} (h : VRel ok ρ x x') (h' : VRel ok ρ y y') : SemRel P₀ P ok str (fun σ x y => VRel ok σ x y) ρ (Builtin.min2 x y) (Builtin.min2 x' y') := by
  cases h with
  | int k a => cases h' <;> first | exact sr_pure (.int _ _) | exact .halt _ _
  | string a =>
    cases h' with
    | string b =>
      refine sr_bind _ (sr_stringOp _ _ _) ?_
      intro σ u u' _ hu
      refine sr_bind _ (sr_asBool hu) ?_
      rintro τ b _ _ rfl
      split <;> exact sr_pure (.string _)
    | _ => exact .halt _ _
  | _ => cases h' <;> exact .halt _ _
theorem sr_foldlM {f : Value → Value → Sem Value} (hf : ∀ {ρ : Ren} {x x' y y' : Value}, VRel ok ρ x x' → VRel ok ρ y y' → SemRel P₀ P ok str (fun σ x y => VRel ok σ x y) ρ (f x y) (f x' y')) :
    ∀ {l l' : List Value} {ρ : Ren} {x x' : Value}, LsRel ok ρ l l' → VRel ok ρ x x' → SemRel P₀ P ok str (fun σ x y => VRel ok σ x y) ρ (l.foldlM f x) (l'.foldlM f x') := by
  intro l
  induction l with
  | nil => intro l' ρ x x' h hx; cases h; exact sr_pure hx
  | cons a l ih =>
    intro l' ρ x x' h hx
    cases h with
    | cons ha h =>
      simp only [List.foldlM_cons]
      refine sr_bind _ (hf hx ha) ?_
      intro σ y y' le hy
      exact ih (h.mono le) hy
theorem sr_max (ts : Array TypeId) (t : TypeId) {xs xs' : Array Value} (h : VsRel ok ρ xs xs') : SemRel P₀ P ok str (fun σ x y => VRel ok σ x y) ρ (Builtin.max_ ts t xs) (Builtin.max_ ts t xs') := by
  unfold Builtin.max_
  have hl := h.list
  generalize xs.toList = l at hl
  generalize xs'.toList = l' at hl
  cases hl with
  | nil => exact .halt _ _
  | cons hv hl => exact sr_foldlM (fun h h' => sr_max2 h h') hl hv
theorem sr_min (ts : Array TypeId) (t : TypeId) {xs xs' : Array Value} (h : VsRel ok ρ xs xs') : SemRel P₀ P ok str (fun σ x y => VRel ok σ x y) ρ (Builtin.min_ ts t xs) (Builtin.min_ ts t xs') := by
  unfold Builtin.min_
  have hl := h.list
  generalize xs.toList = l at hl
  generalize xs'.toList = l' at hl
  cases hl with
  | nil => exact .halt _ _
  | cons hv hl => exact sr_foldlM (fun h h' => sr_min2 h h') hl hv
theorem sr_value {s s' : Sem Value} (h : SemRel P₀ P ok str (fun σ x y => VRel ok σ x y) ρ s s') : SemRel P₀ P ok str (fun σ x y => NRel ok σ x y) ρ (do pure (.value (← s))) (do pure (.value (← s'))) := by
  refine sr_bind _ h ?_
  intro σ x y _ hv
  exact sr_pure (.value hv)
theorem sr_skip {s s' : Sem Unit} {A : Ren → Unit → Unit → Prop} (h : SemRel P₀ P ok str A ρ s s') : SemRel P₀ P ok str (fun σ x y => NRel ok σ x y) ρ (do s; pure .skip) (do s'; pure .skip) := by
  refine sr_bind _ h ?_
  intro σ x y _ _
  exact sr_pure .skip
theorem sr_callFunc (hC : Callable P₀ P ok) (f : FuncId) (hf : ok.fn f = true) {xs xs' : Array Value} (h : VsRel ok ρ xs xs') : SemRel P₀ P ok str (fun σ x y => NRel ok σ x y) ρ (callFunc f xs) (callFunc f xs') := by
  refine SemRel.program ?_
  obtain ⟨fn, h1, h2, h3⟩ := hC.left f hf
  obtain ⟨fn', h1', h2', h3'⟩ := hC.right f hf
  have e1 : fn.body.isNone = false := by cases hb : fn.body <;> simp_all
  have e2 : fn'.body.isNone = false := by cases hb : fn'.body <;> simp_all
  refine sr_pbind ?_
  rw [h1, h1']
  simp only [h3, h3', e1, e2, Bool.false_eq_true, if_false]
  exact sr_pure (.enter f hf h)
theorem sr_getLoop {l l' : Nat} (hl : ρ l = some l') : SemRel P₀ P ok str (fun σ r r' => LpRel ok σ r r') ρ (Instr.getLoop l) (Instr.getLoop l') := by
  refine SemRel.getObj hl fun o o' ho => ?_
  cases ho with
  | loop hr => exact .pure hr
  | _ => exact .halt _ _
theorem sr_yield {l l' : Nat} (hl : ρ l = some l') {xs xs' : Array Value} (h : VsRel ok ρ xs xs') : SemRel P₀ P ok str (fun σ x y => NRel ok σ x y) ρ (Instr.yield l xs) (Instr.yield l' xs') := by
  refine sr_bind _ (sr_getLoop hl) ?_
  intro σ r r' le hr
  have h := h.mono le
  rw [h.size, hr.params]
  split
  · exact .halt _ _
  · rw [hr.fn, hr.assign, hr.body]
    refine sr_pure (.round _ (le _ _ hl) hr.inn ?_ hr.ok1 hr.ok2)
    have fold : ∀ (ps : List Tmp) (l l' : List Value) (_ : LsRel ok σ l l') (a a' : Array Value), VsRel ok σ a a' →
        VsRel ok σ ((ps.zip l).foldl (fun tmps (x : Tmp × Value) => tmps.setIfInBounds x.1 x.2) a) ((ps.zip l').foldl (fun tmps (x : Tmp × Value) => tmps.setIfInBounds x.1 x.2) a') := by
      intro ps
      induction ps with
      | nil => intro l l' _ a a' ha; exact ha
      | cons p ps ih =>
        intro l l' hl a a' ha
        cases hl with
        | nil => exact ha
        | cons hv hl => exact ih _ _ hl _ _ (ha.set hv p)
    have := fold r.params.toList _ _ h.list _ _ hr.tmps
    rw [← Array.toList_zip, ← Array.toList_zip, Array.foldl_toList, Array.foldl_toList] at this
    exact this
theorem sr_builtin (hT : P₀.toTables = P.toTables) (b : Builtin) (ts : Array TypeId) (hb : builtOk P ts b = true) (t : TypeId) (cs : Array Bool) {xs xs' : Array Value} (h : VsRel ok ρ xs xs') : SemRel P₀ P ok str (fun σ x y => NRel ok σ x y) ρ (builtin b ts t cs xs) (builtin b ts t cs xs') := by
  cases b with
  | len => exact sr_value (sr_len hT ts t h)
  | cap => exact sr_value (sr_cap hT ts t h)
  | max => exact sr_value (sr_max ts t h)
  | min => exact sr_value (sr_min ts t h)
  | append => exact sr_value (sr_append hT ts t (by simpa [builtOk, builtinOk] using hb) h)
  | _ => simp [builtOk, builtinOk] at hb
theorem sr_invoke (hT : P₀.toTables = P.toTables) (hC : Callable P₀ P ok) {d d' : Target} {xs xs' : Array Value} (hd : TgRel ok ρ d d') (hb : ∀ b a t c, d ≠ .builtin b a t c) (h : VsRel ok ρ xs xs') : SemRel P₀ P ok str (fun σ x y => NRel ok σ x y) ρ (invoke d xs) (invoke d' xs') := by
  cases hd with
  | fn hf hx =>
    cases hf with
    | func hf => exact sr_callFunc hC _ hf (h.append hx)
    | yield hl => exact sr_yield hl h
  | nil => exact sr_rt hT .nilDeref rfl
  | builtin b a t c => exact absurd rfl (hb b a t c)
  | collected _ => exact .halt _ _
def EvRel (ok : Ctx) (ρ : Ren) (ev ev' : Operand → Value) : Prop := ∀ x, opnd ok.fn x = true → VRel ok ρ (ev x) (ev' x)
theorem all_rel {ev ev' : Operand → Value} (h : EvRel ok ρ ev ev') {xs : Array Operand} (hx : xs.all (opnd ok.fn) = true) : VsRel ok ρ (xs.map ev) (xs.map ev') := by
  refine ⟨by simp, fun i x x' e e' => ?_⟩
  rw [Array.getElem?_map] at e e'
  cases hi : xs[i]? with
  | none => rw [hi] at e; cases e
  | some o =>
    rw [hi] at e e'
    simp only [Option.map_some, Option.some.injEq] at e e'
    subst e; subst e'
    rw [Array.all_eq_true] at hx
    obtain ⟨hl, rfl⟩ := Array.getElem?_eq_some_iff.1 hi
    exact h _ (hx i hl)
theorem parts_rel {ev ev' : Operand → Value} (h : EvRel ok ρ ev ev') {xs : Array (Nat × Operand)} (hx : xs.all (fun x => opnd ok.fn x.2) = true) :
    (xs.map fun x => (x.1, ev x.2)).toList.map (·.1) = (xs.map fun x => (x.1, ev' x.2)).toList.map (·.1) ∧ LsRel ok ρ ((xs.map fun x => (x.1, ev x.2)).toList.map (·.2)) ((xs.map fun x => (x.1, ev' x.2)).toList.map (·.2)) := by
  refine ⟨by simp, ?_⟩
  simp only [Array.toList_map, List.map_map]
  have hx' : ∀ x ∈ xs.toList, opnd ok.fn x.2 = true := by
    intro x hm
    rw [Array.all_eq_true] at hx
    obtain ⟨i, hi, rfl⟩ := Array.getElem_of_mem (Array.mem_toList_iff.1 hm)
    exact hx i hi
  generalize xs.toList = l at hx'
  induction l with
  | nil => exact .nil
  | cons a l ih => exact .cons (h _ (hx' a (by simp))) (ih fun x hm => hx' x (by simp [hm]))
theorem opt_rel {ev ev' : Operand → Value} (h : EvRel ok ρ ev ev') {x : Option Operand} (hx : x.all (opnd ok.fn) = true) : ORelV ok ρ (x.map ev) (x.map ev') := by
  cases x with
  | none => exact .none
  | some o => exact .some (h _ (by simpa using hx))
omit [Gl] in
theorem guard_hole (op : BinOp) (t : TypeId) (x y : Operand) (a : Value) (V : World) : (eqGuard op t x y a hole).run P₀ V = .ok () V ∧ (eqGuard op t x y hole a).run P₀ V = .ok () V := by
  constructor <;> (cases op <;> first | rfl | (cases a <;> rfl))
omit [Gl] in
theorem sr_binDead (hT : P₀.toTables = P.toTables) (op : BinOp) (t : TypeId) (ht : binOk P op t = true) (x y : Operand) (a b : Value) (h : a = hole ∨ b = hole) (V : World) : Result.stops ((do eqGuard op t x y a b; binOp op t a b : Sem Value).run P₀ V) = true := by
  rw [Sem.run_bind]
  rcases h with rfl | rfl
  · rw [(guard_hole op t x y b V).2]; exact (binOp_hole hT op t ht b V).2
  · rw [(guard_hole op t x y a V).1]; exact (binOp_hole hT op t ht a V).1
theorem sr_eqGuard (hT : P₀.toTables = P.toTables) (op : BinOp) (t : TypeId) (ht : binOk P op t = true) (x y : Operand) {a a' b b' : Value} (h : VRel ok ρ a a') (h' : VRel ok ρ b b') (na : a ≠ hole) (nb : b ≠ hole) : SemRel P₀ P ok str (fun _ _ _ => True) ρ (eqGuard op t x y a b) (eqGuard op t x y a' b') := by
  unfold eqGuard
  by_cases he : isEq op = true
  · unfold binOk at ht
    rw [if_pos he] at ht
    have hd : ∀ (Q : Program), Q.toTables = P.toTables → Q.eqGuardType Q.depth t = false := by
      intro Q hQ
      have : Q.depth = (2 * (Q.types.size + Made.depth) + 1) + 1 := rfl
      rw [this]
      unfold Program.eqGuardType
      rw [und_eq hQ]
      unfold eqB at ht
      split at ht <;> simp_all
    have hg : ∀ {σ : Ren} {u u' v v' : Value}, SemRel P₀ P ok str (fun _ x y => x = false ∧ y = false) σ (Op.eqGuardIn Op.maxDepth t u v) (Op.eqGuardIn Op.maxDepth t u' v') := by
      intro σ u u' v v'
      show SemRel P₀ P ok str _ σ (Op.eqGuardIn (9999 + 1) t u v) (Op.eqGuardIn (9999 + 1) t u' v')
      unfold Op.eqGuardIn
      refine sr_bind _ (sr_underlying hT t) ?_
      rintro τ d _ _ ⟨rfl, hu⟩
      unfold eqB at ht
      rw [hu] at ht
      cases d with
      | bool => exact sr_pure ⟨rfl, rfl⟩
      | string => exact sr_pure ⟨rfl, rfl⟩
      | int k => exact sr_pure ⟨rfl, rfl⟩
      | slice e => exact sr_pure ⟨rfl, rfl⟩
      | _ => cases ht
    have e1 : (!(match op with | .eql | .neq => true | _ => false)) = false := by cases op <;> first | rfl | cases he
    cases op with
    | eql =>
      cases h with
      | hole _ => exact absurd rfl na
      | nilIface =>
        cases h' with
        | hole _ => exact absurd rfl nb
        | nilIface =>
          have tail : SemRel P₀ P ok str (fun _ _ _ => True) ρ (do if ← Op.eqGuardIn Op.maxDepth t .nilIface .nilIface then unsupported (.noEntry "binop/eql: two nil values of an interface type with methods, neither of them the literal nil") else pure ())
              (do if ← Op.eqGuardIn Op.maxDepth t .nilIface .nilIface then unsupported (.noEntry "binop/eql: two nil values of an interface type with methods, neither of them the literal nil") else pure ()) := by
            refine sr_bind _ hg ?_
            rintro σ _ _ _ ⟨rfl, rfl⟩
            exact sr_pure trivial
          cases x <;> cases y <;> first | exact sr_pure trivial | exact tail
        | _ => exact sr_pure trivial
      | agg _ _ =>
        cases h' with
        | hole _ => exact absurd rfl nb
        | agg _ _ =>
          refine SemRel.program (sr_pbind (SemRel.program (sr_pbind ?_)))
          rw [hd P₀ hT, hd P rfl]
          exact sr_pure trivial
        | _ => exact sr_pure trivial
      | _ => cases h' <;> first | exact absurd rfl nb | exact sr_pure trivial
    | neq =>
      cases h with
      | hole _ => exact absurd rfl na
      | nilIface =>
        cases h' with
        | hole _ => exact absurd rfl nb
        | nilIface =>
          have tail : SemRel P₀ P ok str (fun _ _ _ => True) ρ (do if ← Op.eqGuardIn Op.maxDepth t .nilIface .nilIface then unsupported (.noEntry "binop/eql: two nil values of an interface type with methods, neither of them the literal nil") else pure ())
              (do if ← Op.eqGuardIn Op.maxDepth t .nilIface .nilIface then unsupported (.noEntry "binop/eql: two nil values of an interface type with methods, neither of them the literal nil") else pure ()) := by
            refine sr_bind _ hg ?_
            rintro σ _ _ _ ⟨rfl, rfl⟩
            exact sr_pure trivial
          cases x <;> cases y <;> first | exact sr_pure trivial | exact tail
        | _ => exact sr_pure trivial
      | agg _ _ =>
        cases h' with
        | hole _ => exact absurd rfl nb
        | agg _ _ =>
          refine SemRel.program (sr_pbind (SemRel.program (sr_pbind ?_)))
          rw [hd P₀ hT, hd P rfl]
          exact sr_pure trivial
        | _ => exact sr_pure trivial
      | _ => cases h' <;> first | exact absurd rfl nb | exact sr_pure trivial
    | _ => cases he
  · cases op <;> first | exact sr_pure trivial | exact absurd rfl he
omit [Gl] in
theorem fieldOk_at {s : TypeId} {f : Nat} (h : fieldOk P s f = true) : ∀ fs x i, P.underlying s = some (.struct fs) → fs[f]? = some x → P.info? x.type = some i → i.size ≠ 0 := by
  intro fs x i h1 h2 h3
  unfold fieldOk at h
  rw [h1] at h
  simp only [h2, h3] at h
  simpa using h
omit [Gl] in
theorem typeInfo_hole (h : P₀.info? 1000000000 = none) (V : World) : Result.stops ((typeInfo 1000000000).run P₀ V) = true := by
  simp [typeInfo, h, Result.stops, ends]
omit [Gl] in
theorem nilAhead_hole (h : P₀.info? 1000000000 = none) (n : Nat) (V : World) : Result.stops ((nilAhead n 1000000000 (.chan none) "").run P₀ V) = true ∨ (nilAhead n 1000000000 (.chan none) "").run P₀ V = .ok none V := by
  cases n with
  | zero => exact .inr rfl
  | succ n =>
    left
    unfold nilAhead
    rw [Sem.run_bind]
    exact stops_then (typeInfo_hole h V) _
omit [Gl] in
theorem nilCheck_hole (h : P₀.info? 1000000000 = none) (V : World) : Result.stops ((do
        if (← nilAhead ((← program).types.size + Made.depth) 1000000000 (.chan none) "") != some false then
          unsupported (.noEntry "op/nilCheck.the method's receiver behind this interface value is a nil pointer, or cannot be seen to be none, and the arguments act or may panic (ledger 612)")
        pure (.value (.func (.method "") #[.iface 1000000000 (.chan none)] #[])) : Sem Next).run P₀ V) = true := by
  rw [Sem.run_bind]
  show Result.stops (Sem.run P₀ _ V) = true
  rw [Sem.run_bind]
  rcases nilAhead_hole h (P₀.types.size + Made.depth) V with e | e
  · exact stops_then e _
  · rw [e]; rfl
omit [Gl] in
theorem invoke_hole (h : P₀.info? 1000000000 = none) (args : Array Value) (V : World) : Result.stops ((invoke (.fn (.method "") #[]) (#[.iface 1000000000 (.chan none)] ++ args)).run P₀ V) = true := by
  unfold invoke
  have e : (#[Value.iface 1000000000 (.chan none)] ++ args)[0]? = some (.iface 1000000000 (.chan none)) := by rw [Array.getElem?_append_left (by decide)]; rfl
  simp only [e]
  unfold callMethod
  rw [Sem.run_bind]
  show Result.stops (Sem.run P₀ _ V) = true
  rw [Sem.run_bind]
  refine stops_then ?_ _
  generalize P₀.types.size + Made.depth = n
  cases n with
  | zero => rfl
  | succ n =>
    unfold method
    rw [Sem.run_bind]
    exact stops_then (typeInfo_hole h V) _
theorem sr_call (hT : P₀.toTables = P.toTables) (hC : Callable P₀ P ok) (c : Call) (t : TypeId) (hc : callOk P ok.fn c = true) {ev ev' : Operand → Value} (h : EvRel ok ρ ev ev') :
    SemRel P₀ P ok str (fun σ x y => NRel ok σ x y) ρ (do let d ← resolve ev c t; invoke d.target d.args) (do let d ← resolve ev' c t; invoke d.target d.args) := by
  unfold callOk at hc
  rw [Bool.and_eq_true] at hc
  have ha := all_rel h hc.2
  unfold resolve
  cases hcal : c.callee with
  | builtin b =>
    rw [hcal] at hc
    exact sr_builtin hT b _ hc.1 _ _ ha
  | invoke r n => rw [hcal] at hc; cases hc.1
  | value f =>
    rw [hcal] at hc
    have hf := h f hc.1
    dsimp only
    generalize ev f = v at hf
    generalize ev' f = v' at hf
    cases hf with
    | func hfn e1 h1 e2 h2 =>
      refine sr_pbind ?_
      exact sr_invoke hT hC (.fn hfn ⟨e2, h2⟩) (by simp) (VsRel.append ⟨e1, h1⟩ ha)
    | nilFunc => exact sr_rt hT .nilDeref rfl
    | hole _ => exact .dead _ _ fun V => invoke_hole hC.hole _ V
    | _ => exact .halt _ _
theorem sr_nilCheck (hT : P₀.toTables = P.toTables) (hC : Callable P₀ P ok) (o : Oper) (x : Operand) (hop : o.op = .nilCheck x) {ev ev' : Operand → Value} (hx : VRel ok ρ (ev x) (ev' x)) : SemRel P₀ P ok str (fun σ x y => NRel ok σ x y) ρ (execOp ev o) (execOp ev' o) := by
  unfold execOp
  rw [hop]
  dsimp only
  generalize ev x = v at hx
  generalize ev' x = v' at hx
  cases hx with
  | hole h => exact .dead _ _ fun V => nilCheck_hole hC.hole V
  | ptr0 => exact sr_rt hT .nilDeref rfl
  | nilFunc => exact sr_rt hT .nilDeref rfl
  | nilIface => exact sr_rt hT .nilDeref rfl
  | bool b => exact sr_pure (.value (.bool b))
  | int k n => exact sr_pure (.value (.int k n))
  | string s => exact sr_pure (.value (.string s))
  | ptr r => exact sr_pure (.value (.ptr r))
  | slice0 l c => exact sr_pure (.value (.slice0 l c))
  | slice l c r => exact sr_pure (.value (.slice l c r))
  | iface t h => exact sr_pure (.value (.iface t h))
  | func hf e1 h1 e2 h2 =>
    cases hf with
    | func h => exact sr_pure (.value (.func (.func h) e1 h1 e2 h2))
    | yield h => exact sr_pure (.value (.func (.yield h) e1 h1 e2 h2))
  | agg e h => exact sr_pure (.value (.agg e h))
  | tuple e h => exact sr_pure (.value (.tuple e h))
theorem sr_convInt (hT : P₀.toTables = P.toTables) (a b : TypeId) (ha : intOk P a = true) (hb : intOk P b = true) {v v' : Value} (hx : VRel ok ρ v v') : SemRel P₀ P ok str (fun σ x y => VRel ok σ x y) ρ (convert a b v) (convert a b v') := by
  unfold convert
  refine sr_bind _ (sr_underlying hT a) ?_
  rintro σ d _ l ⟨rfl, hd⟩
  refine sr_bind _ (sr_underlying hT b) ?_
  rintro τ e _ l' ⟨rfl, he⟩
  unfold intOk at ha hb
  rw [hd] at ha
  rw [he] at hb
  cases d <;> first | cases ha | skip
  cases e <;> first | cases hb | skip
  cases hx with
  | int k n => exact sr_pure (.int _ _)
  | _ => exact .halt _ _
theorem sr_bytesLoop : ∀ {l l' : List Value} {ρ : Ren} (s : ByteArray), LsRel ok ρ l l' → SemRel P₀ P ok str (fun _ x y => x = y) ρ
    (forIn l s fun (c : Value) (s : ByteArray) => match c with | .int .u8 n => pure (ForInStep.yield (s.push (UInt8.ofNat n.toNat))) | _ => (stuck "bytesToString: byte expected" : Sem (ForInStep ByteArray)))
    (forIn l' s fun (c : Value) (s : ByteArray) => match c with | .int .u8 n => pure (ForInStep.yield (s.push (UInt8.ofNat n.toNat))) | _ => (stuck "bytesToString: byte expected" : Sem (ForInStep ByteArray))) := by
  intro l
  induction l with
  | nil => intro l' ρ s h; cases h; exact sr_pure rfl
  | cons a l ih =>
    intro l' ρ s h
    cases h with
    | cons ha h =>
      simp only [List.forIn_cons]
      cases ha with
      | int k n =>
        cases k with
        | u8 => exact ih _ h
        | _ => exact .halt _ _
      | _ => exact .halt _ _
theorem sr_bytesToString {v v' : Value} (hx : VRel ok ρ v v') : SemRel P₀ P ok str (fun σ x y => VRel ok σ x y) ρ (Conv.bytesToString v) (Conv.bytesToString v') := by
  unfold Conv.bytesToString
  cases hx with
  | slice0 l c => exact sr_pure (.string _)
  | slice l c r =>
    dsimp only
    refine sr_bind _ (sr_loadCells r _) ?_
    intro σ x y _ hxy
    rw [← Array.forIn_toList, ← Array.forIn_toList]
    refine sr_bind _ (sr_bytesLoop _ hxy.list) ?_
    rintro τ s _ _ rfl
    exact sr_pure (.string _)
  | _ => exact .halt _ _
theorem sr_convBytes (hT : P₀.toTables = P.toTables) (a b : TypeId) (ha : bytesOk P a = true) (hb : strOk P b = true) {v v' : Value} (hx : VRel ok ρ v v') : SemRel P₀ P ok str (fun σ x y => VRel ok σ x y) ρ (convert a b v) (convert a b v') := by
  unfold convert
  refine sr_bind _ (sr_underlying hT a) ?_
  rintro σ d _ l ⟨rfl, hd⟩
  refine sr_bind _ (sr_underlying hT b) ?_
  rintro τ e _ l' ⟨rfl, he⟩
  unfold bytesOk at ha
  unfold strOk at hb
  rw [hd] at ha
  rw [he] at hb
  cases d <;> first | cases ha; done | skip
  rename_i el
  cases e <;> first | cases hb; done | skip
  have hx := (hx.mono l).mono l'
  have tail : ∀ {x x' : Value}, VRel ok τ x x' → SemRel P₀ P ok str (fun σ x y => VRel ok σ x y) τ (do match ← underlying el with | .int .u8 => Conv.bytesToString x | .int .i32 => Conv.runesToString x | _ => stuck "Convert: a slice of what to string?")
      (do match ← underlying el with | .int .u8 => Conv.bytesToString x' | .int .i32 => Conv.runesToString x' | _ => stuck "Convert: a slice of what to string?") := by
    intro x x' h
    refine sr_bind _ (sr_underlying hT el) ?_
    rintro υ u _ l2 ⟨rfl, hu⟩
    dsimp only at ha
    rw [hu] at ha
    cases u <;> first | cases ha; done | skip
    rename_i k
    cases k <;> first | cases ha; done | skip
    exact sr_bytesToString (h.mono l2)
  cases hx with
  | hole h =>
    refine .dead _ _ fun V => ?_
    have hel : P₀.underlying el = some (.int .u8) := by
      rw [und_eq hT]
      dsimp only at ha
      split at ha <;> first | assumption | cases ha
    have hr : (underlying el).run P₀ V = .ok (.int .u8) V := by simp [underlying, hel]
    show Result.stops (Sem.run P₀ (do match ← underlying el with | .int .u8 => Conv.bytesToString hole | .int .i32 => Conv.runesToString hole | _ => stuck "Convert: a slice of what to string?") V) = true
    rw [Sem.run_bind, hr]; rfl
  | int k n => exact sr_pure (.string _)
  | string s => exact sr_pure (.string _)
  | bool b => exact tail (.bool b)
  | ptr0 => exact tail .ptr0
  | ptr r => exact tail (.ptr r)
  | slice0 l c => exact tail (.slice0 l c)
  | slice l c r => exact tail (.slice l c r)
  | nilFunc => exact tail .nilFunc
  | nilIface => exact tail .nilIface
  | iface t h => exact tail (.iface t h)
  | func hf e1 h1 e2 h2 => exact tail (.func hf e1 h1 e2 h2)
  | agg e h => exact tail (.agg e h)
  | tuple e h => exact tail (.tuple e h)
theorem sr_range (hT : P₀.toTables = P.toTables) (t : TypeId) (ht : strOk P t = true) {v v' : Value} (hx : VRel ok ρ v v') : SemRel P₀ P ok str (fun σ x y => VRel ok σ x y) ρ (Instr.range t v) (Instr.range t v') := by
  unfold Instr.range
  refine sr_bind _ (sr_underlying hT t) ?_
  rintro σ d _ l ⟨rfl, hd⟩
  unfold strOk at ht
  rw [hd] at ht
  cases d with
  | string =>
    cases hx with
    | string s =>
      refine sr_pbind ?_
      refine SemRel.new (.stringIter s 0) ?_
      intro τ b c _ e
      exact .pure (.ptr ⟨e, rfl, rfl⟩)
    | _ => exact .halt _ _
  | _ => cases ht
theorem sr_next {v v' : Value} (t : TypeId) (hx : VRel ok ρ v v') : SemRel P₀ P ok str (fun σ x y => VRel ok σ x y) ρ (Instr.next v true t) (Instr.next v' true t) := by
  unfold Instr.next
  cases hx with
  | @ptr a a' r =>
    obtain ⟨b, off, sp⟩ := a
    obtain ⟨b', off', sp'⟩ := a'
    have h1 := r.off
    simp only at h1
    subst h1
    cases off' with
    | zero =>
      refine SemRel.getObj r.blk fun o o' ho => ?_
      refine sr_pbind ?_
      cases ho with
      | stringIter s p =>
        dsimp only
        split
        · exact SemRel.setObj r.blk (.stringIter s _) (.pure (.tuple rfl (fun i x x' h h' => by
            match i with
            | 0 => simp at h h'; subst h h'; exact .bool _
            | 1 => simp at h h'; subst h h'; exact .int _ _
            | 2 => simp at h h'; subst h h'; exact .int _ _
            | i + 3 => simp at h)))
        · exact sr_pure (.tuple rfl (fun i x x' h h' => by
            match i with
            | 0 => simp at h h'; subst h h'; exact .bool _
            | i + 1 => simp at h))
      | _ => exact .halt _ _
    | succ n => exact .halt _ _
  | _ => exact .halt _ _
theorem sr_op (hT : P₀.toTables = P.toTables) (hG : P.globals.size = Gl.n) (hC : Callable P₀ P ok) (o : Oper) (ho : opOk P ok.fn o.op = true) {ev ev' : Operand → Value} (h : EvRel ok ρ ev ev') :
    SemRel P₀ P ok str (fun σ x y => NRel ok σ x y) ρ (execOp ev o) (execOp ev' o) := by
  unfold execOp
  cases hop : o.op with
  | move x => rw [hop] at ho; exact sr_pure (.value (h x ho))
  | assign x => rw [hop] at ho; exact sr_pure (.value (h x ho))
  | pick c a b =>
    rw [hop] at ho
    simp only [opOk, Bool.and_eq_true] at ho
    refine sr_bind _ (sr_asBool (h c ho.1.1)) ?_
    rintro σ b _ l rfl
    split
    · exact sr_pure (.value ((h _ ho.1.2).mono l))
    · exact sr_pure (.value ((h _ ho.2).mono l))
  | alloc t => rw [hop] at ho; exact sr_value (sr_alloc hT t ho)
  | box t x => rw [hop] at ho; exact sr_value (sr_box t (h x ho))
  | build t parts =>
    rw [hop] at ho
    simp only [opOk, Bool.and_eq_true] at ho
    have := parts_rel h ho.2
    exact sr_value (sr_build hT t ho.1 this.1 this.2)
  | buildSlice t n parts =>
    rw [hop] at ho
    simp only [opOk, Bool.and_eq_true] at ho
    have := parts_rel h ho.2
    exact sr_value (sr_buildSlice hT t n ho.1 this.1 this.2)
  | load t a =>
    rw [hop] at ho
    refine sr_value (sr_bind _ (sr_sure (h a ho)) ?_)
    intro σ x y l r
    exact sr_loadVar hT t r
  | store t a x =>
    rw [hop] at ho
    simp only [opOk, Bool.and_eq_true] at ho
    refine sr_skip (A := fun _ _ _ => True) (sr_bind _ (sr_sure (h a ho.1)) ?_)
    intro σ b b' l r
    exact sr_storeVar hT t r ((h x ho.2).mono l)
  | binOp op t x y u =>
    rw [hop] at ho
    simp only [opOk, Bool.and_eq_true] at ho
    by_cases hd : ev x = hole ∨ ev y = hole
    · exact sr_value (.dead _ _ fun V => sr_binDead hT op t ho.1.1 x y _ _ hd V)
    refine sr_value (sr_bind _ (sr_eqGuard hT op t ho.1.1 x y (h x ho.1.2) (h y ho.2) (fun e => hd (.inl e)) (fun e => hd (.inr e))) ?_)
    intro σ _ _ l _
    exact sr_binOp hT hG op t ho.1.1 ((h x ho.1.2).mono l) ((h y ho.2).mono l)
  | unOp op t x => rw [hop] at ho; exact sr_value (sr_unary op (h x ho))
  | makeFunc f a b =>
    rw [hop] at ho
    simp only [opOk, Bool.and_eq_true] at ho
    cases f with
    | func f =>
      have h1 := all_rel h ho.1.2
      have h2 := all_rel h ho.2
      exact sr_pure (.value (.func (.func ho.1.1) h1.size h1.at_ h2.size h2.at_))
    | _ => cases ho.1.1
  | makeSlice t l c =>
    rw [hop] at ho
    simp only [opOk, Bool.and_eq_true] at ho
    exact sr_value (sr_makeSlice hT t ho.1.1 (h l ho.1.2) (h c ho.2))
  | slice t x a b c =>
    rw [hop] at ho
    simp only [opOk, Bool.and_eq_true] at ho
    exact sr_value (sr_sliceAt hT t (h x ho.1.1.1) (opt_rel h ho.1.1.2) (opt_rel h ho.1.2) (opt_rel h ho.2))
  | fieldAddr s x f =>
    rw [hop] at ho
    simp only [opOk, Bool.and_eq_true] at ho
    exact sr_value (sr_fieldAt hT s f (fieldOk_at ho.1) (h x ho.2))
  | field t x f => rw [hop] at ho; exact sr_value (sr_field hT t (h x ho) f)
  | indexAddr t x i =>
    rw [hop] at ho
    simp only [opOk, Bool.and_eq_true] at ho
    exact sr_value (sr_indexAt hT t (h x ho.1) (h i ho.2))
  | index t x i =>
    rw [hop] at ho
    simp only [opOk, Bool.and_eq_true] at ho
    exact sr_value (sr_index hT t (h x ho.1) (h i ho.2))
  | extract x n => rw [hop] at ho; exact sr_value (sr_extract (h x ho) n)
  | call c => rw [hop] at ho; exact sr_call hT hC c _ ho h
  | convert a b x =>
    rw [hop] at ho
    simp only [opOk, Bool.and_eq_true] at ho
    simp only [Bool.or_eq_true, Bool.and_eq_true] at ho
    rcases ho.1 with hab | hab
    · exact sr_value (sr_convInt hT a b hab.1 hab.2 (h x ho.2))
    · exact sr_value (sr_convBytes hT a b hab.1 hab.2 (h x ho.2))
  | range t x =>
    rw [hop] at ho
    simp only [opOk, Bool.and_eq_true] at ho
    exact sr_value (sr_range hT t ho.1 (h x ho.2))
  | next it b =>
    rw [hop] at ho
    simp only [opOk, Bool.and_eq_true] at ho
    obtain ⟨rfl, ho⟩ := ho
    exact sr_value (sr_next o.type (h it ho))
  | nilCheck x =>
    rw [hop] at ho
    have := sr_nilCheck (P₀ := P₀) (P := P) (str := str) hT hC o x hop (h x ho)
    unfold execOp at this
    rw [hop] at this
    exact this
  | _ => rw [hop] at ho; cases ho
end
end Go.Proofs.YtlmcblcijndipabGreat

namespace Go.Proofs.YtlmcblcijndipabGreat
open Go Go.Conc
variable [Gl]
def codeOk (P : Program) (fn : FuncId → Bool) : Code → Bool
  | .skip | .label _ | .ret | .exit _ | .goto _ => true
  | .seq a b => codeOk P fn a && codeOk P fn b
  | .cond c a b => opnd fn c && codeOk P fn a && codeOk P fn b
  | .block _ b | .loop b | .scope b => codeOk P fn b
  | .region _ ops _ => ops.all (fun o => opOk P fn o.op)
  | .rangeFunc f _ a b => opnd fn f && codeOk P fn a && codeOk P fn b
  | _ => false
inductive ItRel (P : Program) (ok : Ctx) (ρ : Ren) : Item → Item → Prop
  | code {c : Code} : codeOk P ok.fn c = true → ItRel P ok ρ (.code c) (.code c)
  | inBlock (id : Nat) : ItRel P ok ρ (.inBlock id) (.inBlock id)
  | inLoop {c : Code} : codeOk P ok.fn c = true → ItRel P ok ρ (.inLoop c) (.inLoop c)
  | inScope {c : Code} : codeOk P ok.fn c = true → ItRel P ok ρ (.inScope c) (.inScope c)
  | inRegion {ops : Array Oper} (todo : List Nat) : ops.all (fun o => opOk P ok.fn o.op) = true → ItRel P ok ρ (.inRegion ops todo) (.inRegion ops todo)
  | inRangeFunc {l l' : Nat} : ρ l = some l' → ItRel P ok ρ (.inRangeFunc l) (.inRangeFunc l')
  | endRangeFunc {l l' : Nat} : ρ l = some l' → ItRel P ok ρ (.endRangeFunc l) (.endRangeFunc l')
  | beginRound : ItRel P ok ρ .beginRound .beginRound
inductive IsRel (P : Program) (ok : Ctx) (ρ : Ren) : List Item → List Item → Prop
  | nil : IsRel P ok ρ [] []
  | cons {x x' : Item} {l l' : List Item} : ItRel P ok ρ x x' → IsRel P ok ρ l l' → IsRel P ok ρ (x :: l) (x' :: l')
inductive MdRel : FrameMode → FrameMode → Prop
  | run : MdRel .run .run
  | returning : MdRel .returning .returning
  | panicking {c c' : List PanicEntry} : MdRel (.panicking c) (.panicking c')
inductive CdRel (ρ : Ren) : List Deferred → List Deferred → Prop
  | nil : CdRel ρ [] []
  | cons {r r' : Nat} {l l' : List Deferred} : ρ r = some r' → CdRel ρ l l' → CdRel ρ ({ target := .collected r, args := #[] } :: l) ({ target := .collected r', args := #[] } :: l')
inductive RoRel (ρ : Ren) : Option Nat → Option Nat → Prop
  | none : RoRel ρ none none
  | some {l l' : Nat} : ρ l = some l' → RoRel ρ (some l) (some l')
structure FrRel (P : Program) (ok : Ctx) (ρ : Ren) (fr fr' : Frame) : Prop where
  fn : fr'.fn = fr.fn
  inn : ok.inn fr.fn = true
  tmps : VsRel ok ρ fr.tmps fr'.tmps
  todo : IsRel P ok ρ fr.todo fr'.todo
  defers : CdRel ρ fr.defers fr'.defers
  mode : MdRel fr.mode fr'.mode
  kind : fr.kind = .normal
  kind' : fr'.kind = .normal
  round : RoRel ρ fr.roundOf fr'.roundOf
inductive FsRel (P : Program) (ok : Ctx) (ρ : Ren) : List Frame → List Frame → Prop
  | nil : FsRel P ok ρ [] []
  | cons {f f' : Frame} {l l' : List Frame} : FrRel P ok ρ f f' → FsRel P ok ρ l l' → FsRel P ok ρ (f :: l) (f' :: l')
section
variable {P : Program} {ok : Ctx} {ρ σ : Ren}
theorem ItRel.mono {x x' : Item} (h : ItRel P ok ρ x x') (l : ρ.le σ) : ItRel P ok σ x x' := by
  cases h with
  | code h => exact .code h
  | inBlock id => exact .inBlock id
  | inLoop h => exact .inLoop h
  | inScope h => exact .inScope h
  | inRegion t h => exact .inRegion t h
  | inRangeFunc h => exact .inRangeFunc (l _ _ h)
  | endRangeFunc h => exact .endRangeFunc (l _ _ h)
  | beginRound => exact .beginRound
theorem IsRel.mono {x x' : List Item} (h : IsRel P ok ρ x x') (l : ρ.le σ) : IsRel P ok σ x x' := by
  induction h with
  | nil => exact .nil
  | cons h _ ih => exact .cons (h.mono l) ih
theorem CdRel.mono {x x' : List Deferred} (h : CdRel ρ x x') (l : ρ.le σ) : CdRel σ x x' := by
  induction h with
  | nil => exact .nil
  | cons h _ ih => exact .cons (l _ _ h) ih
theorem RoRel.mono {x x' : Option Nat} (h : RoRel ρ x x') (l : ρ.le σ) : RoRel σ x x' := by
  cases h with
  | none => exact .none
  | some h => exact .some (l _ _ h)
theorem FrRel.mono {f f' : Frame} (h : FrRel P ok ρ f f') (l : ρ.le σ) : FrRel P ok σ f f' := ⟨h.fn, h.inn, h.tmps.mono l, h.todo.mono l, h.defers.mono l, h.mode, h.kind, h.kind', h.round.mono l⟩
theorem FsRel.mono {f f' : List Frame} (h : FsRel P ok ρ f f') (l : ρ.le σ) : FsRel P ok σ f f' := by
  induction h with
  | nil => exact .nil
  | cons h _ ih => exact .cons (h.mono l) ih
theorem IsRel.exit {id : Nat} : ∀ {l l' : List Item}, IsRel P ok ρ l l' → (exitTo id l = none ∧ exitTo id l' = none) ∨ ∃ k k', exitTo id l = some k ∧ exitTo id l' = some k' ∧ IsRel P ok ρ k k' := by
  intro l l' h
  induction h with
  | nil => exact .inl ⟨rfl, rfl⟩
  | @cons x x' l l' hx hl ih =>
    cases hx with
    | inBlock i =>
      simp only [exitTo]
      split
      · exact .inr ⟨_, _, rfl, rfl, hl⟩
      · exact ih
    | _ => exact ih
omit [Gl] in
theorem findLabel_ok {l : Nat} : ∀ {c r : Code}, codeOk P ok.fn c = true → findLabel c l = some r → codeOk P ok.fn r = true := by
  intro c
  induction c with
  | seq a b ia ib =>
    intro r h e
    simp only [codeOk, Bool.and_eq_true] at h
    simp only [findLabel] at e
    split at e
    · rename_i x hx
      cases e
      simp only [codeOk, Bool.and_eq_true]
      exact ⟨ia h.1 hx, h.2⟩
    · exact ib h.2 e
  | label k =>
    intro r h e
    simp only [findLabel] at e
    split at e
    · cases e; rfl
    · cases e
  | _ => intro r h e; simp [findLabel] at e
theorem IsRel.goto {id : Nat} : ∀ {l l' : List Item}, IsRel P ok ρ l l' → (gotoIn id l = none ∧ gotoIn id l' = none) ∨ ∃ k k', gotoIn id l = some k ∧ gotoIn id l' = some k' ∧ IsRel P ok ρ k k' := by
  intro l l' h
  induction h with
  | nil => exact .inl ⟨rfl, rfl⟩
  | @cons x x' l l' hx hl ih =>
    cases hx with
    | @inScope body hb =>
      simp only [gotoIn]
      split
      · rename_i r hr
        exact .inr ⟨_, _, rfl, rfl, .cons (.code (findLabel_ok hb hr)) (.cons (.inScope hb) hl)⟩
      · exact ih
    | _ => exact ih
end
def Bot (fr : Frame) (cs : List Frame) : Prop := ∀ f, (fr :: cs).getLast? = some f → f.roundOf = none
inductive GoRel (P₀ P : Program) (ok : Ctx) (σ : Ren) (lb rb : List Frame) : Goroutine → Goroutine → Prop
  | inside {fr fr' : Frame} {cs cs' : List Frame} : FrRel P ok σ fr fr' → FsRel P ok σ cs cs' → Bot fr cs → GoRel P₀ P ok σ lb rb (G fr (cs ++ lb)) (G fr' (cs' ++ rb))
  | door {f : FuncId} {xs xs' : Array Value} {cs cs' : List Frame} : ok.fn f = true → ok.inn f = false → VsRel ok σ xs xs' → FsRel P ok σ cs cs' → cs ≠ [] → (∀ f, cs.getLast? = some f → f.roundOf = none) →
      GoRel P₀ P ok σ lb rb (G (Frame.enter P₀ f xs .normal) (cs ++ lb)) (G (Frame.enter P f xs' .normal) (cs' ++ rb))
structure Same (P₀ P : Program) (ok : Ctx) : Prop where
  same : ∀ f, ok.inn f = true → ∃ fn c, P₀.funcs[f]? = some fn ∧ P.funcs[f]? = some fn ∧ fn.body = some c ∧ codeOk P ok.fn c = true
  code : ∀ c, ok.code c = codeOk P ok.fn c
omit [Gl] in
theorem seen_sub (p : Program) (fn : FuncId) (es : Array Event) : ∀ e ∈ seen p fn es, e ∈ es := by
  unfold seen
  simp only
  have key : ∀ (l : List Event) (q : Bool) (kept : Array Event) (S : Event → Prop), (∀ e ∈ l, S e) → (∀ e ∈ kept, S e) →
      ∀ e ∈ (l.foldl (fun (x : Bool × Array Event) (e : Event) => match e.loc with | .mark (.extern f) => ((p.funcs[f]?).any (·.norace), x.2) | _ => (x.1, if x.1 && !e.sync then x.2 else x.2.push e)) (q, kept)).2, S e := by
    intro l
    induction l with
    | nil => intro q kept S _ hk e he; exact hk e he
    | cons a l ih =>
      intro q kept S hl hk e he
      simp only [List.foldl_cons] at he
      split at he
      · exact ih _ _ S (fun x hx => hl x (by simp [hx])) hk e he
      · refine ih _ _ S (fun x hx => hl x (by simp [hx])) ?_ e he
        split
        · exact hk
        · intro x hx
          rcases Array.mem_push.1 hx with hx | rfl
          · exact hk x hx
          · exact hl _ (by simp)
  intro e he
  rw [← Array.foldl_toList] at he
  exact key es.toList _ #[] (fun e => e ∈ es) (fun x hx => by simpa using hx) (fun x hx => by simp at hx) e he
section
variable {P₀ P : Program} {ok : Ctx} {str : Bool} {ρ σ : Ren}
theorem FrRel.finish {fr fr' : Frame} (h : FrRel P ok ρ fr fr') {v v' : Value} (hv : VRel ok ρ v v') : FrRel P ok ρ (fr.finish v) (fr'.finish v') := by
  have ht := h.todo
  obtain ⟨fn, tmps, todo, defers, mode, kind, roundOf⟩ := fr
  obtain ⟨fn', tmps', todo', defers', mode', kind', roundOf'⟩ := fr'
  simp only at ht
  cases ht with
  | nil => exact h
  | cons hx hl =>
    cases hx with
    | inRegion t ho =>
      cases t with
      | nil => exact h
      | cons i rest =>
        refine ⟨h.fn, h.inn, ?_, .cons (.inRegion _ ho) hl, h.defers, h.mode, h.kind, h.kind', h.round⟩
        unfold Frame.finish
        simp only
        split
        · exact h.tmps.set hv _
        · exact h.tmps
    | inRangeFunc hr => exact ⟨h.fn, h.inn, h.tmps, .cons (.endRangeFunc hr) hl, h.defers, h.mode, h.kind, h.kind', h.round⟩
    | beginRound => exact ⟨h.fn, h.inn, h.tmps, hl, h.defers, h.mode, h.kind, h.kind', h.round⟩
    | _ => exact h
omit [Gl] in
theorem finish_round (fr : Frame) (v : Value) : (fr.finish v).roundOf = fr.roundOf := by
  unfold Frame.finish
  split <;> rfl
omit [Gl] in
theorem raise_round (fr : Frame) (c : List PanicEntry) : (fr.raise c).roundOf = fr.roundOf := by
  unfold Frame.raise
  split <;> rfl
omit [Gl] in
theorem Bot.swap {fr fr2 : Frame} {cs : List Frame} (h : Bot fr cs) (e : fr2.roundOf = fr.roundOf) : Bot fr2 cs := by
  intro f hf
  cases cs with
  | nil =>
    simp only [List.getLast?_singleton, Option.some.injEq] at hf
    subst hf
    rw [e]
    exact h fr rfl
  | cons c cs => exact h f (by simpa using hf)
omit [Gl] in
theorem Bot.push {fr fr2 : Frame} {cs : List Frame} (h : Bot fr cs) : Bot fr2 (fr :: cs) := by
  intro f hf
  exact h f (by simpa using hf)
omit [Gl] in
theorem Bot.pop {fr c fr2 : Frame} {cs : List Frame} (h : Bot fr (c :: cs)) (e : fr2.roundOf = c.roundOf) : Bot fr2 cs := by
  have : Bot c cs := fun f hf => h f (by simpa using hf)
  exact this.swap e
theorem enter_rel (hS : Same P₀ P ok) {f : FuncId} (hf : ok.inn f = true) {xs xs' : Array Value} (h : VsRel ok ρ xs xs') : FrRel P ok ρ (Frame.enter P₀ f xs .normal) (Frame.enter P f xs' .normal) := by
  obtain ⟨fn, c, h1, h2, h3, h4⟩ := hS.same f hf
  unfold Frame.enter
  rw [h1, h2]
  simp only [Option.map_some, Option.getD_some, Option.bind_some, h3]
  refine ⟨rfl, hf, ?_, .cons (.code h4) .nil, .nil, .run, rfl, rfl, .none⟩
  rw [← h.size]
  exact h.append (VsRel.replicate vrel_undef _)
omit [Gl] in
theorem MdRel.run_of {m m' : FrameMode} (h : MdRel m m') (e : m = .run) : m' = .run := by subst e; cases h; rfl
theorem FrRel.raise {fr fr' : Frame} (h : FrRel P ok ρ fr fr') (c c' : List PanicEntry) : FrRel P ok ρ (fr.raise c) (fr'.raise c') := by
  have hm := h.mode
  unfold Frame.raise
  obtain ⟨fn, tmps, todo, defers, mode, kind, roundOf⟩ := fr
  obtain ⟨fn', tmps', todo', defers', mode', kind', roundOf'⟩ := fr'
  simp only at hm
  cases hm with
  | run => exact ⟨h.fn, h.inn, h.tmps, h.todo, h.defers, .panicking, h.kind, h.kind', h.round⟩
  | returning => exact ⟨h.fn, h.inn, h.tmps, h.todo, h.defers, .panicking, h.kind, h.kind', h.round⟩
  | panicking => exact ⟨h.fn, h.inn, h.tmps, h.todo, h.defers, .panicking, h.kind, h.kind', h.round⟩
theorem IsRel.noCall {l l' : List Item} (h : IsRel P ok ρ l l') : (∀ d b r s k, l ≠ .call d b r s :: k) ∧ ∀ d b r s k, l' ≠ .call d b r s :: k := by
  cases h with
  | nil => exact ⟨(by simp), (by simp)⟩
  | cons h _ => cases h <;> exact ⟨(by simp), (by simp)⟩
omit [Gl] in
theorem apply_enter {p : Program} {fr : Frame} {cs : List Frame} {s : Sem Next} {w w' : World} {f : FuncId} {xs : Array Value} {es : Array Event} (hr : s.runT p w #[] = (.ok (.enter f xs) w', es)) (hn : ∀ d b r s k, fr.todo ≠ .call d b r s :: k) (hk : fr.kind = .normal) :
    stepG.apply p true fr cs none s w = .go (G (Frame.enter p f xs .normal) (fr :: cs)) w' (seen p fr.fn es) := by
  have hke : (CallKind.normal == CallKind.early) = false := rfl
  obtain ⟨fn, tmps, todo, defers, mode, kind, roundOf⟩ := fr
  simp only at hk hn
  subst hk
  cases todo with
  | nil => simp only [stepG.apply, if_true, hr, GStep.after, hke]; simp [G]
  | cons x l =>
    cases x with
    | call d b r s => exact absurd rfl (hn d b r s l)
    | _ => simp only [stepG.apply, if_true, hr, GStep.after, hke]; simp [G]
theorem apply_sim (hS : Same P₀ P ok) {lb rb : List Frame} {s s' : Sem Next} (hR : SemRel P₀ P ok str (fun σ x y => NRel ok σ x y) ρ s s') {fr fr' : Frame} {cs cs' : List Frame} (hf : FrRel P ok ρ fr fr') (hc : FsRel P ok ρ cs cs') (hb : Bot fr cs)
    {V W : World} (hw : WRel ok str ρ V W) {g2 : Goroutine} {V2 : World} {es : Array Event}
    (h : stepG.apply P₀ true fr (cs ++ lb) none s V = .go g2 V2 es) :
    ∃ σ h2 W2 es2, stepG.apply P true fr' (cs' ++ rb) none s' W = .go h2 W2 es2 ∧ GoRel P₀ P ok σ lb rb g2 h2 ∧ WRel ok str σ V2 W2 ∧ Kept ρ V W σ V2 W2 ∧ ∀ e ∈ es2, EvOk σ V e := by
  have hke : (CallKind.normal == CallKind.early) = false := rfl
  have hno := hf.todo.noCall
  generalize hr : s.runT P₀ V #[] = x at h
  obtain ⟨r, e1⟩ := x
  rcases hR.sound #[] #[] hw hr with hst | ⟨σ, r', V', W', d', h1, h2, h4, h5⟩
  · exfalso
    cases r with
    | ok a w => cases hst
    | halt hh w =>
      cases hh with
      | stuck y => simp only [stepG.apply, if_true, hr, GStep.after] at h; cases h
      | unsupported u =>
        cases u with
        | initOrder g => cases hst
        | _ => simp only [stepG.apply, if_true, hr, GStep.after] at h; cases h
      | _ => cases hst
  · have hev : ∀ e ∈ seen P fr'.fn d', EvOk σ V e := fun e he => h5 e (seen_sub _ _ _ e he)
    have h1' : s'.runT P W #[] = (r', d') := by rw [h1]; simp
    have hf' := hf.mono h4.le
    have hc' := hc.mono h4.le
    cases h2 with
    | @ok a b V' W' hN hw' =>
      cases hN with
      | @value v v' hv =>
        simp only [stepG.apply, if_true, hr, GStep.after, GStep.go.injEq, hf.kind, hke] at h
        obtain ⟨rfl, rfl, _⟩ := h
        refine ⟨σ, G (fr'.finish v') (cs' ++ rb), W', _, ?_, .inside (hf'.finish hv) hc' (hb.swap (finish_round _ _)), hw', h4, hev⟩
        simp only [stepG.apply, if_true, h1', GStep.after, hf.kind', hke]
        simp [G]
      | skip =>
        simp only [stepG.apply, if_true, hr, GStep.after, GStep.go.injEq, hf.kind, hke] at h
        obtain ⟨rfl, rfl, _⟩ := h
        refine ⟨σ, G (fr'.finish undef) (cs' ++ rb), W', _, ?_, .inside (hf'.finish vrel_undef) hc' (hb.swap (finish_round _ _)), hw', h4, hev⟩
        simp only [stepG.apply, if_true, h1', GStep.after, hf.kind', hke]
        simp [G]
      | @enter f xs xs' hok hx =>
        rw [apply_enter hr hno.1 hf.kind] at h
        simp only [GStep.go.injEq] at h
        obtain ⟨rfl, rfl, _⟩ := h
        refine ⟨σ, G (Frame.enter P f xs' .normal) ((fr' :: cs') ++ rb), W', _, apply_enter h1' hno.2 hf.kind', ?_, hw', h4, hev⟩
        cases hi : ok.inn f with
        | true => exact .inside (cs := fr :: cs) (enter_rel hS hi hx) (.cons hf' hc') hb.push
        | false => exact .door (cs := fr :: cs) hok hi hx (.cons hf' hc') (by simp) hb
      | @round l l' f xs xs' a b hl hi hx ha hb' =>
        simp only [stepG.apply, if_true, hr, GStep.after, GStep.go.injEq, hf.kind, hke] at h
        obtain ⟨rfl, rfl, _⟩ := h
        refine ⟨σ, G (Frame.round l' f xs' a b .normal) ((fr' :: cs') ++ rb), W', _, ?_, ?_, hw', h4, hev⟩
        · simp only [stepG.apply, if_true, h1', GStep.after, hf.kind', hke]
          simp [G]
        · exact .inside (cs := fr :: cs) ⟨rfl, hi, hx, .cons (.code ((hS.code _).symm.trans ha)) (.cons .beginRound (.cons (.code ((hS.code _).symm.trans hb')) .nil)), .nil, .run, rfl, rfl, .some hl⟩ (.cons hf' hc') hb.push
    | @panic v v' V' W' hv hw' =>
      simp only [stepG.apply, if_true, hr, GStep.after, GStep.go.injEq, hf.kind, hke] at h
      obtain ⟨rfl, rfl, _⟩ := h
      refine ⟨σ, G (fr'.raise [{ v := v', recovered := false }]) (cs' ++ rb), W', _, ?_, .inside (hf'.raise _ _) hc' (hb.swap (raise_round _ _)), hw', h4, hev⟩
      simp only [stepG.apply, if_true, h1', GStep.after, hf.kind', hke]
      simp [G]
end
end Go.Proofs.YtlmcblcijndipabGreat

namespace Go.Proofs.YtlmcblcijndipabGreat
open Go Go.Conc
variable [Gl]
section
variable {P₀ P : Program} {ok : Ctx} {str : Bool} {ρ σ τ : Ren} {V W V1 W1 V2 W2 : World}
theorem EvOk.shift (k1 : Kept ρ V W σ V1 W1) (k2 : Kept σ V1 W1 τ V2 W2) {e : Event} (h : EvOk τ V1 e) : EvOk τ V e := by
  have key : ∀ b d, τ b = some d → Ro V b → Ro V1 b := by
    intro b d hb hro
    obtain ⟨c, el, hc⟩ := hro
    have hlt : b < V.heap.size := (Array.getElem?_eq_some_iff.1 hc).1
    rcases k2.new _ _ hb with h1 | ⟨h1, _⟩
    · rcases k1.new _ _ h1 with h2 | ⟨h2, _⟩
      · exact ⟨c, el, by rw [(k1.ro _ _ h2 ⟨c, el, hc⟩).1]; exact hc⟩
      · omega
    · have := k1.sizeV; omega
  rcases h with ⟨s, a, a', e1, r, w⟩ | ⟨s, r, r', e1, h, n⟩ | h
  · exact .inl ⟨s, a, a', e1, r, fun hw hro => w hw (key _ _ r.blk hro)⟩
  · exact .inr (.inl ⟨s, r, r', e1, h, fun hro => n (key _ _ h hro)⟩)
  · exact .inr (.inr h)
theorem sr_mapMV {α : Type} {f f' : α → Sem Value} {l : List α} : ∀ {ρ : Ren}, (∀ a ∈ l, ∀ {σ : Ren}, ρ.le σ → SemRel P₀ P ok str (fun σ x y => VRel ok σ x y) σ (f a) (f' a)) → SemRel P₀ P ok str (fun σ x y => LsRel ok σ x y) ρ (l.mapM f) (l.mapM f') := by
  induction l with
  | nil => intro ρ _; simp only [List.mapM_nil]; exact sr_pure .nil
  | cons a l ih =>
    intro ρ h
    simp only [List.mapM_cons]
    refine sr_bind _ (h a (by simp) (Ren.le_refl _)) ?_
    intro σ x x' le hx
    refine sr_bind _ (ih fun b hb _ le' => h b (by simp [hb]) (le.trans le')) ?_
    intro τ xs xs' le' hxs
    exact sr_pure (.cons (hx.mono le') hxs)
theorem sr_results (hT : P₀.toTables = P.toTables) (fn : Func) {xs xs' : Array Value} (h : VsRel ok ρ xs xs') : SemRel P₀ P ok str (fun σ x y => VRel ok σ x y) ρ (results fn xs) (results fn xs') := by
  unfold results
  rw [Array.mapM_eq_mapM_toList, Array.mapM_eq_mapM_toList]
  refine sr_bind (fun σ x y => VsRel ok σ x y) ?_ ?_
  · refine sr_bind _ (sr_mapMV ?_) ?_
    · intro a _ σ le
      cases a with
      | tmp t => exact sr_pure ((h.mono le).getD t)
      | cell a t =>
        refine sr_bind _ (sr_asAddr hT ((h.mono le).getD a)) ?_
        intro τ x y _ r
        exact sr_loadVar hT t r
    · intro σ x y _ hx
      exact sr_pure hx.array
  · intro σ x y _ hx
    by_cases e : x.size = 1
    · have e' : y.size = 1 := hx.size ▸ e
      rw [dif_pos e, dif_pos e']
      exact sr_pure (hx.at_ 0 _ _ (Array.getElem?_eq_getElem _) (Array.getElem?_eq_getElem _))
    · have e' : ¬ y.size = 1 := hx.size ▸ e
      rw [dif_neg e, dif_neg e']
      exact sr_pure (.tuple hx.size hx.at_)
theorem sr_endRound {l l' : Nat} (hl : ρ l = some l') (jump : Option Code) (hj : ∀ c, jump = some c → ok.code c = true) : SemRel P₀ P ok str (fun σ x y => VRel ok σ x y) ρ (Instr.endRound l jump) (Instr.endRound l' jump) := by
  refine sr_bind _ (sr_getLoop hl) ?_
  intro σ r r' le hr
  refine SemRel.setObj (le _ _ hl) (.loop ⟨rfl, rfl, hr.fn, hr.tmps, hr.params, hr.assign, hr.body, hr.defers, hr.inn, hr.ok1, hr.ok2, hj⟩) ?_
  exact .pure (.bool _)
theorem sr_beginRound (hT : P₀.toTables = P.toTables) {l l' : Nat} (hl : ρ l = some l') : SemRel P₀ P ok str (fun _ _ _ => True) ρ (Instr.beginRound l) (Instr.beginRound l') := by
  refine sr_bind _ (sr_getLoop hl) ?_
  intro σ r r' le hr
  refine SemRel.setObj (le _ _ hl) (.loop ⟨rfl, hr.pending, hr.fn, hr.tmps, hr.params, hr.assign, hr.body, hr.defers, hr.inn, hr.ok1, hr.ok2, hr.ok3⟩) ?_
  show SemRel P₀ P ok str _ σ (match r.state with | .ready => pure () | .done => runtimePanic (.error _) | .busy => runtimePanic (.error _) | .exhausted => runtimePanic (.error _)) (match r'.state with | .ready => pure () | .done => runtimePanic (.error _) | .busy => runtimePanic (.error _) | .exhausted => runtimePanic (.error _))
  rw [hr.state]
  cases r.state with
  | ready => exact sr_pure trivial
  | _ => exact sr_rt hT (.error _) rfl
theorem sr_endLoop (hT : P₀.toTables = P.toTables) {l l' : Nat} (hl : ρ l = some l') : SemRel P₀ P ok str (fun _ x y => x = y ∧ ∀ c, x = some c → ok.code c = true) ρ (Instr.endLoop l) (Instr.endLoop l') := by
  refine sr_bind _ (sr_getLoop hl) ?_
  intro σ r r' le hr
  rw [hr.state]
  split
  · exact sr_rt hT (.error _) rfl
  · refine SemRel.setObj (le _ _ hl) (.loop ⟨rfl, hr.pending, hr.fn, hr.tmps, hr.params, hr.assign, hr.body, hr.defers, hr.inn, hr.ok1, hr.ok2, hr.ok3⟩) ?_
    exact .pure ⟨hr.pending.symm, hr.ok3⟩
theorem sr_take {r r' : Nat} (hr : ρ r = some r') : SemRel P₀ P ok str (fun _ x y => x = [] ∧ y = []) ρ (Instr.takeDeferred r) (Instr.takeDeferred r') := by
  refine SemRel.getObj hr fun o o' ho => ?_
  cases ho with
  | deferred => exact SemRel.setObj hr .taken (.pure ⟨rfl, rfl⟩)
  | _ => exact .halt _ _
theorem sr_enterLoop (fn : FuncId) (hi : ok.inn fn = true) {xs xs' : Array Value} (h : VsRel ok ρ xs xs') (params : Array Tmp) {a b : Code} (ha : ok.code a = true) (hb : ok.code b = true) {r r' : Option Nat} (hr : RoRel ρ r r') :
    SemRel P₀ P ok str (fun σ x y => σ x.1 = some y.1 ∧ CdRel σ x.2 y.2) ρ (Instr.enterLoop fn xs params a b r) (Instr.enterLoop fn xs' params a b r') := by
  unfold Instr.enterLoop
  have fin : ∀ {σ : Ren} {d d' : Nat} {m m' : List Deferred}, ρ.le σ → σ d = some d' → CdRel σ m m' →
      SemRel P₀ P ok str (fun σ x y => σ x.1 = some y.1 ∧ CdRel σ x.2 y.2) σ (do pure (← newObj (.loop { state := .ready, pending := none, fn, tmps := xs, params, assign := a, body := b, defers := d }), m))
        (do pure (← newObj (.loop { state := .ready, pending := none, fn, tmps := xs', params, assign := a, body := b, defers := d' }), m')) := by
    intro σ d d' m m' le hd hm
    refine SemRel.new (.loop ⟨rfl, rfl, rfl, h.mono le, rfl, rfl, rfl, hd, hi, ha, hb, by simp⟩) ?_
    intro τ x y le' e
    exact .pure ⟨e, hm.mono le'⟩
  cases hr with
  | none =>
    refine SemRel.new .deferred ?_
    intro σ x y le e
    exact fin le e (.cons e .nil)
  | some hl =>
    refine sr_bind _ (sr_getLoop hl) ?_
    intro σ q q' le hq
    exact fin le hq.defers .nil
theorem FrRel.eval {fr fr' : Frame} (h : FrRel P ok ρ fr fr') : EvRel ok ρ fr.eval fr'.eval := by
  intro x hx
  cases x with
  | tmp t => exact h.tmps.getD t
  | const v => exact vrel_plain hx
  | global g => cases hx
  | func f => exact .func (.func hx) rfl VsRel.nil.at_ rfl VsRel.nil.at_
theorem yielded_eq {xs xs' : Array Value} (h : VsRel ok ρ xs xs') (ops : Array Oper) : yielded ops xs' = yielded ops xs := by
  funext j
  unfold yielded
  cases ((ops[j]?).bind (·.dst)) with
  | none => rfl
  | some d =>
    simp only [Option.bind_some]
    cases hx : xs[d]? with
    | none => rw [h.none hx]
    | some x =>
      obtain ⟨x', hx', r⟩ := h.get hx
      rw [hx']
      cases r with
      | hole h => cases x' <;> first | rfl | cases h
      | _ => rfl
structure Pair (P₀ P : Program) (ok : Ctx) : Prop extends Callable P₀ P ok, Same P₀ P ok where
  tab : P₀.toTables = P.toTables
  glob : P.globals.size = Gl.n
def Stepped2 (P₀ P : Program) (ok : Ctx) (str : Bool) (ρ : Ren) (lb rb : List Frame) (V W : World) (g2 : Goroutine) (V2 : World) (s : GStep) : Prop :=
  ∃ σ h2 W2 es2, s = .go h2 W2 es2 ∧ GoRel P₀ P ok σ lb rb g2 h2 ∧ WRel ok str σ V2 W2 ∧ Kept ρ V W σ V2 W2 ∧ ∀ e ∈ es2, EvOk σ V e
omit [Gl] in
theorem ended_after {es es' : Array Event} {o : Outcome} {w w' : World} {g : Goroutine} (h : GStep.after es (.ended o w) = .go g w' es') : False := by
  simp [GStep.after] at h
theorem leave_sim {lb rb : List Frame} {m₀ m₁ : Bool} {fr fr' : Frame} {cs cs' : List Frame} (hf : FrRel P ok ρ fr fr') (hc : FsRel P ok ρ cs cs') (hb : Bot fr cs) (hw : WRel ok str ρ V W)
    (jump : Option Code) (hj : ∀ c, jump = some c → ok.code c = true) {l l' : Nat} (hr : fr.roundOf = some l) (hl : ρ l = some l') {g2 : Goroutine} {es : Array Event}
    (h : (let (r, es) := (Instr.endRound l jump).runT P₀ V #[]; GStep.after (seen P₀ fr.fn es) <| match r with | .ok v w => doReturn P₀ m₀ fr (cs ++ lb) none v w | .halt _ w => .ended (.stuck "range over a function: no such loop" (fr.pos P₀)) w) = .go g2 V2 es) :
    Stepped2 P₀ P ok str ρ lb rb V W g2 V2 (let (r, es) := (Instr.endRound l' jump).runT P W #[]; GStep.after (seen P fr'.fn es) <| match r with | .ok v w => doReturn P m₁ fr' (cs' ++ rb) none v w | .halt _ w => .ended (.stuck "range over a function: no such loop" (fr'.pos P)) w) := by
  generalize hrun : (Instr.endRound l jump).runT P₀ V #[] = x at h
  obtain ⟨r, e1⟩ := x
  rcases (sr_endRound (P₀ := P₀) (P := P) (str := str) hl jump hj).sound #[] #[] hw hrun with hst | ⟨σ, r', V', W', d', h1, h2, h4, h5⟩
  · exfalso
    cases r with
    | ok a w => cases hst
    | halt hh w => exact ended_after h
  · have h1' : (Instr.endRound l' jump).runT P W #[] = (r', d') := by rw [h1]; simp
    cases h2 with
    | panic _ _ => exact (ended_after h).elim
    | @ok v v' V' W' hv hw' =>
      cases hc with
      | nil =>
        have := hb fr rfl
        rw [hr] at this; cases this
      | @cons c c' cs cs' hcc hcs =>
        simp only [List.cons_append, doReturn, hf.kind, GStep.after, GStep.go.injEq] at h
        obtain ⟨rfl, rfl, _⟩ := h
        refine ⟨σ, G (c'.finish v') (cs' ++ rb), W', seen P fr'.fn d', ?_, .inside ((hcc.mono h4.le).finish hv) (hcs.mono h4.le) (hb.pop (finish_round _ _)), hw', h4, fun e he => h5 e (seen_sub _ _ _ e he)⟩
        rw [h1']
        simp [List.cons_append, doReturn, hf.kind', GStep.after, G]
end
end Go.Proofs.YtlmcblcijndipabGreat

namespace Go.Proofs.YtlmcblcijndipabGreat
open Go Go.Conc
variable [Gl]
section
variable {P₀ P : Program} {ok : Ctx} {str : Bool} {ρ σ τ : Ren} {V W V1 W1 V2 W2 : World}
omit [Gl] in
theorem stepG_run {p : Program} {m : Bool} {fr : Frame} {cs : List Frame} {w : World} (h : fr.mode = .run) : stepG p m (G fr cs) w = stepG.exec p m true fr cs none w := by
  simp only [G, stepG, h]
omit [Gl] in
theorem stepG_unw {p : Program} {m : Bool} {fr : Frame} {cs : List Frame} {w : World} (h : fr.mode ≠ .run) : stepG p m (G fr cs) w = unwind p m fr cs none w := by
  cases hm : fr.mode with
  | run => exact absurd hm h
  | _ => simp only [G, stepG, hm]
theorem CdRel.append {a a' b b' : List Deferred} (h : CdRel ρ a a') (h' : CdRel ρ b b') : CdRel ρ (a ++ b) (a' ++ b') := by
  induction h with
  | nil => exact h'
  | cons h _ ih => exact .cons h ih
theorem pure_sim {lb rb : List Frame} {fr fr2 fr2' : Frame} {cs cs' : List Frame} (hf : FrRel P ok ρ fr2 fr2') (hc : FsRel P ok ρ cs cs') (hb : Bot fr cs) (e : fr2.roundOf = fr.roundOf) (hw : WRel ok str ρ V W)
    {s s' : GStep} {g2 : Goroutine} {es : Array Event} (h : s = .go g2 V2 es) (hs : s = .go (G fr2 (cs ++ lb)) V) (hs' : s' = .go (G fr2' (cs' ++ rb)) W) : Stepped2 P₀ P ok str ρ lb rb V W g2 V2 s' := by
  rw [hs] at h
  simp only [GStep.go.injEq] at h
  obtain ⟨rfl, rfl, _⟩ := h
  exact ⟨ρ, _, W, #[], hs', .inside hf hc (hb.swap e), hw, Kept.refl _ _ _, by simp⟩
theorem Stepped2.of_kept {lb rb : List Frame} (k : Kept ρ V W σ V1 W1) {g2 : Goroutine} {s : GStep} (h : Stepped2 P₀ P ok str σ lb rb V1 W1 g2 V2 s) {es : Array Event} (he : ∀ e ∈ es, EvOk σ V e) : Stepped2 P₀ P ok str ρ lb rb V W g2 V2 (GStep.after es s) := by
  obtain ⟨τ, h2, W2, es2, rfl, hg, hw, hk, hev⟩ := h
  refine ⟨τ, h2, W2, es ++ es2, rfl, hg, hw, k.trans hk, fun e hx => ?_⟩
  rcases Array.mem_append.1 hx with hx | hx
  · exact (he e hx).mono hk.le
  · exact (hev e hx).shift k hk
omit [Gl] in
theorem after_go {es es' : Array Event} {s : GStep} {g : Goroutine} {w : World} (h : GStep.after es s = .go g w es') : ∃ es2, s = .go g w es2 := by
  cases s <;> simp only [GStep.after, GStep.go.injEq, reduceCtorEq] at h
  obtain ⟨rfl, rfl, _⟩ := h
  exact ⟨_, rfl⟩
set_option maxHeartbeats 1000000 in
theorem exec_sim (hP : Pair P₀ P ok) {lb rb : List Frame} {m₀ m₁ : Bool} {fr fr' : Frame} {cs cs' : List Frame} (hf : FrRel P ok ρ fr fr') (hc : FsRel P ok ρ cs cs') (hb : Bot fr cs) (hw : WRel ok str ρ V W) (hm : fr.mode = .run) {g2 : Goroutine} {es : Array Event}
    (h : stepG.exec P₀ m₀ true fr (cs ++ lb) none V = .go g2 V2 es) : Stepped2 P₀ P ok str ρ lb rb V W g2 V2 (stepG.exec P m₁ true fr' (cs' ++ rb) none W) := by
  have hev := hf.eval
  obtain ⟨fn, tmps, todo, defers, mode, kind, roundOf⟩ := fr
  obtain ⟨fn', tmps', todo', defers', mode', kind', roundOf'⟩ := fr'
  have ht := hf.todo
  have hro := hf.round
  have hfn := hf.fn
  have hk := hf.kind
  have hk' := hf.kind'
  have hm' := hf.mode
  have hi := hf.inn
  simp only at ht hro hfn hk hk' hm hm' hi
  subst hm hk hk' hfn
  cases hm'
  have to_ : ∀ {k2 k2' : List Item}, IsRel P ok ρ k2 k2' → FrRel P ok ρ ⟨fn', tmps, k2, defers, .run, .normal, roundOf⟩ ⟨fn', tmps', k2', defers', .run, .normal, roundOf'⟩ := fun hk => ⟨rfl, hi, hf.tmps, hk, hf.defers, .run, rfl, rfl, hro⟩
  have ret_ : FrRel P ok ρ ⟨fn', tmps, todo, defers, .returning, .normal, roundOf⟩ ⟨fn', tmps', todo', defers', .returning, .normal, roundOf'⟩ := ⟨rfl, hi, hf.tmps, ht, hf.defers, .returning, rfl, rfl, hro⟩
  cases ht with
  | nil =>
    cases hro with
    | none => exact pure_sim ret_ hc hb rfl hw h rfl rfl
    | some hl => exact leave_sim hf hc hb hw none (by simp) rfl hl h
  | @cons x x' k k' hx hk2 =>
    cases hx with
    | inBlock id => exact pure_sim (to_ hk2) hc hb rfl hw h rfl rfl
    | inScope hcode => exact pure_sim (to_ hk2) hc hb rfl hw h rfl rfl
    | @inLoop body hcode => exact pure_sim (to_ (.cons (.code hcode) (.cons (.inLoop hcode) hk2))) hc hb rfl hw h rfl rfl
    | inRangeFunc hl => cases h
    | @endRangeFunc l l' hl =>
      have h' : (let (r, es) := (Instr.endLoop l).runT P₀ V #[]; GStep.after (seen P₀ fn' es) <| match r with
        | .ok jump w => .go (G ⟨fn', tmps, (jump.map Item.code).toList ++ k, defers, .run, .normal, roundOf⟩ (cs ++ lb)) w
        | .halt (.panic v) w => .go (G (Frame.raise ⟨fn', tmps, .endRangeFunc l :: k, defers, .run, .normal, roundOf⟩ [{ v, recovered := false }]) (cs ++ lb)) w
        | .halt _ w => .ended (.stuck "range over a function: no such loop" (Frame.pos P₀ ⟨fn', tmps, .endRangeFunc l :: k, defers, .run, .normal, roundOf⟩)) w) = .go g2 V2 es := h
      show Stepped2 P₀ P ok str ρ lb rb V W g2 V2 (let (r, es) := (Instr.endLoop l').runT P W #[]; GStep.after (seen P fn' es) <| match r with
        | .ok jump w => .go (G ⟨fn', tmps', (jump.map Item.code).toList ++ k', defers', .run, .normal, roundOf'⟩ (cs' ++ rb)) w
        | .halt (.panic v) w => .go (G (Frame.raise ⟨fn', tmps', .endRangeFunc l' :: k', defers', .run, .normal, roundOf'⟩ [{ v, recovered := false }]) (cs' ++ rb)) w
        | .halt _ w => .ended (.stuck "range over a function: no such loop" (Frame.pos P ⟨fn', tmps', .endRangeFunc l' :: k', defers', .run, .normal, roundOf'⟩)) w)
      clear h
      generalize hrun : (Instr.endLoop l).runT P₀ V #[] = x at h'
      obtain ⟨r, e1⟩ := x
      rcases (sr_endLoop (P₀ := P₀) (P := P) (str := str) hP.tab hl).sound #[] #[] hw hrun with hst | ⟨σ, r', V', W', d', h1, h2, h4, h5⟩
      · exfalso
        cases r with
        | ok a w => cases hst
        | halt hh w => cases hh <;> first | cases hst; done | exact ended_after h'
      · have h1' : (Instr.endLoop l').runT P W #[] = (r', d') := by rw [h1]; simp
        rw [h1']
        obtain ⟨es3, h3⟩ := after_go h'
        refine Stepped2.of_kept h4 ?_ (fun e he => h5 e (seen_sub _ _ _ e he))
        cases h2 with
        | @ok j j' V' W' hv hw' =>
          obtain ⟨rfl, hj⟩ := hv
          refine pure_sim (fr := ⟨fn', tmps, .endRangeFunc l :: k, defers, .run, .normal, roundOf⟩) (fr2 := ⟨fn', tmps, (j.map Item.code).toList ++ k, defers, .run, .normal, roundOf⟩) (fr2' := ⟨fn', tmps', (j.map Item.code).toList ++ k', defers', .run, .normal, roundOf'⟩)
            ⟨rfl, hi, hf.tmps.mono h4.le, ?_, hf.defers.mono h4.le, .run, rfl, rfl, hro.mono h4.le⟩ (hc.mono h4.le) hb rfl hw' h3 rfl rfl
          cases j with
          | none => exact hk2.mono h4.le
          | some c => exact .cons (.code ((hP.code c).symm.trans (hj c rfl))) (hk2.mono h4.le)
        | @panic v v' V' W' hv hw' => exact pure_sim (fr := ⟨fn', tmps, .endRangeFunc l :: k, defers, .run, .normal, roundOf⟩) ((hf.mono h4.le).raise _ _) (hc.mono h4.le) hb rfl hw' h3 rfl rfl
    | beginRound =>
      refine apply_sim hP.toSame ?_ hf hc hb hw h
      refine sr_skip (A := fun _ _ _ => True) ?_
      cases hro with
      | none => exact .halt _ _
      | some hl => exact sr_beginRound hP.tab hl
    | @inRegion ops todo ho =>
      cases todo with
      | nil => exact pure_sim (to_ hk2) hc hb rfl hw h rfl rfl
      | cons i rest =>
        have h' : (if ((ops[i]?).map (Region.wanted · (yielded ops tmps))).getD false then stepG.oper P₀ true ⟨fn', tmps, .inRegion ops (i :: rest) :: k, defers, .run, .normal, roundOf⟩ (cs ++ lb) none V
          else .go (G (Frame.finish ⟨fn', tmps, .inRegion ops (i :: rest) :: k, defers, .run, .normal, roundOf⟩ undef) (cs ++ lb)) V) = .go g2 V2 es := h
        show Stepped2 P₀ P ok str ρ lb rb V W g2 V2 (if ((ops[i]?).map (Region.wanted · (yielded ops tmps'))).getD false then stepG.oper P true ⟨fn', tmps', .inRegion ops (i :: rest) :: k', defers', .run, .normal, roundOf'⟩ (cs' ++ rb) none W
          else .go (G (Frame.finish ⟨fn', tmps', .inRegion ops (i :: rest) :: k', defers', .run, .normal, roundOf'⟩ undef) (cs' ++ rb)) W)
        clear h
        rw [yielded_eq hf.tmps]
        split at h'
        · rename_i hwant
          rw [if_pos hwant]
          cases hoi : ops[i]? with
          | none => rw [hoi] at hwant; cases hwant
          | some o =>
            have hop : opOk P ok.fn o.op = true := by
              rw [Array.all_eq_true] at ho
              obtain ⟨hlt, rfl⟩ := Array.getElem?_eq_some_iff.1 hoi
              exact ho i hlt
            have nd : ∀ c, o.op ≠ .defer c := by
              intro c e; rw [e] at hop; cases hop
            have e1 : ∀ (Q : Program) (t : Array Value) (kk : List Item) (d : List Deferred) (ro : Option Nat) (cc : List Frame) (w : World), stepG.oper Q true ⟨fn', t, .inRegion ops (i :: rest) :: kk, d, .run, .normal, ro⟩ cc none w =
                stepG.apply Q true ⟨fn', t, .inRegion ops (i :: rest) :: kk, d, .run, .normal, ro⟩ cc none (execOp (Frame.eval ⟨fn', t, .inRegion ops (i :: rest) :: kk, d, .run, .normal, ro⟩) o) w := by
              intro Q t kk d ro cc w
              simp only [stepG.oper, Frame.oper?, hoi]
              split
              · rename_i e; exact absurd e (nd _)
              · rfl
            rw [e1] at h' ⊢
            exact apply_sim hP.toSame (sr_op hP.tab hP.glob hP.toCallable o hop hev) hf hc hb hw h'
        · rename_i hwant
          rw [if_neg hwant]
          exact pure_sim (hf.finish vrel_undef) hc hb (finish_round _ _) hw h' rfl rfl
    | @code c hcode =>
      cases c with
      | skip => exact pure_sim (to_ hk2) hc hb rfl hw h rfl rfl
      | label l => exact pure_sim (to_ hk2) hc hb rfl hw h rfl rfl
      | seq a b =>
        simp only [codeOk, Bool.and_eq_true] at hcode
        exact pure_sim (to_ (.cons (.code hcode.1) (.cons (.code hcode.2) hk2))) hc hb rfl hw h rfl rfl
      | cond c a b =>
        simp only [codeOk, Bool.and_eq_true] at hcode
        have he := hev c hcode.1.1
        have h' : (match Frame.eval ⟨fn', tmps, .code (.cond c a b) :: k, defers, .run, .normal, roundOf⟩ c with
          | .bool t => GStep.go (G ⟨fn', tmps, .code (if t then a else b) :: k, defers, .run, .normal, roundOf⟩ (cs ++ lb)) V
          | _ => .ended (.stuck "cond: bool expected" (Frame.pos P₀ ⟨fn', tmps, .code (.cond c a b) :: k, defers, .run, .normal, roundOf⟩)) V) = .go g2 V2 es := h
        show Stepped2 P₀ P ok str ρ lb rb V W g2 V2 (match Frame.eval ⟨fn', tmps', .code (.cond c a b) :: k', defers', .run, .normal, roundOf'⟩ c with
          | .bool t => GStep.go (G ⟨fn', tmps', .code (if t then a else b) :: k', defers', .run, .normal, roundOf'⟩ (cs' ++ rb)) W
          | _ => .ended (.stuck "cond: bool expected" (Frame.pos P ⟨fn', tmps', .code (.cond c a b) :: k', defers', .run, .normal, roundOf'⟩)) W)
        clear h
        generalize Frame.eval ⟨fn', tmps, .code (.cond c a b) :: k, defers, .run, .normal, roundOf⟩ c = v at he h'
        generalize Frame.eval ⟨fn', tmps', .code (.cond c a b) :: k', defers', .run, .normal, roundOf'⟩ c = v' at he
        cases he with
        | bool t =>
          refine pure_sim (to_ (.cons (.code (c := if t then a else b) ?_) hk2)) hc hb rfl hw h' rfl rfl
          cases t
          · exact hcode.2
          · exact hcode.1.2
        | _ => cases h'
      | block id b => exact pure_sim (to_ (.cons (.code (c := b) hcode) (.cons (.inBlock id) hk2))) hc hb rfl hw h rfl rfl
      | loop b => exact pure_sim (to_ (.cons (.code (c := b) hcode) (.cons (.inLoop (c := b) hcode) hk2))) hc hb rfl hw h rfl rfl
      | scope b => exact pure_sim (to_ (.cons (.code (c := b) hcode) (.cons (.inScope (c := b) hcode) hk2))) hc hb rfl hw h rfl rfl
      | exit id =>
        rcases hk2.exit (id := id) with ⟨n1, n2⟩ | ⟨q, q', s1, s2, hq⟩
        · simp only [stepG.exec, n1, Option.elim_none] at h
          simp only [stepG.exec, n2, Option.elim_none]
          cases hro with
          | none => simp at h
          | some hl => exact leave_sim hf hc hb hw (some (.exit id)) (by simp [hP.code, codeOk]) rfl hl h
        · simp only [stepG.exec, s1, Option.elim_some] at h
          simp only [stepG.exec, s2, Option.elim_some]
          exact pure_sim (to_ hq) hc hb rfl hw h rfl rfl
      | goto id =>
        rcases hk2.goto (id := id) with ⟨n1, n2⟩ | ⟨q, q', s1, s2, hq⟩
        · simp only [stepG.exec, n1, Option.elim_none] at h
          simp only [stepG.exec, n2, Option.elim_none]
          cases hro with
          | none => simp at h
          | some hl => exact leave_sim hf hc hb hw (some (.goto id)) (by simp [hP.code, codeOk]) rfl hl h
        · simp only [stepG.exec, s1, Option.elim_some] at h
          simp only [stepG.exec, s2, Option.elim_some]
          exact pure_sim (to_ hq) hc hb rfl hw h rfl rfl
      | ret =>
        cases hro with
        | none => exact pure_sim ret_ hc hb rfl hw h rfl rfl
        | some hl => exact leave_sim hf hc hb hw (some .ret) (by simp [hP.code, codeOk]) rfl hl h
      | region id ops draw =>
        cases draw with
        | false => exact pure_sim (to_ (.cons (.inRegion _ hcode) hk2)) hc hb rfl hw h rfl rfl
        | true =>
          have hq : (Question.order fn' id).forced = false := rfl
          simp only [stepG.exec, choose, Sem.run, hq, Bool.not_true, Bool.false_eq_true, if_false] at h ⊢
          have e : W.tape W.drawn (.order fn' id) = V.tape V.drawn (.order fn' id) := by rw [hw.tape, hw.drawn]
          have hw' : WRel ok str ρ { V with drawn := V.drawn + 1 } { W with drawn := W.drawn + 1 } := ⟨hw.heap, hw.tape, by simp only [hw.drawn], hw.gV, hw.gW⟩
          rw [e, show P.follows .mixedOrders = P₀.follows .mixedOrders by rw [hP.tab]]
          have := pure_sim (P₀ := P₀) (rb := rb) (to_ (.cons (.inRegion (Region.schedule (P₀.follows .mixedOrders) ops ((Question.order fn' id).cut (V.tape V.drawn (.order fn' id)))) hcode) hk2)) hc hb rfl hw' h rfl rfl
          obtain ⟨σ, h2, W2, es2, a1, a2, a3, a4, a5⟩ := this
          exact ⟨σ, h2, W2, es2, a1, a2, a3, ⟨a4.le, a4.keep, a4.ro, a4.size, a4.sizeV, a4.new, a4.tape, a4.os, a4.out⟩, a5⟩
      | rangeFunc f params a b =>
        simp only [codeOk, Bool.and_eq_true] at hcode
        have h' : (let (r, es) := (Instr.enterLoop fn' tmps params a b roundOf).runT P₀ V #[]; GStep.after (seen P₀ fn' es) <| match r with
          | .ok (l, mark) w => stepG.apply P₀ true ⟨fn', tmps, .inRangeFunc l :: k, mark ++ defers, .run, .normal, roundOf⟩ (cs ++ lb) none (do let d ← resolve (Frame.eval ⟨fn', tmps, .inRangeFunc l :: k, mark ++ defers, .run, .normal, roundOf⟩) { callee := .value f, args := #[.const (.func (.yield l) #[] #[])], argTypes := #[] } 0; invoke d.target d.args) w
          | .halt _ w => .ended (.stuck "range over a function: no such loop" (Frame.pos P₀ ⟨fn', tmps, .code (.rangeFunc f params a b) :: k, defers, .run, .normal, roundOf⟩)) w) = .go g2 V2 es := h
        show Stepped2 P₀ P ok str ρ lb rb V W g2 V2 (let (r, es) := (Instr.enterLoop fn' tmps' params a b roundOf').runT P W #[]; GStep.after (seen P fn' es) <| match r with
          | .ok (l, mark) w => stepG.apply P true ⟨fn', tmps', .inRangeFunc l :: k', mark ++ defers', .run, .normal, roundOf'⟩ (cs' ++ rb) none (do let d ← resolve (Frame.eval ⟨fn', tmps', .inRangeFunc l :: k', mark ++ defers', .run, .normal, roundOf'⟩) { callee := .value f, args := #[.const (.func (.yield l) #[] #[])], argTypes := #[] } 0; invoke d.target d.args) w
          | .halt _ w => .ended (.stuck "range over a function: no such loop" (Frame.pos P ⟨fn', tmps', .code (.rangeFunc f params a b) :: k', defers', .run, .normal, roundOf'⟩)) w)
        clear h
        generalize hrun : (Instr.enterLoop fn' tmps params a b roundOf).runT P₀ V #[] = x at h'
        obtain ⟨r, e1⟩ := x
        rcases (sr_enterLoop (P₀ := P₀) (P := P) (str := str) fn' hi hf.tmps params ((hP.code a).trans hcode.1.2) ((hP.code b).trans hcode.2) hro).sound #[] #[] hw hrun with hst | ⟨σ, r', V', W', d', h1, h2, h4, h5⟩
        · exfalso
          cases r with
          | ok a w => cases hst
          | halt hh w => exact ended_after h'
        · have h1' : (Instr.enterLoop fn' tmps' params a b roundOf').runT P W #[] = (r', d') := by rw [h1]; simp
          rw [h1']
          obtain ⟨es3, h3⟩ := after_go h'
          refine Stepped2.of_kept h4 ?_ (fun e he => h5 e (seen_sub _ _ _ e he))
          cases h2 with
          | panic _ _ => cases h3
          | @ok j j' V' W' hv hw' =>
            obtain ⟨l, mark⟩ := j
            obtain ⟨l', mark'⟩ := j'
            obtain ⟨hl, hmk⟩ := hv
            have hf2 : FrRel P ok σ ⟨fn', tmps, .inRangeFunc l :: k, mark ++ defers, .run, .normal, roundOf⟩ ⟨fn', tmps', .inRangeFunc l' :: k', mark' ++ defers', .run, .normal, roundOf'⟩ :=
              ⟨rfl, hi, hf.tmps.mono h4.le, .cons (.inRangeFunc hl) (hk2.mono h4.le), hmk.append (hf.defers.mono h4.le), .run, rfl, rfl, hro.mono h4.le⟩
            refine apply_sim hP.toSame ?_ hf2 (hc.mono h4.le) (hb.swap rfl) hw' h3
            have hfv := hf2.eval f hcode.1.1
            have hy : VsRel ok σ #[.func (.yield l) #[] #[]] #[.func (.yield l') #[] #[]] := VsRel.nil.push (.func (.yield hl) rfl VsRel.nil.at_ rfl VsRel.nil.at_)
            unfold resolve
            dsimp only
            generalize Frame.eval ⟨fn', tmps, .inRangeFunc l :: k, mark ++ defers, .run, .normal, roundOf⟩ f = v at hfv
            generalize Frame.eval ⟨fn', tmps', .inRangeFunc l' :: k', mark' ++ defers', .run, .normal, roundOf'⟩ f = v' at hfv
            cases hfv with
            | func hfn e1 g1 e2 g2 =>
              refine sr_pbind ?_
              exact sr_invoke hP.tab hP.toCallable (.fn hfn ⟨e2, g2⟩) (by simp) (VsRel.append ⟨e1, g1⟩ (by simpa [Frame.eval] using hy))
            | nilFunc => exact sr_rt hP.tab .nilDeref rfl
            | hole _ => exact .dead _ _ fun V => invoke_hole hP.hole _ V
            | _ => exact .halt _ _
      | refuse w => cases hcode
theorem unwind_sim (hP : Pair P₀ P ok) {lb rb : List Frame} {m₀ m₁ : Bool} {fr fr' : Frame} {cs cs' : List Frame} (hf : FrRel P ok ρ fr fr') (hc : FsRel P ok ρ cs cs') (hb : Bot fr cs) (hw : WRel ok str ρ V W) (hm : fr.mode ≠ .run) (hl : cs = [] → fr.defers ≠ [])
    {g2 : Goroutine} {es : Array Event} (h : unwind P₀ m₀ fr (cs ++ lb) none V = .go g2 V2 es) : Stepped2 P₀ P ok str ρ lb rb V W g2 V2 (unwind P m₁ fr' (cs' ++ rb) none W) := by
  obtain ⟨fn, tmps, todo, defers, mode, kind, roundOf⟩ := fr
  obtain ⟨fn', tmps', todo', defers', mode', kind', roundOf'⟩ := fr'
  have hfn := hf.fn
  have hk := hf.kind
  have hk' := hf.kind'
  have hm' := hf.mode
  have hi := hf.inn
  have hd := hf.defers
  simp only at hfn hk hk' hm hm' hi hd hl
  subst hk hk' hfn
  obtain ⟨F, c, f1, f2, f3, f4⟩ := hP.same fn' hi
  cases hd with
  | @cons r0 r0' ds ds' hr hds =>
    have h' : (let (r, es) := (Instr.takeDeferred r0).runT P₀ V #[]; GStep.after (seen P₀ fn' es) <| match r with
      | .ok calls w => .go (G ⟨fn', tmps, todo, calls ++ ds, mode, .normal, roundOf⟩ (cs ++ lb)) w
      | .halt _ w => .ended (.stuck "the deferred calls of a range-over-func loop have been taken" (Frame.pos P₀ ⟨fn', tmps, todo, { target := .collected r0, args := #[] } :: ds, mode, .normal, roundOf⟩)) w) = .go g2 V2 es := h
    show Stepped2 P₀ P ok str ρ lb rb V W g2 V2 (let (r, es) := (Instr.takeDeferred r0').runT P W #[]; GStep.after (seen P fn' es) <| match r with
      | .ok calls w => .go (G ⟨fn', tmps', todo', calls ++ ds', mode', .normal, roundOf'⟩ (cs' ++ rb)) w
      | .halt _ w => .ended (.stuck "the deferred calls of a range-over-func loop have been taken" (Frame.pos P ⟨fn', tmps', todo', { target := .collected r0', args := #[] } :: ds', mode', .normal, roundOf'⟩)) w)
    clear h
    generalize hrun : (Instr.takeDeferred r0).runT P₀ V #[] = x at h'
    obtain ⟨r, e1⟩ := x
    rcases (sr_take (P₀ := P₀) (P := P) (ok := ok) (str := str) hr).sound #[] #[] hw hrun with hst | ⟨σ, r', V', W', d', h1, h2, h4, h5⟩
    · exfalso
      cases r with
      | ok a w => cases hst
      | halt hh w => exact ended_after h'
    · have h1' : (Instr.takeDeferred r0').runT P W #[] = (r', d') := by rw [h1]; simp
      rw [h1']
      obtain ⟨es3, h3⟩ := after_go h'
      refine Stepped2.of_kept h4 ?_ (fun e he => h5 e (seen_sub _ _ _ e he))
      cases h2 with
      | panic _ _ => cases h3
      | @ok j j' V' W' hv hw' =>
        obtain ⟨rfl, rfl⟩ := hv
        exact pure_sim (fr2 := ⟨fn', tmps, todo, ds, mode, .normal, roundOf⟩) (fr2' := ⟨fn', tmps', todo', ds', mode', .normal, roundOf'⟩)
          ⟨rfl, hi, hf.tmps.mono h4.le, hf.todo.mono h4.le, hds.mono h4.le, hm', rfl, rfl, hf.round.mono h4.le⟩ (hc.mono h4.le) hb rfl hw' h3 rfl rfl
  | nil =>
    cases hc with
    | nil => exact absurd rfl (hl rfl)
    | @cons a a' cs cs' ha hcs =>
      cases hm' with
      | run => exact absurd rfl hm
      | @panicking ch ch' =>
        have c1 : Frame.catches P₀ ⟨fn', tmps, todo, [], .panicking ch, .normal, roundOf⟩ = false := by simp [Frame.catches, f1]
        have c2 : Frame.catches P ⟨fn', tmps', todo', [], .panicking ch', .normal, roundOf'⟩ = false := by simp [Frame.catches, f2]
        simp only [unwind, c1, List.cons_append, Bool.false_eq_true, if_false, GStep.go.injEq] at h
        obtain ⟨rfl, rfl, _⟩ := h
        refine ⟨ρ, G (a'.raise ch') (cs' ++ rb), W, #[], ?_, .inside (ha.raise _ _) hcs (hb.pop (raise_round _ _)), hw, Kept.refl _ _ _, by simp⟩
        simp only [unwind, c2, List.cons_append, Bool.false_eq_true, if_false]
        rfl
      | returning =>
        have h' : (let (r, es) := (results F tmps).runT P₀ V #[]; GStep.after (seen P₀ fn' es) <| match r with
          | .ok v w => .go (G (a.finish v) (cs ++ lb)) w
          | .halt (.stuck s) w => .ended (.stuck s (Frame.pos P₀ ⟨fn', tmps, todo, [], .returning, .normal, roundOf⟩)) w
          | .halt _ w => .ended (.stuck "return: the result variables cannot be read" (Frame.pos P₀ ⟨fn', tmps, todo, [], .returning, .normal, roundOf⟩)) w) = .go g2 V2 es := by
          rw [← h]
          simp only [unwind, f1, List.cons_append, doReturn]
          rfl
        have e' : unwind P m₁ ⟨fn', tmps', todo', [], .returning, .normal, roundOf'⟩ (a' :: cs' ++ rb) none W = (let (r, es) := (results F tmps').runT P W #[]; GStep.after (seen P fn' es) <| match r with
          | .ok v w => .go (G (a'.finish v) (cs' ++ rb)) w
          | .halt (.stuck s) w => .ended (.stuck s (Frame.pos P ⟨fn', tmps', todo', [], .returning, .normal, roundOf'⟩)) w
          | .halt _ w => .ended (.stuck "return: the result variables cannot be read" (Frame.pos P ⟨fn', tmps', todo', [], .returning, .normal, roundOf'⟩)) w) := by
          simp only [unwind, f2, List.cons_append, doReturn]
          rfl
        rw [e']
        clear h e'
        generalize hrun : (results F tmps).runT P₀ V #[] = x at h'
        obtain ⟨r, e1⟩ := x
        rcases (sr_results (P₀ := P₀) (P := P) (str := str) hP.tab F hf.tmps).sound #[] #[] hw hrun with hst | ⟨σ, r', V', W', d', h1, h2, h4, h5⟩
        · exfalso
          cases r with
          | ok a w => cases hst
          | halt hh w => cases hh <;> exact ended_after h'
        · have h1' : (results F tmps').runT P W #[] = (r', d') := by rw [h1]; simp
          rw [h1']
          obtain ⟨es3, h3⟩ := after_go h'
          refine Stepped2.of_kept h4 ?_ (fun e he => h5 e (seen_sub _ _ _ e he))
          cases h2 with
          | panic _ _ => cases h3
          | @ok j j' V' W' hv hw' =>
            have hb2 : Bot a cs := hb.pop rfl
            exact pure_sim ((ha.mono h4.le).finish hv) (hcs.mono h4.le) hb2 (finish_round _ _) hw' h3 rfl rfl
theorem step_sim (hP : Pair P₀ P ok) {lb rb : List Frame} {m₀ m₁ : Bool} {fr fr' : Frame} {cs cs' : List Frame} (hf : FrRel P ok ρ fr fr') (hc : FsRel P ok ρ cs cs') (hb : Bot fr cs) (hw : WRel ok str ρ V W) (hl : cs = [] → fr.mode ≠ .run → fr.defers ≠ [])
    {g2 : Goroutine} {es : Array Event} (h : stepG P₀ m₀ (G fr (cs ++ lb)) V = .go g2 V2 es) : Stepped2 P₀ P ok str ρ lb rb V W g2 V2 (stepG P m₁ (G fr' (cs' ++ rb)) W) := by
  by_cases hm : fr.mode = .run
  · rw [stepG_run hm] at h
    rw [stepG_run (hf.mode.run_of hm)]
    exact exec_sim hP hf hc hb hw hm h
  · have hm' : fr'.mode ≠ .run := by
      intro e
      have := hf.mode
      rw [e] at this
      generalize fr.mode = m at this hm
      cases this
      exact hm rfl
    rw [stepG_unw hm] at h
    rw [stepG_unw hm']
    exact unwind_sim hP hf hc hb hw hm (fun e => hl e hm) h
end
end Go.Proofs.YtlmcblcijndipabGreat

namespace Go.Proofs.YtlmcblcijndipabGreat
open Go Go.Conc
variable [Gl]
def re (w : World) (τ : Nat → Question → Nat) (d : Nat) : World := { w with tape := τ, drawn := d }
def Agree (t : Nat → Question → Nat) (a : Nat) (t' : Nat → Question → Nat) (b n : Nat) : Prop := ∀ i, i < n → ∀ q, t (a + i) q = t' (b + i) q
omit [Gl] in
theorem Agree.less {t t' : Nat → Question → Nat} {a b n m : Nat} (h : Agree t a t' b n) (l : m ≤ n) : Agree t a t' b m := fun i hi q => h i (by omega) q
omit [Gl] in
theorem Agree.tail {t t' : Nat → Question → Nat} {a b n k : Nat} (h : Agree t a t' b (k + n)) : Agree t (a + k) t' (b + k) n := fun i hi q => by
  have := h (k + i) (by omega) q
  rw [show a + k + i = a + (k + i) by omega, show b + k + i = b + (k + i) by omega]
  exact this
def worldOf {α : Type} : Result α → World
  | .ok _ w => w
  | .halt _ w => w
def reR {α : Type} (τ : Nat → Question → Nat) (d : Nat) : Result α → Result α
  | .ok a w => .ok a (re w τ d)
  | .halt h w => .halt h (re w τ d)
section
variable {P₀ P : Program} {ok : Ctx} {str : Bool} {ρ : Ren}
theorem SemRel.shift {α β : Type} {A : Ren → α → β → Prop} {s : Sem α} {s' : Sem β} (h : SemRel P₀ P ok str A ρ s s') :
    ∀ {V W : World} (es : Array Event) {r : Result α} {e1 : Array Event}, WRel ok str ρ V W → s.runT P₀ V es = (r, e1) → Result.stops r = true ∨
      (V.drawn ≤ (worldOf r).drawn ∧ (worldOf r).tape = V.tape ∧ ∀ τ d, Agree V.tape V.drawn τ d ((worldOf r).drawn - V.drawn) → s.runT P₀ (re V τ d) es = (reR τ (d + ((worldOf r).drawn - V.drawn)) r, e1)) := by
  induction h with
  | @pure ρ a b hA =>
    intro V W es x e1 hw hr
    simp only [Sem.runT, Prod.mk.injEq] at hr
    obtain ⟨rfl, rfl⟩ := hr
    exact .inr ⟨Nat.le_refl _, rfl, fun τ d _ => by simp [Sem.runT, reR, worldOf, re]⟩
  | @load ρ a a' k k' ra _ ih =>
    intro V W es x e1 hw hr
    simp only [Sem.runT] at hr
    cases hc : V.cell? a with
    | none =>
      rw [hc] at hr
      obtain ⟨y, hy⟩ := hw.far ra.blk (Mode.plain == Mode.atomic) P₀
      simp only [hy, Prod.mk.injEq] at hr
      obtain ⟨rfl, _⟩ := hr
      exact .inl rfl
    | some v =>
      rw [hc] at hr
      obtain ⟨v', hv', rv⟩ := hw.load ra hc
      rcases ih v v' rv _ hw hr with h | ⟨h1, h2, h3⟩
      · exact .inl h
      · refine .inr ⟨h1, h2, fun τ d hA => ?_⟩
        have : (re V τ d).cell? a = some v := hc
        simp only [Sem.runT, this]
        exact h3 τ d hA
  | @store ρ a a' v v' k k' ra rv _ ih =>
    intro V W es x e1 hw hr
    by_cases hn : (∃ cs, v = .agg cs) ∨ (∃ cs, v = .tuple cs)
    · rcases hn with ⟨cs, rfl⟩ | ⟨cs, rfl⟩
      · simp only [Sem.runT, Prod.mk.injEq] at hr; obtain ⟨rfl, _⟩ := hr; exact .inl rfl
      · simp only [Sem.runT, Prod.mk.injEq] at hr; obtain ⟨rfl, _⟩ := hr; exact .inl rfl
    have n1 : ∀ cs, v ≠ .agg cs := fun cs e => hn (.inl ⟨cs, e⟩)
    have n2 : ∀ cs, v ≠ .tuple cs := fun cs e => hn (.inr ⟨cs, e⟩)
    have unf : ∀ (U : World), (Sem.store .plain a v k).runT P₀ U es = (match U.cell? a with
      | some _ => if U.frozen? a then (Result.halt (.unsupported (.unsafePointer "a write to bytes that a string shares")) U, es) else k.runT P₀ (U.setCell a v) (es.push ⟨.cell a, true, false⟩)
      | none => match U.farStore P₀ a v (Mode.plain == Mode.atomic) with
        | .ok (w, touched) => k.runT P₀ w (es ++ touched.toArray.map (⟨.cell ·, true, Mode.plain == Mode.atomic⟩))
        | .error h => (.halt h U, es)) := by
      intro U
      cases v <;> first | exact absurd rfl (n1 _) | exact absurd rfl (n2 _) | (simp only [Sem.runT]; rfl)
    rw [unf] at hr
    cases hc : V.cell? a with
    | none =>
      rw [hc] at hr
      obtain ⟨y, hy⟩ := hw.farS ra.blk v (Mode.plain == Mode.atomic) P₀
      simp only [hy, Prod.mk.injEq] at hr
      obtain ⟨rfl, _⟩ := hr
      exact .inl rfl
    | some y =>
      rw [hc] at hr
      simp only at hr
      cases hf : V.frozen? a with
      | true =>
        rw [hf] at hr
        simp only [if_true, Prod.mk.injEq] at hr
        obtain ⟨rfl, _⟩ := hr
        exact .inl rfl
      | false =>
        rw [hf] at hr
        rcases ih _ (hw.store ra rv) hr with h | ⟨h1, h2, h3⟩
        · exact .inl h
        · refine .inr ⟨h1, h2, fun τ d hA => ?_⟩
          have e1 : (re V τ d).cell? a = some y := hc
          have e2 : (re V τ d).frozen? a = false := hf
          rw [unf, e1]
          simp only [e2, Bool.false_eq_true, if_false]
          exact h3 τ d hA
  | @new ρ o o' k k' ro _ ih =>
    intro V W es x e1 hw hr
    simp only [Sem.runT] at hr
    obtain ⟨hw1, hk1⟩ := hw.new ro
    rcases ih _ V.heap.size W.heap.size hw.ext_le hw.ext_at _ hw1 hr with h | ⟨h1, h2, h3⟩
    · exact .inl h
    · exact .inr ⟨h1, h2, fun τ d hA => by simp only [Sem.runT]; exact h3 τ d hA⟩
  | @shape ρ r r' k k' hr' _ ih =>
    intro V W es x e1 hw hr
    simp only [Sem.runT] at hr ⊢
    exact ih _ _ hw hr
  | dead s s' h =>
    intro V W es x e1 hw hr
    have h1 := Sem.runT_fst P₀ s V es
    rw [hr] at h1
    exact .inl (by have := h V; rw [← h1] at this; exact this)
  | @getObj ρ r r' k k' hr' _ ih =>
    intro V W es x e1 hw hr
    cases ho : V.heap[r]? with
    | none => simp only [Sem.runT, ho, Prod.mk.injEq] at hr; obtain ⟨rfl, _⟩ := hr; exact .inl rfl
    | some o =>
      obtain ⟨o', ho', ro⟩ := hw.getObj hr' ho
      rcases ro.kinds with ⟨⟨c, e, z, rfl⟩, _⟩ | ⟨n1, n2⟩
      · simp only [Sem.runT, ho, Prod.mk.injEq] at hr; obtain ⟨rfl, _⟩ := hr; exact .inl rfl
      · have unf : ∀ U : World, U.heap[r]? = some o → (Sem.getObj r k).runT P₀ U es = (k o).runT P₀ U (es.push ⟨.obj r, false, o.isChan⟩) := by
          intro U hU
          cases o <;> first | exact absurd rfl (n1 _ _ _) | simp only [Sem.runT, hU]
        rw [unf V ho] at hr
        rcases ih _ _ ro _ hw hr with h | ⟨h1, h2, h3⟩
        · exact .inl h
        · exact .inr ⟨h1, h2, fun τ d hA => by rw [unf (re V τ d) ho]; exact h3 τ d hA⟩
  | @setObj ρ r r' o o' k k' hr' ro _ ih =>
    intro V W es x e1 hw hr
    cases hx : V.heap[r]? with
    | none => simp only [Sem.runT, hx, Prod.mk.injEq] at hr; obtain ⟨rfl, _⟩ := hr; exact .inl rfl
    | some y =>
      obtain ⟨y', hy', ry⟩ := hw.getObj hr' hx
      rcases ry.kinds with ⟨⟨c, e, z, rfl⟩, _⟩ | ⟨n1, n2⟩
      · simp only [Sem.runT, hx, Prod.mk.injEq] at hr; obtain ⟨rfl, _⟩ := hr; exact .inl rfl
      · have unf : ∀ U : World, U.heap[r]? = some y → (Sem.setObj r o k).runT P₀ U es = k.runT P₀ { U with heap := U.heap.setIfInBounds r o } (es.push ⟨.obj r, true, o.isChan⟩) := by
          intro U hU
          cases y <;> first | exact absurd rfl (n1 _ _ _) | simp only [Sem.runT, hU]
        rw [unf V hx] at hr
        rcases ih _ (hw.setObj hr' ro) hr with h | ⟨h1, h2, h3⟩
        · exact .inl h
        · exact .inr ⟨h1, h2, fun τ d hA => by rw [unf (re V τ d) hx]; exact h3 τ d hA⟩
  | @choose ρ q k k' _ ih =>
    intro V W es x e1 hw hr
    simp only [Sem.runT] at hr ⊢
    split at hr
    · rename_i hq
      simp only [if_pos hq]
      exact ih _ _ hw hr
    · rename_i hq
      have hw' : WRel ok str ρ { V with drawn := V.drawn + 1 } { W with drawn := W.drawn + 1 } := ⟨hw.heap, hw.tape, by simp only [hw.drawn], hw.gV, hw.gW⟩
      rcases ih _ _ hw' hr with h | ⟨h1, h2, h3⟩
      · exact .inl h
      · simp only at h1 h2 h3
        refine .inr ⟨by omega, h2, fun τ d hA => ?_⟩
        rw [if_neg hq]
        have e0 : τ d q = V.tape V.drawn q := (hA 0 (by omega) q).symm
        have := h3 τ (d + 1) (by
          have : Agree V.tape V.drawn τ d (1 + ((worldOf x).drawn - (V.drawn + 1))) := hA.less (by omega)
          exact this.tail)
        rw [show d + 1 + ((worldOf x).drawn - (V.drawn + 1)) = d + ((worldOf x).drawn - V.drawn) by omega] at this
        rw [← this]
        simp only [re, e0]
  | @program ρ k k' _ ih =>
    intro V W es x e1 hw hr
    simp only [Sem.runT] at hr ⊢
    exact ih _ hw hr
  | @noRoom ρ k k' _ ih =>
    intro V W es x e1 hw hr
    simp only [Sem.runT] at hr ⊢
    exact ih _ hw hr
  | @panic ρ v v' hv =>
    intro V W es x e1 hw hr
    simp only [Sem.runT, Prod.mk.injEq] at hr
    obtain ⟨rfl, rfl⟩ := hr
    exact .inr ⟨Nat.le_refl _, rfl, fun τ d _ => by simp [Sem.runT, reR, worldOf, re]⟩
  | halt h s he =>
    intro V W es x e1 hw hr
    simp only [Sem.runT, Prod.mk.injEq] at hr
    obtain ⟨rfl, _⟩ := hr
    exact .inl he
end
end Go.Proofs.YtlmcblcijndipabGreat

namespace Go.Proofs.YtlmcblcijndipabGreat
open Go Go.Conc
variable [Gl]
def Sh (F : World → GStep) (V : World) : Prop := ((∃ g2 V2 es, F V = .go g2 V2 es) ∨ ∃ o w es, F V = .ended o w es) ∧ ∀ g2 V2 es, F V = .go g2 V2 es → V.drawn ≤ V2.drawn ∧ V2.tape = V.tape ∧
  ∀ τ d, Agree V.tape V.drawn τ d (V2.drawn - V.drawn) → F (re V τ d) = .go g2 (re V2 τ (d + (V2.drawn - V.drawn))) es
omit [Gl] in
theorem sh_pure {F : World → GStep} {V : World} (g : Goroutine) (es : Array Event) (h : ∀ w, F w = .go g w es) : Sh F V := by
  refine ⟨.inl ⟨_, _, _, h V⟩, ?_⟩
  intro g2 V2 es2 e
  rw [h] at e
  simp only [GStep.go.injEq] at e
  obtain ⟨rfl, rfl, rfl⟩ := e
  refine ⟨Nat.le_refl _, rfl, fun τ d _ => ?_⟩
  rw [h]
  simp [re]
omit [Gl] in
theorem sh_ended {F : World → GStep} {V : World} (h : ∃ o w es, F V = .ended o w es) : Sh F V := by
  refine ⟨.inr h, ?_⟩
  intro g2 V2 es2 e
  obtain ⟨o, w, es, h⟩ := h
  rw [h] at e
  cases e
omit [Gl] in
theorem after_kind {es : Array Event} {s : GStep} (h : (∃ g2 V2 es', s = .go g2 V2 es') ∨ ∃ o w es', s = .ended o w es') : (∃ g2 V2 es', GStep.after es s = .go g2 V2 es') ∨ ∃ o w es', GStep.after es s = .ended o w es' := by
  rcases h with ⟨_, _, _, rfl⟩ | ⟨_, _, _, rfl⟩
  · exact .inl ⟨_, _, _, rfl⟩
  · exact .inr ⟨_, _, _, rfl⟩
theorem sh_tree {P₀ P : Program} {ok : Ctx} {str : Bool} {ρ : Ren} {α β : Type} {A : Ren → α → β → Prop} {s : Sem α} {s' : Sem β} (hR : SemRel P₀ P ok str A ρ s s') {V W : World} (hw : WRel ok str ρ V W)
    {F : World → GStep} {E : Array Event → Array Event} {k : α → Goroutine} {kp : Value → Option Goroutine} (hok : ∀ w a w' es, s.runT P₀ w #[] = (.ok a w', es) → F w = .go (k a) w' (E es))
    (hp : ∀ w v w' es, s.runT P₀ w #[] = (.halt (.panic v) w', es) → match kp v with | some g => F w = .go g w' (E es) | none => ∃ o u es', F w = .ended o u es') (hs : ∀ w r es, s.runT P₀ w #[] = (r, es) → Result.stops r = true → ∃ o u es', F w = .ended o u es') : Sh F V := by
  generalize hr : s.runT P₀ V #[] = x
  obtain ⟨r, e1⟩ := x
  refine ⟨?_, ?_⟩
  · rcases hR.sound #[] #[] hw hr with hst | ⟨σ, r', V', W', d', _, h5, _, _⟩
    · exact .inr (hs _ _ _ hr hst)
    · cases h5 with
      | ok _ _ => exact .inl ⟨_, _, _, hok _ _ _ _ hr⟩
      | @panic v v' V' W' _ _ =>
        have h6 := hp _ _ _ _ hr
        cases hk : kp v with
        | none => rw [hk] at h6; exact .inr h6
        | some g => rw [hk] at h6; exact .inl ⟨_, _, _, h6⟩
  intro g2 V2 es2 e
  have key : Result.stops r = true → False := by
    intro hst
    obtain ⟨o, u, es', h⟩ := hs _ _ _ hr hst
    rw [h] at e; cases e
  rcases hR.shift #[] hw hr with hst | ⟨h1, h2, h3⟩
  · exact (key hst).elim
  · rcases hR.sound #[] #[] hw hr with hst | ⟨σ, r', V', W', d', _, h5, _, _⟩
    · exact (key hst).elim
    · cases h5 with
      | @ok a b V' W' _ _ =>
        rw [hok _ _ _ _ hr] at e
        simp only [GStep.go.injEq] at e
        obtain ⟨rfl, rfl, rfl⟩ := e
        refine ⟨h1, h2, fun τ d hA => ?_⟩
        exact hok _ _ _ _ (h3 τ d hA)
      | @panic v v' V' W' _ _ =>
        have h6 := hp _ _ _ _ hr
        cases hk : kp v with
        | none =>
          rw [hk] at h6
          obtain ⟨o, u, es', h⟩ := h6
          rw [h] at e; cases e
        | some g =>
          rw [hk] at h6
          rw [h6] at e
          simp only [GStep.go.injEq] at e
          obtain ⟨rfl, rfl, rfl⟩ := e
          refine ⟨h1, h2, fun τ d hA => ?_⟩
          have := hp _ _ _ _ (h3 τ d hA)
          rw [hk] at this
          exact this
section
variable {P₀ P : Program} {ok : Ctx} {str : Bool} {ρ : Ren} {V W : World}
def nextG (p : Program) (fr : Frame) (cs : List Frame) : Next → Goroutine
  | .value v => G (fr.finish v) cs
  | .skip => G (fr.finish undef) cs
  | .enter f xs => G (Frame.enter p f xs .normal) (fr :: cs)
  | .round l f xs a b => G (Frame.round l f xs a b .normal) (fr :: cs)
  | _ => G fr cs
theorem apply_sh {s s' : Sem Next} (hR : SemRel P₀ P ok str (fun σ x y => NRel ok σ x y) ρ s s') {fr fr' : Frame} {cs : List Frame} (hf : FrRel P ok ρ fr fr') (hw : WRel ok str ρ V W) : Sh (fun w => stepG.apply P₀ true fr cs none s w) V := by
  have hke : (CallKind.normal == CallKind.early) = false := rfl
  have hno := hf.todo.noCall
  have hR' : SemRel P₀ P ok str (fun σ x y => NRel ok σ x y) ρ s s' := hR
  generalize hr : s.runT P₀ V #[] = x
  obtain ⟨r, e1⟩ := x
  refine ⟨?_, ?_⟩
  · rcases hR.sound #[] #[] hw hr with hst | ⟨σ, r', V', W', d', _, h5, _, _⟩
    · cases r with
      | ok a w => cases hst
      | halt hh w =>
        cases hh with
        | stuck y => simp only [stepG.apply, if_true, hr, GStep.after]; exact .inr ⟨_, _, _, rfl⟩
        | unsupported u =>
          cases u with
          | initOrder g => cases hst
          | _ => simp only [stepG.apply, if_true, hr, GStep.after]; exact .inr ⟨_, _, _, rfl⟩
        | _ => cases hst
    · cases h5 with
      | @ok a b V' W' hN _ =>
        cases hN with
        | value hv => simp only [stepG.apply, if_true, hr, GStep.after]; exact .inl ⟨_, _, _, rfl⟩
        | skip => simp only [stepG.apply, if_true, hr, GStep.after]; exact .inl ⟨_, _, _, rfl⟩
        | enter f hok hx => exact .inl ⟨_, _, _, apply_enter hr hno.1 hf.kind⟩
        | round f hl hi hx ha hb => simp only [stepG.apply, if_true, hr, GStep.after]; exact .inl ⟨_, _, _, rfl⟩
      | panic _ _ => simp only [stepG.apply, if_true, hr, GStep.after]; exact .inl ⟨_, _, _, rfl⟩
  intro g2 V2 es2 e
  have stop : Result.stops r = true → False := by
    intro hst
    simp only at e
    cases r with
    | ok a w => cases hst
    | halt hh w =>
      cases hh with
      | stuck y => simp only [stepG.apply, if_true, hr, GStep.after] at e; cases e
      | unsupported u =>
        cases u with
        | initOrder g => cases hst
        | _ => simp only [stepG.apply, if_true, hr, GStep.after] at e; cases e
      | _ => cases hst
  rcases hR.shift #[] hw hr with hst | ⟨h1, h2, h3⟩
  · exact (stop hst).elim
  · rcases hR'.sound #[] #[] hw hr with hst | ⟨σ, r', V', W', d', _, h5, _, _⟩
    · exact (stop hst).elim
    · simp only at e ⊢
      cases h5 with
      | @ok a b V' W' hN _ =>
        have go : ∀ {w w' : World} {es : Array Event}, s.runT P₀ w #[] = (.ok a w', es) → stepG.apply P₀ true fr cs none s w = .go (nextG P₀ fr cs a) w' (seen P₀ fr.fn es) := by
          intro w w' es hh
          cases hN with
          | value hv => simp only [stepG.apply, if_true, hh, GStep.after, hf.kind, hke]; simp [G, nextG]
          | skip => simp only [stepG.apply, if_true, hh, GStep.after, hf.kind, hke]; simp [G, nextG]
          | enter f hok hx => exact apply_enter hh hno.1 hf.kind
          | round f hl hi hx ha hb => simp only [stepG.apply, if_true, hh, GStep.after, hf.kind, hke]; simp [G, nextG]
        rw [go hr] at e
        simp only [GStep.go.injEq] at e
        obtain ⟨rfl, rfl, rfl⟩ := e
        exact ⟨h1, h2, fun τ d hA => go (h3 τ d hA)⟩
      | @panic v v' V' W' _ _ =>
        have go : ∀ {w w' : World} {es : Array Event}, s.runT P₀ w #[] = (.halt (.panic v) w', es) → stepG.apply P₀ true fr cs none s w = .go (G (fr.raise [{ v, recovered := false }]) cs) w' (seen P₀ fr.fn es) := by
          intro w w' es hh
          simp only [stepG.apply, if_true, hh, GStep.after, hf.kind, hke]; simp [G]
        rw [go hr] at e
        simp only [GStep.go.injEq] at e
        obtain ⟨rfl, rfl, rfl⟩ := e
        exact ⟨h1, h2, fun τ d hA => go (h3 τ d hA)⟩
omit [Gl] in
theorem Sh.congr {F F' : World → GStep} (h : Sh F V) (e : ∀ w, F' w = F w) : Sh F' V := by
  refine ⟨by rw [e]; exact h.1, ?_⟩
  intro g2 V2 es hh
  rw [e] at hh
  obtain ⟨h1, h2, h3⟩ := h.2 g2 V2 es hh
  exact ⟨h1, h2, fun τ d hA => by rw [e]; exact h3 τ d hA⟩
omit [Gl] in
theorem doReturn_normal {p : Program} {m : Bool} {fr c : Frame} {cs : List Frame} {v : Value} {w : World} (h : fr.kind = .normal) : doReturn p m fr (c :: cs) none v w = .go (G (c.finish v) cs) w := by
  simp only [doReturn, h]
  rfl
theorem leave_sh {m : Bool} {fr c : Frame} {cs : List Frame} (hk : fr.kind = .normal) (hw : WRel ok str ρ V W) (jump : Option Code) (hj : ∀ c, jump = some c → ok.code c = true) {l l' : Nat} (hl : ρ l = some l') :
    Sh (fun w => let (r, es) := (Instr.endRound l jump).runT P₀ w #[]; GStep.after (seen P₀ fr.fn es) <| match r with | .ok v w => doReturn P₀ m fr (c :: cs) none v w | .halt _ w => .ended (.stuck "range over a function: no such loop" (fr.pos P₀)) w) V := by
  refine sh_tree (P₀ := P₀) (P := P₀) (E := fun es => seen P₀ fr.fn es) (k := fun v => G (c.finish v) cs) (kp := fun _ => none) (sr_endRound hl jump hj) hw ?_ ?_ ?_
  · intro w a w' es h
    simp only [h, doReturn_normal hk, GStep.after]
    simp
  · intro w v w' es h
    simp only [h, GStep.after]
    exact ⟨_, _, _, rfl⟩
  · intro w r es h hst
    cases r with
    | ok a w => cases hst
    | halt hh w => simp only [h, GStep.after]; exact ⟨_, _, _, rfl⟩
set_option maxHeartbeats 1000000 in
theorem exec_sh (hP : Pair P₀ P ok) {m : Bool} {fr fr' c : Frame} {cs : List Frame} (hf : FrRel P ok ρ fr fr') (hw : WRel ok str ρ V W) (hm : fr.mode = .run) : Sh (fun w => stepG.exec P₀ m true fr (c :: cs) none w) V := by
  have hev := hf.eval
  obtain ⟨fn, tmps, todo, defers, mode, kind, roundOf⟩ := fr
  obtain ⟨fn', tmps', todo', defers', mode', kind', roundOf'⟩ := fr'
  have ht := hf.todo
  have hro := hf.round
  have hfn := hf.fn
  have hk := hf.kind
  have hk' := hf.kind'
  have hm' := hf.mode
  have hi := hf.inn
  simp only at ht hro hfn hk hk' hm hm' hi
  subst hm hk hk' hfn
  cases hm'
  cases ht with
  | nil =>
    cases hro with
    | none => exact sh_pure _ _ fun w => rfl
    | some hl => exact leave_sh (fr := ⟨fn', tmps, [], defers, .run, .normal, some _⟩) rfl hw none (by simp) hl
  | @cons x x' k k' hx hk2 =>
    cases hx with
    | inBlock id => exact sh_pure _ _ fun w => rfl
    | inScope hcode => exact sh_pure _ _ fun w => rfl
    | @inLoop body hcode => exact sh_pure _ _ fun w => rfl
    | inRangeFunc hl => exact sh_ended ⟨_, _, _, rfl⟩
    | @endRangeFunc l l' hl =>
      refine sh_tree (P₀ := P₀) (P := P) (E := fun es => seen P₀ fn' es) (k := fun j => G ⟨fn', tmps, (j.map Item.code).toList ++ k, defers, .run, .normal, roundOf⟩ (c :: cs))
        (kp := fun v => some (G (Frame.raise ⟨fn', tmps, .endRangeFunc l :: k, defers, .run, .normal, roundOf⟩ [{ v, recovered := false }]) (c :: cs))) (sr_endLoop hP.tab hl) hw ?_ ?_ ?_
      · intro w a w' es h
        simp only [stepG.exec, h, GStep.after]
        simp [G]
      · intro w v w' es h
        simp only [stepG.exec, h, GStep.after]
        simp [G]
      · intro w r es h hst
        cases r with
        | ok a w => cases hst
        | halt hh w => cases hh <;> first | cases hst; done | (simp only [stepG.exec, h, GStep.after]; exact ⟨_, _, _, rfl⟩)
    | beginRound =>
      refine (apply_sh (P := P) (s := do roundOf.elim (stuck "beginRound: no round") Instr.beginRound; pure .skip) (s' := do roundOf'.elim (stuck "beginRound: no round") Instr.beginRound; pure .skip) ?_ hf hw (cs := c :: cs)).congr fun w => rfl
      refine sr_skip (A := fun _ _ _ => True) ?_
      cases hro with
      | none => exact .halt _ _
      | some hl => exact sr_beginRound hP.tab hl
    | @inRegion ops todo ho =>
      cases todo with
      | nil => exact sh_pure _ _ fun w => rfl
      | cons i rest =>
        by_cases hwant : ((ops[i]?).map (Region.wanted · (yielded ops tmps))).getD false = true
        · cases hoi : ops[i]? with
          | none => rw [hoi] at hwant; cases hwant
          | some o =>
            have hop : opOk P ok.fn o.op = true := by
              rw [Array.all_eq_true] at ho
              obtain ⟨hlt, rfl⟩ := Array.getElem?_eq_some_iff.1 hoi
              exact ho i hlt
            have nd : ∀ c, o.op ≠ .defer c := by
              intro c e; rw [e] at hop; cases hop
            have e1 : ∀ w : World, stepG.exec P₀ m true ⟨fn', tmps, .inRegion ops (i :: rest) :: k, defers, .run, .normal, roundOf⟩ (c :: cs) none w =
                stepG.apply P₀ true ⟨fn', tmps, .inRegion ops (i :: rest) :: k, defers, .run, .normal, roundOf⟩ (c :: cs) none (execOp (Frame.eval ⟨fn', tmps, .inRegion ops (i :: rest) :: k, defers, .run, .normal, roundOf⟩) o) w := by
              intro w
              show (if ((ops[i]?).map (Region.wanted · (yielded ops tmps))).getD false then stepG.oper P₀ true ⟨fn', tmps, .inRegion ops (i :: rest) :: k, defers, .run, .normal, roundOf⟩ (c :: cs) none w
                else .go (G (Frame.finish ⟨fn', tmps, .inRegion ops (i :: rest) :: k, defers, .run, .normal, roundOf⟩ undef) (c :: cs)) w) = _
              rw [if_pos hwant]
              simp only [stepG.oper, Frame.oper?, hoi]
              split
              · rename_i e; exact absurd e (nd _)
              · rfl
            exact (apply_sh (P := P) (sr_op hP.tab hP.glob hP.toCallable o hop hev) hf hw).congr e1
        · refine sh_pure (G (Frame.finish ⟨fn', tmps, .inRegion ops (i :: rest) :: k, defers, .run, .normal, roundOf⟩ undef) (c :: cs)) #[] fun w => ?_
          show (if ((ops[i]?).map (Region.wanted · (yielded ops tmps))).getD false then stepG.oper P₀ true ⟨fn', tmps, .inRegion ops (i :: rest) :: k, defers, .run, .normal, roundOf⟩ (c :: cs) none w
            else .go (G (Frame.finish ⟨fn', tmps, .inRegion ops (i :: rest) :: k, defers, .run, .normal, roundOf⟩ undef) (c :: cs)) w) = _
          rw [if_neg hwant]
    | @code cd hcode =>
      cases cd with
      | skip => exact sh_pure _ _ fun w => rfl
      | label l => exact sh_pure _ _ fun w => rfl
      | seq a b => exact sh_pure _ _ fun w => rfl
      | cond o a b =>
        cases he : Frame.eval ⟨fn', tmps, .code (.cond o a b) :: k, defers, .run, .normal, roundOf⟩ o with
        | bool t => exact sh_pure (G ⟨fn', tmps, .code (if t then a else b) :: k, defers, .run, .normal, roundOf⟩ (c :: cs)) #[] fun w => by simp only [stepG.exec, he]; rfl
        | _ => exact sh_ended (by simp only [stepG.exec, he]; exact ⟨_, _, _, rfl⟩)
      | block id b => exact sh_pure _ _ fun w => rfl
      | loop b => exact sh_pure _ _ fun w => rfl
      | scope b => exact sh_pure _ _ fun w => rfl
      | exit id =>
        rcases hk2.exit (id := id) with ⟨n1, n2⟩ | ⟨q, q', s1, s2, hq⟩
        · cases hro with
          | none => exact sh_ended (by simp only [stepG.exec, n1, Option.elim_none]; exact ⟨_, _, _, rfl⟩)
          | @some l l' hl =>
            refine (leave_sh (P₀ := P₀) (m := m) (c := c) (cs := cs) (fr := ⟨fn', tmps, .code (.exit id) :: k, defers, .run, .normal, some l⟩) rfl hw (some (.exit id)) (by simp [hP.code, codeOk]) hl).congr fun w => ?_
            simp only [stepG.exec, n1, Option.elim_none]
            rfl
        · exact sh_pure (G ⟨fn', tmps, q, defers, .run, .normal, roundOf⟩ (c :: cs)) #[] fun w => by simp only [stepG.exec, s1, Option.elim_some]; rfl
      | goto id =>
        rcases hk2.goto (id := id) with ⟨n1, n2⟩ | ⟨q, q', s1, s2, hq⟩
        · cases hro with
          | none => exact sh_ended (by simp only [stepG.exec, n1, Option.elim_none]; exact ⟨_, _, _, rfl⟩)
          | @some l l' hl =>
            refine (leave_sh (P₀ := P₀) (m := m) (c := c) (cs := cs) (fr := ⟨fn', tmps, .code (.goto id) :: k, defers, .run, .normal, some l⟩) rfl hw (some (.goto id)) (by simp [hP.code, codeOk]) hl).congr fun w => ?_
            simp only [stepG.exec, n1, Option.elim_none]
            rfl
        · exact sh_pure (G ⟨fn', tmps, q, defers, .run, .normal, roundOf⟩ (c :: cs)) #[] fun w => by simp only [stepG.exec, s1, Option.elim_some]; rfl
      | ret =>
        cases hro with
        | none => exact sh_pure _ _ fun w => rfl
        | some hl => exact leave_sh (fr := ⟨fn', tmps, .code .ret :: k, defers, .run, .normal, some _⟩) rfl hw (some .ret) (by simp [hP.code, codeOk]) hl
      | region id ops draw =>
        cases draw with
        | false => exact sh_pure _ _ fun w => rfl
        | true =>
          have hq : (Question.order fn' id).forced = false := rfl
          refine ⟨?_, ?_⟩
          · simp only [stepG.exec, choose, Sem.run, hq, Bool.not_true, Bool.false_eq_true, if_false]
            exact .inl ⟨_, _, _, rfl⟩
          intro g2 V2 es h
          simp only [stepG.exec, choose, Sem.run, hq, Bool.not_true, Bool.false_eq_true, if_false, GStep.go.injEq] at h ⊢
          obtain ⟨rfl, rfl, rfl⟩ := h
          refine ⟨Nat.le_succ _, rfl, fun τ d hA => ?_⟩
          have : τ d (.order fn' id) = V.tape V.drawn (.order fn' id) := (hA 0 (by simp) _).symm
          simp only [re, this, true_and, and_true]
          simp
      | rangeFunc f params a b =>
        simp only [codeOk, Bool.and_eq_true] at hcode
        let FA : Nat → List Deferred → World → GStep := fun l mark w => stepG.apply P₀ true ⟨fn', tmps, .inRangeFunc l :: k, mark ++ defers, .run, .normal, roundOf⟩ (c :: cs) none (do let d ← resolve (Frame.eval ⟨fn', tmps, .inRangeFunc l :: k, mark ++ defers, .run, .normal, roundOf⟩) { callee := .value f, args := #[.const (.func (.yield l) #[] #[])], argTypes := #[] } 0; invoke d.target d.args) w
        have unf : ∀ w, stepG.exec P₀ m true ⟨fn', tmps, .code (.rangeFunc f params a b) :: k, defers, .run, .normal, roundOf⟩ (c :: cs) none w =
            (let (r, es) := (Instr.enterLoop fn' tmps params a b roundOf).runT P₀ w #[]; GStep.after (seen P₀ fn' es) <| match r with
              | .ok (l, mark) w => FA l mark w
              | .halt _ w => .ended (.stuck "range over a function: no such loop" (Frame.pos P₀ ⟨fn', tmps, .code (.rangeFunc f params a b) :: k, defers, .run, .normal, roundOf⟩)) w) := fun w => rfl
        refine Sh.congr ?_ unf
        generalize hrun : (Instr.enterLoop fn' tmps params a b roundOf).runT P₀ V #[] = x
        obtain ⟨r, e1⟩ := x
        have hR := sr_enterLoop (P₀ := P₀) (P := P) (str := str) fn' hi hf.tmps params ((hP.code a).trans hcode.1.2) ((hP.code b).trans hcode.2) hro
        have hS2 : ∀ {σ : Ren} {l l' : Nat} {mark mark' : List Deferred} {V' W' : World}, ρ.le σ → σ l = some l' → CdRel σ mark mark' → WRel ok str σ V' W' → Sh (FA l mark) V' := by
          intro σ l l' mark mark' V' W' h4 hl hmk hw'
          have hf2 : FrRel P ok σ ⟨fn', tmps, .inRangeFunc l :: k, mark ++ defers, .run, .normal, roundOf⟩ ⟨fn', tmps', .inRangeFunc l' :: k', mark' ++ defers', .run, .normal, roundOf'⟩ :=
            ⟨rfl, hi, hf.tmps.mono h4, .cons (.inRangeFunc hl) (hk2.mono h4), hmk.append (hf.defers.mono h4), .run, rfl, rfl, hro.mono h4⟩
          refine apply_sh (P := P) (s' := do let d ← resolve (Frame.eval ⟨fn', tmps', .inRangeFunc l' :: k', mark' ++ defers', .run, .normal, roundOf'⟩) { callee := .value f, args := #[.const (.func (.yield l') #[] #[])], argTypes := #[] } 0; invoke d.target d.args) ?_ hf2 hw'
          have hfv := hf2.eval f hcode.1.1
          have hy : VsRel ok σ #[.func (.yield l) #[] #[]] #[.func (.yield l') #[] #[]] := VsRel.nil.push (.func (.yield hl) rfl VsRel.nil.at_ rfl VsRel.nil.at_)
          unfold resolve
          dsimp only
          generalize Frame.eval ⟨fn', tmps, .inRangeFunc l :: k, mark ++ defers, .run, .normal, roundOf⟩ f = v at hfv
          generalize Frame.eval ⟨fn', tmps', .inRangeFunc l' :: k', mark' ++ defers', .run, .normal, roundOf'⟩ f = v' at hfv
          cases hfv with
          | func hfn e1 g1 e2 g2 =>
            refine sr_pbind ?_
            exact sr_invoke hP.tab hP.toCallable (.fn hfn ⟨e2, g2⟩) (by simp) (VsRel.append ⟨e1, g1⟩ (by simpa [Frame.eval] using hy))
          | nilFunc => exact sr_rt hP.tab .nilDeref rfl
          | hole _ => exact .dead _ _ fun V => invoke_hole hP.hole _ V
          | _ => exact .halt _ _
        refine ⟨?_, ?_⟩
        · simp only [hrun]
          rcases hR.sound #[] #[] hw hrun with hst | ⟨σ, r', V', W', d', h1, h2, h4, h5⟩
          · cases r with
            | ok a w => cases hst
            | halt hh w => exact .inr ⟨_, _, _, rfl⟩
          · cases h2 with
            | panic _ _ => exact .inr ⟨_, _, _, rfl⟩
            | @ok j j' V' W' hv hw' =>
              exact after_kind (hS2 h4.le hv.1 hv.2 hw').1
        intro g2 V2 es h'
        simp only [hrun] at h'
        rcases hR.sound #[] #[] hw hrun with hst | ⟨σ, r', V', W', d', h1, h2, h4, h5⟩
        · exfalso
          cases r with
          | ok a w => cases hst
          | halt hh w => exact ended_after h'
        · rcases hR.shift #[] hw hrun with hst | ⟨s1, s2, s3⟩
          · exfalso
            cases r with
            | ok a w => cases hst
            | halt hh w => exact ended_after h'
          · cases h2 with
            | panic _ _ => exact (ended_after h').elim
            | @ok j j' V' W' hv hw' =>
              obtain ⟨l, mark⟩ := j
              obtain ⟨l', mark'⟩ := j'
              obtain ⟨hl, hmk⟩ := hv
              obtain ⟨es3, h3⟩ := after_go h'
              have h3 : FA l mark V' = .go g2 V2 es3 := h3
              obtain ⟨q1, q2, q3⟩ := (hS2 h4.le hl hmk hw').2 g2 V2 es3 h3
              simp only [worldOf] at s1 s2 s3
              have he : es = seen P₀ fn' e1 ++ es3 := by
                have := h'
                simp only at this
                rw [h3] at this
                simp only [GStep.after, GStep.go.injEq, true_and] at this
                exact this.symm
              refine ⟨by omega, by rw [q2, s2], fun τ d hA => ?_⟩
              have hA1 : Agree V.tape V.drawn τ d (V'.drawn - V.drawn) := hA.less (by omega)
              have hA2 : Agree V'.tape V'.drawn τ (d + (V'.drawn - V.drawn)) (V2.drawn - V'.drawn) := by
                have : Agree V.tape V.drawn τ d ((V'.drawn - V.drawn) + (V2.drawn - V'.drawn)) := hA.less (by omega)
                have := this.tail
                rw [show V.drawn + (V'.drawn - V.drawn) = V'.drawn by omega] at this
                rw [s2]; exact this
              have z1 := s3 τ d hA1
              have z2 := q3 τ (d + (V'.drawn - V.drawn)) hA2
              simp only [z1, reR]
              rw [z2, he, show d + (V'.drawn - V.drawn) + (V2.drawn - V'.drawn) = d + (V2.drawn - V.drawn) by omega]
              rfl
      | refuse w => cases hcode
theorem unwind_sh (hP : Pair P₀ P ok) {m : Bool} {fr fr' c : Frame} {cs : List Frame} (hf : FrRel P ok ρ fr fr') (hw : WRel ok str ρ V W) (hm : fr.mode ≠ .run) : Sh (fun w => unwind P₀ m fr (c :: cs) none w) V := by
  obtain ⟨fn, tmps, todo, defers, mode, kind, roundOf⟩ := fr
  obtain ⟨fn', tmps', todo', defers', mode', kind', roundOf'⟩ := fr'
  have hfn := hf.fn
  have hk := hf.kind
  have hm' := hf.mode
  have hi := hf.inn
  have hd := hf.defers
  simp only at hfn hk hm hm' hi hd
  subst hk hfn
  obtain ⟨F, cd, f1, f2, f3, f4⟩ := hP.same fn' hi
  cases hd with
  | @cons r0 r0' ds ds' hr hds =>
    refine sh_tree (P₀ := P₀) (P := P) (E := fun es => seen P₀ fn' es) (k := fun j => G ⟨fn', tmps, todo, j ++ ds, mode, .normal, roundOf⟩ (c :: cs)) (kp := fun _ => none) (sr_take (ok := ok) hr) hw ?_ ?_ ?_
    · intro w a w' es h
      simp only [unwind, h, GStep.after]
      simp [G]
    · intro w v w' es h
      simp only [unwind, h, GStep.after]
      exact ⟨_, _, _, rfl⟩
    · intro w r es h hst
      cases r with
      | ok a w => cases hst
      | halt hh w => simp only [unwind, h, GStep.after]; exact ⟨_, _, _, rfl⟩
  | nil =>
    cases hm' with
    | run => exact absurd rfl hm
    | @panicking ch ch' =>
      have c1 : Frame.catches P₀ ⟨fn', tmps, todo, [], .panicking ch, .normal, roundOf⟩ = false := by simp [Frame.catches, f1]
      refine sh_pure (G (c.raise ch) cs) #[] fun w => ?_
      simp only [unwind, c1, Bool.false_eq_true, if_false]
      rfl
    | returning =>
      refine sh_tree (P₀ := P₀) (P := P) (E := fun es => seen P₀ fn' es) (k := fun v => G (c.finish v) cs) (kp := fun _ => none) (sr_results hP.tab F hf.tmps) hw ?_ ?_ ?_
      · intro w a w' es h
        simp only [unwind, f1, h, GStep.after, doReturn]
        simp [G]
      · intro w v w' es h
        simp only [unwind, f1, h, GStep.after]
        exact ⟨_, _, _, rfl⟩
      · intro w r es h hst
        cases r with
        | ok a w => cases hst
        | halt hh w => cases hh <;> (simp only [unwind, f1, h, GStep.after]; exact ⟨_, _, _, rfl⟩)
theorem step_sh (hP : Pair P₀ P ok) {m : Bool} {fr fr' c : Frame} {cs : List Frame} (hf : FrRel P ok ρ fr fr') (hw : WRel ok str ρ V W) : Sh (fun w => stepG P₀ m (G fr (c :: cs)) w) V := by
  by_cases hm : fr.mode = .run
  · exact (exec_sh hP hf hw hm).congr fun w => stepG_run hm
  · exact (unwind_sh hP hf hw hm).congr fun w => stepG_unw hm
end
end Go.Proofs.YtlmcblcijndipabGreat

namespace Go.Proofs.YtlmcblcijndipabGreat
open Go Go.Conc
variable [Gl]
structure St where
  fr : Frame
  cs : List Frame
  V : World
def St.re (s : St) (τ : Nat → Question → Nat) (d : Nat) : St := ⟨s.fr, s.cs, Proofs.YtlmcblcijndipabGreat.re s.V τ d⟩
section
variable (P₀ : Program) (c : Frame) (Q : Value → World → Prop)
def Ends (s : St) : Prop := s.cs = [] ∧ ∃ v, s.fr.leaving P₀ s.V (.returned v) ∧ Q v s.V
def Goes1 (s s' : St) : Prop := ∃ es, stepG P₀ true (G s.fr (s.cs ++ [c])) s.V = .go (G s'.fr (s'.cs ++ [c])) s'.V es
def FinN : Nat → St → Prop
  | 0, s => Ends P₀ Q s
  | n + 1, s => ∃ s', Goes1 P₀ c s s' ∧ FinN n s'
def Succ (s' s : St) : Prop := ∃ τ d, Goes1 P₀ c (s.re τ d) s'
def H (s : St) : Prop := ∀ τ d, ∃ n, FinN P₀ c Q n (s.re τ d)
end
def Self (P₀ : Program) (ok : Ctx) (s : St) : Prop := ∃ ρ, FrRel P₀ ok ρ s.fr s.fr ∧ FsRel P₀ ok ρ s.cs s.cs ∧ Bot s.fr s.cs ∧ WRel ok true ρ s.V s.V
structure Floor (P₀ : Program) (c : Frame) : Prop where
  ret : ∀ v w, ∃ o w' es, stepG P₀ true (G (c.finish v) []) w = .ended o w' es
  pan : ∀ ch w, ∃ o w' es, stepG P₀ true (G (c.raise ch) []) w = .ended o w' es
section
variable {P₀ : Program} {ok : Ctx} {c : Frame} {Q : Value → World → Prop}
theorem Self.re {s : St} (h : Self P₀ ok s) (τ : Nat → Question → Nat) (d : Nat) : Self P₀ ok (s.re τ d) := by
  obtain ⟨ρ, h1, h2, h3, h4⟩ := h
  exact ⟨ρ, h1, h2, h3, h4.heap, rfl, rfl, h4.gV, h4.gW⟩
def Edge (s : St) : Prop := s.cs = [] ∧ s.fr.mode ≠ .run ∧ s.fr.defers = []
theorem edge_step (hP : Pair P₀ P₀ ok) {s : St} (hs : Self P₀ ok s) (he : Edge s) {g2 : Goroutine} {V2 : World} {es : Array Event} (h : stepG P₀ true (G s.fr (s.cs ++ [c])) s.V = .go g2 V2 es) :
    (∃ v, g2 = G (c.finish v) []) ∨ ∃ ch, g2 = G (c.raise ch) [] := by
  obtain ⟨ρ, h1, _, _, _⟩ := hs
  obtain ⟨fr, cs, V⟩ := s
  obtain ⟨e1, e2, e3⟩ := he
  simp only at e1 e2 e3 h h1
  subst e1
  rw [stepG_unw e2] at h
  obtain ⟨F, cd, f1, _⟩ := hP.same _ h1.inn
  have hm := h1.mode
  have hk := h1.kind
  obtain ⟨fn, tmps, todo, defers, mode, kind, roundOf⟩ := fr
  simp only at e2 e3 hm hk f1
  subst e3 hk
  cases mode with
  | run => exact absurd rfl e2
  | panicking ch =>
    have c1 : Frame.catches P₀ ⟨fn, tmps, todo, [], .panicking ch, .normal, roundOf⟩ = false := by simp [Frame.catches, f1]
    simp only [unwind, c1, List.nil_append, Bool.false_eq_true, if_false, GStep.go.injEq] at h
    exact .inr ⟨ch, h.1.symm⟩
  | returning =>
    simp only [unwind, f1, List.nil_append] at h
    obtain ⟨es3, h3⟩ := after_go h
    generalize (results F tmps).runT P₀ V #[] = x at h3
    obtain ⟨r, e⟩ := x
    cases r with
    | ok v w =>
      simp only [doReturn, GStep.go.injEq] at h3
      exact .inl ⟨v, h3.1.symm⟩
    | halt hh w => cases hh <;> cases h3
theorem Goes1.inside (hP : Pair P₀ P₀ ok) {s s' : St} (hs : Self P₀ ok s) (h : Goes1 P₀ c s s') : ¬ Edge s := by
  intro he
  obtain ⟨es, h⟩ := h
  rcases edge_step hP hs he h with ⟨v, e⟩ | ⟨ch, e⟩
  · have := congrArg Goroutine.callers e
    simp [G] at this
  · have := congrArg Goroutine.callers e
    simp [G] at this
theorem self_step (hP : Pair P₀ P₀ ok) (hin : ∀ f, ok.fn f = true → ok.inn f = true) {s : St} (hs : Self P₀ ok s) (he : ¬ Edge s) {g2 : Goroutine} {V2 : World} {es : Array Event} (h : stepG P₀ true (G s.fr (s.cs ++ [c])) s.V = .go g2 V2 es) :
    ∃ s' : St, g2 = G s'.fr (s'.cs ++ [c]) ∧ V2 = s'.V ∧ Self P₀ ok s' := by
  obtain ⟨ρ, h1, h2, h3, h4⟩ := hs
  obtain ⟨σ, g2', W2, es2, e, hg, hw, _, _⟩ := step_sim (lb := [c]) (rb := [c]) (m₁ := true) hP h1 h2 h3 h4 (fun a b => fun d => he ⟨a, b, d⟩) h
  rw [h] at e
  simp only [GStep.go.injEq] at e
  obtain ⟨rfl, rfl, _⟩ := e
  generalize hg2 : g2 = g2' at hg
  have hg' : GoRel P₀ P₀ ok σ [c] [c] g2 g2' := by rw [hg2] at *; exact hg
  clear hg
  cases hg' with
  | @inside fr fr' cs cs' a1 a2 a3 =>
    have e1 := congrArg Goroutine.frame hg2
    have e2 := congrArg Goroutine.callers hg2
    simp only [G] at e1 e2
    have e2 : cs = cs' := List.append_cancel_right e2
    subst e1 e2
    exact ⟨⟨fr, cs, V2⟩, rfl, rfl, σ, a1, a2, a3, hw⟩
  | door a1 a2 => rw [hin _ a1] at a2; cases a2
theorem Goes1.self (hP : Pair P₀ P₀ ok) (hin : ∀ f, ok.fn f = true → ok.inn f = true) {s s' : St} (hs : Self P₀ ok s) (h : Goes1 P₀ c s s') : Self P₀ ok s' := by
  have hi := h.inside hP hs
  obtain ⟨es, h⟩ := h
  obtain ⟨s2, e1, e2, h2⟩ := self_step hP hin hs hi h
  obtain ⟨fr, cs, V⟩ := s'
  obtain ⟨fr2, cs2, V2⟩ := s2
  have e3 := congrArg Goroutine.frame e1
  have e4 := congrArg Goroutine.callers e1
  simp only [G] at e3 e4 e2
  have e4 : cs = cs2 := List.append_cancel_right e4
  subst e3 e4 e2
  exact h2
theorem Goes1.sh (hP : Pair P₀ P₀ ok) {s s' : St} (hs : Self P₀ ok s) (h : Goes1 P₀ c s s') : s.V.drawn ≤ s'.V.drawn ∧ s'.V.tape = s.V.tape ∧
    ∀ τ d, Agree s.V.tape s.V.drawn τ d (s'.V.drawn - s.V.drawn) → Goes1 P₀ c (s.re τ d) (s'.re τ (d + (s'.V.drawn - s.V.drawn))) := by
  obtain ⟨ρ, h1, h2, h3, h4⟩ := hs
  obtain ⟨es, h⟩ := h
  cases hcs : s.cs ++ [c] with
  | nil => simp at hcs
  | cons a l =>
    have := (step_sh (m := true) (c := a) (cs := l) hP h1 h4).2 _ _ _ (by rw [← hcs]; exact h)
    refine ⟨this.1, this.2.1, fun τ d hA => ⟨es, ?_⟩⟩
    have := this.2.2 τ d hA
    simp only [St.re]
    rw [hcs]
    exact this
end
end Go.Proofs.YtlmcblcijndipabGreat

namespace Go.Proofs.YtlmcblcijndipabGreat
open Go Go.Conc
variable [Gl]
section
variable {P₀ : Program} {ok : Ctx} {c : Frame} {Q : Value → World → Prop}
theorem Ends.re (hP : Pair P₀ P₀ ok) (hQ : ∀ v w τ d, Q v w → Q v (re w τ d)) {s : St} (hs : Self P₀ ok s) (h : Ends P₀ Q s) (τ : Nat → Question → Nat) (d : Nat) : Ends P₀ Q (s.re τ d) := by
  obtain ⟨h1, v, ⟨l1, l2, l3, fn, l4, l5⟩, h2⟩ := h
  obtain ⟨ρ, r1, _, _, r4⟩ := hs
  refine ⟨h1, v, ⟨l1, l2, l3, fn, l4, ?_⟩, hQ _ _ _ _ h2⟩
  have hR := sr_results (P₀ := P₀) (P := P₀) (str := true) hP.tab fn r1.tmps
  generalize hx : (results fn s.fr.tmps).runT P₀ s.V #[] = x
  obtain ⟨r, e1⟩ := x
  have hr : r = .ok v s.V := by
    have := Sem.runT_fst P₀ (results fn s.fr.tmps) s.V #[]
    rw [hx, l5] at this
    exact this
  subst hr
  rcases hR.shift #[] r4 hx with hst | ⟨_, _, h3⟩
  · cases hst
  · have := h3 τ d (by intro i hi; simp [worldOf] at hi)
    have h4 := Sem.runT_fst P₀ (results fn s.fr.tmps) (Proofs.YtlmcblcijndipabGreat.re s.V τ d) #[]
    rw [this] at h4
    show (results fn s.fr.tmps).run P₀ (Proofs.YtlmcblcijndipabGreat.re s.V τ d) = .ok v (Proofs.YtlmcblcijndipabGreat.re s.V τ d)
    rw [← h4]
    simp [reR, worldOf, Proofs.YtlmcblcijndipabGreat.re]
theorem FinN.shift (hP : Pair P₀ P₀ ok) (hin : ∀ f, ok.fn f = true → ok.inn f = true) (hQ : ∀ v w τ d, Q v w → Q v (re w τ d)) : ∀ (n : Nat) {s : St}, Self P₀ ok s → FinN P₀ c Q n s → ∀ τ d, (∀ i q, s.V.tape (s.V.drawn + i) q = τ (d + i) q) → FinN P₀ c Q n (s.re τ d) := by
  intro n
  induction n with
  | zero => intro s hs h τ d _; exact Ends.re hP hQ hs h τ d
  | succ n ih =>
    intro s hs h τ d hA
    obtain ⟨s', h1, h2⟩ := h
    obtain ⟨k1, k2, k3⟩ := h1.sh hP hs
    refine ⟨_, k3 τ d (fun i _ q => hA i q), ih (h1.self hP hin hs) h2 τ _ fun i q => ?_⟩
    rw [k2]
    have := hA (s'.V.drawn - s.V.drawn + i) q
    rw [show s.V.drawn + (s'.V.drawn - s.V.drawn + i) = s'.V.drawn + i by omega] at this
    rw [this]
    congr 1
    omega
omit [Gl] in
theorem Goes1.det {s s1 s2 : St} (h1 : Goes1 P₀ c s s1) (h2 : Goes1 P₀ c s s2) : s1 = s2 := by
  obtain ⟨_, h1⟩ := h1
  obtain ⟨_, h2⟩ := h2
  rw [h1] at h2
  simp only [GStep.go.injEq] at h2
  obtain ⟨e, e2, _⟩ := h2
  have e3 := congrArg Goroutine.frame e
  have e4 := congrArg Goroutine.callers e
  simp only [G] at e3 e4
  replace e4 := List.append_cancel_right e4
  obtain ⟨a, b, d⟩ := s1
  obtain ⟨a', b', d'⟩ := s2
  simp only at e2 e3 e4
  subst e2 e3 e4
  rfl
omit [Gl] in
theorem ends_edge {s : St} (hs : Ends P₀ Q s) : Edge s := by
  obtain ⟨h1, v, ⟨l1, l2, _⟩, _⟩ := hs
  exact ⟨h1, by rw [l1]; simp, l2⟩
theorem H.succ (hP : Pair P₀ P₀ ok) (hin : ∀ f, ok.fn f = true → ok.inn f = true) (hQ : ∀ v w τ d, Q v w → Q v (re w τ d)) {s s' : St} (hs : Self P₀ ok s) (hH : H P₀ c Q s) (h : Succ P₀ c s' s) : H P₀ c Q s' ∧ Self P₀ ok s' := by
  obtain ⟨τ, d, h⟩ := h
  have hs1 := hs.re τ d
  obtain ⟨k1, k2, k3⟩ := h.sh hP hs1
  have hself := h.self hP hin hs1
  refine ⟨fun τ' d' => ?_, hself⟩
  have k1' : d ≤ s'.V.drawn := k1
  let t2 : Nat → Question → Nat := fun i q => if i < s'.V.drawn then τ i q else τ' (d' + (i - s'.V.drawn)) q
  have hA : Agree (s.re τ d).V.tape (s.re τ d).V.drawn t2 d (s'.V.drawn - (s.re τ d).V.drawn) := by
    intro i hi q
    show τ (d + i) q = t2 (d + i) q
    simp only [t2]
    have hi' : i < s'.V.drawn - d := hi
    rw [if_pos (by omega)]
  have h2 := k3 t2 d hA
  obtain ⟨n, hn⟩ := hH t2 d
  have e1 : (s.re τ d).re t2 d = s.re t2 d := rfl
  rw [e1] at h2
  cases n with
  | zero => exact absurd (ends_edge hn) (h2.inside hP (hs.re t2 d))
  | succ n =>
    obtain ⟨s2, g1, g2⟩ := hn
    have := g1.det h2
    subst this
    refine ⟨n, ?_⟩
    have e2 : d + (s'.V.drawn - (s.re τ d).V.drawn) = s'.V.drawn := by show d + (s'.V.drawn - d) = _; omega
    rw [e2] at g2
    have := FinN.shift hP hin hQ n (hself.re t2 s'.V.drawn) g2 τ' d' (fun i q => by
      show t2 (s'.V.drawn + i) q = τ' (d' + i) q
      simp only [t2]
      rw [if_neg (by omega)]
      congr 1
      omega)
    exact this
omit [Gl] in
theorem chain_of_not_acc {s : St} (h : ¬ Acc (Succ P₀ c) s) : ∃ f : Nat → St, f 0 = s ∧ ∀ n, Succ P₀ c (f (n + 1)) (f n) := by
  have step : ∀ s : { s : St // ¬ Acc (Succ P₀ c) s }, ∃ s' : { s : St // ¬ Acc (Succ P₀ c) s }, Succ P₀ c s'.1 s.1 := by
    intro ⟨s, hs⟩
    apply Classical.byContradiction
    intro hn
    apply hs
    refine ⟨_, fun y hy => ?_⟩
    apply Classical.byContradiction
    intro hy'
    exact hn ⟨⟨y, hy'⟩, hy⟩
  let g : Nat → { s : St // ¬ Acc (Succ P₀ c) s } := fun n => Nat.rec ⟨s, h⟩ (fun _ x => (step x).choose) n
  exact ⟨fun n => (g n).1, rfl, fun n => (step (g n)).choose_spec⟩
omit [Gl] in
theorem one_tape (D : Nat → Nat) (hD : ∀ n, D n ≤ D (n + 1)) (t : Nat → Nat → Question → Nat) : ∃ T : Nat → Question → Nat, ∀ n j q, D n + j < D (n + 1) → T (D n + j) q = t n j q := by
  have mono : ∀ n k, D n ≤ D (n + k) := by
    intro n k
    induction k with
    | zero => exact Nat.le_refl _
    | succ k ih => exact Nat.le_trans ih (hD (n + k))
  have hmin : ∀ p, (∃ n, p < D (n + 1)) → ∃ n, p < D (n + 1) ∧ ∀ m, m < n → ¬ p < D (m + 1) := by
    intro p ⟨n, hn⟩
    induction n using Nat.strongRecOn with
    | ind n ih =>
      by_cases h : ∃ m, m < n ∧ p < D (m + 1)
      · obtain ⟨m, h1, h2⟩ := h
        exact ih m h1 h2
      · exact ⟨n, hn, fun m hm hp => h ⟨m, hm, hp⟩⟩
  classical
  refine ⟨fun p q => if h : ∃ n, p < D (n + 1) then t (hmin p h).choose (p - D (hmin p h).choose) q else 0, fun n j q hj => ?_⟩
  have h : ∃ n', D n + j < D (n' + 1) := ⟨n, hj⟩
  simp only [dif_pos h]
  have hs := (hmin (D n + j) h).choose_spec
  have : (hmin (D n + j) h).choose = n := by
    generalize (hmin (D n + j) h).choose = m at hs
    rcases Nat.lt_trichotomy m n with hl | rfl | hg
    · have h1 := hs.1
      have h2 := mono (m + 1) (n - (m + 1))
      rw [show m + 1 + (n - (m + 1)) = n by omega] at h2
      omega
    · rfl
    · exact absurd hj (hs.2 n hg)
  rw [this]
  congr 1
  omega
theorem acc_of_H (hP : Pair P₀ P₀ ok) (hin : ∀ f, ok.fn f = true → ok.inn f = true) (hQ : ∀ v w τ d, Q v w → Q v (re w τ d)) {s : St} (hs : Self P₀ ok s) (hH : H P₀ c Q s) : Acc (Succ P₀ c) s := by
  apply Classical.byContradiction
  intro hn
  obtain ⟨f, f0, hf⟩ := chain_of_not_acc hn
  have all : ∀ n, H P₀ c Q (f n) ∧ Self P₀ ok (f n) := by
    intro n
    induction n with
    | zero => rw [f0]; exact ⟨hH, hs⟩
    | succ n ih => exact H.succ hP hin hQ ih.2 ih.1 (hf n)
  let τ : Nat → Nat → Question → Nat := fun n => (hf n).choose
  let d : Nat → Nat := fun n => (hf n).choose_spec.choose
  have g : ∀ n, Goes1 P₀ c ((f n).re (τ n) (d n)) (f (n + 1)) := fun n => (hf n).choose_spec.choose_spec
  let D : Nat → Nat := fun n => Nat.rec 0 (fun n x => x + ((f (n + 1)).V.drawn - d n)) n
  have hD : ∀ n, D (n + 1) = D n + ((f (n + 1)).V.drawn - d n) := fun n => rfl
  obtain ⟨T, hT⟩ := one_tape D (fun n => by rw [hD]; omega) (fun n j q => τ n (d n + j) q)
  have go : ∀ n, Goes1 P₀ c ((f n).re T (D n)) ((f (n + 1)).re T (D (n + 1))) := by
    intro n
    obtain ⟨_, _, k3⟩ := (g n).sh hP ((all n).2.re (τ n) (d n))
    have := k3 T (D n) (fun i hi q => by
      show τ n (d n + i) q = T (D n + i) q
      have hi' : i < (f (n + 1)).V.drawn - d n := hi
      rw [hT n i q (by rw [hD]; omega)])
    rw [hD]
    exact this
  have none_ : ∀ N n, ¬ FinN P₀ c Q N ((f n).re T (D n)) := by
    intro N
    induction N with
    | zero => intro n h; exact absurd (ends_edge h) ((go n).inside hP ((all n).2.re T (D n)))
    | succ N ih =>
      intro n h
      obtain ⟨s', h1, h2⟩ := h
      have := h1.det (go n)
      subst this
      exact ih (n + 1) h2
  obtain ⟨N, hN⟩ := hH T 0
  rw [← f0] at hN
  exact none_ N 0 hN
theorem H.step (hP : Pair P₀ P₀ ok) (hin : ∀ f, ok.fn f = true → ok.inn f = true) (hQ : ∀ v w τ d, Q v w → Q v (re w τ d)) {s : St} (hs : Self P₀ ok s) (hH : H P₀ c Q s) (τ : Nat → Question → Nat) (d : Nat) :
    (Edge s ∧ Ends P₀ Q (s.re τ d)) ∨ (¬ Edge s ∧ ∃ s', Goes1 P₀ c (s.re τ d) s' ∧ Succ P₀ c s' s ∧ H P₀ c Q s' ∧ Self P₀ ok s') := by
  obtain ⟨n, hn⟩ := hH τ d
  cases n with
  | zero => exact .inl ⟨ends_edge (s := s.re τ d) hn, hn⟩
  | succ n =>
    obtain ⟨s', h1, _⟩ := hn
    have h2 := H.succ hP hin hQ hs hH ⟨τ, d, h1⟩
    exact .inr ⟨fun he => h1.inside hP (hs.re τ d) he, s', h1, ⟨τ, d, h1⟩, h2⟩
omit [Gl] in
theorem step_of_go {P : Program} {fr fr2 : Frame} {cs cs2 : List Frame} {w w2 : World} {es : Array Event} (h : stepG P true (G fr cs) w = .go (G fr2 cs2) w2 es) : step P (lone fr cs w) = .next (lone fr2 cs2 w2) := by
  refine step_lone_go ?_
  have : ({ frame := fr, callers := cs, status := .running, dying := none } : Goroutine) = G fr cs := rfl
  rw [this, h]
  rfl
omit [Gl] in
theorem step_of_ended {P : Program} {fr : Frame} {cs : List Frame} {w w2 : World} {o : Outcome} {es : Array Event} (h : stepG P true (G fr cs) w = .ended o w2 es) : step P (lone fr cs w) = .ended o w2 := by
  refine step_lone_ended ?_
  have : ({ frame := fr, callers := cs, status := .running, dying := none } : Goroutine) = G fr cs := rfl
  rw [this, h]
  rfl
omit [Gl] in
theorem lone_inj {fr fr2 : Frame} {cs cs2 : List Frame} {w w2 : World} (h : lone fr cs w = lone fr2 cs2 w2) : fr = fr2 ∧ cs = cs2 ∧ w = w2 := by
  simp only [lone, Machine.mk.injEq, Array.mk.injEq, List.cons.injEq, Goroutine.mk.injEq, and_true] at h
  exact ⟨h.2.1, h.2.2, h.1⟩
theorem fin_of_run (hP : Pair P₀ P₀ ok) (hin : ∀ f, ok.fn f = true → ok.inn f = true) (hF : Floor P₀ c) {frE : Frame} {wE : World} {v : Value} (hl : frE.leaving P₀ wE (.returned v)) (hq : Q v wE) :
    ∀ (n : Nat) {s : St}, Self P₀ ok s → runN P₀ n (lone s.fr (s.cs ++ [c]) s.V) = .next (lone frE [c] wE) → ∃ k, FinN P₀ c Q k s := by
  intro n
  induction n with
  | zero =>
    intro s hs h
    simp only [runN, Stepped.next.injEq] at h
    obtain ⟨e1, e2, e3⟩ := lone_inj h
    have e2 : s.cs = [] := by
      have := congrArg List.length e2
      simpa using this
    refine ⟨0, e2, v, ?_, ?_⟩
    · rw [e1, e3]; exact hl
    · rw [e3]; exact hq
  | succ n ih =>
    intro s hs h
    obtain ⟨ρ, h1, h2, h3, h4⟩ := hs
    have hs : Self P₀ ok s := ⟨ρ, h1, h2, h3, h4⟩
    have hk : (∃ g2 V2 es, stepG P₀ true (G s.fr (s.cs ++ [c])) s.V = .go g2 V2 es) ∨ ∃ o w es, stepG P₀ true (G s.fr (s.cs ++ [c])) s.V = .ended o w es := by
      cases hcs : s.cs ++ [c] with
      | nil => simp at hcs
      | cons a l => exact (step_sh (m := true) (c := a) (cs := l) hP h1 h4).1
    simp only [runN] at h
    rcases hk with ⟨g2, V2, es, hg⟩ | ⟨o, w, es, hg⟩
    · by_cases he : Edge s
      · exfalso
        have fin : ∀ fr2, g2 = G fr2 [] → (∀ w, ∃ o w' es, stepG P₀ true (G fr2 []) w = .ended o w' es) → False := by
          intro fr2 e hend
          subst e
          rw [step_of_go hg] at h
          simp only at h
          cases n with
          | zero =>
            simp only [runN, Stepped.next.injEq] at h
            obtain ⟨_, e2, _⟩ := lone_inj h
            cases e2
          | succ n =>
            obtain ⟨o, w', es', hh⟩ := hend V2
            simp only [runN, step_of_ended hh] at h
            cases h
        rcases edge_step hP hs he hg with ⟨v, e⟩ | ⟨ch, e⟩
        · exact fin _ e (hF.ret v)
        · exact fin _ e (hF.pan ch)
      · obtain ⟨s', e1, e2, h5⟩ := self_step hP hin hs he hg
        subst e1 e2
        rw [step_of_go hg] at h
        obtain ⟨k, hk⟩ := ih h5 h
        exact ⟨k + 1, s', ⟨es, hg⟩, hk⟩
    · rw [step_of_ended hg] at h
      cases h
theorem H_of_calls (hP : Pair P₀ P₀ ok) (hin : ∀ f, ok.fn f = true → ok.inn f = true) (hF : Floor P₀ c) {f : FuncId} {xs : Array Value} {V : World} (hs : Self P₀ ok ⟨Frame.enter P₀ f xs .normal, [], V⟩)
    (hC : ∀ τ d, Calls P₀ f xs (re V τ d) fun e w' => ∃ v, e = .returned v ∧ Q v w') : H P₀ c Q ⟨Frame.enter P₀ f xs .normal, [], V⟩ := by
  intro τ d
  obtain ⟨e, w', fr, ⟨v, rfl, hq⟩, ⟨n, hn⟩, _, hl⟩ := hC τ d [c]
  exact fin_of_run hP hin hF hl hq n (hs.re τ d) hn
end
end Go.Proofs.YtlmcblcijndipabGreat
