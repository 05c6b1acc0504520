import Derived.Test.YtlmcblcijndipabGreatDoorDr01
import Derived.Conc.Own
set_option maxHeartbeats 1000000
namespace Go.Proofs.YtlmcblcijndipabGreatDoor
open Go
variable [Gl]
inductive iG (ok:Ctx)(ρ:Ren):Next->Next->Prop
 |value {v v':Value}:ah ok ρ v v'->iG ok ρ (.value v) (.value v')
 |skip:iG ok ρ .skip .skip
 |enter (f:FuncId) {xs xs':Array Value}:ok.fn f=true->an ok ρ xs xs'->iG ok ρ (.enter f xs) (.enter f xs')
 |round {l l':Nat} (f:FuncId) {xs xs':Array Value} {a b:Code}:ρ l=some l'->ok.inn f=true->an ok ρ xs xs'->ok.code a=true->ok.code b=true->iG ok ρ (.round l f xs a b) (.round l' f xs' a b)
structure Callable (P₀ P:Program)(ok:Ctx):Prop where
 left:∀f,ok.fn f=true->∃fn,P₀.funcs[f]?=some fn/\fn.body.isSome=true/\(fn.name== "runtime.NumGoroutine")=false
 right:∀f,ok.fn f=true->∃fn,P.funcs[f]?=some fn/\fn.body.isSome=true/\(fn.name== "runtime.NumGoroutine")=false
 hole:P₀.info? 1000000000=none
def ca (fn:FuncId->Bool):Operand->Bool
 |.tmp _=>true
 |.const v=>qi v
 |.global _=>false
 |.func f=>fn f
def qn (P:Program)(s:TypeId)(f:Nat):Bool:=
 match P.underlying s with
 |some (.struct fs)=>(match fs[f]? with|some x=>(match P.info? x.type with|some i=>i.size !=0|none=>true)|none=>true)
 |_=>true
def jm:Builtin->Bool
 |.len|.cap|.max|.min=>true
 |_=>false
def kA (P:Program)(ts:Array TypeId)(b:Builtin):Bool:=jm b||(b==.append&&xI P ts)||(b==.clear&&xJ P ts)
def tI (P:Program)(ok:FuncId->Bool)(c:Call):Bool:=
 (match c.callee with|.builtin b=>kA P c.argTypes b|.value f=>ca ok f|.invoke r n=>ca ok r&&mY P ok n)&&c.args.all (ca ok)
def CK (ok:FuncId->Bool):Fn->Bool
 |.func f=>ok f
 |_=>false
def pi (P:Program)(t:TypeId):Bool:=
 match P.underlying t with
 |some .string=>true
 |_=>false
def rL (P:Program)(t:TypeId):Bool:=
 match P.underlying t with
 |some (.int _)=>true
 |_=>false
def qo (P:Program)(t:TypeId):Bool:=
 match P.underlying t with
 |some (.slice e)=>(match P.underlying e with|some (.int .u8)=>true|_=>false)
 |_=>false
def fO (P:Program)(ok:FuncId->Bool):Op->Bool
 |.move x|.assign x=>ca ok x
 |.pick c a b=>ca ok c&&ca ok a&&ca ok b
 |.alloc t=>uS P t
 |.box _ x=>ca ok x
 |.build t parts=>uS P t&&parts.all (λx=>ca ok x.2)
 |.buildSlice t _ parts=>rA P t&&parts.all (λx=>ca ok x.2)
 |.load _ a=>ca ok a
 |.store _ a x=>ca ok a&&ca ok x
 |.binOp op t x y _=>(jE P op t||pg P op t y)&&ca ok x&&ca ok y
 |.unOp _ _ x=>ca ok x
 |.makeFunc f a b=>CK ok f&&a.all (ca ok)&&b.all (ca ok)
 |.makeSlice t l c=>rA P t&&ca ok l&&ca ok c
 |.slice _ x a b c=>ca ok x&&a.all (ca ok)&&b.all (ca ok)&&c.all (ca ok)
 |.fieldAddr s x f=>qn P s f&&ca ok x
 |.field _ x _=>ca ok x
 |.indexAddr _ x i=>ca ok x&&ca ok i
 |.index _ x i=>ca ok x&&ca ok i
 |.extract x _=>ca ok x
 |.call c=>tI P ok c
 |.nilCheck x=>ca ok x
 |.convert a b x=>((rL P a&&rL P b)||(qo P a&&pi P b))&&ca ok x
 |.range t x=>pi P t&&ca ok x
 |.next it b=>b&&ca ok it
 |.makeInterface _ x=>ca ok x
 |.typeAssert x _ t c=>c&&uS P t&&ca ok x
 |_=>false
section
variable {P₀ P:Program}{ok:Ctx}{str:Bool}{ρ:Ren}
theorem A4 (hT:P₀.toTables=P.toTables)(ts:Array TypeId)(t:TypeId){xs xs':Array Value}(h:an ok ρ xs xs'):aa P₀ P ok str (λσ x y=>ah ok σ x y) ρ (Builtin.len_ ts t xs) (Builtin.len_ ts t xs'):=by
 unfold Builtin.len_;cases ht:ts[0]? with
 |none=>cases hx:xs[0]?<;>exact .halt _ _
 |some t=>
  cases hx:xs[0]? with
  |none=>exact .halt _ _
  |some x=>
   obtain⟨x',hx',r⟩:=h.get hx;rw[hx'];refine ab _ (ai hT t) ?_;rintro σ d _ l ⟨rfl,_⟩;have r:=r.mono l;cases d with
   |string=>cases r<;>first|exact ac (.int _ _)|exact .halt _ _
   |array n e=>exact ac (.int _ _)
   |pointer a=>
    refine ab _ (ai hT a) ?_;rintro τ d _ l ⟨rfl,_⟩;cases d with
    |array n e=>exact ac (.int _ _)
    |_=>exact .halt _ _
   |slice e=>cases r<;>first|exact ac (.int _ _)|exact .halt _ _
   |_=>cases r<;>exact .halt _ _
theorem A5 (hT:P₀.toTables=P.toTables)(ts:Array TypeId)(t:TypeId){xs xs':Array Value}(h:an ok ρ xs xs'):aa P₀ P ok str (λσ x y=>ah ok σ x y) ρ (Builtin.cap_ ts t xs) (Builtin.cap_ ts t xs'):=by
 unfold Builtin.cap_;cases ht:ts[0]? with
 |none=>cases hx:xs[0]?<;>exact .halt _ _
 |some t=>
  cases hx:xs[0]? with
  |none=>exact .halt _ _
  |some x=>
   obtain⟨x',hx',r⟩:=h.get hx;rw[hx'];refine ab _ (ai hT t) ?_;rintro σ d _ l ⟨rfl,_⟩;have r:=r.mono l;cases d with
   |array n e=>exact ac (.int _ _)
   |pointer a=>
    refine ab _ (ai hT a) ?_;rintro τ d _ l ⟨rfl,_⟩;cases d with
    |array n e=>exact ac (.int _ _)
    |_=>exact .halt _ _
   |slice e=>cases r<;>first|exact ac (.int _ _)|exact .halt _ _
   |_=>cases r<;>exact .halt _ _
theorem zv {x x' y y':Value}(h:ah ok ρ x x')(h':ah ok ρ y y'):aa P₀ P ok str (λσ x y=>ah ok σ x y) ρ (Builtin.max2 x y) (Builtin.max2 x' y'):=by
 cases h with
 |int k a=>cases h'<;>first|exact ac (.int _ _)|exact .halt _ _
 |string a=>
  cases h' with
  |string b=>
   refine ab _ (iF _ _ _) ?_;intro σ u u' _ hu;refine ab _ (li hu) ?_;rintro τ b _ _ rfl;split<;>exact ac (.string _)
  |_=>exact .halt _ _
 |_=>cases h'<;>exact .halt _ _
theorem zx {x x' y y':Value}(h:ah ok ρ x x')(h':ah ok ρ y y'):aa P₀ P ok str (λσ x y=>ah ok σ x y) ρ (Builtin.min2 x y) (Builtin.min2 x' y'):=by
 cases h with
 |int k a=>cases h'<;>first|exact ac (.int _ _)|exact .halt _ _
 |string a=>
  cases h' with
  |string b=>
   refine ab _ (iF _ _ _) ?_;intro σ u u' _ hu;refine ab _ (li hu) ?_;rintro τ b _ _ rfl;split<;>exact ac (.string _)
  |_=>exact .halt _ _
 |_=>cases h'<;>exact .halt _ _
theorem pj {f:Value->Value->Sem Value}(hf:∀{ρ:Ren} {x x' y y':Value},ah ok ρ x x'->ah ok ρ y y'->aa P₀ P ok str (λσ x y=>ah ok σ x y) ρ (f x y) (f x' y')):
  ∀{l l':List Value} {ρ:Ren} {x x':Value},dx ok ρ l l'->ah ok ρ x x'->aa P₀ P ok str (λσ x y=>ah ok σ x y) ρ (l.foldlM f x) (l'.foldlM f x'):=by
 intro l;induction l with
 |nil=>intro l' ρ x x' h hx;cases h;exact ac hx
 |cons a l ih=>
  intro l' ρ x x' h hx;cases h with
  |cons ha h=>
   simp only[List.foldlM_cons];refine ab _ (hf hx ha) ?_;intro σ y y' le hy;exact ih (h.mono le) hy
theorem A6 (ts:Array TypeId)(t:TypeId){xs xs':Array Value}(h:an ok ρ xs xs'):aa P₀ P ok str (λσ x y=>ah ok σ x y) ρ (Builtin.max_ ts t xs) (Builtin.max_ ts t xs'):=by
 unfold Builtin.max_;have hl:=h.list;generalize xs.toList=l at hl;generalize xs'.toList=l' at hl;cases hl with
 |nil=>exact .halt _ _
 |cons hv hl=>exact pj (λh h'=>zv h h') hl hv
theorem A7 (ts:Array TypeId)(t:TypeId){xs xs':Array Value}(h:an ok ρ xs xs'):aa P₀ P ok str (λσ x y=>ah ok σ x y) ρ (Builtin.min_ ts t xs) (Builtin.min_ ts t xs'):=by
 unfold Builtin.min_;have hl:=h.list;generalize xs.toList=l at hl;generalize xs'.toList=l' at hl;cases hl with
 |nil=>exact .halt _ _
 |cons hv hl=>exact pj (λh h'=>zx h h') hl hv
theorem aM {s s':Sem Value}(h:aa P₀ P ok str (λσ x y=>ah ok σ x y) ρ s s'):aa P₀ P ok str (λσ x y=>iG ok σ x y) ρ (do pure (.value (<-s))) (do pure (.value (<-s'))):=by
 refine ab _ h ?_;intro σ x y _ hv;exact ac (.value hv)
theorem qp {s s':Sem Unit}{A:Ren->Unit->Unit->Prop}(h:aa P₀ P ok str A ρ s s'):aa P₀ P ok str (λσ x y=>iG ok σ x y) ρ (do s;pure .skip) (do s';pure .skip):=by
 refine ab _ h ?_;intro σ x y _ _;exact ac .skip
theorem lR (hC:Callable P₀ P ok)(f:FuncId)(hf:ok.fn f=true){xs xs':Array Value}(h:an ok ρ xs xs'):aa P₀ P ok str (λσ x y=>iG ok σ x y) ρ (callFunc f xs) (callFunc f xs'):=by
 refine aa.program ?_;obtain⟨fn,h1,h2,h3⟩:=hC.left f hf;obtain⟨fn',h1',h2',h3'⟩:=hC.right f hf;have e1:fn.body.isNone=false:=by cases hb:fn.body<;>simp_all
 have e2:fn'.body.isNone=false:=by cases hb:fn'.body<;>simp_all
 refine aD ?_;rw[h1,h1'];simp only[h3,h3',e1,e2,Bool.false_eq_true,if_false];exact ac (.enter f hf h)
theorem fx {l l':Nat}(hl:ρ l=some l'):aa P₀ P ok str (λσ r r'=>rz ok σ r r') ρ (Instr.getLoop l) (Instr.getLoop l'):=by
 refine aa.getObj hl λo o' ho=>?_
 cases ho with
 |loop hr=>exact .pure hr
 |_=>exact .halt _ _
theorem xN {l l':Nat}(hl:ρ l=some l'){xs xs':Array Value}(h:an ok ρ xs xs'):aa P₀ P ok str (λσ x y=>iG ok σ x y) ρ (Instr.yield l xs) (Instr.yield l' xs'):=by
 refine ab _ (fx hl) ?_;intro σ r r' le hr;have h:=h.mono le;rw[h.size,hr.params];split
 .exact .halt _ _
 .rw[hr.fn,hr.assign,hr.body];refine ac (.round _ (le _ _ hl) hr.inn ?_ hr.ok1 hr.ok2);have fold:∀(ps:List Tmp) (l l':List Value) (_:dx ok σ l l') (a a':Array Value),an ok σ a a'->
    an ok σ ((ps.zip l).foldl (λtmps (x:Tmp×Value)=>tmps.setIfInBounds x.1 x.2) a) ((ps.zip l').foldl (λtmps (x:Tmp×Value)=>tmps.setIfInBounds x.1 x.2) a'):=by
   intro ps;induction ps with
   |nil=>intro l l' _ a a' ha;exact ha
   |cons p ps ih=>
    intro l l' hl a a' ha;cases hl with
    |nil=>exact ha
    |cons hv hl=>exact ih _ _ hl _ _ (ha.set hv p)
  have:=fold r.params.toList _ _ h.list _ _ hr.tmps;rw[<-Array.toList_zip,<-Array.toList_zip,Array.foldl_toList,Array.foldl_toList]at this;exact this
theorem tJ (hT:P₀.toTables=P.toTables)(b:Builtin)(ts:Array TypeId)(hb:kA P ts b=true)(t:TypeId)(cs:Array Bool){xs xs':Array Value}(h:an ok ρ xs xs'):aa P₀ P ok str (λσ x y=>iG ok σ x y) ρ (builtin b ts t cs xs) (builtin b ts t cs xs'):=by
 cases b with
 |len=>exact aM (A4 hT ts t h)
 |cap=>exact aM (A5 hT ts t h)
 |max=>exact aM (A6 ts t h)
 |min=>exact aM (A7 ts t h)
 |append=>exact aM (vJ hT ts t (by simpa[kA,jm]using hb) h)
 |clear=>exact aM (xK hT ts t (by simpa[kA,jm]using hb) h)
 |_=>simp[kA,jm]at hb
theorem ll (hT:P₀.toTables=P.toTables)(hC:Callable P₀ P ok){d d':Target}{xs xs':Array Value}(hd:pc ok ρ d d')(hb:∀b a t c,d≠.builtin b a t c)(h:an ok ρ xs xs'):aa P₀ P ok str (λσ x y=>iG ok σ x y) ρ (invoke d xs) (invoke d' xs'):=by
 cases hd with
 |fn hf hx=>
  cases hf with
  |func hf=>exact lR hC _ hf (h.append hx)
  |yield hl=>exact xN hl h
 |nil=>exact dg hT .nilDeref rfl
 |builtin b a t c=>exact absurd rfl (hb b a t c)
 |collected _=>exact .halt _ _
theorem oJ (hT:P₀.toTables=P.toTables)(hC:Callable P₀ P ok)(n:String)(hm:mY P ok.fn n=true){v v':Value}(hv:ah ok ρ v v'){xs xs':Array Value}(h:an ok ρ xs xs'):aa P₀ P ok str (λσ x y=>iG ok σ x y) ρ (callMethod v n xs) (callMethod v' n xs'):=by
 unfold callMethod;cases hv with
 |iface t hv=>
  refine aa.program ?_;refine aD ?_;rw[hT];refine ab _ (vO hT _ t n hm hv) ?_;rintro σ ⟨f,x⟩ ⟨_,y⟩ l ⟨rfl,hf,hx⟩;exact lR hC f hf ((an.nil.push hx).append (h.mono l))
 |nilIface=>exact dg hT .nilDeref rfl
 |hole _=>exact .halt _ _
 |_=>exact .halt _ _
def pm (ok:Ctx)(ρ:Ren)(ev ev':Operand->Value):Prop:=∀x,ca ok.fn x=true->ah ok ρ (ev x) (ev' x)
theorem qq {ev ev':Operand->Value}(h:pm ok ρ ev ev'){xs:Array Operand}(hx:xs.all (ca ok.fn)=true):an ok ρ (xs.map ev) (xs.map ev'):=by
 refine⟨by simp,λi x x' e e'=>?_⟩;rw[Array.getElem?_map]at e e';cases hi:xs[i]? with
 |none=>rw[hi]at e;cases e
 |some o=>
  rw[hi]at e e';simp only[Option.map_some,Option.some.injEq]at e e';subst e;subst e';rw[Array.all_eq_true]at hx;obtain⟨hl,rfl⟩:=Array.getElem?_eq_some_iff.1 hi;exact h _ (hx i hl)
theorem pn {ev ev':Operand->Value}(h:pm ok ρ ev ev'){xs:Array (Nat×Operand)}(hx:xs.all (λx=>ca ok.fn x.2)=true):
  (xs.map λx=>(x.1,ev x.2)).toList.map (·.1)=(xs.map λx=>(x.1,ev' x.2)).toList.map (·.1)/\dx ok ρ ((xs.map λx=>(x.1,ev x.2)).toList.map (·.2)) ((xs.map λx=>(x.1,ev' x.2)).toList.map (·.2)):=by
 refine⟨by simp,?_⟩;simp only[Array.toList_map,List.map_map];have hx':∀x∈xs.toList,ca ok.fn x.2=true:=by
  intro x hm;rw[Array.all_eq_true]at hx;obtain⟨i,hi,rfl⟩:=Array.getElem_of_mem (Array.mem_toList_iff.1 hm);exact hx i hi
 generalize xs.toList=l at hx';induction l with
 |nil=>exact .nil
 |cons a l ih=>exact .cons (h _ (hx' a (by simp))) (ih λx hm=>hx' x (by simp[hm]))
theorem qr {ev ev':Operand->Value}(h:pm ok ρ ev ev'){x:Option Operand}(hx:x.all (ca ok.fn)=true):gp ok ρ (x.map ev) (x.map ev'):=by
 cases x with
 |none=>exact .none
 |some o=>exact .some (h _ (by simpa using hx))
omit [Gl] in
theorem mZ (op:BinOp)(t:TypeId)(x y:Operand)(a:Value)(V:World):(eqGuard op t x y a hole).run P₀ V=.ok () V/\(eqGuard op t x y hole a).run P₀ V=.ok () V:=by
 constructor<;>(cases op<;>first|rfl|(cases a<;>rfl))
omit [Gl] in
theorem tK (hT:P₀.toTables=P.toTables)(op:BinOp)(t:TypeId)(ht:jE P op t=true)(x y:Operand)(a b:Value)(h:a=hole\/b=hole)(V:World):Result.stops ((do eqGuard op t x y a b;binOp op t a b:Sem Value).run P₀ V)=true:=by
 rw[Sem.run_bind];rcases h with rfl|rfl
 .rw[(mZ op t x y b V).2];exact(gT hT op t ht b V).2
 .rw[(mZ op t x y a V).1];exact(gT hT op t ht a V).1
theorem tL (hT:P₀.toTables=P.toTables)(op:BinOp)(t:TypeId)(ht:jE P op t=true)(x y:Operand){a a' b b':Value}(h:ah ok ρ a a')(h':ah ok ρ b b')(na:a≠hole)(nb:b≠hole):aa P₀ P ok str (λ_ _ _=>True) ρ (eqGuard op t x y a b) (eqGuard op t x y a' b'):=by
 unfold eqGuard;by_cases he:rI op=true
 .unfold jE at ht;rw[if_pos he]at ht;have hd:∀(Q:Program),Q.toTables=P.toTables->Q.eqGuardType Q.depth t=false:=by
   intro Q hQ;have:Q.depth=(2*(Q.types.size+Made.depth)+1)+1:=rfl;rw[this];unfold Program.eqGuardType;rw[lg hQ];unfold AV at ht;split at ht<;>simp_all
  have hg:∀{σ:Ren} {u u' v v':Value},aa P₀ P ok str (λ_ x y=>x=false/\y=false) σ (Op.eqGuardIn Op.maxDepth t u v) (Op.eqGuardIn Op.maxDepth t u' v'):=by
   intro σ u u' v v';show aa P₀ P ok str _ σ (Op.eqGuardIn (9999+1) t u v) (Op.eqGuardIn (9999+1) t u' v');unfold Op.eqGuardIn;refine ab _ (ai hT t) ?_;rintro τ d _ _ ⟨rfl,hu⟩;unfold AV at ht;rw[hu]at ht;cases d with
   |bool=>exact ac ⟨rfl,rfl⟩
   |string=>exact ac ⟨rfl,rfl⟩
   |int k=>exact ac ⟨rfl,rfl⟩
   |slice e=>exact ac ⟨rfl,rfl⟩
   |_=>cases ht
  have e1:(!(match op with|.eql|.neq=>true|_=>false))=false:=by cases op<;>first|rfl|cases he
  cases op with
  |eql=>
   cases h with
   |hole _=>exact absurd rfl na
   |nilIface=>
    cases h' with
    |hole _=>exact absurd rfl nb
    |nilIface=>
     have tail:aa P₀ P ok str (λ_ _ _=>True) ρ (do if<-Op.eqGuardIn Op.maxDepth t .nilIface .nilIface then unsupported (.noEntry "binop/eql: two nil values of an interface type with methods, neither of them the literal nil")else pure ())
       (do if<-Op.eqGuardIn Op.maxDepth t .nilIface .nilIface then unsupported (.noEntry "binop/eql: two nil values of an interface type with methods, neither of them the literal nil")else pure ()):=by
      refine ab _ hg ?_;rintro σ _ _ _ ⟨rfl,rfl⟩;exact ac trivial
     cases x<;>cases y<;>first|exact ac trivial|exact tail
    |_=>exact ac trivial
   |agg _ _=>
    cases h' with
    |hole _=>exact absurd rfl nb
    |agg _ _=>
     refine aa.program (aD (aa.program (aD ?_)));rw[hd P₀ hT,hd P rfl];exact ac trivial
    |_=>exact ac trivial
   |_=>cases h'<;>first|exact absurd rfl nb|exact ac trivial
  |neq=>
   cases h with
   |hole _=>exact absurd rfl na
   |nilIface=>
    cases h' with
    |hole _=>exact absurd rfl nb
    |nilIface=>
     have tail:aa P₀ P ok str (λ_ _ _=>True) ρ (do if<-Op.eqGuardIn Op.maxDepth t .nilIface .nilIface then unsupported (.noEntry "binop/eql: two nil values of an interface type with methods, neither of them the literal nil")else pure ())
       (do if<-Op.eqGuardIn Op.maxDepth t .nilIface .nilIface then unsupported (.noEntry "binop/eql: two nil values of an interface type with methods, neither of them the literal nil")else pure ()):=by
      refine ab _ hg ?_;rintro σ _ _ _ ⟨rfl,rfl⟩;exact ac trivial
     cases x<;>cases y<;>first|exact ac trivial|exact tail
    |_=>exact ac trivial
   |agg _ _=>
    cases h' with
    |hole _=>exact absurd rfl nb
    |agg _ _=>
     refine aa.program (aD (aa.program (aD ?_)));rw[hd P₀ hT,hd P rfl];exact ac trivial
    |_=>exact ac trivial
   |_=>cases h'<;>first|exact absurd rfl nb|exact ac trivial
  |_=>cases he
 .cases op<;>first|exact ac trivial|exact absurd rfl he
omit [Gl] in
theorem tM {s:TypeId}{f:Nat}(h:qn P s f=true):∀fs x i,P.underlying s=some (.struct fs)->fs[f]?=some x->P.info? x.type=some i->i.size≠0:=by
 intro fs x i h1 h2 h3;unfold qn at h;rw[h1]at h;simp only[h2,h3]at h;simpa using h
omit [Gl] in
theorem jF (h:P₀.info? 1000000000=none)(V:World):Result.stops ((typeInfo 1000000000).run P₀ V)=true:=by
 simp[typeInfo,h,Result.stops,ends]
omit [Gl] in
theorem oK (h:P₀.info? 1000000000=none)(n:Nat)(V:World):Result.stops ((nilAhead n 1000000000 (.chan none) "").run P₀ V)=true\/(nilAhead n 1000000000 (.chan none) "").run P₀ V=.ok none V:=by
 cases n with
 |zero=>exact .inr rfl
 |succ n=>
  left;unfold nilAhead;rw[Sem.run_bind];exact cV (jF h V) _
omit [Gl] in
theorem oL (h:P₀.info? 1000000000=none)(V:World):Result.stops ((do
    if(<-nilAhead ((<-program).types.size+Made.depth) 1000000000 (.chan none) "")!=some false then
     unsupported (.noEntry "op/nilCheck.the method's receiver behind this interface value is a nil pointer, or cannot be seen to be none, and the arguments act or may panic (ledger 612)")
    pure (.value (.func (.method "") #[.iface 1000000000 (.chan none)] #[])):Sem Next).run P₀ V)=true:=by
 rw[Sem.run_bind];show Result.stops (Sem.run P₀ _ V)=true;rw[Sem.run_bind];rcases oK h (P₀.types.size+Made.depth) V with e|e
 .exact cV e _
 .rw[e];rfl
omit [Gl] in
theorem iH (h:P₀.info? 1000000000=none)(args:Array Value)(V:World):Result.stops ((invoke (.fn (.method "") #[]) (#[.iface 1000000000 (.chan none)]++args)).run P₀ V)=true:=by
 unfold invoke;have e:(#[Value.iface 1000000000 (.chan none)]++args)[0]?=some (.iface 1000000000 (.chan none)):=by rw[Array.getElem?_append_left (by decide)];rfl
 simp only[e];unfold callMethod;rw[Sem.run_bind];show Result.stops (Sem.run P₀ _ V)=true;rw[Sem.run_bind];refine cV ?_ _;generalize P₀.types.size+Made.depth=n;cases n with
 |zero=>rfl
 |succ n=>
  unfold method;rw[Sem.run_bind];exact cV (jF h V) _
theorem zy (hT:P₀.toTables=P.toTables)(hC:Callable P₀ P ok)(c:Call)(t:TypeId)(hc:tI P ok.fn c=true){ev ev':Operand->Value}(h:pm ok ρ ev ev'):
  aa P₀ P ok str (λσ x y=>iG ok σ x y) ρ (do let d <-resolve ev c t;invoke d.target d.args) (do let d <-resolve ev' c t;invoke d.target d.args):=by
 unfold tI at hc;rw[Bool.and_eq_true]at hc;have ha:=qq h hc.2;unfold resolve;cases hcal:c.callee with
 |builtin b=>
  rw[hcal]at hc;exact tJ hT b _ hc.1 _ _ ha
 |invoke r n=>
  rw[hcal]at hc;simp only[Bool.and_eq_true]at hc;refine aD ?_;have e:∀(v:Value) (xs:Array Value),invoke (.fn (.method n) #[]) (#[v]++xs)=callMethod v n xs:=λv xs=>by
   unfold invoke;simp only[Array.extract_append];have h0:(#[v]++xs)[0]?=some v:=by rw[Array.getElem?_append_left (by simp)];rfl
   simp[h0]
  dsimp only;rw[e,e];exact oJ hT hC n hc.1.2 (h r hc.1.1) ha
 |value f=>
  rw[hcal]at hc;have hf:=h f hc.1;dsimp only;generalize ev f=v at hf;generalize ev' f=v' at hf;cases hf with
  |func hfn e1 h1 e2 h2=>
   refine aD ?_;exact ll hT hC (.fn hfn ⟨e2,h2⟩) (by simp) (an.append ⟨e1,h1⟩ ha)
  |nilFunc=>exact dg hT .nilDeref rfl
  |hole _=>exact .dead _ _ λV=>iH hC.hole _ V
  |_=>exact .halt _ _
theorem rO (hT:P₀.toTables=P.toTables)(hC:Callable P₀ P ok)(o:Oper)(x:Operand)(hop:o.op=.nilCheck x){ev ev':Operand->Value}(hx:ah ok ρ (ev x) (ev' x)):aa P₀ P ok str (λσ x y=>iG ok σ x y) ρ (execOp ev o) (execOp ev' o):=by
 unfold execOp;rw[hop];dsimp only;generalize ev x=v at hx;generalize ev' x=v' at hx;cases hx with
 |hole h=>exact .dead _ _ λV=>oL hC.hole V
 |ptr0=>exact dg hT .nilDeref rfl
 |nilFunc=>exact dg hT .nilDeref rfl
 |nilIface=>exact dg hT .nilDeref rfl
 |bool b=>exact ac (.value (.bool b))
 |int k n=>exact ac (.value (.int k n))
 |string s=>exact ac (.value (.string s))
 |ptr r=>exact ac (.value (.ptr r))
 |slice0 l c=>exact ac (.value (.slice0 l c))
 |slice l c r=>exact ac (.value (.slice l c r))
 |iface t h=>exact ac (.value (.iface t h))
 |func hf e1 h1 e2 h2=>
  cases hf with
  |func h=>exact ac (.value (.func (.func h) e1 h1 e2 h2))
  |yield h=>exact ac (.value (.func (.yield h) e1 h1 e2 h2))
 |agg e h=>exact ac (.value (.agg e h))
 |tuple e h=>exact ac (.value (.tuple e h))
theorem tN (hT:P₀.toTables=P.toTables)(a b:TypeId)(ha:rL P a=true)(hb:rL P b=true){v v':Value}(hx:ah ok ρ v v'):aa P₀ P ok str (λσ x y=>ah ok σ x y) ρ (convert a b v) (convert a b v'):=by
 unfold convert;refine ab _ (ai hT a) ?_;rintro σ d _ l ⟨rfl,hd⟩;refine ab _ (ai hT b) ?_;rintro τ e _ l' ⟨rfl,he⟩;unfold rL at ha hb;rw[hd]at ha;rw[he]at hb;cases d<;>first|cases ha|skip
 cases e<;>first|cases hb|skip
 cases hx with
 |int k n=>exact ac (.int _ _)
 |_=>exact .halt _ _
theorem qs:∀{l l':List Value} {ρ:Ren} (s:ByteArray),dx ok ρ l l'->aa P₀ P ok str (λ_ x y=>x=y) ρ
  (forIn l s λ(c:Value) (s:ByteArray)=>match c with|.int .u8 n=>pure (ForInStep.yield (s.push (UInt8.ofNat n.toNat)))|_=>(stuck "bytesToString: byte expected":Sem (ForInStep ByteArray)))
  (forIn l' s λ(c:Value) (s:ByteArray)=>match c with|.int .u8 n=>pure (ForInStep.yield (s.push (UInt8.ofNat n.toNat)))|_=>(stuck "bytesToString: byte expected":Sem (ForInStep ByteArray))):=by
 intro l;induction l with
 |nil=>intro l' ρ s h;cases h;exact ac rfl
 |cons a l ih=>
  intro l' ρ s h;cases h with
  |cons ha h=>
   simp only[List.forIn_cons];cases ha with
   |int k n=>
    cases k with
    |u8=>exact ih _ h
    |_=>exact .halt _ _
   |_=>exact .halt _ _
theorem lm {v v':Value}(hx:ah ok ρ v v'):aa P₀ P ok str (λσ x y=>ah ok σ x y) ρ (Conv.bytesToString v) (Conv.bytesToString v'):=by
 unfold Conv.bytesToString;cases hx with
 |slice0 l c=>exact ac (.string _)
 |slice l c r=>
  dsimp only;refine ab _ (gP r _) ?_;intro σ x y _ hxy;rw[<-Array.forIn_toList,<-Array.forIn_toList];refine ab _ (qs _ hxy.list) ?_;rintro τ s _ _ rfl;exact ac (.string _)
 |_=>exact .halt _ _
theorem qt (hT:P₀.toTables=P.toTables)(a b:TypeId)(ha:qo P a=true)(hb:pi P b=true){v v':Value}(hx:ah ok ρ v v'):aa P₀ P ok str (λσ x y=>ah ok σ x y) ρ (convert a b v) (convert a b v'):=by
 unfold convert;refine ab _ (ai hT a) ?_;rintro σ d _ l ⟨rfl,hd⟩;refine ab _ (ai hT b) ?_;rintro τ e _ l' ⟨rfl,he⟩;unfold qo at ha;unfold pi at hb;rw[hd]at ha;rw[he]at hb;cases d<;>first|cases ha;done|skip
 rename_i el;cases e<;>first|cases hb;done|skip
 have hx:=(hx.mono l).mono l';have tail:∀{x x':Value},ah ok τ x x'->aa P₀ P ok str (λσ x y=>ah ok σ x y) τ (do match<-underlying el with|.int .u8=>Conv.bytesToString x|.int .i32=>Conv.runesToString x|_=>stuck "Convert: a slice of what to string?")
   (do match<-underlying el with|.int .u8=>Conv.bytesToString x'|.int .i32=>Conv.runesToString x'|_=>stuck "Convert: a slice of what to string?"):=by
  intro x x' h;refine ab _ (ai hT el) ?_;rintro υ u _ l2 ⟨rfl,hu⟩;dsimp only at ha;rw[hu]at ha;cases u<;>first|cases ha;done|skip
  rename_i k;cases k<;>first|cases ha;done|skip
  exact lm (h.mono l2)
 cases hx with
 |hole h=>
  refine .dead _ _ λV=>?_
  have hel:P₀.underlying el=some (.int .u8):=by
   rw[lg hT];dsimp only at ha;split at ha<;>first|assumption|cases ha
  have hr:(underlying el).run P₀ V=.ok (.int .u8) V:=by simp[underlying,hel]
  show Result.stops (Sem.run P₀ (do match<-underlying el with|.int .u8=>Conv.bytesToString hole|.int .i32=>Conv.runesToString hole|_=>stuck "Convert: a slice of what to string?") V)=true;rw[Sem.run_bind,hr];rfl
 |int k n=>exact ac (.string _)
 |string s=>exact ac (.string _)
 |bool b=>exact tail (.bool b)
 |ptr0=>exact tail .ptr0
 |ptr r=>exact tail (.ptr r)
 |slice0 l c=>exact tail (.slice0 l c)
 |slice l c r=>exact tail (.slice l c r)
 |nilFunc=>exact tail .nilFunc
 |nilIface=>exact tail .nilIface
 |iface t h=>exact tail (.iface t h)
 |func hf e1 h1 e2 h2=>exact tail (.func hf e1 h1 e2 h2)
 |agg e h=>exact tail (.agg e h)
 |tuple e h=>exact tail (.tuple e h)
theorem xO (hT:P₀.toTables=P.toTables)(t:TypeId)(ht:pi P t=true){v v':Value}(hx:ah ok ρ v v'):aa P₀ P ok str (λσ x y=>ah ok σ x y) ρ (Instr.range t v) (Instr.range t v'):=by
 unfold Instr.range;refine ab _ (ai hT t) ?_;rintro σ d _ l ⟨rfl,hd⟩;unfold pi at ht;rw[hd]at ht;cases d with
 |string=>
  cases hx with
  |string s=>
   refine aD ?_;refine aa.new (.stringIter s 0) ?_;intro τ b c _ e;exact .pure (.ptr ⟨e,rfl,rfl⟩)
  |_=>exact .halt _ _
 |_=>cases ht
theorem zA {v v':Value}(t:TypeId)(hx:ah ok ρ v v'):aa P₀ P ok str (λσ x y=>ah ok σ x y) ρ (Instr.next v true t) (Instr.next v' true t):=by
 unfold Instr.next;cases hx with
 |@ptr a a' r=>
  obtain⟨b,off,sp⟩:=a;obtain⟨b',off',sp'⟩:=a';have h1:=r.off;simp only at h1;subst h1;cases off' with
  |zero=>
   refine aa.getObj r.blk λo o' ho=>?_
   refine aD ?_;cases ho with
   |stringIter s p=>
    dsimp only;split
    .exact aa.setObj r.blk (.stringIter s _) (.pure (.tuple rfl (λi x x' h h'=>by
      match i with
      |0=>simp at h h';subst h h';exact .bool _
      |1=>simp at h h';subst h h';exact .int _ _
      |2=>simp at h h';subst h h';exact .int _ _
      |i+3=>simp at h)))
    .exact ac (.tuple rfl (λi x x' h h'=>by
      match i with
      |0=>simp at h h';subst h h';exact .bool _
      |i+1=>simp at h))
   |_=>exact .halt _ _
  |succ n=>exact .halt _ _
 |_=>exact .halt _ _
theorem AW (hT:P₀.toTables=P.toTables)(hG:P.globals.size=Gl.n)(hC:Callable P₀ P ok)(o:Oper)(ho:fO P ok.fn o.op=true){ev ev':Operand->Value}(h:pm ok ρ ev ev')(hcv:∀v,ev (.const v)=v/\ev' (.const v)=v):
  aa P₀ P ok str (λσ x y=>iG ok σ x y) ρ (execOp ev o) (execOp ev' o):=by
 unfold execOp;cases hop:o.op with
 |move x=>rw[hop]at ho;exact ac (.value (h x ho))
 |assign x=>rw[hop]at ho;exact ac (.value (h x ho))
 |pick c a b=>
  rw[hop]at ho;simp only[fO,Bool.and_eq_true]at ho;refine ab _ (li (h c ho.1.1)) ?_;rintro σ b _ l rfl;split
  .exact ac (.value ((h _ ho.1.2).mono l))
  .exact ac (.value ((h _ ho.2).mono l))
 |alloc t=>rw[hop]at ho;exact aM (xA hT t ho)
 |box t x=>rw[hop]at ho;exact aM (A2 t (h x ho))
 |build t parts=>
  rw[hop]at ho;simp only[fO,Bool.and_eq_true]at ho;have:=pn h ho.2;exact aM (xB hT t ho.1 this.1 this.2)
 |buildSlice t n parts=>
  rw[hop]at ho;simp only[fO,Bool.and_eq_true]at ho;have:=pn h ho.2;exact aM (oF hT t n ho.1 this.1 this.2)
 |load t a=>
  rw[hop]at ho;refine aM (ab _ (kx (h a ho)) ?_);intro σ x y l r;exact jP hT t r
 |store t a x=>
  rw[hop]at ho;simp only[fO,Bool.and_eq_true]at ho;refine qp (A:=λ_ _ _=>True) (ab _ (kx (h a ho.1)) ?_);intro σ b b' l r;exact rD hT t r ((h x ho.2).mono l)
 |binOp op t x y u=>
  rw[hop]at ho;simp only[fO,Bool.and_eq_true]at ho;cases hbk:jE P op t with
  |false=>
   have hn:pg P op t y=true:=by have:=ho.1.1;rw[hbk]at this;exact this
   have hy:=uU hn;have e1:ev y=.nilIface:=by rw[hy];exact(hcv .nilIface).1
   have e2:ev' y=.nilIface:=by rw[hy];exact(hcv .nilIface).2
   refine aM (s:=do eqGuard op t x y (ev x) (ev y);binOp op t (ev x) (ev y)) (s':=do eqGuard op t x y (ev' x) (ev' y);binOp op t (ev' x) (ev' y)) ?_;rw[e1,e2];exact xL hT op t x y hn (h x ho.1.2)
  |true=>
  by_cases hd:ev x=hole\/ev y=hole
  .exact aM (.dead _ _ λV=>tK hT op t hbk x y _ _ hd V)
  refine aM (ab _ (tL hT op t hbk x y (h x ho.1.2) (h y ho.2) (λe=>hd (.inl e)) (λe=>hd (.inr e))) ?_);intro σ _ _ l _;exact xG hT hG op t hbk ((h x ho.1.2).mono l) ((h y ho.2).mono l)
 |unOp op t x=>rw[hop]at ho;exact aM (xE op (h x ho))
 |makeFunc f a b=>
  rw[hop]at ho;simp only[fO,Bool.and_eq_true]at ho;cases f with
  |func f=>
   have h1:=qq h ho.1.2;have h2:=qq h ho.2;exact ac (.value (.func (.func ho.1.1) h1.size h1.at_ h2.size h2.at_))
  |_=>cases ho.1.1
 |makeSlice t l c=>
  rw[hop]at ho;simp only[fO,Bool.and_eq_true]at ho;exact aM (qj hT t ho.1.1 (h l ho.1.2) (h c ho.2))
 |slice t x a b c=>
  rw[hop]at ho;simp only[fO,Bool.and_eq_true]at ho;exact aM (tC hT t (h x ho.1.1.1) (qr h ho.1.1.2) (qr h ho.1.2) (qr h ho.2))
 |fieldAddr s x f=>
  rw[hop]at ho;simp only[fO,Bool.and_eq_true]at ho;exact aM (tz hT s f (tM ho.1) (h x ho.2))
 |field t x f=>rw[hop]at ho;exact aM (xC hT t (h x ho) f)
 |indexAddr t x i=>
  rw[hop]at ho;simp only[fO,Bool.and_eq_true]at ho;exact aM (tA hT t (h x ho.1) (h i ho.2))
 |index t x i=>
  rw[hop]at ho;simp only[fO,Bool.and_eq_true]at ho;exact aM (xD hT t (h x ho.1) (h i ho.2))
 |extract x n=>rw[hop]at ho;exact aM (tD (h x ho) n)
 |call c=>rw[hop]at ho;exact zy hT hC c _ ho h
 |convert a b x=>
  rw[hop]at ho;simp only[fO,Bool.and_eq_true]at ho;simp only[Bool.or_eq_true,Bool.and_eq_true]at ho;rcases ho.1 with hab|hab
  .exact aM (tN hT a b hab.1 hab.2 (h x ho.2))
  .exact aM (qt hT a b hab.1 hab.2 (h x ho.2))
 |range t x=>
  rw[hop]at ho;simp only[fO,Bool.and_eq_true]at ho;exact aM (xO hT t ho.1 (h x ho.2))
 |next it b=>
  rw[hop]at ho;simp only[fO,Bool.and_eq_true]at ho;obtain⟨rfl,ho⟩:=ho;exact aM (zA o.type (h it ho))
 |makeInterface t x=>rw[hop]at ho;exact aM (lj hT t (h x ho))
 |typeAssert x t a c=>
  rw[hop]at ho;simp only[fO,Bool.and_eq_true]at ho;obtain⟨⟨rfl,hz⟩,ho⟩:=ho;exact aM (oH hT t a hz (h x ho))
 |nilCheck x=>
  rw[hop]at ho;have:=rO (P₀:=P₀) (P:=P) (str:=str) hT hC o x hop (h x ho);unfold execOp at this;rw[hop]at this;exact this
 |_=>rw[hop]at ho;cases ho
end
end Go.Proofs.YtlmcblcijndipabGreatDoor
namespace Go.Proofs.YtlmcblcijndipabGreatDoor
open Go Go.Conc
variable [Gl]
def aI (P:Program)(fn:FuncId->Bool):Code->Bool
 |.skip|.label _|.ret|.exit _|.goto _=>true
 |.seq a b=>aI P fn a&&aI P fn b
 |.cond c a b=>ca fn c&&aI P fn a&&aI P fn b
 |.block _ b|.loop b|.scope b=>aI P fn b
 |.region _ ops _=>ops.all (λo=>fO P fn o.op)
 |.rangeFunc f _ a b=>ca fn f&&aI P fn a&&aI P fn b
 |_=>false
inductive iw (P:Program)(ok:Ctx)(ρ:Ren):Item->Item->Prop
 |code {c:Code}:aI P ok.fn c=true->iw P ok ρ (.code c) (.code c)
 |inBlock (id:Nat):iw P ok ρ (.inBlock id) (.inBlock id)
 |inLoop {c:Code}:aI P ok.fn c=true->iw P ok ρ (.inLoop c) (.inLoop c)
 |inScope {c:Code}:aI P ok.fn c=true->iw P ok ρ (.inScope c) (.inScope c)
 |inRegion {ops:Array Oper} (todo:List Nat):ops.all (λo=>fO P ok.fn o.op)=true->iw P ok ρ (.inRegion ops todo) (.inRegion ops todo)
 |inRangeFunc {l l':Nat}:ρ l=some l'->iw P ok ρ (.inRangeFunc l) (.inRangeFunc l')
 |endRangeFunc {l l':Nat}:ρ l=some l'->iw P ok ρ (.endRangeFunc l) (.endRangeFunc l')
 |beginRound:iw P ok ρ .beginRound .beginRound
inductive fe (P:Program)(ok:Ctx)(ρ:Ren):List Item->List Item->Prop
 |nil:fe P ok ρ [] []
 |cons {x x':Item} {l l':List Item}:iw P ok ρ x x'->fe P ok ρ l l'->fe P ok ρ (x::l) (x'::l')
inductive po:FrameMode->FrameMode->Prop
 |run:po .run .run
 |returning:po .returning .returning
 |panicking {c c':List PanicEntry}:po (.panicking c) (.panicking c')
inductive fy (ρ:Ren):List Deferred->List Deferred->Prop
 |nil:fy ρ [] []
 |cons {r r':Nat} {l l':List Deferred}:ρ r=some r'->fy ρ l l'->fy ρ ({target:=.collected r,args:=#[]}::l) ({target:=.collected r',args:=#[]}::l')
inductive m8 (ρ:Ren):Option Nat->Option Nat->Prop
 |none:m8 ρ none none
 |some {l l':Nat}:ρ l=some l'->m8 ρ (some l) (some l')
structure bK (P:Program)(ok:Ctx)(ρ:Ren)(fr fr':Frame):Prop where
 fn:fr'.fn=fr.fn
 inn:ok.inn fr.fn=true
 tmps:an ok ρ fr.tmps fr'.tmps
 todo:fe P ok ρ fr.todo fr'.todo
 defers:fy ρ fr.defers fr'.defers
 mode:po fr.mode fr'.mode
 kind:fr.kind=.normal
 kind':fr'.kind=.normal
 round:m8 ρ fr.roundOf fr'.roundOf
inductive eo (P:Program)(ok:Ctx)(ρ:Ren):List Frame->List Frame->Prop
 |nil:eo P ok ρ [] []
 |cons {f f':Frame} {l l':List Frame}:bK P ok ρ f f'->eo P ok ρ l l'->eo P ok ρ (f::l) (f'::l')
section
variable {P:Program}{ok:Ctx}{ρ σ:Ren}
theorem iw.mono {x x':Item}(h:iw P ok ρ x x')(l:ρ.le σ):iw P ok σ x x':=by
 cases h with
 |code h=>exact .code h
 |inBlock id=>exact .inBlock id
 |inLoop h=>exact .inLoop h
 |inScope h=>exact .inScope h
 |inRegion t h=>exact .inRegion t h
 |inRangeFunc h=>exact .inRangeFunc (l _ _ h)
 |endRangeFunc h=>exact .endRangeFunc (l _ _ h)
 |beginRound=>exact .beginRound
theorem fe.mono {x x':List Item}(h:fe P ok ρ x x')(l:ρ.le σ):fe P ok σ x x':=by
 induction h with
 |nil=>exact .nil
 |cons h _ ih=>exact .cons (h.mono l) ih
theorem fy.mono {x x':List Deferred}(h:fy ρ x x')(l:ρ.le σ):fy σ x x':=by
 induction h with
 |nil=>exact .nil
 |cons h _ ih=>exact .cons (l _ _ h) ih
theorem m8.mono {x x':Option Nat}(h:m8 ρ x x')(l:ρ.le σ):m8 σ x x':=by
 cases h with
 |none=>exact .none
 |some h=>exact .some (l _ _ h)
theorem bK.mono {f f':Frame}(h:bK P ok ρ f f')(l:ρ.le σ):bK P ok σ f f':=⟨h.fn,h.inn,h.tmps.mono l,h.todo.mono l,h.defers.mono l,h.mode,h.kind,h.kind',h.round.mono l⟩
theorem eo.mono {f f':List Frame}(h:eo P ok ρ f f')(l:ρ.le σ):eo P ok σ f f':=by
 induction h with
 |nil=>exact .nil
 |cons h _ ih=>exact .cons (h.mono l) ih
theorem fe.exit {id:Nat}:∀{l l':List Item},fe P ok ρ l l'->(exitTo id l=none/\exitTo id l'=none)\/∃k k',exitTo id l=some k/\exitTo id l'=some k'/\fe P ok ρ k k':=by
 intro l l' h;induction h with
 |nil=>exact .inl ⟨rfl,rfl⟩
 |@cons x x' l l' hx hl ih=>
  cases hx with
  |inBlock i=>
   simp only[exitTo];split
   .exact .inr ⟨_,_,rfl,rfl,hl⟩
   .exact ih
  |_=>exact ih
omit [Gl] in
theorem qu {l:Nat}:∀{c r:Code},aI P ok.fn c=true->findLabel c l=some r->aI P ok.fn r=true:=by
 intro c;induction c with
 |seq a b ia ib=>
  intro r h e;simp only[aI,Bool.and_eq_true]at h;simp only[findLabel]at e;split at e
  .rename_i x hx;cases e;simp only[aI,Bool.and_eq_true];exact⟨ia h.1 hx,h.2⟩
  .exact ib h.2 e
 |label k=>
  intro r h e;simp only[findLabel]at e;split at e
  .cases e;rfl
  .cases e
 |_=>intro r h e;simp[findLabel]at e
theorem fe.goto {id:Nat}:∀{l l':List Item},fe P ok ρ l l'->(gotoIn id l=none/\gotoIn id l'=none)\/∃k k',gotoIn id l=some k/\gotoIn id l'=some k'/\fe P ok ρ k k':=by
 intro l l' h;induction h with
 |nil=>exact .inl ⟨rfl,rfl⟩
 |@cons x x' l l' hx hl ih=>
  cases hx with
  |@inScope body hb=>
   simp only[gotoIn];split
   .rename_i r hr;exact .inr ⟨_,_,rfl,rfl,.cons (.code (qu hb hr)) (.cons (.inScope hb) hl)⟩
   .exact ih
  |_=>exact ih
end
def lU (fr:Frame)(cs:List Frame):Prop:=∀f,(fr::cs).getLast?=some f->f.roundOf=none
inductive jG (P₀ P:Program)(ok:Ctx)(σ:Ren)(lb rb:List Frame):Goroutine->Goroutine->Prop
 |inside {fr fr':Frame} {cs cs':List Frame}:bK P ok σ fr fr'->eo P ok σ cs cs'->lU fr cs->jG P₀ P ok σ lb rb (G fr (cs++lb)) (G fr' (cs'++rb))
 |door {f:FuncId} {xs xs':Array Value} {cs cs':List Frame}:ok.fn f=true->ok.inn f=false->an ok σ xs xs'->eo P ok σ cs cs'->cs≠[]->(∀f,cs.getLast?=some f->f.roundOf=none)->
   jG P₀ P ok σ lb rb (G (Frame.enter P₀ f xs .normal) (cs++lb)) (G (Frame.enter P f xs' .normal) (cs'++rb))
structure Same (P₀ P:Program)(ok:Ctx):Prop where
 same:∀f,ok.inn f=true->∃fn c,P₀.funcs[f]?=some fn/\P.funcs[f]?=some fn/\fn.body=some c/\aI P ok.fn c=true
 code:∀c,ok.code c=aI P ok.fn c
omit [Gl] in
theorem eH (p:Program)(fn:FuncId)(es:Array Event):∀e∈seen p fn es,e∈es:=by
 unfold seen;simp only;have key:∀(l:List Event) (q:Bool) (kept:Array Event) (S:Event->Prop),(∀e∈l,S e)->(∀e∈kept,S e)->
   ∀e∈(l.foldl (λ(x:Bool×Array Event) (e:Event)=>match e.loc with|.mark (.extern f)=>((p.funcs[f]?).any (·.norace),x.2)|_=>(x.1,if x.1&&!e.sync then x.2 else x.2.push e)) (q,kept)).2,S e:=by
  intro l;induction l with
  |nil=>intro q kept S _ hk e he;exact hk e he
  |cons a l ih=>
   intro q kept S hl hk e he;simp only[List.foldl_cons]at he;split at he
   .exact ih _ _ S (λx hx=>hl x (by simp[hx])) hk e he
   .refine ih _ _ S (λx hx=>hl x (by simp[hx])) ?_ e he;split
    .exact hk
    .intro x hx;rcases Array.mem_push.1 hx with hx|rfl
     .exact hk x hx
     .exact hl _ (by simp)
 intro e he;rw[<-Array.foldl_toList]at he;exact key es.toList _ #[] (λe=>e∈es) (λx hx=>by simpa using hx) (λx hx=>by simp at hx) e he
section
variable {P₀ P:Program}{ok:Ctx}{str:Bool}{ρ σ:Ren}
theorem bK.finish {fr fr':Frame}(h:bK P ok ρ fr fr'){v v':Value}(hv:ah ok ρ v v'):bK P ok ρ (fr.finish v) (fr'.finish v'):=by
 have ht:=h.todo;obtain⟨fn,tmps,todo,defers,mode,kind,roundOf⟩:=fr;obtain⟨fn',tmps',todo',defers',mode',kind',roundOf'⟩:=fr';simp only at ht;cases ht with
 |nil=>exact h
 |cons hx hl=>
  cases hx with
  |inRegion t ho=>
   cases t with
   |nil=>exact h
   |cons i rest=>
    refine⟨h.fn,h.inn,?_,.cons (.inRegion _ ho) hl,h.defers,h.mode,h.kind,h.kind',h.round⟩;unfold Frame.finish;simp only;split
    .exact h.tmps.set hv _
    .exact h.tmps
  |inRangeFunc hr=>exact⟨h.fn,h.inn,h.tmps,.cons (.endRangeFunc hr) hl,h.defers,h.mode,h.kind,h.kind',h.round⟩
  |beginRound=>exact⟨h.fn,h.inn,h.tmps,hl,h.defers,h.mode,h.kind,h.kind',h.round⟩
  |_=>exact h
omit [Gl] in
theorem dG (fr:Frame)(v:Value):(fr.finish v).roundOf=fr.roundOf:=by
 unfold Frame.finish;split<;>rfl
omit [Gl] in
theorem lV (fr:Frame)(c:List PanicEntry):(fr.raise c).roundOf=fr.roundOf:=by
 unfold Frame.raise;split<;>rfl
omit [Gl] in
theorem lU.swap {fr fr2:Frame}{cs:List Frame}(h:lU fr cs)(e:fr2.roundOf=fr.roundOf):lU fr2 cs:=by
 intro f hf;cases cs with
 |nil=>
  simp only[List.getLast?_singleton,Option.some.injEq]at hf;subst hf;rw[e];exact h fr rfl
 |cons c cs=>exact h f (by simpa using hf)
omit [Gl] in
theorem lU.push {fr fr2:Frame}{cs:List Frame}(h:lU fr cs):lU fr2 (fr::cs):=by
 intro f hf;exact h f (by simpa using hf)
omit [Gl] in
theorem lU.pop {fr c fr2:Frame}{cs:List Frame}(h:lU fr (c::cs))(e:fr2.roundOf=c.roundOf):lU fr2 cs:=by
 have:lU c cs:=λf hf=>h f (by simpa using hf)
 exact this.swap e
theorem gt (hS:Same P₀ P ok){f:FuncId}(hf:ok.inn f=true){xs xs':Array Value}(h:an ok ρ xs xs'):bK P ok ρ (Frame.enter P₀ f xs .normal) (Frame.enter P f xs' .normal):=by
 obtain⟨fn,c,h1,h2,h3,h4⟩:=hS.same f hf;unfold Frame.enter;rw[h1,h2];simp only[Option.map_some,Option.getD_some,Option.bind_some,h3];refine⟨rfl,hf,?_,.cons (.code h4) .nil,.nil,.run,rfl,rfl,.none⟩;rw[<-h.size];exact h.append (an.replicate fu _)
omit [Gl] in
theorem po.run_of {m m':FrameMode}(h:po m m')(e:m=.run):m'=.run:=by subst e;cases h;rfl
theorem bK.raise {fr fr':Frame}(h:bK P ok ρ fr fr')(c c':List PanicEntry):bK P ok ρ (fr.raise c) (fr'.raise c'):=by
 have hm:=h.mode;unfold Frame.raise;obtain⟨fn,tmps,todo,defers,mode,kind,roundOf⟩:=fr;obtain⟨fn',tmps',todo',defers',mode',kind',roundOf'⟩:=fr';simp only at hm;cases hm with
 |run=>exact⟨h.fn,h.inn,h.tmps,h.todo,h.defers,.panicking,h.kind,h.kind',h.round⟩
 |returning=>exact⟨h.fn,h.inn,h.tmps,h.todo,h.defers,.panicking,h.kind,h.kind',h.round⟩
 |panicking=>exact⟨h.fn,h.inn,h.tmps,h.todo,h.defers,.panicking,h.kind,h.kind',h.round⟩
theorem fe.noCall {l l':List Item}(h:fe P ok ρ l l'):(∀d b r s k,l≠.call d b r s::k)/\∀d b r s k,l'≠.call d b r s::k:=by
 cases h with
 |nil=>exact⟨(by simp),(by simp)⟩
 |cons h _=>cases h<;>exact⟨(by simp),(by simp)⟩
omit [Gl] in
theorem fQ {p:Program}{fr:Frame}{cs:List Frame}{s:Sem Next}{w w':World}{f:FuncId}{xs:Array Value}{es:Array Event}(hr:s.runT p w #[]=(.ok (.enter f xs) w',es))(hn:∀d b r s k,fr.todo≠.call d b r s::k)(hk:fr.kind=.normal):
  stepG.apply p true fr cs none s w=.go (G (Frame.enter p f xs .normal) (fr::cs)) w' (seen p fr.fn es):=by
 have hke:(CallKind.normal==CallKind.early)=false:=rfl;obtain⟨fn,tmps,todo,defers,mode,kind,roundOf⟩:=fr;simp only at hk hn;subst hk;cases todo with
 |nil=>simp only[stepG.apply,if_true,hr,GStep.after,hke];simp[G]
 |cons x l=>
  cases x with
  |call d b r s=>exact absurd rfl (hn d b r s l)
  |_=>simp only[stepG.apply,if_true,hr,GStep.after,hke];simp[G]
theorem lp (hS:Same P₀ P ok){lb rb:List Frame}{s s':Sem Next}(hR:aa P₀ P ok str (λσ x y=>iG ok σ x y) ρ s s'){fr fr':Frame}{cs cs':List Frame}(hf:bK P ok ρ fr fr')(hc:eo P ok ρ cs cs')(hb:lU fr cs)
  {V W:World}(hw:aC ok str ρ V W){g2:Goroutine}{V2:World}{es:Array Event}
  (h:stepG.apply P₀ true fr (cs++lb) none s V=.go g2 V2 es):
  ∃σ h2 W2 es2,stepG.apply P true fr' (cs'++rb) none s' W=.go h2 W2 es2/\jG P₀ P ok σ lb rb g2 h2/\aC ok str σ V2 W2/\ee ρ V W σ V2 W2/\∀e∈es2,iA σ V e:=by
 have hke:(CallKind.normal==CallKind.early)=false:=rfl;have hno:=hf.todo.noCall;generalize hr:s.runT P₀ V #[]=x at h;obtain⟨r,e1⟩:=x;rcases hR.sound #[] #[] hw hr with hst|⟨σ,r',V',W',d',h1,h2,h4,h5⟩
 .exfalso;cases r with
  |ok a w=>cases hst
  |halt hh w=>
   cases hh with
   |stuck y=>simp only[stepG.apply,if_true,hr,GStep.after]at h;cases h
   |unsupported u=>
    cases u with
    |initOrder g=>cases hst
    |_=>simp only[stepG.apply,if_true,hr,GStep.after]at h;cases h
   |_=>cases hst
 .have hev:∀e∈seen P fr'.fn d',iA σ V e:=λe he=>h5 e (eH _ _ _ e he)
  have h1':s'.runT P W #[]=(r',d'):=by rw[h1];simp
  have hf':=hf.mono h4.le;have hc':=hc.mono h4.le;cases h2 with
  |@ok a b V' W' hN hw'=>
   cases hN with
   |@value v v' hv=>
    simp only[stepG.apply,if_true,hr,GStep.after,GStep.go.injEq,hf.kind,hke]at h;obtain⟨rfl,rfl,_⟩:=h;refine⟨σ,G (fr'.finish v') (cs'++rb),W',_,?_,.inside (hf'.finish hv) hc' (hb.swap (dG _ _)),hw',h4,hev⟩;simp only[stepG.apply,if_true,h1',GStep.after,hf.kind',hke];simp[G]
   |skip=>
    simp only[stepG.apply,if_true,hr,GStep.after,GStep.go.injEq,hf.kind,hke]at h;obtain⟨rfl,rfl,_⟩:=h;refine⟨σ,G (fr'.finish undef) (cs'++rb),W',_,?_,.inside (hf'.finish fu) hc' (hb.swap (dG _ _)),hw',h4,hev⟩;simp only[stepG.apply,if_true,h1',GStep.after,hf.kind',hke];simp[G]
   |@enter f xs xs' hok hx=>
    rw[fQ hr hno.1 hf.kind]at h;simp only[GStep.go.injEq]at h;obtain⟨rfl,rfl,_⟩:=h;refine⟨σ,G (Frame.enter P f xs' .normal) ((fr'::cs')++rb),W',_,fQ h1' hno.2 hf.kind',?_,hw',h4,hev⟩;cases hi:ok.inn f with
    |true=>exact .inside (cs:=fr::cs) (gt hS hi hx) (.cons hf' hc') hb.push
    |false=>exact .door (cs:=fr::cs) hok hi hx (.cons hf' hc') (by simp) hb
   |@round l l' f xs xs' a b hl hi hx ha hb'=>
    simp only[stepG.apply,if_true,hr,GStep.after,GStep.go.injEq,hf.kind,hke]at h;obtain⟨rfl,rfl,_⟩:=h;refine⟨σ,G (Frame.round l' f xs' a b .normal) ((fr'::cs')++rb),W',_,?_,?_,hw',h4,hev⟩
    .simp only[stepG.apply,if_true,h1',GStep.after,hf.kind',hke];simp[G]
    .exact .inside (cs:=fr::cs) ⟨rfl,hi,hx,.cons (.code ((hS.code _).symm.trans ha)) (.cons .beginRound (.cons (.code ((hS.code _).symm.trans hb')) .nil)),.nil,.run,rfl,rfl,.some hl⟩ (.cons hf' hc') hb.push
  |@panic v v' V' W' hv hw'=>
   simp only[stepG.apply,if_true,hr,GStep.after,GStep.go.injEq,hf.kind,hke]at h;obtain⟨rfl,rfl,_⟩:=h;refine⟨σ,G (fr'.raise [{v:=v',recovered:=false}]) (cs'++rb),W',_,?_,.inside (hf'.raise _ _) hc' (hb.swap (lV _ _)),hw',h4,hev⟩;simp only[stepG.apply,if_true,h1',GStep.after,hf.kind',hke];simp[G]
end
end Go.Proofs.YtlmcblcijndipabGreatDoor
namespace Go.Proofs.YtlmcblcijndipabGreatDoor
open Go Go.Conc
variable [Gl]
section
variable {P₀ P:Program}{ok:Ctx}{str:Bool}{ρ σ τ:Ren}{V W V1 W1 V2 W2:World}
theorem iA.shift (k1:ee ρ V W σ V1 W1)(k2:ee σ V1 W1 τ V2 W2){e:Event}(h:iA τ V1 e):iA τ V e:=by
 have key:∀b d,τ b=some d->Ro V b->Ro V1 b:=by
  intro b d hb hro;obtain⟨c,el,hc⟩:=hro;have hlt:b<V.heap.size:=(Array.getElem?_eq_some_iff.1 hc).1;rcases k2.new _ _ hb with h1|⟨h1,_⟩
  .rcases k1.new _ _ h1 with h2|⟨h2,_⟩
   .exact⟨c,el,by rw[(k1.ro _ _ h2 ⟨c,el,hc⟩).1];exact hc⟩
   .omega
  .have:=k1.sizeV;omega
 rcases h with⟨s,a,a',e1,r,w⟩|⟨s,r,r',e1,h,n⟩|h
 .exact .inl ⟨s,a,a',e1,r,λhw hro=>w hw (key _ _ r.blk hro)⟩
 .exact .inr (.inl ⟨s,r,r',e1,h,λhro=>n (key _ _ h hro)⟩)
 .exact .inr (.inr h)
theorem xP {α:Type}{f f':α->Sem Value}{l:List α}:∀{ρ:Ren},(∀a∈l,∀{σ:Ren},ρ.le σ->aa P₀ P ok str (λσ x y=>ah ok σ x y) σ (f a) (f' a))->aa P₀ P ok str (λσ x y=>dx ok σ x y) ρ (l.mapM f) (l.mapM f'):=by
 induction l with
 |nil=>intro ρ _;simp only[List.mapM_nil];exact ac .nil
 |cons a l ih=>
  intro ρ h;simp only[List.mapM_cons];refine ab _ (h a (by simp) (Ren.le_refl _)) ?_;intro σ x x' le hx;refine ab _ (ih λb hb _ le'=>h b (by simp[hb]) (le.trans le')) ?_;intro τ xs xs' le' hxs;exact ac (.cons (hx.mono le') hxs)
theorem gX (hT:P₀.toTables=P.toTables)(fn:Func){xs xs':Array Value}(h:an ok ρ xs xs'):aa P₀ P ok str (λσ x y=>ah ok σ x y) ρ (results fn xs) (results fn xs'):=by
 unfold results;rw[Array.mapM_eq_mapM_toList,Array.mapM_eq_mapM_toList];refine ab (λσ x y=>an ok σ x y) ?_ ?_
 .refine ab _ (xP ?_) ?_
  .intro a _ σ le;cases a with
   |tmp t=>exact ac ((h.mono le).getD t)
   |cell a t=>
    refine ab _ (lh hT ((h.mono le).getD a)) ?_;intro τ x y _ r;exact jP hT t r
  .intro σ x y _ hx;exact ac hx.array
 .intro σ x y _ hx;by_cases e:x.size=1
  .have e':y.size=1:=hx.size▸e;rw[dif_pos e,dif_pos e'];exact ac (hx.at_ 0 _ _ (Array.getElem?_eq_getElem _) (Array.getElem?_eq_getElem _))
  .have e':¬y.size=1:=hx.size▸e;rw[dif_neg e,dif_neg e'];exact ac (.tuple hx.size hx.at_)
theorem lW {l l':Nat}(hl:ρ l=some l')(jump:Option Code)(hj:∀c,jump=some c->ok.code c=true):aa P₀ P ok str (λσ x y=>ah ok σ x y) ρ (Instr.endRound l jump) (Instr.endRound l' jump):=by
 refine ab _ (fx hl) ?_;intro σ r r' le hr;refine aa.setObj (le _ _ hl) (.loop ⟨rfl,rfl,hr.fn,hr.tmps,hr.params,hr.assign,hr.body,hr.defers,hr.inn,hr.ok1,hr.ok2,hj⟩) ?_;exact .pure (.bool _)
theorem jH (hT:P₀.toTables=P.toTables){l l':Nat}(hl:ρ l=some l'):aa P₀ P ok str (λ_ _ _=>True) ρ (Instr.beginRound l) (Instr.beginRound l'):=by
 refine ab _ (fx hl) ?_;intro σ r r' le hr;refine aa.setObj (le _ _ hl) (.loop ⟨rfl,hr.pending,hr.fn,hr.tmps,hr.params,hr.assign,hr.body,hr.defers,hr.inn,hr.ok1,hr.ok2,hr.ok3⟩) ?_;show aa P₀ P ok str _ σ (match r.state with|.ready=>pure ()|.done=>runtimePanic (.error _)|.busy=>runtimePanic (.error _)|.exhausted=>runtimePanic (.error _)) (match r'.state with|.ready=>pure ()|.done=>runtimePanic (.error _)|.busy=>runtimePanic (.error _)|.exhausted=>runtimePanic (.error _));rw[hr.state];cases r.state with
 |ready=>exact ac trivial
 |_=>exact dg hT (.error _) rfl
theorem m9 (hT:P₀.toTables=P.toTables){l l':Nat}(hl:ρ l=some l'):aa P₀ P ok str (λ_ x y=>x=y/\∀c,x=some c->ok.code c=true) ρ (Instr.endLoop l) (Instr.endLoop l'):=by
 refine ab _ (fx hl) ?_;intro σ r r' le hr;rw[hr.state];split
 .exact dg hT (.error _) rfl
 .refine aa.setObj (le _ _ hl) (.loop ⟨rfl,hr.pending,hr.fn,hr.tmps,hr.params,hr.assign,hr.body,hr.defers,hr.inn,hr.ok1,hr.ok2,hr.ok3⟩) ?_;exact .pure ⟨hr.pending.symm,hr.ok3⟩
theorem uV {r r':Nat}(hr:ρ r=some r'):aa P₀ P ok str (λ_ x y=>x=[]/\y=[]) ρ (Instr.takeDeferred r) (Instr.takeDeferred r'):=by
 refine aa.getObj hr λo o' ho=>?_
 cases ho with
 |deferred=>exact aa.setObj hr .taken (.pure ⟨rfl,rfl⟩)
 |_=>exact .halt _ _
theorem kB (fn:FuncId)(hi:ok.inn fn=true){xs xs':Array Value}(h:an ok ρ xs xs')(params:Array Tmp){a b:Code}(ha:ok.code a=true)(hb:ok.code b=true){r r':Option Nat}(hr:m8 ρ r r'):
  aa P₀ P ok str (λσ x y=>σ x.1=some y.1/\fy σ x.2 y.2) ρ (Instr.enterLoop fn xs params a b r) (Instr.enterLoop fn xs' params a b r'):=by
 unfold Instr.enterLoop;have fin:∀{σ:Ren} {d d':Nat} {m m':List Deferred},ρ.le σ->σ d=some d'->fy σ m m'->
   aa P₀ P ok str (λσ x y=>σ x.1=some y.1/\fy σ x.2 y.2) σ (do pure (<-newObj (.loop {state:=.ready,pending:=none,fn,tmps:=xs,params,assign:=a,body:=b,defers:=d}),m))
    (do pure (<-newObj (.loop {state:=.ready,pending:=none,fn,tmps:=xs',params,assign:=a,body:=b,defers:=d'}),m')):=by
  intro σ d d' m m' le hd hm;refine aa.new (.loop ⟨rfl,rfl,rfl,h.mono le,rfl,rfl,rfl,hd,hi,ha,hb,by simp⟩) ?_;intro τ x y le' e;exact .pure ⟨e,hm.mono le'⟩
 cases hr with
 |none=>
  refine aa.new .deferred ?_;intro σ x y le e;exact fin le e (.cons e .nil)
 |some hl=>
  refine ab _ (fx hl) ?_;intro σ q q' le hq;exact fin le hq.defers .nil
theorem bK.eval {fr fr':Frame}(h:bK P ok ρ fr fr'):pm ok ρ fr.eval fr'.eval:=by
 intro x hx;cases x with
 |tmp t=>exact h.tmps.getD t
 |const v=>exact jO hx
 |global g=>cases hx
 |func f=>exact .func (.func hx) rfl an.nil.at_ rfl an.nil.at_
theorem tO {xs xs':Array Value}(h:an ok ρ xs xs')(ops:Array Oper):yielded ops xs'=yielded ops xs:=by
 funext j;unfold yielded;cases ((ops[j]?).bind (·.dst))with
 |none=>rfl
 |some d=>
  simp only[Option.bind_some];cases hx:xs[d]? with
  |none=>rw[h.none hx]
  |some x=>
   obtain⟨x',hx',r⟩:=h.get hx;rw[hx'];cases r with
   |hole h=>cases x'<;>first|rfl|cases h
   |_=>rfl
structure bh (P₀ P:Program)(ok:Ctx):Prop extends Callable P₀ P ok,Same P₀ P ok where
 tab:P₀.toTables=P.toTables
 glob:P.globals.size=Gl.n
def bD (P₀ P:Program)(ok:Ctx)(str:Bool)(ρ:Ren)(lb rb:List Frame)(V W:World)(g2:Goroutine)(V2:World)(s:GStep):Prop:=
 ∃σ h2 W2 es2,s=.go h2 W2 es2/\jG P₀ P ok σ lb rb g2 h2/\aC ok str σ V2 W2/\ee ρ V W σ V2 W2/\∀e∈es2,iA σ V e
omit [Gl] in
theorem ce {es es':Array Event}{o:Outcome}{w w':World}{g:Goroutine}(h:GStep.after es (.ended o w)=.go g w' es'):False:=by
 simp[GStep.after]at h
theorem jo {lb rb:List Frame}{m₀ m₁:Bool}{fr fr':Frame}{cs cs':List Frame}(hf:bK P ok ρ fr fr')(hc:eo P ok ρ cs cs')(hb:lU fr cs)(hw:aC ok str ρ V W)
  (jump:Option Code)(hj:∀c,jump=some c->ok.code c=true){l l':Nat}(hr:fr.roundOf=some l)(hl:ρ l=some l'){g2:Goroutine}{es:Array Event}
  (h:(let(r,es):=(Instr.endRound l jump).runT P₀ V #[];GStep.after (seen P₀ fr.fn es)<|match r with|.ok v w=>doReturn P₀ m₀ fr (cs++lb) none v w|.halt _ w=>.ended (.stuck "range over a function: no such loop" (fr.pos P₀)) w)=.go g2 V2 es):
  bD P₀ P ok str ρ lb rb V W g2 V2 (let(r,es):=(Instr.endRound l' jump).runT P W #[];GStep.after (seen P fr'.fn es)<|match r with|.ok v w=>doReturn P m₁ fr' (cs'++rb) none v w|.halt _ w=>.ended (.stuck "range over a function: no such loop" (fr'.pos P)) w):=by
 generalize hrun:(Instr.endRound l jump).runT P₀ V #[]=x at h;obtain⟨r,e1⟩:=x;rcases(lW (P₀:=P₀) (P:=P) (str:=str) hl jump hj).sound #[] #[] hw hrun with hst|⟨σ,r',V',W',d',h1,h2,h4,h5⟩
 .exfalso;cases r with
  |ok a w=>cases hst
  |halt hh w=>exact ce h
 .have h1':(Instr.endRound l' jump).runT P W #[]=(r',d'):=by rw[h1];simp
  cases h2 with
  |panic _ _=>exact(ce h).elim
  |@ok v v' V' W' hv hw'=>
   cases hc with
   |nil=>
    have:=hb fr rfl;rw[hr]at this;cases this
   |@cons c c' cs cs' hcc hcs=>
    simp only[List.cons_append,doReturn,hf.kind,GStep.after,GStep.go.injEq]at h;obtain⟨rfl,rfl,_⟩:=h;refine⟨σ,G (c'.finish v') (cs'++rb),W',seen P fr'.fn d',?_,.inside ((hcc.mono h4.le).finish hv) (hcs.mono h4.le) (hb.pop (dG _ _)),hw',h4,λe he=>h5 e (eH _ _ _ e he)⟩;rw[h1'];simp[List.cons_append,doReturn,hf.kind',GStep.after,G]
end
end Go.Proofs.YtlmcblcijndipabGreatDoor
namespace Go.Proofs.YtlmcblcijndipabGreatDoor
open Go Go.Conc
variable [Gl]
section
variable {P₀ P:Program}{ok:Ctx}{str:Bool}{ρ σ τ:Ren}{V W V1 W1 V2 W2:World}
omit [Gl] in
theorem lq {p:Program}{m:Bool}{fr:Frame}{cs:List Frame}{w:World}(h:fr.mode=.run):stepG p m (G fr cs) w=stepG.exec p m true fr cs none w:=by
 simp only[G,stepG,h]
omit [Gl] in
theorem ew {p:Program}{m:Bool}{fr:Frame}{cs:List Frame}{w:World}(h:fr.mode≠.run):stepG p m (G fr cs) w=unwind p m fr cs none w:=by
 cases hm:fr.mode with
 |run=>exact absurd hm h
 |_=>simp only[G,stepG,hm]
theorem fy.append {a a' b b':List Deferred}(h:fy ρ a a')(h':fy ρ b b'):fy ρ (a++b) (a'++b'):=by
 induction h with
 |nil=>exact h'
 |cons h _ ih=>exact .cons h ih
theorem aX {lb rb:List Frame}{fr fr2 fr2':Frame}{cs cs':List Frame}(hf:bK P ok ρ fr2 fr2')(hc:eo P ok ρ cs cs')(hb:lU fr cs)(e:fr2.roundOf=fr.roundOf)(hw:aC ok str ρ V W)
  {s s':GStep}{g2:Goroutine}{es:Array Event}(h:s=.go g2 V2 es)(hs:s=.go (G fr2 (cs++lb)) V)(hs':s'=.go (G fr2' (cs'++rb)) W):bD P₀ P ok str ρ lb rb V W g2 V2 s':=by
 rw[hs]at h;simp only[GStep.go.injEq]at h;obtain⟨rfl,rfl,_⟩:=h;exact⟨ρ,_,W,#[],hs',.inside hf hc (hb.swap e),hw,ee.refl _ _ _,by simp⟩
theorem bD.of_kept {lb rb:List Frame}(k:ee ρ V W σ V1 W1){g2:Goroutine}{s:GStep}(h:bD P₀ P ok str σ lb rb V1 W1 g2 V2 s){es:Array Event}(he:∀e∈es,iA σ V e):bD P₀ P ok str ρ lb rb V W g2 V2 (GStep.after es s):=by
 obtain⟨τ,h2,W2,es2,rfl,hg,hw,hk,hev⟩:=h;refine⟨τ,h2,W2,es++es2,rfl,hg,hw,k.trans hk,λe hx=>?_⟩;rcases Array.mem_append.1 hx with hx|hx
 .exact(he e hx).mono hk.le
 .exact(hev e hx).shift k hk
omit [Gl] in
theorem fA {es es':Array Event}{s:GStep}{g:Goroutine}{w:World}(h:GStep.after es s=.go g w es'):∃es2,s=.go g w es2:=by
 cases s<;>simp only[GStep.after,GStep.go.injEq,reduceCtorEq]at h
 obtain⟨rfl,rfl,_⟩:=h;exact⟨_,rfl⟩
theorem xQ (hP:bh P₀ P ok){lb rb:List Frame}{m₀ m₁:Bool}{fr fr':Frame}{cs cs':List Frame}(hf:bK P ok ρ fr fr')(hc:eo P ok ρ cs cs')(hb:lU fr cs)(hw:aC ok str ρ V W)(hm:fr.mode=.run){g2:Goroutine}{es:Array Event}
  (h:stepG.exec P₀ m₀ true fr (cs++lb) none V=.go g2 V2 es):bD P₀ P ok str ρ lb rb V W g2 V2 (stepG.exec P m₁ true fr' (cs'++rb) none W):=by
 have hev:=hf.eval;obtain⟨fn,tmps,todo,defers,mode,kind,roundOf⟩:=fr;obtain⟨fn',tmps',todo',defers',mode',kind',roundOf'⟩:=fr';have ht:=hf.todo;have hro:=hf.round;have hfn:=hf.fn;have hk:=hf.kind;have hk':=hf.kind';have hm':=hf.mode;have hi:=hf.inn;simp only at ht hro hfn hk hk' hm hm' hi;subst hm hk hk' hfn;cases hm';have to_:∀{k2 k2':List Item},fe P ok ρ k2 k2'->bK P ok ρ ⟨fn',tmps,k2,defers,.run,.normal,roundOf⟩ ⟨fn',tmps',k2',defers',.run,.normal,roundOf'⟩:=λhk=>⟨rfl,hi,hf.tmps,hk,hf.defers,.run,rfl,rfl,hro⟩
 have ret_:bK P ok ρ ⟨fn',tmps,todo,defers,.returning,.normal,roundOf⟩ ⟨fn',tmps',todo',defers',.returning,.normal,roundOf'⟩:=⟨rfl,hi,hf.tmps,ht,hf.defers,.returning,rfl,rfl,hro⟩;cases ht with
 |nil=>
  cases hro with
  |none=>exact aX ret_ hc hb rfl hw h rfl rfl
  |some hl=>exact jo hf hc hb hw none (by simp) rfl hl h
 |@cons x x' k k' hx hk2=>
  cases hx with
  |inBlock id=>exact aX (to_ hk2) hc hb rfl hw h rfl rfl
  |inScope hcode=>exact aX (to_ hk2) hc hb rfl hw h rfl rfl
  |@inLoop body hcode=>exact aX (to_ (.cons (.code hcode) (.cons (.inLoop hcode) hk2))) hc hb rfl hw h rfl rfl
  |inRangeFunc hl=>cases h
  |@endRangeFunc l l' hl=>
   have h':(let(r,es):=(Instr.endLoop l).runT P₀ V #[];GStep.after (seen P₀ fn' es)<|match r with
    |.ok jump w=>.go (G ⟨fn',tmps,(jump.map Item.code).toList++k,defers,.run,.normal,roundOf⟩ (cs++lb)) w
    |.halt (.panic v) w=>.go (G (Frame.raise ⟨fn',tmps,.endRangeFunc l::k,defers,.run,.normal,roundOf⟩ [{v,recovered:=false}]) (cs++lb)) w
    |.halt _ w=>.ended (.stuck "range over a function: no such loop" (Frame.pos P₀ ⟨fn',tmps,.endRangeFunc l::k,defers,.run,.normal,roundOf⟩)) w)=.go g2 V2 es:=h
   show bD P₀ P ok str ρ lb rb V W g2 V2 (let(r,es):=(Instr.endLoop l').runT P W #[];GStep.after (seen P fn' es)<|match r with
    |.ok jump w=>.go (G ⟨fn',tmps',(jump.map Item.code).toList++k',defers',.run,.normal,roundOf'⟩ (cs'++rb)) w
    |.halt (.panic v) w=>.go (G (Frame.raise ⟨fn',tmps',.endRangeFunc l'::k',defers',.run,.normal,roundOf'⟩ [{v,recovered:=false}]) (cs'++rb)) w
    |.halt _ w=>.ended (.stuck "range over a function: no such loop" (Frame.pos P ⟨fn',tmps',.endRangeFunc l'::k',defers',.run,.normal,roundOf'⟩)) w)
   clear h;generalize hrun:(Instr.endLoop l).runT P₀ V #[]=x at h';obtain⟨r,e1⟩:=x;rcases(m9 (P₀:=P₀) (P:=P) (str:=str) hP.tab hl).sound #[] #[] hw hrun with hst|⟨σ,r',V',W',d',h1,h2,h4,h5⟩
   .exfalso;cases r with
    |ok a w=>cases hst
    |halt hh w=>cases hh<;>first|cases hst;done|exact ce h'
   .have h1':(Instr.endLoop l').runT P W #[]=(r',d'):=by rw[h1];simp
    rw[h1'];obtain⟨es3,h3⟩:=fA h';refine bD.of_kept h4 ?_ (λe he=>h5 e (eH _ _ _ e he));cases h2 with
    |@ok j j' V' W' hv hw'=>
     obtain⟨rfl,hj⟩:=hv;refine aX (fr:=⟨fn',tmps,.endRangeFunc l::k,defers,.run,.normal,roundOf⟩) (fr2:=⟨fn',tmps,(j.map Item.code).toList++k,defers,.run,.normal,roundOf⟩) (fr2':=⟨fn',tmps',(j.map Item.code).toList++k',defers',.run,.normal,roundOf'⟩)
      ⟨rfl,hi,hf.tmps.mono h4.le,?_,hf.defers.mono h4.le,.run,rfl,rfl,hro.mono h4.le⟩ (hc.mono h4.le) hb rfl hw' h3 rfl rfl
     cases j with
     |none=>exact hk2.mono h4.le
     |some c=>exact .cons (.code ((hP.code c).symm.trans (hj c rfl))) (hk2.mono h4.le)
    |@panic v v' V' W' hv hw'=>exact aX (fr:=⟨fn',tmps,.endRangeFunc l::k,defers,.run,.normal,roundOf⟩) ((hf.mono h4.le).raise _ _) (hc.mono h4.le) hb rfl hw' h3 rfl rfl
  |beginRound=>
   refine lp hP.toSame ?_ hf hc hb hw h;refine qp (A:=λ_ _ _=>True) ?_;cases hro with
   |none=>exact .halt _ _
   |some hl=>exact jH hP.tab hl
  |@inRegion ops todo ho=>
   cases todo with
   |nil=>exact aX (to_ hk2) hc hb rfl hw h rfl rfl
   |cons i rest=>
    have h':(if((ops[i]?).map (Region.wanted · (yielded ops tmps))).getD false then stepG.oper P₀ true ⟨fn',tmps,.inRegion ops (i::rest)::k,defers,.run,.normal,roundOf⟩ (cs++lb) none V
     else .go (G (Frame.finish ⟨fn',tmps,.inRegion ops (i::rest)::k,defers,.run,.normal,roundOf⟩ undef) (cs++lb)) V)=.go g2 V2 es:=h
    show bD P₀ P ok str ρ lb rb V W g2 V2 (if((ops[i]?).map (Region.wanted · (yielded ops tmps'))).getD false then stepG.oper P true ⟨fn',tmps',.inRegion ops (i::rest)::k',defers',.run,.normal,roundOf'⟩ (cs'++rb) none W
     else .go (G (Frame.finish ⟨fn',tmps',.inRegion ops (i::rest)::k',defers',.run,.normal,roundOf'⟩ undef) (cs'++rb)) W)
    clear h;rw[tO hf.tmps];split at h'
    .rename_i hwant;rw[if_pos hwant];cases hoi:ops[i]? with
     |none=>rw[hoi]at hwant;cases hwant
     |some o=>
      have hop:fO P ok.fn o.op=true:=by
       rw[Array.all_eq_true]at ho;obtain⟨hlt,rfl⟩:=Array.getElem?_eq_some_iff.1 hoi;exact ho i hlt
      have nd:∀c,o.op≠.defer c:=by
       intro c e;rw[e]at hop;cases hop
      have e1:∀(Q:Program) (t:Array Value) (kk:List Item) (d:List Deferred) (ro:Option Nat) (cc:List Frame) (w:World),stepG.oper Q true ⟨fn',t,.inRegion ops (i::rest)::kk,d,.run,.normal,ro⟩ cc none w=
        stepG.apply Q true ⟨fn',t,.inRegion ops (i::rest)::kk,d,.run,.normal,ro⟩ cc none (execOp (Frame.eval ⟨fn',t,.inRegion ops (i::rest)::kk,d,.run,.normal,ro⟩) o) w:=by
       intro Q t kk d ro cc w;simp only[stepG.oper,Frame.oper?,hoi];split
       .rename_i e;exact absurd e (nd _)
       .rfl
      rw[e1]at h'⊢;exact lp hP.toSame (AW hP.tab hP.glob hP.toCallable o hop hev (λ_=>⟨rfl,rfl⟩)) hf hc hb hw h'
    .rename_i hwant;rw[if_neg hwant];exact aX (hf.finish fu) hc hb (dG _ _) hw h' rfl rfl
  |@code c hcode=>
   cases c with
   |skip=>exact aX (to_ hk2) hc hb rfl hw h rfl rfl
   |label l=>exact aX (to_ hk2) hc hb rfl hw h rfl rfl
   |seq a b=>
    simp only[aI,Bool.and_eq_true]at hcode;exact aX (to_ (.cons (.code hcode.1) (.cons (.code hcode.2) hk2))) hc hb rfl hw h rfl rfl
   |cond c a b=>
    simp only[aI,Bool.and_eq_true]at hcode;have he:=hev c hcode.1.1;have h':(match Frame.eval ⟨fn',tmps,.code (.cond c a b)::k,defers,.run,.normal,roundOf⟩ c with
     |.bool t=>GStep.go (G ⟨fn',tmps,.code (if t then a else b)::k,defers,.run,.normal,roundOf⟩ (cs++lb)) V
     |_=>.ended (.stuck "cond: bool expected" (Frame.pos P₀ ⟨fn',tmps,.code (.cond c a b)::k,defers,.run,.normal,roundOf⟩)) V)=.go g2 V2 es:=h
    show bD P₀ P ok str ρ lb rb V W g2 V2 (match Frame.eval ⟨fn',tmps',.code (.cond c a b)::k',defers',.run,.normal,roundOf'⟩ c with
     |.bool t=>GStep.go (G ⟨fn',tmps',.code (if t then a else b)::k',defers',.run,.normal,roundOf'⟩ (cs'++rb)) W
     |_=>.ended (.stuck "cond: bool expected" (Frame.pos P ⟨fn',tmps',.code (.cond c a b)::k',defers',.run,.normal,roundOf'⟩)) W)
    clear h;generalize Frame.eval ⟨fn',tmps,.code (.cond c a b)::k,defers,.run,.normal,roundOf⟩ c=v at he h';generalize Frame.eval ⟨fn',tmps',.code (.cond c a b)::k',defers',.run,.normal,roundOf'⟩ c=v' at he;cases he with
    |bool t=>
     refine aX (to_ (.cons (.code (c:=if t then a else b) ?_) hk2)) hc hb rfl hw h' rfl rfl;cases t
     .exact hcode.2
     .exact hcode.1.2
    |_=>cases h'
   |block id b=>exact aX (to_ (.cons (.code (c:=b) hcode) (.cons (.inBlock id) hk2))) hc hb rfl hw h rfl rfl
   |loop b=>exact aX (to_ (.cons (.code (c:=b) hcode) (.cons (.inLoop (c:=b) hcode) hk2))) hc hb rfl hw h rfl rfl
   |scope b=>exact aX (to_ (.cons (.code (c:=b) hcode) (.cons (.inScope (c:=b) hcode) hk2))) hc hb rfl hw h rfl rfl
   |exit id=>
    rcases hk2.exit (id:=id)with⟨n1,n2⟩|⟨q,q',s1,s2,hq⟩
    .simp only[stepG.exec,n1,Option.elim_none]at h;simp only[stepG.exec,n2,Option.elim_none];cases hro with
     |none=>simp at h
     |some hl=>exact jo hf hc hb hw (some (.exit id)) (by simp[hP.code,aI]) rfl hl h
    .simp only[stepG.exec,s1,Option.elim_some]at h;simp only[stepG.exec,s2,Option.elim_some];exact aX (to_ hq) hc hb rfl hw h rfl rfl
   |goto id=>
    rcases hk2.goto (id:=id)with⟨n1,n2⟩|⟨q,q',s1,s2,hq⟩
    .simp only[stepG.exec,n1,Option.elim_none]at h;simp only[stepG.exec,n2,Option.elim_none];cases hro with
     |none=>simp at h
     |some hl=>exact jo hf hc hb hw (some (.goto id)) (by simp[hP.code,aI]) rfl hl h
    .simp only[stepG.exec,s1,Option.elim_some]at h;simp only[stepG.exec,s2,Option.elim_some];exact aX (to_ hq) hc hb rfl hw h rfl rfl
   |ret=>
    cases hro with
    |none=>exact aX ret_ hc hb rfl hw h rfl rfl
    |some hl=>exact jo hf hc hb hw (some .ret) (by simp[hP.code,aI]) rfl hl h
   |region id ops draw=>
    cases draw with
    |false=>exact aX (to_ (.cons (.inRegion _ hcode) hk2)) hc hb rfl hw h rfl rfl
    |true=>
     have hq:(Question.order fn' id).forced=false:=rfl;simp only[stepG.exec,choose,Sem.run,hq,Bool.not_true,Bool.false_eq_true,if_false]at h⊢;have e:W.tape W.drawn (.order fn' id)=V.tape V.drawn (.order fn' id):=by rw[hw.tape,hw.drawn]
     have hw':aC ok str ρ {V with drawn:=V.drawn+1} {W with drawn:=W.drawn+1}:=⟨hw.heap,hw.tape,by simp only[hw.drawn],hw.gV,hw.gW⟩;rw[e,show P.follows .mixedOrders=P₀.follows .mixedOrders by rw[hP.tab]];have:=aX (P₀:=P₀) (rb:=rb) (to_ (.cons (.inRegion (Region.schedule (P₀.follows .mixedOrders) ops ((Question.order fn' id).cut (V.tape V.drawn (.order fn' id)))) hcode) hk2)) hc hb rfl hw' h rfl rfl;obtain⟨σ,h2,W2,es2,a1,a2,a3,a4,a5⟩:=this;exact⟨σ,h2,W2,es2,a1,a2,a3,⟨a4.le,a4.keep,a4.ro,a4.size,a4.sizeV,a4.new,a4.tape,a4.os,a4.out⟩,a5⟩
   |rangeFunc f params a b=>
    simp only[aI,Bool.and_eq_true]at hcode;have h':(let(r,es):=(Instr.enterLoop fn' tmps params a b roundOf).runT P₀ V #[];GStep.after (seen P₀ fn' es)<|match r with
     |.ok (l,mark) w=>stepG.apply P₀ true ⟨fn',tmps,.inRangeFunc l::k,mark++defers,.run,.normal,roundOf⟩ (cs++lb) none (do let d <-resolve (Frame.eval ⟨fn',tmps,.inRangeFunc l::k,mark++defers,.run,.normal,roundOf⟩) {callee:=.value f,args:=#[.const (.func (.yield l) #[] #[])],argTypes:=#[]} 0;invoke d.target d.args) w
     |.halt _ w=>.ended (.stuck "range over a function: no such loop" (Frame.pos P₀ ⟨fn',tmps,.code (.rangeFunc f params a b)::k,defers,.run,.normal,roundOf⟩)) w)=.go g2 V2 es:=h
    show bD P₀ P ok str ρ lb rb V W g2 V2 (let(r,es):=(Instr.enterLoop fn' tmps' params a b roundOf').runT P W #[];GStep.after (seen P fn' es)<|match r with
     |.ok (l,mark) w=>stepG.apply P true ⟨fn',tmps',.inRangeFunc l::k',mark++defers',.run,.normal,roundOf'⟩ (cs'++rb) none (do let d <-resolve (Frame.eval ⟨fn',tmps',.inRangeFunc l::k',mark++defers',.run,.normal,roundOf'⟩) {callee:=.value f,args:=#[.const (.func (.yield l) #[] #[])],argTypes:=#[]} 0;invoke d.target d.args) w
     |.halt _ w=>.ended (.stuck "range over a function: no such loop" (Frame.pos P ⟨fn',tmps',.code (.rangeFunc f params a b)::k',defers',.run,.normal,roundOf'⟩)) w)
    clear h;generalize hrun:(Instr.enterLoop fn' tmps params a b roundOf).runT P₀ V #[]=x at h';obtain⟨r,e1⟩:=x;rcases(kB (P₀:=P₀) (P:=P) (str:=str) fn' hi hf.tmps params ((hP.code a).trans hcode.1.2) ((hP.code b).trans hcode.2) hro).sound #[] #[] hw hrun with hst|⟨σ,r',V',W',d',h1,h2,h4,h5⟩
    .exfalso;cases r with
     |ok a w=>cases hst
     |halt hh w=>exact ce h'
    .have h1':(Instr.enterLoop fn' tmps' params a b roundOf').runT P W #[]=(r',d'):=by rw[h1];simp
     rw[h1'];obtain⟨es3,h3⟩:=fA h';refine bD.of_kept h4 ?_ (λe he=>h5 e (eH _ _ _ e he));cases h2 with
     |panic _ _=>cases h3
     |@ok j j' V' W' hv hw'=>
      obtain⟨l,mark⟩:=j;obtain⟨l',mark'⟩:=j';obtain⟨hl,hmk⟩:=hv;have hf2:bK P ok σ ⟨fn',tmps,.inRangeFunc l::k,mark++defers,.run,.normal,roundOf⟩ ⟨fn',tmps',.inRangeFunc l'::k',mark'++defers',.run,.normal,roundOf'⟩:=
       ⟨rfl,hi,hf.tmps.mono h4.le,.cons (.inRangeFunc hl) (hk2.mono h4.le),hmk.append (hf.defers.mono h4.le),.run,rfl,rfl,hro.mono h4.le⟩
      refine lp hP.toSame ?_ hf2 (hc.mono h4.le) (hb.swap rfl) hw' h3;have hfv:=hf2.eval f hcode.1.1;have hy:an ok σ #[.func (.yield l) #[] #[]] #[.func (.yield l') #[] #[]]:=an.nil.push (.func (.yield hl) rfl an.nil.at_ rfl an.nil.at_);unfold resolve;dsimp only;generalize Frame.eval ⟨fn',tmps,.inRangeFunc l::k,mark++defers,.run,.normal,roundOf⟩ f=v at hfv;generalize Frame.eval ⟨fn',tmps',.inRangeFunc l'::k',mark'++defers',.run,.normal,roundOf'⟩ f=v' at hfv;cases hfv with
      |func hfn e1 g1 e2 g2=>
       refine aD ?_;exact ll hP.tab hP.toCallable (.fn hfn ⟨e2,g2⟩) (by simp) (an.append ⟨e1,g1⟩ (by simpa[Frame.eval]using hy))
      |nilFunc=>exact dg hP.tab .nilDeref rfl
      |hole _=>exact .dead _ _ λV=>iH hP.hole _ V
      |_=>exact .halt _ _
   |refuse w=>cases hcode
theorem tP (hP:bh P₀ P ok){lb rb:List Frame}{m₀ m₁:Bool}{fr fr':Frame}{cs cs':List Frame}(hf:bK P ok ρ fr fr')(hc:eo P ok ρ cs cs')(hb:lU fr cs)(hw:aC ok str ρ V W)(hm:fr.mode≠.run)(hl:cs=[]->fr.defers≠[])
  {g2:Goroutine}{es:Array Event}(h:unwind P₀ m₀ fr (cs++lb) none V=.go g2 V2 es):bD P₀ P ok str ρ lb rb V W g2 V2 (unwind P m₁ fr' (cs'++rb) none W):=by
 obtain⟨fn,tmps,todo,defers,mode,kind,roundOf⟩:=fr;obtain⟨fn',tmps',todo',defers',mode',kind',roundOf'⟩:=fr';have hfn:=hf.fn;have hk:=hf.kind;have hk':=hf.kind';have hm':=hf.mode;have hi:=hf.inn;have hd:=hf.defers;simp only at hfn hk hk' hm hm' hi hd hl;subst hk hk' hfn;obtain⟨F,c,f1,f2,f3,f4⟩:=hP.same fn' hi;cases hd with
 |@cons r0 r0' ds ds' hr hds=>
  have h':(let(r,es):=(Instr.takeDeferred r0).runT P₀ V #[];GStep.after (seen P₀ fn' es)<|match r with
   |.ok calls w=>.go (G ⟨fn',tmps,todo,calls++ds,mode,.normal,roundOf⟩ (cs++lb)) w
   |.halt _ w=>.ended (.stuck "the deferred calls of a range-over-func loop have been taken" (Frame.pos P₀ ⟨fn',tmps,todo,{target:=.collected r0,args:=#[]}::ds,mode,.normal,roundOf⟩)) w)=.go g2 V2 es:=h
  show bD P₀ P ok str ρ lb rb V W g2 V2 (let(r,es):=(Instr.takeDeferred r0').runT P W #[];GStep.after (seen P fn' es)<|match r with
   |.ok calls w=>.go (G ⟨fn',tmps',todo',calls++ds',mode',.normal,roundOf'⟩ (cs'++rb)) w
   |.halt _ w=>.ended (.stuck "the deferred calls of a range-over-func loop have been taken" (Frame.pos P ⟨fn',tmps',todo',{target:=.collected r0',args:=#[]}::ds',mode',.normal,roundOf'⟩)) w)
  clear h;generalize hrun:(Instr.takeDeferred r0).runT P₀ V #[]=x at h';obtain⟨r,e1⟩:=x;rcases(uV (P₀:=P₀) (P:=P) (ok:=ok) (str:=str) hr).sound #[] #[] hw hrun with hst|⟨σ,r',V',W',d',h1,h2,h4,h5⟩
  .exfalso;cases r with
   |ok a w=>cases hst
   |halt hh w=>exact ce h'
  .have h1':(Instr.takeDeferred r0').runT P W #[]=(r',d'):=by rw[h1];simp
   rw[h1'];obtain⟨es3,h3⟩:=fA h';refine bD.of_kept h4 ?_ (λe he=>h5 e (eH _ _ _ e he));cases h2 with
   |panic _ _=>cases h3
   |@ok j j' V' W' hv hw'=>
    obtain⟨rfl,rfl⟩:=hv;exact aX (fr2:=⟨fn',tmps,todo,ds,mode,.normal,roundOf⟩) (fr2':=⟨fn',tmps',todo',ds',mode',.normal,roundOf'⟩)
     ⟨rfl,hi,hf.tmps.mono h4.le,hf.todo.mono h4.le,hds.mono h4.le,hm',rfl,rfl,hf.round.mono h4.le⟩ (hc.mono h4.le) hb rfl hw' h3 rfl rfl
 |nil=>
  cases hc with
  |nil=>exact absurd rfl (hl rfl)
  |@cons a a' cs cs' ha hcs=>
   cases hm' with
   |run=>exact absurd rfl hm
   |@panicking ch ch'=>
    have c1:Frame.catches P₀ ⟨fn',tmps,todo,[],.panicking ch,.normal,roundOf⟩=false:=by simp[Frame.catches,f1]
    have c2:Frame.catches P ⟨fn',tmps',todo',[],.panicking ch',.normal,roundOf'⟩=false:=by simp[Frame.catches,f2]
    simp only[unwind,c1,List.cons_append,Bool.false_eq_true,if_false,GStep.go.injEq]at h;obtain⟨rfl,rfl,_⟩:=h;refine⟨ρ,G (a'.raise ch') (cs'++rb),W,#[],?_,.inside (ha.raise _ _) hcs (hb.pop (lV _ _)),hw,ee.refl _ _ _,by simp⟩;simp only[unwind,c2,List.cons_append,Bool.false_eq_true,if_false];rfl
   |returning=>
    have h':(let(r,es):=(results F tmps).runT P₀ V #[];GStep.after (seen P₀ fn' es)<|match r with
     |.ok v w=>.go (G (a.finish v) (cs++lb)) w
     |.halt (.stuck s) w=>.ended (.stuck s (Frame.pos P₀ ⟨fn',tmps,todo,[],.returning,.normal,roundOf⟩)) w
     |.halt _ w=>.ended (.stuck "return: the result variables cannot be read" (Frame.pos P₀ ⟨fn',tmps,todo,[],.returning,.normal,roundOf⟩)) w)=.go g2 V2 es:=by
     rw[<-h];simp only[unwind,f1,List.cons_append,doReturn];rfl
    have e':unwind P m₁ ⟨fn',tmps',todo',[],.returning,.normal,roundOf'⟩ (a'::cs'++rb) none W=(let(r,es):=(results F tmps').runT P W #[];GStep.after (seen P fn' es)<|match r with
     |.ok v w=>.go (G (a'.finish v) (cs'++rb)) w
     |.halt (.stuck s) w=>.ended (.stuck s (Frame.pos P ⟨fn',tmps',todo',[],.returning,.normal,roundOf'⟩)) w
     |.halt _ w=>.ended (.stuck "return: the result variables cannot be read" (Frame.pos P ⟨fn',tmps',todo',[],.returning,.normal,roundOf'⟩)) w):=by
     simp only[unwind,f2,List.cons_append,doReturn];rfl
    rw[e'];clear h e';generalize hrun:(results F tmps).runT P₀ V #[]=x at h';obtain⟨r,e1⟩:=x;rcases(gX (P₀:=P₀) (P:=P) (str:=str) hP.tab F hf.tmps).sound #[] #[] hw hrun with hst|⟨σ,r',V',W',d',h1,h2,h4,h5⟩
    .exfalso;cases r with
     |ok a w=>cases hst
     |halt hh w=>cases hh<;>exact ce h'
    .have h1':(results F tmps').runT P W #[]=(r',d'):=by rw[h1];simp
     rw[h1'];obtain⟨es3,h3⟩:=fA h';refine bD.of_kept h4 ?_ (λe he=>h5 e (eH _ _ _ e he));cases h2 with
     |panic _ _=>cases h3
     |@ok j j' V' W' hv hw'=>
      have hb2:lU a cs:=hb.pop rfl;exact aX ((ha.mono h4.le).finish hv) (hcs.mono h4.le) hb2 (dG _ _) hw' h3 rfl rfl
theorem kC (hP:bh P₀ P ok){lb rb:List Frame}{m₀ m₁:Bool}{fr fr':Frame}{cs cs':List Frame}(hf:bK P ok ρ fr fr')(hc:eo P ok ρ cs cs')(hb:lU fr cs)(hw:aC ok str ρ V W)(hl:cs=[]->fr.mode≠.run->fr.defers≠[])
  {g2:Goroutine}{es:Array Event}(h:stepG P₀ m₀ (G fr (cs++lb)) V=.go g2 V2 es):bD P₀ P ok str ρ lb rb V W g2 V2 (stepG P m₁ (G fr' (cs'++rb)) W):=by
 by_cases hm:fr.mode=.run
 .rw[lq hm]at h;rw[lq (hf.mode.run_of hm)];exact xQ hP hf hc hb hw hm h
 .have hm':fr'.mode≠.run:=by
   intro e;have:=hf.mode;rw[e]at this;generalize fr.mode=m at this hm;cases this;exact hm rfl
  rw[ew hm]at h;rw[ew hm'];exact tP hP hf hc hb hw hm (λe=>hl e hm) h
end
end Go.Proofs.YtlmcblcijndipabGreatDoor
namespace Go.Proofs.YtlmcblcijndipabGreatDoor
open Go Go.Conc
variable [Gl]
def re (w:World)(τ:Nat->Question->Nat)(d:Nat):World:={w with tape:=τ,drawn:=d}
def fB (t:Nat->Question->Nat)(a:Nat)(t':Nat->Question->Nat)(b n:Nat):Prop:=∀i,i<n->∀q,t (a+i) q=t' (b+i) q
omit [Gl] in
theorem fB.less {t t':Nat->Question->Nat}{a b n m:Nat}(h:fB t a t' b n)(l:m<=n):fB t a t' b m:=λi hi q=>h i (by omega) q
omit [Gl] in
theorem fB.tail {t t':Nat->Question->Nat}{a b n k:Nat}(h:fB t a t' b (k+n)):fB t (a+k) t' (b+k) n:=λi hi q=>by
 have:=h (k+i) (by omega) q;rw[show a+k+i=a+(k+i) by omega,show b+k+i=b+(k+i) by omega];exact this
def du {α:Type}:Result α->World
 |.ok _ w=>w
 |.halt _ w=>w
def Ck {α:Type}(τ:Nat->Question->Nat)(d:Nat):Result α->Result α
 |.ok a w=>.ok a (re w τ d)
 |.halt h w=>.halt h (re w τ d)
section
variable {P₀ P:Program}{ok:Ctx}{str:Bool}{ρ:Ren}
theorem aa.shift {α β:Type}{A:Ren->α->β->Prop}{s:Sem α}{s':Sem β}(h:aa P₀ P ok str A ρ s s'):
  ∀{V W:World} (es:Array Event) {r:Result α} {e1:Array Event},aC ok str ρ V W->s.runT P₀ V es=(r,e1)->Result.stops r=true\/
   (V.drawn<=(du r).drawn/\(du r).tape=V.tape/\∀τ d,fB V.tape V.drawn τ d ((du r).drawn-V.drawn)->s.runT P₀ (re V τ d) es=(Ck τ (d+((du r).drawn-V.drawn)) r,e1)):=by
 induction h with
 |@pure ρ a b hA=>
  intro V W es x e1 hw hr;simp only[Sem.runT,Prod.mk.injEq]at hr;obtain⟨rfl,rfl⟩:=hr;exact .inr ⟨Nat.le_refl _,rfl,λτ d _=>by simp[Sem.runT,Ck,du,re]⟩
 |@load ρ a a' k k' ra _ ih=>
  intro V W es x e1 hw hr;simp only[Sem.runT]at hr;cases hc:V.cell? a with
  |none=>
   rw[hc]at hr;obtain⟨y,hy⟩:=hw.far ra.blk (Mode.plain==Mode.atomic) P₀;simp only[hy,Prod.mk.injEq]at hr;obtain⟨rfl,_⟩:=hr;exact .inl rfl
  |some v=>
   rw[hc]at hr;obtain⟨v',hv',rv⟩:=hw.load ra hc;rcases ih v v' rv _ hw hr with h|⟨h1,h2,h3⟩
   .exact .inl h
   .refine .inr ⟨h1,h2,λτ d hA=>?_⟩;have:(re V τ d).cell? a=some v:=hc;simp only[Sem.runT,this];exact h3 τ d hA
 |@store ρ a a' v v' k k' ra rv _ ih=>
  intro V W es x e1 hw hr;by_cases hn:(∃cs,v=.agg cs)\/(∃cs,v=.tuple cs)
  .rcases hn with⟨cs,rfl⟩|⟨cs,rfl⟩
   .simp only[Sem.runT,Prod.mk.injEq]at hr;obtain⟨rfl,_⟩:=hr;exact .inl rfl
   .simp only[Sem.runT,Prod.mk.injEq]at hr;obtain⟨rfl,_⟩:=hr;exact .inl rfl
  have n1:∀cs,v≠.agg cs:=λcs e=>hn (.inl ⟨cs,e⟩)
  have n2:∀cs,v≠.tuple cs:=λcs e=>hn (.inr ⟨cs,e⟩)
  have unf:∀(U:World),(Sem.store .plain a v k).runT P₀ U es=(match U.cell? a with
   |some _=>if U.frozen? a then(Result.halt (.unsupported (.unsafePointer "a write to bytes that a string shares")) U,es)else k.runT P₀ (U.setCell a v) (es.push ⟨.cell a,true,false⟩)
   |none=>match U.farStore P₀ a v (Mode.plain==Mode.atomic)with
    |.ok (w,touched)=>k.runT P₀ w (es++touched.toArray.map (⟨.cell ·,true,Mode.plain==Mode.atomic⟩))
    |.error h=>(.halt h U,es)):=by
   intro U;cases v<;>first|exact absurd rfl (n1 _)|exact absurd rfl (n2 _)|(simp only[Sem.runT];rfl)
  rw[unf]at hr;cases hc:V.cell? a with
  |none=>
   rw[hc]at hr;obtain⟨y,hy⟩:=hw.farS ra.blk v (Mode.plain==Mode.atomic) P₀;simp only[hy,Prod.mk.injEq]at hr;obtain⟨rfl,_⟩:=hr;exact .inl rfl
  |some y=>
   rw[hc]at hr;simp only at hr;cases hf:V.frozen? a with
   |true=>
    rw[hf]at hr;simp only[if_true,Prod.mk.injEq]at hr;obtain⟨rfl,_⟩:=hr;exact .inl rfl
   |false=>
    rw[hf]at hr;rcases ih _ (hw.store ra rv) hr with h|⟨h1,h2,h3⟩
    .exact .inl h
    .refine .inr ⟨h1,h2,λτ d hA=>?_⟩;have e1:(re V τ d).cell? a=some y:=hc;have e2:(re V τ d).frozen? a=false:=hf;rw[unf,e1];simp only[e2,Bool.false_eq_true,if_false];exact h3 τ d hA
 |@new ρ o o' k k' ro _ ih=>
  intro V W es x e1 hw hr;simp only[Sem.runT]at hr;obtain⟨hw1,hk1⟩:=hw.new ro;rcases ih _ V.heap.size W.heap.size hw.ext_le hw.ext_at _ hw1 hr with h|⟨h1,h2,h3⟩
  .exact .inl h
  .exact .inr ⟨h1,h2,λτ d hA=>by simp only[Sem.runT];exact h3 τ d hA⟩
 |@shape ρ r r' k k' hr' _ ih=>
  intro V W es x e1 hw hr;simp only[Sem.runT]at hr⊢;exact ih _ _ hw hr
 |dead s s' h=>
  intro V W es x e1 hw hr;have h1:=Sem.runT_fst P₀ s V es;rw[hr]at h1;exact .inl (by have:=h V;rw[<-h1]at this;exact this)
 |@getObj ρ r r' k k' hr' _ ih=>
  intro V W es x e1 hw hr;cases ho:V.heap[r]? with
  |none=>simp only[Sem.runT,ho,Prod.mk.injEq]at hr;obtain⟨rfl,_⟩:=hr;exact .inl rfl
  |some o=>
   obtain⟨o',ho',ro⟩:=hw.getObj hr' ho;rcases ro.kinds with⟨⟨c,e,z,rfl⟩,_⟩|⟨n1,n2⟩
   .simp only[Sem.runT,ho,Prod.mk.injEq]at hr;obtain⟨rfl,_⟩:=hr;exact .inl rfl
   .have unf:∀U:World,U.heap[r]?=some o->(Sem.getObj r k).runT P₀ U es=(k o).runT P₀ U (es.push ⟨.obj r,false,o.isChan⟩):=by
     intro U hU;cases o<;>first|exact absurd rfl (n1 _ _ _)|simp only[Sem.runT,hU]
    rw[unf V ho]at hr;rcases ih _ _ ro _ hw hr with h|⟨h1,h2,h3⟩
    .exact .inl h
    .exact .inr ⟨h1,h2,λτ d hA=>by rw[unf (re V τ d) ho];exact h3 τ d hA⟩
 |@setObj ρ r r' o o' k k' hr' ro _ ih=>
  intro V W es x e1 hw hr;cases hx:V.heap[r]? with
  |none=>simp only[Sem.runT,hx,Prod.mk.injEq]at hr;obtain⟨rfl,_⟩:=hr;exact .inl rfl
  |some y=>
   obtain⟨y',hy',ry⟩:=hw.getObj hr' hx;rcases ry.kinds with⟨⟨c,e,z,rfl⟩,_⟩|⟨n1,n2⟩
   .simp only[Sem.runT,hx,Prod.mk.injEq]at hr;obtain⟨rfl,_⟩:=hr;exact .inl rfl
   .have unf:∀U:World,U.heap[r]?=some y->(Sem.setObj r o k).runT P₀ U es=k.runT P₀ {U with heap:=U.heap.setIfInBounds r o} (es.push ⟨.obj r,true,o.isChan⟩):=by
     intro U hU;cases y<;>first|exact absurd rfl (n1 _ _ _)|simp only[Sem.runT,hU]
    rw[unf V hx]at hr;rcases ih _ (hw.setObj hr' ro) hr with h|⟨h1,h2,h3⟩
    .exact .inl h
    .exact .inr ⟨h1,h2,λτ d hA=>by rw[unf (re V τ d) hx];exact h3 τ d hA⟩
 |@choose ρ q k k' _ ih=>
  intro V W es x e1 hw hr;simp only[Sem.runT]at hr⊢;split at hr
  .rename_i hq;simp only[if_pos hq];exact ih _ _ hw hr
  .rename_i hq;have hw':aC ok str ρ {V with drawn:=V.drawn+1} {W with drawn:=W.drawn+1}:=⟨hw.heap,hw.tape,by simp only[hw.drawn],hw.gV,hw.gW⟩;rcases ih _ _ hw' hr with h|⟨h1,h2,h3⟩
   .exact .inl h
   .simp only at h1 h2 h3;refine .inr ⟨by omega,h2,λτ d hA=>?_⟩;rw[if_neg hq];have e0:τ d q=V.tape V.drawn q:=(hA 0 (by omega) q).symm;have:=h3 τ (d+1) (by
     have:fB V.tape V.drawn τ d (1+((du x).drawn-(V.drawn+1))):=hA.less (by omega);exact this.tail)
    rw[show d+1+((du x).drawn-(V.drawn+1))=d+((du x).drawn-V.drawn) by omega]at this;rw[<-this];simp only[re,e0]
 |@program ρ k k' _ ih=>
  intro V W es x e1 hw hr;simp only[Sem.runT]at hr⊢;exact ih _ hw hr
 |@mark ρ m k k' hm _ ih=>
  intro V W es x e1 hw hr;simp only[Sem.runT]at hr⊢;exact ih _ hw hr
 |@panic ρ v v' hv=>
  intro V W es x e1 hw hr;simp only[Sem.runT,Prod.mk.injEq]at hr;obtain⟨rfl,rfl⟩:=hr;exact .inr ⟨Nat.le_refl _,rfl,λτ d _=>by simp[Sem.runT,Ck,du,re]⟩
 |halt h s he=>
  intro V W es x e1 hw hr;simp only[Sem.runT,Prod.mk.injEq]at hr;obtain⟨rfl,_⟩:=hr;exact .inl he
end
end Go.Proofs.YtlmcblcijndipabGreatDoor
namespace Go.Proofs.YtlmcblcijndipabGreatDoor
open Go Go.Conc
variable [Gl]
def Sh (F:World->GStep)(V:World):Prop:=((∃g2 V2 es,F V=.go g2 V2 es)\/∃o w es,F V=.ended o w es)/\∀g2 V2 es,F V=.go g2 V2 es->V.drawn<=V2.drawn/\V2.tape=V.tape/\
 ∀τ d,fB V.tape V.drawn τ d (V2.drawn-V.drawn)->F (re V τ d)=.go g2 (re V2 τ (d+(V2.drawn-V.drawn))) es
omit [Gl] in
theorem bP {F:World->GStep}{V:World}(g:Goroutine)(es:Array Event)(h:∀w,F w=.go g w es):Sh F V:=by
 refine⟨.inl ⟨_,_,_,h V⟩,?_⟩;intro g2 V2 es2 e;rw[h]at e;simp only[GStep.go.injEq]at e;obtain⟨rfl,rfl,rfl⟩:=e;refine⟨Nat.le_refl _,rfl,λτ d _=>?_⟩;rw[h];simp[re]
omit [Gl] in
theorem kD {F:World->GStep}{V:World}(h:∃o w es,F V=.ended o w es):Sh F V:=by
 refine⟨.inr h,?_⟩;intro g2 V2 es2 e;obtain⟨o,w,es,h⟩:=h;rw[h]at e;cases e
omit [Gl] in
theorem tQ {es:Array Event}{s:GStep}(h:(∃g2 V2 es',s=.go g2 V2 es')\/∃o w es',s=.ended o w es'):(∃g2 V2 es',GStep.after es s=.go g2 V2 es')\/∃o w es',GStep.after es s=.ended o w es':=by
 rcases h with⟨_,_,_,rfl⟩|⟨_,_,_,rfl⟩
 .exact .inl ⟨_,_,_,rfl⟩
 .exact .inr ⟨_,_,_,rfl⟩
theorem mF {P₀ P:Program}{ok:Ctx}{str:Bool}{ρ:Ren}{α β:Type}{A:Ren->α->β->Prop}{s:Sem α}{s':Sem β}(hR:aa P₀ P ok str A ρ s s'){V W:World}(hw:aC ok str ρ V W)
  {F:World->GStep}{E:Array Event->Array Event}{k:α->Goroutine}{kp:Value->Option Goroutine}(hok:∀w a w' es,s.runT P₀ w #[]=(.ok a w',es)->F w=.go (k a) w' (E es))
  (hp:∀w v w' es,s.runT P₀ w #[]=(.halt (.panic v) w',es)->match kp v with|some g=>F w=.go g w' (E es)|none=>∃o u es',F w=.ended o u es')(hs:∀w r es,s.runT P₀ w #[]=(r,es)->Result.stops r=true->∃o u es',F w=.ended o u es'):Sh F V:=by
 generalize hr:s.runT P₀ V #[]=x;obtain⟨r,e1⟩:=x;refine⟨?_,?_⟩
 .rcases hR.sound #[] #[] hw hr with hst|⟨σ,r',V',W',d',_,h5,_,_⟩
  .exact .inr (hs _ _ _ hr hst)
  .cases h5 with
   |ok _ _=>exact .inl ⟨_,_,_,hok _ _ _ _ hr⟩
   |@panic v v' V' W' _ _=>
    have h6:=hp _ _ _ _ hr;cases hk:kp v with
    |none=>rw[hk]at h6;exact .inr h6
    |some g=>rw[hk]at h6;exact .inl ⟨_,_,_,h6⟩
 intro g2 V2 es2 e;have key:Result.stops r=true->False:=by
  intro hst;obtain⟨o,u,es',h⟩:=hs _ _ _ hr hst;rw[h]at e;cases e
 rcases hR.shift #[] hw hr with hst|⟨h1,h2,h3⟩
 .exact(key hst).elim
 .rcases hR.sound #[] #[] hw hr with hst|⟨σ,r',V',W',d',_,h5,_,_⟩
  .exact(key hst).elim
  .cases h5 with
   |@ok a b V' W' _ _=>
    rw[hok _ _ _ _ hr]at e;simp only[GStep.go.injEq]at e;obtain⟨rfl,rfl,rfl⟩:=e;refine⟨h1,h2,λτ d hA=>?_⟩;exact hok _ _ _ _ (h3 τ d hA)
   |@panic v v' V' W' _ _=>
    have h6:=hp _ _ _ _ hr;cases hk:kp v with
    |none=>
     rw[hk]at h6;obtain⟨o,u,es',h⟩:=h6;rw[h]at e;cases e
    |some g=>
     rw[hk]at h6;rw[h6]at e;simp only[GStep.go.injEq]at e;obtain⟨rfl,rfl,rfl⟩:=e;refine⟨h1,h2,λτ d hA=>?_⟩;have:=hp _ _ _ _ (h3 τ d hA);rw[hk]at this;exact this
section
variable {P₀ P:Program}{ok:Ctx}{str:Bool}{ρ:Ren}{V W:World}
def uW (p:Program)(fr:Frame)(cs:List Frame):Next->Goroutine
 |.value v=>G (fr.finish v) cs
 |.skip=>G (fr.finish undef) cs
 |.enter f xs=>G (Frame.enter p f xs .normal) (fr::cs)
 |.round l f xs a b=>G (Frame.round l f xs a b .normal) (fr::cs)
 |_=>G fr cs
theorem nf {s s':Sem Next}(hR:aa P₀ P ok str (λσ x y=>iG ok σ x y) ρ s s'){fr fr':Frame}{cs:List Frame}(hf:bK P ok ρ fr fr')(hw:aC ok str ρ V W):Sh (λw=>stepG.apply P₀ true fr cs none s w) V:=by
 have hke:(CallKind.normal==CallKind.early)=false:=rfl;have hno:=hf.todo.noCall;have hR':aa P₀ P ok str (λσ x y=>iG ok σ x y) ρ s s':=hR;generalize hr:s.runT P₀ V #[]=x;obtain⟨r,e1⟩:=x;refine⟨?_,?_⟩
 .rcases hR.sound #[] #[] hw hr with hst|⟨σ,r',V',W',d',_,h5,_,_⟩
  .cases r with
   |ok a w=>cases hst
   |halt hh w=>
    cases hh with
    |stuck y=>simp only[stepG.apply,if_true,hr,GStep.after];exact .inr ⟨_,_,_,rfl⟩
    |unsupported u=>
     cases u with
     |initOrder g=>cases hst
     |_=>simp only[stepG.apply,if_true,hr,GStep.after];exact .inr ⟨_,_,_,rfl⟩
    |_=>cases hst
  .cases h5 with
   |@ok a b V' W' hN _=>
    cases hN with
    |value hv=>simp only[stepG.apply,if_true,hr,GStep.after];exact .inl ⟨_,_,_,rfl⟩
    |skip=>simp only[stepG.apply,if_true,hr,GStep.after];exact .inl ⟨_,_,_,rfl⟩
    |enter f hok hx=>exact .inl ⟨_,_,_,fQ hr hno.1 hf.kind⟩
    |round f hl hi hx ha hb=>simp only[stepG.apply,if_true,hr,GStep.after];exact .inl ⟨_,_,_,rfl⟩
   |panic _ _=>simp only[stepG.apply,if_true,hr,GStep.after];exact .inl ⟨_,_,_,rfl⟩
 intro g2 V2 es2 e;have stop:Result.stops r=true->False:=by
  intro hst;simp only at e;cases r with
  |ok a w=>cases hst
  |halt hh w=>
   cases hh with
   |stuck y=>simp only[stepG.apply,if_true,hr,GStep.after]at e;cases e
   |unsupported u=>
    cases u with
    |initOrder g=>cases hst
    |_=>simp only[stepG.apply,if_true,hr,GStep.after]at e;cases e
   |_=>cases hst
 rcases hR.shift #[] hw hr with hst|⟨h1,h2,h3⟩
 .exact(stop hst).elim
 .rcases hR'.sound #[] #[] hw hr with hst|⟨σ,r',V',W',d',_,h5,_,_⟩
  .exact(stop hst).elim
  .simp only at e⊢;cases h5 with
   |@ok a b V' W' hN _=>
    have go:∀{w w':World} {es:Array Event},s.runT P₀ w #[]=(.ok a w',es)->stepG.apply P₀ true fr cs none s w=.go (uW P₀ fr cs a) w' (seen P₀ fr.fn es):=by
     intro w w' es hh;cases hN with
     |value hv=>simp only[stepG.apply,if_true,hh,GStep.after,hf.kind,hke];simp[G,uW]
     |skip=>simp only[stepG.apply,if_true,hh,GStep.after,hf.kind,hke];simp[G,uW]
     |enter f hok hx=>exact fQ hh hno.1 hf.kind
     |round f hl hi hx ha hb=>simp only[stepG.apply,if_true,hh,GStep.after,hf.kind,hke];simp[G,uW]
    rw[go hr]at e;simp only[GStep.go.injEq]at e;obtain⟨rfl,rfl,rfl⟩:=e;exact⟨h1,h2,λτ d hA=>go (h3 τ d hA)⟩
   |@panic v v' V' W' _ _=>
    have go:∀{w w':World} {es:Array Event},s.runT P₀ w #[]=(.halt (.panic v) w',es)->stepG.apply P₀ true fr cs none s w=.go (G (fr.raise [{v,recovered:=false}]) cs) w' (seen P₀ fr.fn es):=by
     intro w w' es hh;simp only[stepG.apply,if_true,hh,GStep.after,hf.kind,hke];simp[G]
    rw[go hr]at e;simp only[GStep.go.injEq]at e;obtain⟨rfl,rfl,rfl⟩:=e;exact⟨h1,h2,λτ d hA=>go (h3 τ d hA)⟩
omit [Gl] in
theorem Sh.congr {F F':World->GStep}(h:Sh F V)(e:∀w,F' w=F w):Sh F' V:=by
 refine⟨by rw[e];exact h.1,?_⟩;intro g2 V2 es hh;rw[e]at hh;obtain⟨h1,h2,h3⟩:=h.2 g2 V2 es hh;exact⟨h1,h2,λτ d hA=>by rw[e];exact h3 τ d hA⟩
omit [Gl] in
theorem mw {p:Program}{m:Bool}{fr c:Frame}{cs:List Frame}{v:Value}{w:World}(h:fr.kind=.normal):doReturn p m fr (c::cs) none v w=.go (G (c.finish v) cs) w:=by
 simp only[doReturn,h];rfl
theorem kG {m:Bool}{fr c:Frame}{cs:List Frame}(hk:fr.kind=.normal)(hw:aC ok str ρ V W)(jump:Option Code)(hj:∀c,jump=some c->ok.code c=true){l l':Nat}(hl:ρ l=some l'):
  Sh (λw=>let(r,es):=(Instr.endRound l jump).runT P₀ w #[];GStep.after (seen P₀ fr.fn es)<|match r with|.ok v w=>doReturn P₀ m fr (c::cs) none v w|.halt _ w=>.ended (.stuck "range over a function: no such loop" (fr.pos P₀)) w) V:=by
 refine mF (P₀:=P₀) (P:=P₀) (E:=λes=>seen P₀ fr.fn es) (k:=λv=>G (c.finish v) cs) (kp:=λ_=>none) (lW hl jump hj) hw ?_ ?_ ?_
 .intro w a w' es h;simp only[h,mw hk,GStep.after];simp
 .intro w v w' es h;simp only[h,GStep.after];exact⟨_,_,_,rfl⟩
 .intro w r es h hst;cases r with
  |ok a w=>cases hst
  |halt hh w=>simp only[h,GStep.after];exact⟨_,_,_,rfl⟩
theorem zB (hP:bh P₀ P ok){m:Bool}{fr fr' c:Frame}{cs:List Frame}(hf:bK P ok ρ fr fr')(hw:aC ok str ρ V W)(hm:fr.mode=.run):Sh (λw=>stepG.exec P₀ m true fr (c::cs) none w) V:=by
 have hev:=hf.eval;obtain⟨fn,tmps,todo,defers,mode,kind,roundOf⟩:=fr;obtain⟨fn',tmps',todo',defers',mode',kind',roundOf'⟩:=fr';have ht:=hf.todo;have hro:=hf.round;have hfn:=hf.fn;have hk:=hf.kind;have hk':=hf.kind';have hm':=hf.mode;have hi:=hf.inn;simp only at ht hro hfn hk hk' hm hm' hi;subst hm hk hk' hfn;cases hm';cases ht with
 |nil=>
  cases hro with
  |none=>exact bP _ _ λw=>rfl
  |some hl=>exact kG (fr:=⟨fn',tmps,[],defers,.run,.normal,some _⟩) rfl hw none (by simp) hl
 |@cons x x' k k' hx hk2=>
  cases hx with
  |inBlock id=>exact bP _ _ λw=>rfl
  |inScope hcode=>exact bP _ _ λw=>rfl
  |@inLoop body hcode=>exact bP _ _ λw=>rfl
  |inRangeFunc hl=>exact kD ⟨_,_,_,rfl⟩
  |@endRangeFunc l l' hl=>
   refine mF (P₀:=P₀) (P:=P) (E:=λes=>seen P₀ fn' es) (k:=λj=>G ⟨fn',tmps,(j.map Item.code).toList++k,defers,.run,.normal,roundOf⟩ (c::cs))
    (kp:=λv=>some (G (Frame.raise ⟨fn',tmps,.endRangeFunc l::k,defers,.run,.normal,roundOf⟩ [{v,recovered:=false}]) (c::cs))) (m9 hP.tab hl) hw ?_ ?_ ?_
   .intro w a w' es h;simp only[stepG.exec,h,GStep.after];simp[G]
   .intro w v w' es h;simp only[stepG.exec,h,GStep.after];simp[G]
   .intro w r es h hst;cases r with
    |ok a w=>cases hst
    |halt hh w=>cases hh<;>first|cases hst;done|(simp only[stepG.exec,h,GStep.after];exact⟨_,_,_,rfl⟩)
  |beginRound=>
   refine(nf (P:=P) (s:=do roundOf.elim (stuck "beginRound: no round") Instr.beginRound;pure .skip) (s':=do roundOf'.elim (stuck "beginRound: no round") Instr.beginRound;pure .skip) ?_ hf hw (cs:=c::cs)).congr λw=>rfl
   refine qp (A:=λ_ _ _=>True) ?_;cases hro with
   |none=>exact .halt _ _
   |some hl=>exact jH hP.tab hl
  |@inRegion ops todo ho=>
   cases todo with
   |nil=>exact bP _ _ λw=>rfl
   |cons i rest=>
    by_cases hwant:((ops[i]?).map (Region.wanted · (yielded ops tmps))).getD false=true
    .cases hoi:ops[i]? with
     |none=>rw[hoi]at hwant;cases hwant
     |some o=>
      have hop:fO P ok.fn o.op=true:=by
       rw[Array.all_eq_true]at ho;obtain⟨hlt,rfl⟩:=Array.getElem?_eq_some_iff.1 hoi;exact ho i hlt
      have nd:∀c,o.op≠.defer c:=by
       intro c e;rw[e]at hop;cases hop
      have e1:∀w:World,stepG.exec P₀ m true ⟨fn',tmps,.inRegion ops (i::rest)::k,defers,.run,.normal,roundOf⟩ (c::cs) none w=
        stepG.apply P₀ true ⟨fn',tmps,.inRegion ops (i::rest)::k,defers,.run,.normal,roundOf⟩ (c::cs) none (execOp (Frame.eval ⟨fn',tmps,.inRegion ops (i::rest)::k,defers,.run,.normal,roundOf⟩) o) w:=by
       intro w;show(if((ops[i]?).map (Region.wanted · (yielded ops tmps))).getD false then stepG.oper P₀ true ⟨fn',tmps,.inRegion ops (i::rest)::k,defers,.run,.normal,roundOf⟩ (c::cs) none w
        else .go (G (Frame.finish ⟨fn',tmps,.inRegion ops (i::rest)::k,defers,.run,.normal,roundOf⟩ undef) (c::cs)) w)=_
       rw[if_pos hwant];simp only[stepG.oper,Frame.oper?,hoi];split
       .rename_i e;exact absurd e (nd _)
       .rfl
      exact(nf (P:=P) (AW hP.tab hP.glob hP.toCallable o hop hev (λ_=>⟨rfl,rfl⟩)) hf hw).congr e1
    .refine bP (G (Frame.finish ⟨fn',tmps,.inRegion ops (i::rest)::k,defers,.run,.normal,roundOf⟩ undef) (c::cs)) #[] λw=>?_
     show(if((ops[i]?).map (Region.wanted · (yielded ops tmps))).getD false then stepG.oper P₀ true ⟨fn',tmps,.inRegion ops (i::rest)::k,defers,.run,.normal,roundOf⟩ (c::cs) none w
      else .go (G (Frame.finish ⟨fn',tmps,.inRegion ops (i::rest)::k,defers,.run,.normal,roundOf⟩ undef) (c::cs)) w)=_
     rw[if_neg hwant]
  |@code cd hcode=>
   cases cd with
   |skip=>exact bP _ _ λw=>rfl
   |label l=>exact bP _ _ λw=>rfl
   |seq a b=>exact bP _ _ λw=>rfl
   |cond o a b=>
    cases he:Frame.eval ⟨fn',tmps,.code (.cond o a b)::k,defers,.run,.normal,roundOf⟩ o with
    |bool t=>exact bP (G ⟨fn',tmps,.code (if t then a else b)::k,defers,.run,.normal,roundOf⟩ (c::cs)) #[] λw=>by simp only[stepG.exec,he];rfl
    |_=>exact kD (by simp only[stepG.exec,he];exact⟨_,_,_,rfl⟩)
   |block id b=>exact bP _ _ λw=>rfl
   |loop b=>exact bP _ _ λw=>rfl
   |scope b=>exact bP _ _ λw=>rfl
   |exit id=>
    rcases hk2.exit (id:=id)with⟨n1,n2⟩|⟨q,q',s1,s2,hq⟩
    .cases hro with
     |none=>exact kD (by simp only[stepG.exec,n1,Option.elim_none];exact⟨_,_,_,rfl⟩)
     |@some l l' hl=>
      refine(kG (P₀:=P₀) (m:=m) (c:=c) (cs:=cs) (fr:=⟨fn',tmps,.code (.exit id)::k,defers,.run,.normal,some l⟩) rfl hw (some (.exit id)) (by simp[hP.code,aI]) hl).congr λw=>?_
      simp only[stepG.exec,n1,Option.elim_none];rfl
    .exact bP (G ⟨fn',tmps,q,defers,.run,.normal,roundOf⟩ (c::cs)) #[] λw=>by simp only[stepG.exec,s1,Option.elim_some];rfl
   |goto id=>
    rcases hk2.goto (id:=id)with⟨n1,n2⟩|⟨q,q',s1,s2,hq⟩
    .cases hro with
     |none=>exact kD (by simp only[stepG.exec,n1,Option.elim_none];exact⟨_,_,_,rfl⟩)
     |@some l l' hl=>
      refine(kG (P₀:=P₀) (m:=m) (c:=c) (cs:=cs) (fr:=⟨fn',tmps,.code (.goto id)::k,defers,.run,.normal,some l⟩) rfl hw (some (.goto id)) (by simp[hP.code,aI]) hl).congr λw=>?_
      simp only[stepG.exec,n1,Option.elim_none];rfl
    .exact bP (G ⟨fn',tmps,q,defers,.run,.normal,roundOf⟩ (c::cs)) #[] λw=>by simp only[stepG.exec,s1,Option.elim_some];rfl
   |ret=>
    cases hro with
    |none=>exact bP _ _ λw=>rfl
    |some hl=>exact kG (fr:=⟨fn',tmps,.code .ret::k,defers,.run,.normal,some _⟩) rfl hw (some .ret) (by simp[hP.code,aI]) hl
   |region id ops draw=>
    cases draw with
    |false=>exact bP _ _ λw=>rfl
    |true=>
     have hq:(Question.order fn' id).forced=false:=rfl;refine⟨?_,?_⟩
     .simp only[stepG.exec,choose,Sem.run,hq,Bool.not_true,Bool.false_eq_true,if_false];exact .inl ⟨_,_,_,rfl⟩
     intro g2 V2 es h;simp only[stepG.exec,choose,Sem.run,hq,Bool.not_true,Bool.false_eq_true,if_false,GStep.go.injEq]at h⊢;obtain⟨rfl,rfl,rfl⟩:=h;refine⟨Nat.le_succ _,rfl,λτ d hA=>?_⟩;have:τ d (.order fn' id)=V.tape V.drawn (.order fn' id):=(hA 0 (by simp) _).symm;simp only[re,this,true_and,and_true];simp
   |rangeFunc f params a b=>
    simp only[aI,Bool.and_eq_true]at hcode;let FA:Nat->List Deferred->World->GStep:=λl mark w=>stepG.apply P₀ true ⟨fn',tmps,.inRangeFunc l::k,mark++defers,.run,.normal,roundOf⟩ (c::cs) none (do let d <-resolve (Frame.eval ⟨fn',tmps,.inRangeFunc l::k,mark++defers,.run,.normal,roundOf⟩) {callee:=.value f,args:=#[.const (.func (.yield l) #[] #[])],argTypes:=#[]} 0;invoke d.target d.args) w
    have unf:∀w,stepG.exec P₀ m true ⟨fn',tmps,.code (.rangeFunc f params a b)::k,defers,.run,.normal,roundOf⟩ (c::cs) none w=
      (let(r,es):=(Instr.enterLoop fn' tmps params a b roundOf).runT P₀ w #[];GStep.after (seen P₀ fn' es)<|match r with
       |.ok (l,mark) w=>FA l mark w
       |.halt _ w=>.ended (.stuck "range over a function: no such loop" (Frame.pos P₀ ⟨fn',tmps,.code (.rangeFunc f params a b)::k,defers,.run,.normal,roundOf⟩)) w):=λw=>rfl
    refine Sh.congr ?_ unf;generalize hrun:(Instr.enterLoop fn' tmps params a b roundOf).runT P₀ V #[]=x;obtain⟨r,e1⟩:=x;have hR:=kB (P₀:=P₀) (P:=P) (str:=str) fn' hi hf.tmps params ((hP.code a).trans hcode.1.2) ((hP.code b).trans hcode.2) hro;have hS2:∀{σ:Ren} {l l':Nat} {mark mark':List Deferred} {V' W':World},ρ.le σ->σ l=some l'->fy σ mark mark'->aC ok str σ V' W'->Sh (FA l mark) V':=by
     intro σ l l' mark mark' V' W' h4 hl hmk hw';have hf2:bK P ok σ ⟨fn',tmps,.inRangeFunc l::k,mark++defers,.run,.normal,roundOf⟩ ⟨fn',tmps',.inRangeFunc l'::k',mark'++defers',.run,.normal,roundOf'⟩:=
      ⟨rfl,hi,hf.tmps.mono h4,.cons (.inRangeFunc hl) (hk2.mono h4),hmk.append (hf.defers.mono h4),.run,rfl,rfl,hro.mono h4⟩
     refine nf (P:=P) (s':=do let d <-resolve (Frame.eval ⟨fn',tmps',.inRangeFunc l'::k',mark'++defers',.run,.normal,roundOf'⟩) {callee:=.value f,args:=#[.const (.func (.yield l') #[] #[])],argTypes:=#[]} 0;invoke d.target d.args) ?_ hf2 hw';have hfv:=hf2.eval f hcode.1.1;have hy:an ok σ #[.func (.yield l) #[] #[]] #[.func (.yield l') #[] #[]]:=an.nil.push (.func (.yield hl) rfl an.nil.at_ rfl an.nil.at_);unfold resolve;dsimp only;generalize Frame.eval ⟨fn',tmps,.inRangeFunc l::k,mark++defers,.run,.normal,roundOf⟩ f=v at hfv;generalize Frame.eval ⟨fn',tmps',.inRangeFunc l'::k',mark'++defers',.run,.normal,roundOf'⟩ f=v' at hfv;cases hfv with
     |func hfn e1 g1 e2 g2=>
      refine aD ?_;exact ll hP.tab hP.toCallable (.fn hfn ⟨e2,g2⟩) (by simp) (an.append ⟨e1,g1⟩ (by simpa[Frame.eval]using hy))
     |nilFunc=>exact dg hP.tab .nilDeref rfl
     |hole _=>exact .dead _ _ λV=>iH hP.hole _ V
     |_=>exact .halt _ _
    refine⟨?_,?_⟩
    .simp only[hrun];rcases hR.sound #[] #[] hw hrun with hst|⟨σ,r',V',W',d',h1,h2,h4,h5⟩
     .cases r with
      |ok a w=>cases hst
      |halt hh w=>exact .inr ⟨_,_,_,rfl⟩
     .cases h2 with
      |panic _ _=>exact .inr ⟨_,_,_,rfl⟩
      |@ok j j' V' W' hv hw'=>
       exact tQ (hS2 h4.le hv.1 hv.2 hw').1
    intro g2 V2 es h';simp only[hrun]at h';rcases hR.sound #[] #[] hw hrun with hst|⟨σ,r',V',W',d',h1,h2,h4,h5⟩
    .exfalso;cases r with
     |ok a w=>cases hst
     |halt hh w=>exact ce h'
    .rcases hR.shift #[] hw hrun with hst|⟨s1,s2,s3⟩
     .exfalso;cases r with
      |ok a w=>cases hst
      |halt hh w=>exact ce h'
     .cases h2 with
      |panic _ _=>exact(ce h').elim
      |@ok j j' V' W' hv hw'=>
       obtain⟨l,mark⟩:=j;obtain⟨l',mark'⟩:=j';obtain⟨hl,hmk⟩:=hv;obtain⟨es3,h3⟩:=fA h';have h3:FA l mark V'=.go g2 V2 es3:=h3;obtain⟨q1,q2,q3⟩:=(hS2 h4.le hl hmk hw').2 g2 V2 es3 h3;simp only[du]at s1 s2 s3;have he:es=seen P₀ fn' e1++es3:=by
        have:=h';simp only at this;rw[h3]at this;simp only[GStep.after,GStep.go.injEq,true_and]at this;exact this.symm
       refine⟨by omega,by rw[q2,s2],λτ d hA=>?_⟩;have hA1:fB V.tape V.drawn τ d (V'.drawn-V.drawn):=hA.less (by omega);have hA2:fB V'.tape V'.drawn τ (d+(V'.drawn-V.drawn)) (V2.drawn-V'.drawn):=by
        have:fB V.tape V.drawn τ d ((V'.drawn-V.drawn)+(V2.drawn-V'.drawn)):=hA.less (by omega);have:=this.tail;rw[show V.drawn+(V'.drawn-V.drawn)=V'.drawn by omega]at this;rw[s2];exact this
       have z1:=s3 τ d hA1;have z2:=q3 τ (d+(V'.drawn-V.drawn)) hA2;simp only[z1,Ck];rw[z2,he,show d+(V'.drawn-V.drawn)+(V2.drawn-V'.drawn)=d+(V2.drawn-V.drawn) by omega];rfl
   |refuse w=>cases hcode
theorem vP (hP:bh P₀ P ok){m:Bool}{fr fr' c:Frame}{cs:List Frame}(hf:bK P ok ρ fr fr')(hw:aC ok str ρ V W)(hm:fr.mode≠.run):Sh (λw=>unwind P₀ m fr (c::cs) none w) V:=by
 obtain⟨fn,tmps,todo,defers,mode,kind,roundOf⟩:=fr;obtain⟨fn',tmps',todo',defers',mode',kind',roundOf'⟩:=fr';have hfn:=hf.fn;have hk:=hf.kind;have hm':=hf.mode;have hi:=hf.inn;have hd:=hf.defers;simp only at hfn hk hm hm' hi hd;subst hk hfn;obtain⟨F,cd,f1,f2,f3,f4⟩:=hP.same fn' hi;cases hd with
 |@cons r0 r0' ds ds' hr hds=>
  refine mF (P₀:=P₀) (P:=P) (E:=λes=>seen P₀ fn' es) (k:=λj=>G ⟨fn',tmps,todo,j++ds,mode,.normal,roundOf⟩ (c::cs)) (kp:=λ_=>none) (uV (ok:=ok) hr) hw ?_ ?_ ?_
  .intro w a w' es h;simp only[unwind,h,GStep.after];simp[G]
  .intro w v w' es h;simp only[unwind,h,GStep.after];exact⟨_,_,_,rfl⟩
  .intro w r es h hst;cases r with
   |ok a w=>cases hst
   |halt hh w=>simp only[unwind,h,GStep.after];exact⟨_,_,_,rfl⟩
 |nil=>
  cases hm' with
  |run=>exact absurd rfl hm
  |@panicking ch ch'=>
   have c1:Frame.catches P₀ ⟨fn',tmps,todo,[],.panicking ch,.normal,roundOf⟩=false:=by simp[Frame.catches,f1]
   refine bP (G (c.raise ch) cs) #[] λw=>?_
   simp only[unwind,c1,Bool.false_eq_true,if_false];rfl
  |returning=>
   refine mF (P₀:=P₀) (P:=P) (E:=λes=>seen P₀ fn' es) (k:=λv=>G (c.finish v) cs) (kp:=λ_=>none) (gX hP.tab F hf.tmps) hw ?_ ?_ ?_
   .intro w a w' es h;simp only[unwind,f1,h,GStep.after,doReturn];simp[G]
   .intro w v w' es h;simp only[unwind,f1,h,GStep.after];exact⟨_,_,_,rfl⟩
   .intro w r es h hst;cases r with
    |ok a w=>cases hst
    |halt hh w=>cases hh<;>(simp only[unwind,f1,h,GStep.after];exact⟨_,_,_,rfl⟩)
theorem qv (hP:bh P₀ P ok){m:Bool}{fr fr' c:Frame}{cs:List Frame}(hf:bK P ok ρ fr fr')(hw:aC ok str ρ V W):Sh (λw=>stepG P₀ m (G fr (c::cs)) w) V:=by
 by_cases hm:fr.mode=.run
 .exact(zB hP hf hw hm).congr λw=>lq hm
 .exact(vP hP hf hw hm).congr λw=>ew hm
end
end Go.Proofs.YtlmcblcijndipabGreatDoor
namespace Go.Proofs.YtlmcblcijndipabGreatDoor
open Go Go.Conc
variable [Gl]
structure St where
 fr:Frame
 cs:List Frame
 V:World
def St.re (s:St)(τ:Nat->Question->Nat)(d:Nat):St:=⟨s.fr,s.cs,Proofs.YtlmcblcijndipabGreatDoor.re s.V τ d⟩
section
variable (P₀:Program)(c:Frame)(Q:Value->World->Prop)
def oN (s:St):Prop:=s.cs=[]/\∃v,s.fr.leaving P₀ s.V (.returned v)/\Q v s.V
def cq (s s':St):Prop:=∃es,stepG P₀ true (G s.fr (s.cs++[c])) s.V=.go (G s'.fr (s'.cs++[c])) s'.V es
def rP:Nat->St->Prop
 |0,s=>oN P₀ Q s
 |n+1,s=>∃s',cq P₀ c s s'/\rP n s'
def my (s' s:St):Prop:=∃τ d,cq P₀ c (s.re τ d) s'
def H (s:St):Prop:=∀τ d,∃n,rP P₀ c Q n (s.re τ d)
end
def cH (P₀:Program)(ok:Ctx)(s:St):Prop:=∃ρ,bK P₀ ok ρ s.fr s.fr/\eo P₀ ok ρ s.cs s.cs/\lU s.fr s.cs/\aC ok true ρ s.V s.V
structure eI (P₀:Program)(c:Frame):Prop where
 ret:∀v w,∃o w' es,stepG P₀ true (G (c.finish v) []) w=.ended o w' es
 pan:∀ch w,∃o w' es,stepG P₀ true (G (c.raise ch) []) w=.ended o w' es
section
variable {P₀:Program}{ok:Ctx}{c:Frame}{Q:Value->World->Prop}
theorem cH.re {s:St}(h:cH P₀ ok s)(τ:Nat->Question->Nat)(d:Nat):cH P₀ ok (s.re τ d):=by
 obtain⟨ρ,h1,h2,h3,h4⟩:=h;exact⟨ρ,h1,h2,h3,h4.heap,rfl,rfl,h4.gV,h4.gW⟩
def oO (s:St):Prop:=s.cs=[]/\s.fr.mode≠.run/\s.fr.defers=[]
theorem lu (hP:bh P₀ P₀ ok){s:St}(hs:cH P₀ ok s)(he:oO s){g2:Goroutine}{V2:World}{es:Array Event}(h:stepG P₀ true (G s.fr (s.cs++[c])) s.V=.go g2 V2 es):
  (∃v,g2=G (c.finish v) [])\/∃ch,g2=G (c.raise ch) []:=by
 obtain⟨ρ,h1,_,_,_⟩:=hs;obtain⟨fr,cs,V⟩:=s;obtain⟨e1,e2,e3⟩:=he;simp only at e1 e2 e3 h h1;subst e1;rw[ew e2]at h;obtain⟨F,cd,f1,_⟩:=hP.same _ h1.inn;have hm:=h1.mode;have hk:=h1.kind;obtain⟨fn,tmps,todo,defers,mode,kind,roundOf⟩:=fr;simp only at e2 e3 hm hk f1;subst e3 hk;cases mode with
 |run=>exact absurd rfl e2
 |panicking ch=>
  have c1:Frame.catches P₀ ⟨fn,tmps,todo,[],.panicking ch,.normal,roundOf⟩=false:=by simp[Frame.catches,f1]
  simp only[unwind,c1,List.nil_append,Bool.false_eq_true,if_false,GStep.go.injEq]at h;exact .inr ⟨ch,h.1.symm⟩
 |returning=>
  simp only[unwind,f1,List.nil_append]at h;obtain⟨es3,h3⟩:=fA h;generalize (results F tmps).runT P₀ V #[]=x at h3;obtain⟨r,e⟩:=x;cases r with
  |ok v w=>
   simp only[doReturn,GStep.go.injEq]at h3;exact .inl ⟨v,h3.1.symm⟩
  |halt hh w=>cases hh<;>cases h3
theorem cq.inside (hP:bh P₀ P₀ ok){s s':St}(hs:cH P₀ ok s)(h:cq P₀ c s s'):¬oO s:=by
 intro he;obtain⟨es,h⟩:=h;rcases lu hP hs he h with⟨v,e⟩|⟨ch,e⟩
 .have:=congrArg Goroutine.callers e;simp[G]at this
 .have:=congrArg Goroutine.callers e;simp[G]at this
theorem pp (hP:bh P₀ P₀ ok)(hin:∀f,ok.fn f=true->ok.inn f=true){s:St}(hs:cH P₀ ok s)(he:¬oO s){g2:Goroutine}{V2:World}{es:Array Event}(h:stepG P₀ true (G s.fr (s.cs++[c])) s.V=.go g2 V2 es):
  ∃s':St,g2=G s'.fr (s'.cs++[c])/\V2=s'.V/\cH P₀ ok s':=by
 obtain⟨ρ,h1,h2,h3,h4⟩:=hs;obtain⟨σ,g2',W2,es2,e,hg,hw,_,_⟩:=kC (lb:=[c]) (rb:=[c]) (m₁:=true) hP h1 h2 h3 h4 (λa b=>λd=>he ⟨a,b,d⟩) h;rw[h]at e;simp only[GStep.go.injEq]at e;obtain⟨rfl,rfl,_⟩:=e;generalize hg2:g2=g2' at hg;have hg':jG P₀ P₀ ok σ [c] [c] g2 g2':=by rw[hg2]at*;exact hg
 clear hg;cases hg' with
 |@inside fr fr' cs cs' a1 a2 a3=>
  have e1:=congrArg Goroutine.frame hg2;have e2:=congrArg Goroutine.callers hg2;simp only[G]at e1 e2;have e2:cs=cs':=List.append_cancel_right e2;subst e1 e2;exact⟨⟨fr,cs,V2⟩,rfl,rfl,σ,a1,a2,a3,hw⟩
 |door a1 a2=>rw[hin _ a1]at a2;cases a2
theorem cq.self (hP:bh P₀ P₀ ok)(hin:∀f,ok.fn f=true->ok.inn f=true){s s':St}(hs:cH P₀ ok s)(h:cq P₀ c s s'):cH P₀ ok s':=by
 have hi:=h.inside hP hs;obtain⟨es,h⟩:=h;obtain⟨s2,e1,e2,h2⟩:=pp hP hin hs hi h;obtain⟨fr,cs,V⟩:=s';obtain⟨fr2,cs2,V2⟩:=s2;have e3:=congrArg Goroutine.frame e1;have e4:=congrArg Goroutine.callers e1;simp only[G]at e3 e4 e2;have e4:cs=cs2:=List.append_cancel_right e4;subst e3 e4 e2;exact h2
theorem cq.sh (hP:bh P₀ P₀ ok){s s':St}(hs:cH P₀ ok s)(h:cq P₀ c s s'):s.V.drawn<=s'.V.drawn/\s'.V.tape=s.V.tape/\
  ∀τ d,fB s.V.tape s.V.drawn τ d (s'.V.drawn-s.V.drawn)->cq P₀ c (s.re τ d) (s'.re τ (d+(s'.V.drawn-s.V.drawn))):=by
 obtain⟨ρ,h1,h2,h3,h4⟩:=hs;obtain⟨es,h⟩:=h;cases hcs:s.cs++[c]with
 |nil=>simp at hcs
 |cons a l=>
  have:=(qv (m:=true) (c:=a) (cs:=l) hP h1 h4).2 _ _ _ (by rw[<-hcs];exact h);refine⟨this.1,this.2.1,λτ d hA=>⟨es,?_⟩⟩;have:=this.2.2 τ d hA;simp only[St.re];rw[hcs];exact this
end
end Go.Proofs.YtlmcblcijndipabGreatDoor
namespace Go.Proofs.YtlmcblcijndipabGreatDoor
open Go Go.Conc
variable [Gl]
section
variable {P₀:Program}{ok:Ctx}{c:Frame}{Q:Value->World->Prop}
theorem oN.re (hP:bh P₀ P₀ ok)(hQ:∀v w τ d,Q v w->Q v (re w τ d)){s:St}(hs:cH P₀ ok s)(h:oN P₀ Q s)(τ:Nat->Question->Nat)(d:Nat):oN P₀ Q (s.re τ d):=by
 obtain⟨h1,v,⟨l1,l2,l3,fn,l4,l5⟩,h2⟩:=h;obtain⟨ρ,r1,_,_,r4⟩:=hs;refine⟨h1,v,⟨l1,l2,l3,fn,l4,?_⟩,hQ _ _ _ _ h2⟩;have hR:=gX (P₀:=P₀) (P:=P₀) (str:=true) hP.tab fn r1.tmps;generalize hx:(results fn s.fr.tmps).runT P₀ s.V #[]=x;obtain⟨r,e1⟩:=x;have hr:r=.ok v s.V:=by
  have:=Sem.runT_fst P₀ (results fn s.fr.tmps) s.V #[];rw[hx,l5]at this;exact this
 subst hr;rcases hR.shift #[] r4 hx with hst|⟨_,_,h3⟩
 .cases hst
 .have:=h3 τ d (by intro i hi;simp[du]at hi);have h4:=Sem.runT_fst P₀ (results fn s.fr.tmps) (Proofs.YtlmcblcijndipabGreatDoor.re s.V τ d) #[];rw[this]at h4;show(results fn s.fr.tmps).run P₀ (Proofs.YtlmcblcijndipabGreatDoor.re s.V τ d)=.ok v (Proofs.YtlmcblcijndipabGreatDoor.re s.V τ d);rw[<-h4];simp[Ck,du,Proofs.YtlmcblcijndipabGreatDoor.re]
theorem rP.shift (hP:bh P₀ P₀ ok)(hin:∀f,ok.fn f=true->ok.inn f=true)(hQ:∀v w τ d,Q v w->Q v (re w τ d)):∀(n:Nat) {s:St},cH P₀ ok s->rP P₀ c Q n s->∀τ d,(∀i q,s.V.tape (s.V.drawn+i) q=τ (d+i) q)->rP P₀ c Q n (s.re τ d):=by
 intro n;induction n with
 |zero=>intro s hs h τ d _;exact oN.re hP hQ hs h τ d
 |succ n ih=>
  intro s hs h τ d hA;obtain⟨s',h1,h2⟩:=h;obtain⟨k1,k2,k3⟩:=h1.sh hP hs;refine⟨_,k3 τ d (λi _ q=>hA i q),ih (h1.self hP hin hs) h2 τ _ λi q=>?_⟩;rw[k2];have:=hA (s'.V.drawn-s.V.drawn+i) q;rw[show s.V.drawn+(s'.V.drawn-s.V.drawn+i)=s'.V.drawn+i by omega]at this;rw[this];congr 1;omega
omit [Gl] in
theorem cq.det {s s1 s2:St}(h1:cq P₀ c s s1)(h2:cq P₀ c s s2):s1=s2:=by
 obtain⟨_,h1⟩:=h1;obtain⟨_,h2⟩:=h2;rw[h1]at h2;simp only[GStep.go.injEq]at h2;obtain⟨e,e2,_⟩:=h2;have e3:=congrArg Goroutine.frame e;have e4:=congrArg Goroutine.callers e;simp only[G]at e3 e4;replace e4:=List.append_cancel_right e4;obtain⟨a,b,d⟩:=s1;obtain⟨a',b',d'⟩:=s2;simp only at e2 e3 e4;subst e2 e3 e4;rfl
omit [Gl] in
theorem lv {s:St}(hs:oN P₀ Q s):oO s:=by
 obtain⟨h1,v,⟨l1,l2,_⟩,_⟩:=hs;exact⟨h1,by rw[l1];simp,l2⟩
theorem H.succ (hP:bh P₀ P₀ ok)(hin:∀f,ok.fn f=true->ok.inn f=true)(hQ:∀v w τ d,Q v w->Q v (re w τ d)){s s':St}(hs:cH P₀ ok s)(hH:H P₀ c Q s)(h:my P₀ c s' s):H P₀ c Q s'/\cH P₀ ok s':=by
 obtain⟨τ,d,h⟩:=h;have hs1:=hs.re τ d;obtain⟨k1,k2,k3⟩:=h.sh hP hs1;have hself:=h.self hP hin hs1;refine⟨λτ' d'=>?_,hself⟩;have k1':d<=s'.V.drawn:=k1;let t2:Nat->Question->Nat:=λi q=>if i<s'.V.drawn then τ i q else τ' (d'+(i-s'.V.drawn)) q
 have hA:fB (s.re τ d).V.tape (s.re τ d).V.drawn t2 d (s'.V.drawn-(s.re τ d).V.drawn):=by
  intro i hi q;show τ (d+i) q=t2 (d+i) q;simp only[t2];have hi':i<s'.V.drawn-d:=hi;rw[if_pos (by omega)]
 have h2:=k3 t2 d hA;obtain⟨n,hn⟩:=hH t2 d;have e1:(s.re τ d).re t2 d=s.re t2 d:=rfl;rw[e1]at h2;cases n with
 |zero=>exact absurd (lv hn) (h2.inside hP (hs.re t2 d))
 |succ n=>
  obtain⟨s2,g1,g2⟩:=hn;have:=g1.det h2;subst this;refine⟨n,?_⟩;have e2:d+(s'.V.drawn-(s.re τ d).V.drawn)=s'.V.drawn:=by show d+(s'.V.drawn-d)=_;omega
  rw[e2]at g2;have:=rP.shift hP hin hQ n (hself.re t2 s'.V.drawn) g2 τ' d' (λi q=>by
   show t2 (s'.V.drawn+i) q=τ' (d'+i) q;simp only[t2];rw[if_neg (by omega)];congr 1;omega)
  exact this
omit [Gl] in
theorem lw {s:St}(h:¬Acc (my P₀ c) s):∃f:Nat->St,f 0=s/\∀n,my P₀ c (f (n+1)) (f n):=by
 have step:∀s:{s:St //¬Acc (my P₀ c) s},∃s':{s:St //¬Acc (my P₀ c) s},my P₀ c s'.1 s.1:=by
  intro ⟨s,hs⟩;apply Classical.byContradiction;intro hn;apply hs;refine⟨_,λy hy=>?_⟩;apply Classical.byContradiction;intro hy';exact hn ⟨⟨y,hy'⟩,hy⟩
 let g:Nat->{s:St //¬Acc (my P₀ c) s}:=λn=>Nat.rec ⟨s,h⟩ (λ_ x=>(step x).choose) n
 exact⟨λn=>(g n).1,rfl,λn=>(step (g n)).choose_spec⟩
omit [Gl] in
theorem rQ (D:Nat->Nat)(hD:∀n,D n<=D (n+1))(t:Nat->Nat->Question->Nat):∃T:Nat->Question->Nat,∀n j q,D n+j<D (n+1)->T (D n+j) q=t n j q:=by
 have mono:∀n k,D n<=D (n+k):=by
  intro n k;induction k with
  |zero=>exact Nat.le_refl _
  |succ k ih=>exact Nat.le_trans ih (hD (n+k))
 have hmin:∀p,(∃n,p<D (n+1))->∃n,p<D (n+1)/\∀m,m<n->¬p<D (m+1):=by
  intro p ⟨n,hn⟩;induction n using Nat.strongRecOn with
  |ind n ih=>
   by_cases h:∃m,m<n/\p<D (m+1)
   .obtain⟨m,h1,h2⟩:=h;exact ih m h1 h2
   .exact⟨n,hn,λm hm hp=>h ⟨m,hm,hp⟩⟩
 classical
 refine⟨λp q=>if h:∃n,p<D (n+1)then t (hmin p h).choose (p-D (hmin p h).choose) q else 0,λn j q hj=>?_⟩;have h:∃n',D n+j<D (n'+1):=⟨n,hj⟩;simp only[dif_pos h];have hs:=(hmin (D n+j) h).choose_spec;have:(hmin (D n+j) h).choose=n:=by
  generalize (hmin (D n+j) h).choose=m at hs;rcases Nat.lt_trichotomy m n with hl|rfl|hg
  .have h1:=hs.1;have h2:=mono (m+1) (n-(m+1));rw[show m+1+(n-(m+1))=n by omega]at h2;omega
  .rfl
  .exact absurd hj (hs.2 n hg)
 rw[this];congr 1;omega
theorem xR (hP:bh P₀ P₀ ok)(hin:∀f,ok.fn f=true->ok.inn f=true)(hQ:∀v w τ d,Q v w->Q v (re w τ d)){s:St}(hs:cH P₀ ok s)(hH:H P₀ c Q s):Acc (my P₀ c) s:=by
 apply Classical.byContradiction;intro hn;obtain⟨f,f0,hf⟩:=lw hn;have all:∀n,H P₀ c Q (f n)/\cH P₀ ok (f n):=by
  intro n;induction n with
  |zero=>rw[f0];exact⟨hH,hs⟩
  |succ n ih=>exact H.succ hP hin hQ ih.2 ih.1 (hf n)
 let τ:Nat->Nat->Question->Nat:=λn=>(hf n).choose
 let d:Nat->Nat:=λn=>(hf n).choose_spec.choose
 have g:∀n,cq P₀ c ((f n).re (τ n) (d n)) (f (n+1)):=λn=>(hf n).choose_spec.choose_spec
 let D:Nat->Nat:=λn=>Nat.rec 0 (λn x=>x+((f (n+1)).V.drawn-d n)) n
 have hD:∀n,D (n+1)=D n+((f (n+1)).V.drawn-d n):=λn=>rfl
 obtain⟨T,hT⟩:=rQ D (λn=>by rw[hD];omega) (λn j q=>τ n (d n+j) q);have go:∀n,cq P₀ c ((f n).re T (D n)) ((f (n+1)).re T (D (n+1))):=by
  intro n;obtain⟨_,_,k3⟩:=(g n).sh hP ((all n).2.re (τ n) (d n));have:=k3 T (D n) (λi hi q=>by
   show τ n (d n+i) q=T (D n+i) q;have hi':i<(f (n+1)).V.drawn-d n:=hi;rw[hT n i q (by rw[hD];omega)])
  rw[hD];exact this
 have none_:∀N n,¬rP P₀ c Q N ((f n).re T (D n)):=by
  intro N;induction N with
  |zero=>intro n h;exact absurd (lv h) ((go n).inside hP ((all n).2.re T (D n)))
  |succ N ih=>
   intro n h;obtain⟨s',h1,h2⟩:=h;have:=h1.det (go n);subst this;exact ih (n+1) h2
 obtain⟨N,hN⟩:=hH T 0;rw[<-f0]at hN;exact none_ N 0 hN
theorem H.step (hP:bh P₀ P₀ ok)(hin:∀f,ok.fn f=true->ok.inn f=true)(hQ:∀v w τ d,Q v w->Q v (re w τ d)){s:St}(hs:cH P₀ ok s)(hH:H P₀ c Q s)(τ:Nat->Question->Nat)(d:Nat):
  (oO s/\oN P₀ Q (s.re τ d))\/(¬oO s/\∃s',cq P₀ c (s.re τ d) s'/\my P₀ c s' s/\H P₀ c Q s'/\cH P₀ ok s'):=by
 obtain⟨n,hn⟩:=hH τ d;cases n with
 |zero=>exact .inl ⟨lv (s:=s.re τ d) hn,hn⟩
 |succ n=>
  obtain⟨s',h1,_⟩:=hn;have h2:=H.succ hP hin hQ hs hH ⟨τ,d,h1⟩;exact .inr ⟨λhe=>h1.inside hP (hs.re τ d) he,s',h1,⟨τ,d,h1⟩,h2⟩
omit [Gl] in
theorem gY {P:Program}{fr fr2:Frame}{cs cs2:List Frame}{w w2:World}{es:Array Event}(h:stepG P true (G fr cs) w=.go (G fr2 cs2) w2 es):step P (lone fr cs w)=.next (lone fr2 cs2 w2):=by
 refine step_lone_go ?_;have:({frame:=fr,callers:=cs,status:=.running,dying:=none}:Goroutine)=G fr cs:=rfl;rw[this,h];rfl
omit [Gl] in
theorem dl {P:Program}{fr:Frame}{cs:List Frame}{w w2:World}{o:Outcome}{es:Array Event}(h:stepG P true (G fr cs) w=.ended o w2 es):step P (lone fr cs w)=.ended o w2:=by
 refine step_lone_ended ?_;have:({frame:=fr,callers:=cs,status:=.running,dying:=none}:Goroutine)=G fr cs:=rfl;rw[this,h];rfl
omit [Gl] in
theorem iI {fr fr2:Frame}{cs cs2:List Frame}{w w2:World}(h:lone fr cs w=lone fr2 cs2 w2):fr=fr2/\cs=cs2/\w=w2:=by
 simp only[lone,Machine.mk.injEq,Array.mk.injEq,List.cons.injEq,Goroutine.mk.injEq,and_true]at h;exact⟨h.2.1,h.2.2,h.1⟩
theorem tR (hP:bh P₀ P₀ ok)(hin:∀f,ok.fn f=true->ok.inn f=true)(hF:eI P₀ c){frE:Frame}{wE:World}{v:Value}(hl:frE.leaving P₀ wE (.returned v))(hq:Q v wE):
  ∀(n:Nat) {s:St},cH P₀ ok s->runN P₀ n (lone s.fr (s.cs++[c]) s.V)=.next (lone frE [c] wE)->∃k,rP P₀ c Q k s:=by
 intro n;induction n with
 |zero=>
  intro s hs h;simp only[runN,Stepped.next.injEq]at h;obtain⟨e1,e2,e3⟩:=iI h;have e2:s.cs=[]:=by
   have:=congrArg List.length e2;simpa using this
  refine⟨0,e2,v,?_,?_⟩
  .rw[e1,e3];exact hl
  .rw[e3];exact hq
 |succ n ih=>
  intro s hs h;obtain⟨ρ,h1,h2,h3,h4⟩:=hs;have hs:cH P₀ ok s:=⟨ρ,h1,h2,h3,h4⟩;have hk:(∃g2 V2 es,stepG P₀ true (G s.fr (s.cs++[c])) s.V=.go g2 V2 es)\/∃o w es,stepG P₀ true (G s.fr (s.cs++[c])) s.V=.ended o w es:=by
   cases hcs:s.cs++[c]with
   |nil=>simp at hcs
   |cons a l=>exact(qv (m:=true) (c:=a) (cs:=l) hP h1 h4).1
  simp only[runN]at h;rcases hk with⟨g2,V2,es,hg⟩|⟨o,w,es,hg⟩
  .by_cases he:oO s
   .exfalso;have fin:∀fr2,g2=G fr2 []->(∀w,∃o w' es,stepG P₀ true (G fr2 []) w=.ended o w' es)->False:=by
     intro fr2 e hend;subst e;rw[gY hg]at h;simp only at h;cases n with
     |zero=>
      simp only[runN,Stepped.next.injEq]at h;obtain⟨_,e2,_⟩:=iI h;cases e2
     |succ n=>
      obtain⟨o,w',es',hh⟩:=hend V2;simp only[runN,dl hh]at h;cases h
    rcases lu hP hs he hg with⟨v,e⟩|⟨ch,e⟩
    .exact fin _ e (hF.ret v)
    .exact fin _ e (hF.pan ch)
   .obtain⟨s',e1,e2,h5⟩:=pp hP hin hs he hg;subst e1 e2;rw[gY hg]at h;obtain⟨k,hk⟩:=ih h5 h;exact⟨k+1,s',⟨es,hg⟩,hk⟩
  .rw[dl hg]at h;cases h
theorem tS (hP:bh P₀ P₀ ok)(hin:∀f,ok.fn f=true->ok.inn f=true)(hF:eI P₀ c){f:FuncId}{xs:Array Value}{V:World}(hs:cH P₀ ok ⟨Frame.enter P₀ f xs .normal,[],V⟩)
  (hC:∀τ d,Calls P₀ f xs (re V τ d) λe w'=>∃v,e=.returned v/\Q v w'):H P₀ c Q ⟨Frame.enter P₀ f xs .normal,[],V⟩:=by
 intro τ d;obtain⟨e,w',fr,⟨v,rfl,hq⟩,⟨n,hn⟩,_,hl⟩:=hC τ d [c];exact tR hP hin hF hl hq n (hs.re τ d) hn
end
end Go.Proofs.YtlmcblcijndipabGreatDoor
