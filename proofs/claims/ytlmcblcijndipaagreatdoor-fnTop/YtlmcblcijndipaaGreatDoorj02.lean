import Derived.Test.YtlmcblcijndipaaGreatDoorj01
import Derived.Conc.Own
set_option linter.unusedVariables false
set_option linter.defProp false
set_option maxHeartbeats 1000000
namespace Go.Proofs.YtlmcblcijndipaaGreatDoor
open Conc
variable {es jI:Array Event}{xs xs':Array Value}{Ht acP m str:Bool}{ok:Ctx}{c eV fr fr2:Frame}{f:FuncId}{s:GStep}{g g2:Goroutine}{Dw cs cs' lb rb:List Frame}{a b l l' n:Nat}{t t':Nat->Question->Nat}{ev tQ:Operand->Value}{o:Outcome}{P P0 p:Program}{s':Sem Next}{α β:Type}{v v':Value}{Q:Value->World->Prop}{V V1 V2 W W1 W2 w w' w2:World}{F:World->GStep}
section
variable [Gl]
inductive py (ok:Ctx)(ρ:Ren):Next->Next->Prop
 |value {v v':Value}:aw ok ρ v v'->py ok ρ (.value v) (.value v')
 |skip:py ok ρ .skip .skip
 |enter (f:FuncId) {xs xs':Array Value}:ok.fn f=true->ax ok ρ xs xs'->py ok ρ (.enter f xs) (.enter f xs')
 |round {l l':Nat} (f:FuncId) {xs xs':Array Value} {a b:Code}:ρ l=some l'->ok.aX f=true->ax ok ρ xs xs'->ok.code a=true->ok.code b=true->py ok ρ (.round l f xs a b) (.round l' f xs' a b)
structure Callable (P0 P:Program)(ok:Ctx):Prop where
 left:∀f,ok.fn f=true->∃fn,P0.funcs[f]?=some fn/\fn.body.isSome=true/\(fn.name== "runtime.NumGoroutine")=false
 right:∀f,ok.fn f=true->∃fn,P.funcs[f]?=some fn/\fn.body.isSome=true/\(fn.name== "runtime.NumGoroutine")=false
 hole:P0.info? 1000000000=none
 over:∀xs V,Result.stops ((callFunc Gl.ov xs).run P0 V)=true
def eJ (fn:FuncId->Bool):Operand->Bool
 |.tmp _=>true
 |.const v=>CW v
 |.global _=>false
 |.func f=>fn f
def BZ (P:Program)(s:TypeId)(f:Nat):Bool:=
 match P.underlying s with
 |some (.struct fs)=>(match fs[f]? with|some x=>(match P.info? x.type with|some i=>i.size !=0|none=>true)|none=>true)
 |_=>true
def m8:Builtin->Bool
 |.len|.cap|.max=>true
 |_=>false
def qm (P:Program)(ts:Array TypeId)(b:Builtin):Bool:=m8 b||(b==.append&&(DO P ts||IX P ts))||(b==.clear&&MW P ts)||(b==.copy&&M7 P ts)
def ovr:Operand->Bool
 |.func g=>g==Gl.ov
 |_=>false
def Gv (P:Program)(ok:FuncId->Bool)(c:Call):Bool:=
 (match c.callee with|.builtin b=>qm P c.argTypes b|.value f=>eJ ok f||ovr f|.invoke r n=>eJ ok r&&yd P ok n)&&c.args.all (eJ ok)
def aaA (ok:FuncId->Bool):Fn->Bool
 |.func f=>ok f
 |_=>false
def Po (P:Program)(t:TypeId):Bool:=
 match P.underlying t with
 |some .string=>true
 |_=>false
def Et (P:Program)(t:TypeId):Bool:=
 match P.underlying t with
 |some (.int _)=>true
 |_=>false
def lR (P:Program)(ok:FuncId->Bool):Op->Bool
 |.move x|.assign x=>eJ ok x
 |.pick c a b=>eJ ok c&&eJ ok a&&eJ ok b
 |.alloc t=>F9 P t
 |.box _ x=>eJ ok x
 |.build t parts=>F9 P t&&parts.all (λx=>eJ ok x.2)
 |.buildSlice t _ parts=>FV P t&&parts.all (λx=>eJ ok x.2)
 |.load _ a=>eJ ok a
 |.store _ a x=>eJ ok a&&eJ ok x
 |.binOp op t x y _=>(kS P op t||vb P op t y)&&eJ ok x&&eJ ok y
 |.unOp _ _ x=>eJ ok x
 |.makeFunc f a b=>aaA ok f&&a.all (eJ ok)&&b.all (eJ ok)
 |.makeSlice t l c=>FV P t&&eJ ok l&&eJ ok c
 |.slice _ x a b c=>eJ ok x&&a.all (eJ ok)&&b.all (eJ ok)&&c.all (eJ ok)
 |.fieldAddr s x f=>BZ P s f&&eJ ok x
 |.indexAddr _ x i=>eJ ok x&&eJ ok i
 |.index _ x i=>eJ ok x&&eJ ok i
 |.extract x _=>eJ ok x
 |.call c=>Gv P ok c
 |.nilCheck x=>eJ ok x
 |.convert a b x=>Et P a&&Et P b&&eJ ok x
 |.range t x=>Po P t&&eJ ok x
 |.next it b=>b&&eJ ok it
 |.makeInterface _ x=>eJ ok x
 |.typeAssert x _ t c=>c&&F9 P t&&eJ ok x
 |_=>false
section
variable {ρ:Ren}
def WX (hT:P0.toTables=P.toTables)(ts:Array TypeId)(t:TypeId)(h:ax ok ρ xs xs'):af P0 P ok str (aw ok) ρ (Builtin.len_ ts t xs) (Builtin.len_ ts t xs'):=by
 unfold Builtin.len_;cases ht:ts[0]? with
 |none=>cases hx:xs[0]?<;>exact .halt _ _
 |some t=>
  cases hx:xs[0]? with
  |none=>exact .halt _ _
  |some x=>
   let⟨x',dK,r⟩:=h.get hx;rw[dK];refine ae _ (ar hT t) ?_;rintro σ d _ l ⟨rfl,_⟩;have r:=r.mono l;cases d with
   |string=>cases r<;>first|exact ag (.int _ _)|exact .halt _ _
   |array n e=>exact ag (.int _ _)
   |pointer a=>
    refine ae _ (ar hT a) ?_;rintro τ d _ l ⟨rfl,_⟩;cases d with
    |array n e=>exact ag (.int _ _)
    |_=>exact .halt _ _
   |slice e=>cases r<;>first|exact ag (.int _ _)|exact .halt _ _
   |_=>cases r<;>exact .halt _ _
def WU (hT:P0.toTables=P.toTables)(ts:Array TypeId)(t:TypeId)(h:ax ok ρ xs xs'):af P0 P ok str (aw ok) ρ (Builtin.cap_ ts t xs) (Builtin.cap_ ts t xs'):=by
 unfold Builtin.cap_;cases ht:ts[0]? with
 |none=>cases hx:xs[0]?<;>exact .halt _ _
 |some t=>
  cases hx:xs[0]? with
  |none=>exact .halt _ _
  |some x=>
   let⟨x',dK,r⟩:=h.get hx;rw[dK];refine ae _ (ar hT t) ?_;rintro σ d _ l ⟨rfl,_⟩;have r:=r.mono l;cases d with
   |array n e=>exact ag (.int _ _)
   |pointer a=>
    refine ae _ (ar hT a) ?_;rintro τ d _ l ⟨rfl,_⟩;cases d with
    |array n e=>exact ag (.int _ _)
    |_=>exact .halt _ _
   |slice e=>cases r<;>first|exact ag (.int _ _)|exact .halt _ _
   |_=>cases r<;>exact .halt _ _
def Sl {x x' y y':Value}(h:aw ok ρ x x')(h':aw ok ρ y y'):af P0 P ok str (aw ok) ρ (Builtin.max2 x y) (Builtin.max2 x' y'):=by
 cases h with
 |int k a=>cases h'<;>first|exact ag (.int _ _)|exact .halt _ _
 |string a=>
  cases h' with
  |string b=>
   refine ae _ (vy _ _ _) ?_;intro σ u u' _ hu;refine ae _ (A7 hu) ?_;rintro τ b _ _ rfl;split<;>exact ag (.string _)
  |_=>exact .halt _ _
 |_=>cases h'<;>exact .halt _ _
def Lv {f:Value->Value->Sem Value}(hf:∀{ρ:Ren} {x x' y y':Value},aw ok ρ x x'->aw ok ρ y y'->af P0 P ok str (aw ok) ρ (f x y) (f x' y')):
  ∀{l l':List Value} {ρ:Ren} {x x':Value},iG ok ρ l l'->aw ok ρ x x'->af P0 P ok str (aw ok) ρ (l.foldlM f x) (l'.foldlM f x'):=by
 intro l;induction l with
 |nil=>intro l' ρ x x' h hx;cases h;exact ag hx
 |cons a l ih=>
  intro l' ρ x x' h hx;cases h with
  |cons ha h=>
   simp only[List.foldlM_cons];refine ae _ (hf hx ha) ?_;intro σ y y' le hy;exact ih (h.mono le) hy
def WY (ts:Array TypeId)(t:TypeId)(h:ax ok ρ xs xs'):af P0 P ok str (aw ok) ρ (Builtin.max_ ts t xs) (Builtin.max_ ts t xs'):=by
 unfold Builtin.max_;have hl:=h.list;generalize xs.toList=l at hl;generalize xs'.toList=l' at hl;cases hl with
 |nil=>exact .halt _ _
 |cons hv hl=>exact Lv (λh h'=>Sl h h') hl hv
def cE {s s':Sem Value}(h:af P0 P ok str (aw ok) ρ s s'):af P0 P ok str (λσ x y=>py ok σ x y) ρ (do pure (.value<|<-s)) (do pure (.value<|<-s')):=by
 refine ae _ h ?_;intro σ x y _ hv;exact ag<|.value hv
def C9 {s s':Sem Unit}{A:Ren->Unit->Unit->Prop}(h:af P0 P ok str A ρ s s'):af P0 P ok str (λσ x y=>py ok σ x y) ρ (do s;pure .skip) (do s';pure .skip):=by
 refine ae _ h ?_;intro σ x y _ _;exact ag .skip
def vt (hC:Callable P0 P ok)(f:FuncId)(hf:ok.fn f=true)(h:ax ok ρ xs xs'):af P0 P ok str (λσ x y=>py ok σ x y) ρ (callFunc f xs) (callFunc f xs'):=by
 refine af.program ?_;let⟨fn,h1,h2,h3⟩:=hC.left f hf;let⟨dC,pn,YK,h3'⟩:=hC.right f hf;have e1:fn.body.isNone=false:=by cases hb:fn.body<;>simp_all
 have e2:dC.body.isNone=false:=by cases hb:dC.body<;>simp_all
 refine ba ?_;rw[h1,pn];simp only[h3,h3',e1,e2,Bool.false_eq_true,if_false];exact ag<|.enter f hf h
def lG (hl:ρ l=some l'):af P0 P ok str (λσ r r'=>DL ok σ r r') ρ (Instr.getLoop l) (Instr.getLoop l'):=by
 refine af.getObj hl λo o' ho=>?_
 cases ho with
 |loop hr=>exact .pure hr
 |_=>exact .halt _ _
def Pm (hl:ρ l=some l')(h:ax ok ρ xs xs'):af P0 P ok str (λσ x y=>py ok σ x y) ρ (Instr.yield l xs) (Instr.yield l' xs'):=by
 refine ae _ (lG hl) ?_;intro σ r r' le hr;have h:=h.mono le;rw[h.size,hr.params];split
 .exact .halt _ _
 .rw[hr.fn,hr.assign,hr.body];refine ag<|.round _ (le _ _ hl) hr.aX ?_ hr.G_ hr.H';have fold:∀(ps:List Tmp) (l l':List Value) (_:iG ok σ l l') (a a':Array Value),ax ok σ a a'->
    ax ok σ ((ps.zip l).foldl (λtmps (x:Tmp×Value)=>tmps.setIfInBounds x.1 x.2) a) ((ps.zip l').foldl (λtmps (x:Tmp×Value)=>tmps.setIfInBounds x.1 x.2) a'):=by
   intro ps;induction ps with
   |nil=>intro l l' _ a a' ha;exact ha
   |cons p ps ih=>
    intro l l' hl a a' ha;cases hl with
    |nil=>exact ha
    |cons hv hl=>exact ih _ _ hl _ _<|ha.set hv p
  have:=fold r.params.toList _ _ h.list _ _ hr.tmps;rw[<-Array.toList_zip,<-Array.toList_zip,Array.foldl_toList,Array.foldl_toList]at this;exact this
def Ig (hT:P0.toTables=P.toTables)(b:Builtin)(ts:Array TypeId)(hb:qm P ts b=true)(t:TypeId)(cs:Array Bool)(h:ax ok ρ xs xs'):af P0 P ok str (λσ x y=>py ok σ x y) ρ (builtin b ts t cs xs) (builtin b ts t cs xs'):=by
 cases b with
 |len=>exact cE (WX hT ts t h)
 |cap=>exact cE (WU hT ts t h)
 |max=>exact cE (WY ts t h)
 |append=>
  have dt:(DO P ts||IX P ts)=true:=by simpa[qm,m8]using hb
  cases ha:DO P ts with
  |true=>exact cE (Lt hT ts t ha h)
  |false=>rw[ha]at dt;exact cE (Ie hT ts t dt h)
 |copy=>exact cE (Si hT ts t (by simpa[qm,m8]using hb) h)
 |clear=>exact cE (Pa hT ts t (by simpa[qm,m8]using hb) h)
 |_=>simp[qm,m8]at hb
def uz (hT:P0.toTables=P.toTables)(hC:Callable P0 P ok){d d':Target}(hd:Af ok ρ d d')(hb:∀b a t c,d≠.builtin b a t c)(h:ax ok ρ xs xs'):af P0 P ok str (λσ x y=>py ok σ x y) ρ (invoke d xs) (invoke d' xs'):=by
 cases hd with
 |fn hf hx=>
  cases hf with
  |func hf=>exact vt hC _ hf (h.append hx)
  |yield hl=>exact Pm hl h
 |nil=>exact eY hT .nilDeref rfl
 |builtin b a t c=>exact absurd rfl (hb b a t c)
 |collected _=>exact .halt _ _
def zP (hT:P0.toTables=P.toTables)(hC:Callable P0 P ok)(n:String)(hm:yd P ok.fn n=true)(hv:aw ok ρ v v')(h:ax ok ρ xs xs'):af P0 P ok str (λσ x y=>py ok σ x y) ρ (callMethod v n xs) (callMethod v' n xs'):=by
 unfold callMethod;cases hv with
 |iface t hv=>
  refine af.program ?_;refine ba ?_;rw[hT];refine ae _ (LA hT _ t n hm hv) ?_;rintro σ ⟨f,x⟩ ⟨_,y⟩ l ⟨rfl,hf,hx⟩;exact vt hC f hf ((ax.nil.push hx).append<|h.mono l)
 |nilIface=>exact eY hT .nilDeref rfl
 |hole _=>exact .halt _ _
 |_=>exact .halt _ _
def Aa (ok:Ctx)(ρ:Ren)(ev tQ:Operand->Value):Prop:=∀x,eJ ok.fn x=true->aw ok ρ (ev x) (tQ x)
def BG (h:Aa ok ρ ev tQ){xs:Array Operand}(hx:xs.all (eJ ok.fn)=true):ax ok ρ (xs.map ev) (xs.map tQ):=by
 refine⟨aG,λi x x' e e'=>?_⟩;rw[Array.getElem?_map]at e e';cases hi:xs[i]? with
 |none=>rw[hi]at e;cases e
 |some o=>
  rw[hi]at e e';simp only[Option.map_some,Option.some.injEq]at e e';subst e;subst e';rw[Array.all_eq_true]at hx;obtain⟨hl,rfl⟩:=ac5.1 hi;exact h _<|hx i hl
def AV (h:Aa ok ρ ev tQ){xs:Array (Nat×Operand)}(hx:xs.all (λx=>eJ ok.fn x.2)=true):
  (xs.map λx=>(x.1,ev x.2)).toList.map (·.1)=(xs.map λx=>(x.1,tQ x.2)).toList.map (·.1)/\iG ok ρ ((xs.map λx=>(x.1,ev x.2)).toList.map (·.2)) ((xs.map λx=>(x.1,tQ x.2)).toList.map (·.2)):=by
 refine⟨aG,?_⟩;simp only[Array.toList_map,List.map_map];have dK:∀x∈xs.toList,eJ ok.fn x.2=true:=by
  intro x hm;rw[Array.all_eq_true]at hx;obtain⟨i,hi,rfl⟩:=Array.getElem_of_mem<|Array.mem_toList_iff.1 hm;exact hx i hi
 generalize xs.toList=l at dK;induction l with
 |nil=>exact .nil
 |cons a l ih=>exact .cons (h _<|dK a aG)<|ih λx hm=>dK x<|by simp[hm]
def CQ (h:Aa ok ρ ev tQ){x:Option Operand}(hx:x.all (eJ ok.fn)=true):mW ok ρ (x.map ev) (x.map tQ):=by
 cases x with
 |none=>exact .none
 |some o=>exact .some<|h _<|by simpa using hx
omit [Gl] in
def xu (op:BinOp)(t:TypeId)(x y:Operand)(a:Value)(V:World):(eqGuard op t x y a hole).run P0 V=.ok () V/\(eqGuard op t x y hole a).run P0 V=.ok () V:=by
 constructor<;>(cases op<;>first|rfl|(cases a<;>rfl))
omit [Gl] in
def If (hT:P0.toTables=P.toTables)(op:BinOp)(t:TypeId)(ht:kS P op t=true)(x y:Operand)(a b:Value)(h:a=hole\/b=hole)(V:World):Result.stops ((do eqGuard op t x y a b;binOp op t a b:Sem Value).run P0 V)=true:=by
 rw[Sem.run_bind];rcases h with rfl|rfl
 .rw[(xu op t x y b V).2];exact(nR hT op t ht b V).2
 .rw[(xu op t x y a V).1];exact(nR hT op t ht a V).1
def Ii (hT:P0.toTables=P.toTables)(op:BinOp)(t:TypeId)(ht:kS P op t=true)(x y:Operand){a a' b b':Value}(h:aw ok ρ a a')(h':aw ok ρ b b')(na:a≠hole)(nb:b≠hole):af P0 P ok str (λ_ _ _=>True) ρ (eqGuard op t x y a b) (eqGuard op t x y a' b'):=by
 unfold eqGuard;by_cases he:DH op=true
 .unfold kS at ht;rw[if_pos he]at ht;have hd:∀(Q:Program),Q.toTables=P.toTables->Q.eqGuardType Q.depth t=false:=by
   intro Q hQ;have:Q.depth=(2*(Q.types.size+Made.depth)+1)+1:=rfl;rw[this];unfold Program.eqGuardType;rw[uD hQ];rcases Bool.or_eq_true_iff.1 ht with ht|ht
   .unfold BY at ht;split at ht<;>simp_all
   .unfold UX at ht;cases hu:P.underlying t with
    |none=>simp[hu]at ht
    |some u=>
     rw[hu]at ht;cases u with
     |struct fs=>
      simp only[Bool.and_eq_true,Array.all_eq_true_iff_forall_mem]at ht;dsimp only;rw[Array.any_eq_false];intro i hi;have hf:=ht.2 fs[i]<|Array.getElem_mem hi;unfold Program.eqGuardType;rw[uD hQ];unfold BY at hf;split at hf<;>simp_all
     |_=>cases ht
  have hg:∀{σ:Ren},af P0 P ok str (λ_ x y=>x=false/\y=false) σ (Op.eqGuardIn Op.maxDepth t .nilIface .nilIface) (Op.eqGuardIn Op.maxDepth t .nilIface .nilIface):=by
   intro σ;show af P0 P ok str _ σ (Op.eqGuardIn (9999+1) t .nilIface .nilIface) (Op.eqGuardIn (9999+1) t .nilIface .nilIface);unfold Op.eqGuardIn;refine ae _ (ar hT t) ?_;rintro τ d _ _ ⟨rfl,hu⟩;unfold SX BY UX at ht;rw[hu]at ht;cases d with
   |struct fs=>exact ag ⟨rfl,rfl⟩
   |bool=>exact ag ⟨rfl,rfl⟩
   |string=>exact ag ⟨rfl,rfl⟩
   |int k=>exact ag ⟨rfl,rfl⟩
   |slice e=>exact ag ⟨rfl,rfl⟩
   |_=>simp at ht
  have e1:(!(match op with|.eql|.neq=>true|_=>false))=false:=by cases op<;>first|rfl|cases he
  cases op with
  |eql=>
   cases h with
   |hole _=>exact absurd rfl na
   |nilIface=>
    cases h' with
    |hole _=>exact absurd rfl nb
    |nilIface=>
     have tail:af P0 P ok str (λ_ _ _=>True) ρ (do if<-Op.eqGuardIn Op.maxDepth t .nilIface .nilIface then unsupported (.noEntry "binop/eql: two nil values of an interface type with methods, neither of them the literal nil")else pure ())
       (do if<-Op.eqGuardIn Op.maxDepth t .nilIface .nilIface then unsupported (.noEntry "binop/eql: two nil values of an interface type with methods, neither of them the literal nil")else pure ()):=by
      refine ae _ hg ?_;rintro σ _ _ _ ⟨rfl,rfl⟩;exact ag trivial
     cases x<;>cases y<;>first|exact ag trivial|exact tail
    |_=>exact ag trivial
   |agg _ _=>
    cases h' with
    |hole _=>exact absurd rfl nb
    |agg _ _=>
     refine af.program<|ba<|af.program<|ba ?_;rw[hd P0 hT,hd P rfl];exact ag trivial
    |_=>exact ag trivial
   |_=>cases h'<;>first|exact absurd rfl nb|exact ag trivial
  |neq=>
   cases h with
   |hole _=>exact absurd rfl na
   |nilIface=>
    cases h' with
    |hole _=>exact absurd rfl nb
    |nilIface=>
     have tail:af P0 P ok str (λ_ _ _=>True) ρ (do if<-Op.eqGuardIn Op.maxDepth t .nilIface .nilIface then unsupported (.noEntry "binop/eql: two nil values of an interface type with methods, neither of them the literal nil")else pure ())
       (do if<-Op.eqGuardIn Op.maxDepth t .nilIface .nilIface then unsupported (.noEntry "binop/eql: two nil values of an interface type with methods, neither of them the literal nil")else pure ()):=by
      refine ae _ hg ?_;rintro σ _ _ _ ⟨rfl,rfl⟩;exact ag trivial
     cases x<;>cases y<;>first|exact ag trivial|exact tail
    |_=>exact ag trivial
   |agg _ _=>
    cases h' with
    |hole _=>exact absurd rfl nb
    |agg _ _=>
     refine af.program<|ba<|af.program<|ba ?_;rw[hd P0 hT,hd P rfl];exact ag trivial
    |_=>exact ag trivial
   |_=>cases h'<;>first|exact absurd rfl nb|exact ag trivial
  |_=>cases he
 .cases op<;>first|exact ag trivial|exact absurd rfl he
omit [Gl] in
def GJ {s:TypeId}{f:Nat}(h:BZ P s f=true):∀fs x i,P.underlying s=some (.struct fs)->fs[f]?=some x->P.info? x.type=some i->i.size≠0:=by
 intro fs x i h1 h2 h3;unfold BZ at h;rw[h1]at h;simp only[h2,h3]at h;simpa using h
omit [Gl] in
def rl (h:P0.info? 1000000000=none)(V:World):Result.stops ((typeInfo 1000000000).run P0 V)=true:=by
 simp[typeInfo,h,Result.stops,ends]
omit [Gl] in
def zH (h:P0.info? 1000000000=none)(n:Nat)(V:World):Result.stops ((nilAhead n 1000000000 (.chan none) "").run P0 V)=true\/(nilAhead n 1000000000 (.chan none) "").run P0 V=.ok none V:=by
 cases n with
 |zero=>exact .inr rfl
 |succ n=>
  left;unfold nilAhead;rw[Sem.run_bind];exact gC (rl h V) _
omit [Gl] in
def zI (h:P0.info? 1000000000=none)(V:World):Result.stops ((do
    if(<-nilAhead ((<-program).types.size+Made.depth) 1000000000 (.chan none) "")!=some false then
     unsupported (.noEntry "op/nilCheck.the method's receiver behind this interface value is a nil pointer, or cannot be seen to be none, and the arguments act or may panic (ledger 612)")
    pure (.value<|.func (.method "") #[.iface 1000000000<|.chan none] #[]):Sem Next).run P0 V)=true:=by
 rw[Sem.run_bind];show Result.stops (Sem.run P0 _ V)=true;rw[Sem.run_bind];rcases zH h (P0.types.size+Made.depth) V with e|e
 .exact gC e _
 .rw[e];rfl
omit [Gl] in
def pO (h:P0.info? 1000000000=none)(args:Array Value)(V:World):Result.stops ((invoke (.fn (.method "") #[])<|#[.iface 1000000000<|.chan none]++args).run P0 V)=true:=by
 unfold invoke;have e:(#[Value.iface 1000000000<|.chan none]++args)[0]?=some (.iface 1000000000<|.chan none):=by rw[Array.getElem?_append_left bd];rfl
 simp only[e];unfold callMethod;rw[Sem.run_bind];show Result.stops (Sem.run P0 _ V)=true;rw[Sem.run_bind];refine gC ?_ _;generalize P0.types.size+Made.depth=n;cases n with
 |zero=>rfl
 |succ n=>
  unfold method;rw[Sem.run_bind];exact gC (rl h V) _
def Sg (hT:P0.toTables=P.toTables)(hC:Callable P0 P ok)(c:Call)(t:TypeId)(hc:Gv P ok.fn c=true)(h:Aa ok ρ ev tQ)(hcf:∀g,ev (.func g)=.func (.func g) #[] #[]):
  af P0 P ok str (λσ x y=>py ok σ x y) ρ (do let d <-resolve ev c t;invoke d.target d.args) (do let d <-resolve tQ c t;invoke d.target d.args):=by
 unfold Gv at hc;rw[adx]at hc;have ha:=BG h hc.2;unfold resolve;cases Vs:c.callee with
 |builtin b=>
  rw[Vs]at hc;exact Ig hT b _ hc.1 _ _ ha
 |invoke r n=>
  rw[Vs]at hc;simp only[Bool.and_eq_true]at hc;refine ba ?_;have e:∀(v:Value) (xs:Array Value),invoke (.fn (.method n) #[]) (#[v]++xs)=callMethod v n xs:=λv xs=>by
   unfold invoke;simp only[Array.extract_append];have h0:(#[v]++xs)[0]?=some v:=by rw[Array.getElem?_append_left aG];rfl
   simp[h0]
  dsimp only;rw[e,e];exact zP hT hC n hc.1.2 (h r hc.1.1) ha
 |value f=>
  rw[Vs]at hc;cases hon:eJ ok.fn f with
  |false=>
   have vP:ovr f=true:=by have:(eJ ok.fn f||ovr f)=true:=hc.1;rw[hon]at this;exact this
   cases f with
   |func g=>
    have hg:g=Gl.ov:=by simpa[ovr]using vP
    subst hg;refine .dead _ _ λV=>?_
    dsimp only;rw[hcf];exact hC.over _ V
   |_=>cases vP
  |true=>
  have hf:=h f hon;dsimp only;generalize ev f=v at hf;generalize tQ f=v' at hf;cases hf with
  |func sJ e1 h1 e2 h2=>
   refine ba ?_;exact uz hT hC (.fn sJ ⟨e2,h2⟩) aG (ax.append ⟨e1,h1⟩ ha)
  |nilFunc=>exact eY hT .nilDeref rfl
  |hole _=>exact .dead _ _ λV=>pO hC.hole _ V
  |_=>exact .halt _ _
def FC (hT:P0.toTables=P.toTables)(hC:Callable P0 P ok)(o:Oper)(x:Operand)(bp:o.op=.nilCheck x)(hx:aw ok ρ (ev x) (tQ x)):af P0 P ok str (λσ x y=>py ok σ x y) ρ (execOp ev o) (execOp tQ o):=by
 unfold execOp;rw[bp];dsimp only;generalize ev x=v at hx;generalize tQ x=v' at hx;cases hx with
 |hole h=>exact .dead _ _ λV=>zI hC.hole V
 |mD=>exact eY hT .nilDeref rfl
 |nilFunc=>exact eY hT .nilDeref rfl
 |nilIface=>exact eY hT .nilDeref rfl
 |bool b=>exact ag (.value<|.bool b)
 |int k n=>exact ag (.value<|.int k n)
 |string s=>exact ag (.value<|.string s)
 |ptr r=>exact ag (.value<|.ptr r)
 |dH l c=>exact ag (.value<|.dH l c)
 |slice l c r=>exact ag (.value<|.slice l c r)
 |iface t h=>exact ag (.value<|.iface t h)
 |func hf e1 h1 e2 h2=>
  cases hf with
  |func h=>exact ag (.value<|.func (.func h) e1 h1 e2 h2)
  |yield h=>exact ag (.value<|.func (.yield h) e1 h1 e2 h2)
 |agg e h=>exact ag (.value<|.agg e h)
 |tuple e h=>exact ag<|.value<|.tuple e h
def Ih (hT:P0.toTables=P.toTables)(a b:TypeId)(ha:Et P a=true)(hb:Et P b=true)(hx:aw ok ρ v v'):af P0 P ok str (aw ok) ρ (convert a b v) (convert a b v'):=by
 unfold convert;refine ae _ (ar hT a) ?_;rintro σ d _ l ⟨rfl,hd⟩;refine ae _ (ar hT b) ?_;rintro τ e _ l' ⟨rfl,he⟩;unfold Et at ha hb;rw[hd]at ha;rw[he]at hb;cases d<;>first|cases ha|skip
 cases e<;>first|cases hb|skip
 cases hx with
 |int k n=>exact ag (.int _ _)
 |_=>exact .halt _ _
def Pg (hT:P0.toTables=P.toTables)(t:TypeId)(ht:Po P t=true)(hx:aw ok ρ v v'):af P0 P ok str (aw ok) ρ (Instr.range t v) (Instr.range t v'):=by
 unfold Instr.range;refine ae _ (ar hT t) ?_;rintro σ d _ l ⟨rfl,hd⟩;unfold Po at ht;rw[hd]at ht;cases d with
 |string=>
  cases hx with
  |string s=>
   refine ba ?_;refine af.new (.stringIter s 0) ?_;intro τ b c _ e;exact .pure (.ptr ⟨e,rfl,rfl⟩)
  |_=>exact .halt _ _
 |_=>cases ht
def Sm (t:TypeId)(hx:aw ok ρ v v'):af P0 P ok str (aw ok) ρ (Instr.next v true t) (Instr.next v' true t):=by
 unfold Instr.next;cases hx with
 |@ptr a a' r=>
  let⟨b,off,sp⟩:=a;let⟨b',aZ,sp'⟩:=a';have h1:=r.off;simp only at h1;subst h1;cases aZ with
  |zero=>
   refine af.getObj r.blk λo o' ho=>?_
   refine ba ?_;cases ho with
   |stringIter s p=>
    dsimp only;split
    .exact af.setObj r.blk (.stringIter s _) (.pure (.tuple rfl (λi x x' h h'=>by
      match i with
      |0=>simp at h h';subst h h';exact .bool _
      |1=>simp at h h';subst h h';exact .int _ _
      |2=>simp at h h';subst h h';exact .int _ _
      |i+3=>simp at h)))
    .exact ag (.tuple rfl (λi x x' h h'=>by
      match i with
      |0=>simp at h h';subst h h';exact .bool _
      |i+1=>simp at h))
   |_=>exact .halt _ _
  |succ n=>exact .halt _ _
 |_=>exact .halt _ _
def T5 (hT:P0.toTables=P.toTables)(hG:P.globals.size=Gl.n)(hC:Callable P0 P ok)(o:Oper)(ho:lR P ok.fn o.op=true)(h:Aa ok ρ ev tQ)(hcv:∀v,ev (.const v)=v/\tQ (.const v)=v)(hcf:∀g,ev (.func g)=.func (.func g) #[] #[]):
  af P0 P ok str (λσ x y=>py ok σ x y) ρ (execOp ev o) (execOp tQ o):=by
 unfold execOp;cases bp:o.op with
 |move x=>rw[bp]at ho;exact ag (.value<|h x ho)
 |assign x=>rw[bp]at ho;exact ag (.value<|h x ho)
 |pick c a b=>
  rw[bp]at ho;simp only[lR,Bool.and_eq_true]at ho;refine ae _ (A7<|h c ho.1.1) ?_;rintro σ b _ l rfl;split
  .exact ag (.value<|(h _ ho.1.2).mono l)
  .exact ag (.value<|(h _ ho.2).mono l)
 |alloc t=>rw[bp]at ho;exact cE (O7 hT t ho)
 |box t x=>rw[bp]at ho;exact cE (WT t<|h x ho)
 |build t parts=>
  rw[bp]at ho;simp only[lR,Bool.and_eq_true]at ho;have:=AV h ho.2;exact cE (O9 hT t ho.1 this.1 this.2)
 |buildSlice t n parts=>
  rw[bp]at ho;simp only[lR,Bool.and_eq_true]at ho;have:=AV h ho.2;exact cE (zO hT t n ho.1 this.1 this.2)
 |load t a=>
  rw[bp]at ho;refine cE<|ae _ (tL<|h a ho) ?_;intro σ x y l r;exact sD hT t r
 |store t a x=>
  rw[bp]at ho;simp only[lR,Bool.and_eq_true]at ho;refine C9 (A:=λ_ _ _=>True)<|ae _ (tL<|h a ho.1) ?_;intro σ b b' l r;exact FE hT t r ((h x ho.2).mono l)
 |binOp op t x y u=>
  rw[bp]at ho;simp only[lR,Bool.and_eq_true]at ho;cases nI:kS P op t with
  |false=>
   have hn:vb P op t y=true:=by have:=ho.1.1;rw[nI]at this;exact this
   have hy:=Jq hn;have e1:ev y=.nilIface:=by rw[hy];exact(hcv .nilIface).1
   have e2:tQ y=.nilIface:=by rw[hy];exact(hcv .nilIface).2
   refine cE (s:=do eqGuard op t x y (ev x) (ev y);binOp op t (ev x) (ev y)) (s':=do eqGuard op t x y (tQ x) (tQ y);binOp op t (tQ x) (tQ y)) ?_;rw[e1,e2];exact Pc hT op t x y hn (h x ho.1.2)
  |true=>
  by_cases hd:ev x=hole\/ev y=hole
  .exact cE (.dead _ _ λV=>If hT op t nI x y _ _ hd V)
  refine cE<|ae _ (Ii hT op t nI x y (h x ho.1.2) (h y ho.2) (λe=>hd<|.inl e) λe=>hd<|.inr e) ?_;intro σ _ _ l _;exact O8 hT hG op t nI ((h x ho.1.2).mono l) ((h y ho.2).mono l)
 |unOp op t x=>rw[bp]at ho;exact cE (Pj op<|h x ho)
 |makeFunc f a b=>
  rw[bp]at ho;simp only[lR,Bool.and_eq_true]at ho;cases f with
  |func f=>
   have h1:=BG h ho.1.2;have h2:=BG h ho.2;exact ag (.value<|.func (.func ho.1.1) h1.size h1.at_ h2.size h2.at_)
  |_=>cases ho.1.1
 |makeSlice t l c=>
  rw[bp]at ho;simp only[lR,Bool.and_eq_true]at ho;exact cE (C8 hT t ho.1.1 (h l ho.1.2)<|h c ho.2)
 |slice t x a b c=>
  rw[bp]at ho;simp only[lR,Bool.and_eq_true]at ho;exact cE (Io hT t (h x ho.1.1.1) (CQ h ho.1.1.2) (CQ h ho.1.2)<|CQ h ho.2)
 |fieldAddr s x f=>
  rw[bp]at ho;simp only[lR,Bool.and_eq_true]at ho;exact cE (Ik hT s f (GJ ho.1)<|h x ho.2)
 |indexAddr t x i=>
  rw[bp]at ho;simp only[lR,Bool.and_eq_true]at ho;exact cE (Il hT t (h x ho.1)<|h i ho.2)
 |index t x i=>
  rw[bp]at ho;simp only[lR,Bool.and_eq_true]at ho;exact cE (Pd hT t (h x ho.1)<|h i ho.2)
 |extract x n=>rw[bp]at ho;exact cE (Ij (h x ho) n)
 |call c=>rw[bp]at ho;exact Sg hT hC c _ ho h hcf
 |convert a b x=>
  rw[bp]at ho;simp only[lR,Bool.and_eq_true]at ho;exact cE (Ih hT a b ho.1.1 ho.1.2<|h x ho.2)
 |range t x=>
  rw[bp]at ho;simp only[lR,Bool.and_eq_true]at ho;exact cE (Pg hT t ho.1<|h x ho.2)
 |next it b=>
  rw[bp]at ho;simp only[lR,Bool.and_eq_true]at ho;obtain⟨rfl,ho⟩:=ho;exact cE (Sm o.type<|h it ho)
 |makeInterface t x=>rw[bp]at ho;exact cE (uA hT t<|h x ho)
 |typeAssert x t a c=>
  rw[bp]at ho;simp only[lR,Bool.and_eq_true]at ho;obtain⟨⟨rfl,hz⟩,ho⟩:=ho;exact cE (zQ hT t a hz<|h x ho)
 |nilCheck x=>
  rw[bp]at ho;have:=FC (P0:=P0) (P:=P) (str:=str) hT hC o x bp<|h x ho;unfold execOp at this;rw[bp]at this;exact this
 |_=>rw[bp]at ho;cases ho
end
end
section
variable [Gl]
def dg (P:Program)(fn:FuncId->Bool):Code->Bool
 |.skip|.ret|.exit _=>true
 |.seq a b=>dg P fn a&&dg P fn b
 |.cond c a b=>eJ fn c&&dg P fn a&&dg P fn b
 |.block _ b|.loop b=>dg P fn b
 |.region _ ops _=>ops.all (λo=>lR P fn o.op)
 |.rangeFunc f _ a b=>eJ fn f&&dg P fn a&&dg P fn b
 |_=>false
inductive pw (P:Program)(ok:Ctx)(ρ:Ren):Item->Item->Prop
 |code {c:Code}:dg P ok.fn c=true->pw P ok ρ (.code c) (.code c)
 |inBlock (id:Nat):pw P ok ρ (.inBlock id) (.inBlock id)
 |inLoop {c:Code}:dg P ok.fn c=true->pw P ok ρ (.inLoop c) (.inLoop c)
 |inRegion {ops:Array Oper} (todo:List Nat):ops.all (λo=>lR P ok.fn o.op)=true->pw P ok ρ (.inRegion ops todo) (.inRegion ops todo)
 |inRangeFunc {l l':Nat}:ρ l=some l'->pw P ok ρ (.inRangeFunc l) (.inRangeFunc l')
 |endRangeFunc {l l':Nat}:ρ l=some l'->pw P ok ρ (.endRangeFunc l) (.endRangeFunc l')
 |beginRound:pw P ok ρ .beginRound .beginRound
inductive mP (P:Program)(ok:Ctx)(ρ:Ren):List Item->List Item->Prop
 |nil:mP P ok ρ [] []
 |cons {x x':Item} {l l':List Item}:pw P ok ρ x x'->mP P ok ρ l l'->mP P ok ρ (x::l) (x'::l')
inductive Ac:FrameMode->FrameMode->Prop
 |run:Ac .run .run
 |returning:Ac .returning .returning
 |panicking {c c':List PanicEntry}:Ac (.panicking c) (.panicking c')
inductive kN (ρ:Ren):List Deferred->List Deferred->Prop
 |nil:kN ρ [] []
 |cons {r r':Nat} {l l':List Deferred}:ρ r=some r'->kN ρ l l'->kN ρ ({target:=.collected r,args:=#[]}::l) ({target:=.collected r',args:=#[]}::l')
inductive wN (ρ:Ren):Option Nat->Option Nat->Prop
 |none:wN ρ none none
 |some {l l':Nat}:ρ l=some l'->wN ρ (some l) (some l')
structure eK (P:Program)(ok:Ctx)(ρ:Ren)(fr eV:Frame):Prop where
 fn:eV.fn=fr.fn
 aX:ok.aX fr.fn=true
 tmps:ax ok ρ fr.tmps eV.tmps
 todo:mP P ok ρ fr.todo eV.todo
 defers:kN ρ fr.defers eV.defers
 mode:Ac fr.mode eV.mode
 kind:fr.kind=.normal
 fo:eV.kind=.normal
 round:wN ρ fr.roundOf eV.roundOf
inductive jb (P:Program)(ok:Ctx)(ρ:Ren):List Frame->List Frame->Prop
 |nil:jb P ok ρ [] []
 |cons {f f':Frame} {l l':List Frame}:eK P ok ρ f f'->jb P ok ρ l l'->jb P ok ρ (f::l) (f'::l')
section
variable {ρ σ:Ren}
def pw.mono {x x':Item}(h:pw P ok ρ x x')(l:ρ.le σ):pw P ok σ x x':=by
 cases h with
 |code h=>exact .code h
 |inBlock id=>exact .inBlock id
 |inLoop h=>exact .inLoop h
 |inRegion t h=>exact .inRegion t h
 |inRangeFunc h=>exact .inRangeFunc (l _ _ h)
 |endRangeFunc h=>exact .endRangeFunc (l _ _ h)
 |beginRound=>exact .beginRound
def mP.mono {x x':List Item}(h:mP P ok ρ x x')(l:ρ.le σ):mP P ok σ x x':=by
 induction h with
 |nil=>exact .nil
 |cons h _ ih=>exact .cons (h.mono l) ih
def kN.mono {x x':List Deferred}(h:kN ρ x x')(l:ρ.le σ):kN σ x x':=by
 induction h with
 |nil=>exact .nil
 |cons h _ ih=>exact .cons (l _ _ h) ih
def wN.mono {x x':Option Nat}(h:wN ρ x x')(l:ρ.le σ):wN σ x x':=by
 cases h with
 |none=>exact .none
 |some h=>exact .some<|l _ _ h
def eK.mono {f f':Frame}(h:eK P ok ρ f f')(l:ρ.le σ):eK P ok σ f f':=⟨h.fn,h.aX,h.tmps.mono l,h.todo.mono l,h.defers.mono l,h.mode,h.kind,h.fo,h.round.mono l⟩
def jb.mono {f f':List Frame}(h:jb P ok ρ f f')(l:ρ.le σ):jb P ok σ f f':=by
 induction h with
 |nil=>exact .nil
 |cons h _ ih=>exact .cons (h.mono l) ih
def mP.exit {id:Nat}:∀{l l':List Item},mP P ok ρ l l'->(exitTo id l=none/\exitTo id l'=none)\/∃k k',exitTo id l=some k/\exitTo id l'=some k'/\mP P ok ρ k k':=by
 intro l l' h;induction h with
 |nil=>exact .inl ⟨rfl,rfl⟩
 |@cons x x' l l' hx hl ih=>
  cases hx with
  |inBlock i=>
   simp only[exitTo];split
   .exact .inr ⟨_,_,rfl,rfl,hl⟩
   .exact ih
  |_=>exact ih
end
def tU (fr:Frame)(cs:List Frame):Prop:=∀f,(fr::cs).getLast?=some f->f.roundOf=none
inductive pv (P0 P:Program)(ok:Ctx)(σ:Ren)(lb rb:List Frame):Goroutine->Goroutine->Prop
 |inside {fr eV:Frame} {cs cs':List Frame}:eK P ok σ fr eV->jb P ok σ cs cs'->tU fr cs->pv P0 P ok σ lb rb (G fr<|cs++lb) (G eV<|cs'++rb)
 |door {f:FuncId} {xs xs':Array Value} {cs cs':List Frame}:ok.fn f=true->ok.aX f=false->ax ok σ xs xs'->jb P ok σ cs cs'->cs≠[]->(∀f,cs.getLast?=some f->f.roundOf=none)->
   pv P0 P ok σ lb rb (G (Frame.enter P0 f xs .normal)<|cs++lb) (G (Frame.enter P f xs' .normal)<|cs'++rb)
structure Same (P0 P:Program)(ok:Ctx):Prop where
 same:∀f,ok.aX f=true->∃fn c,P0.funcs[f]?=some fn/\P.funcs[f]?=some fn/\fn.body=some c/\dg P ok.fn c=true
 code:∀c,ok.code c=dg P ok.fn c
omit [Gl] in
def jP (p:Program)(fn:FuncId)(es:Array Event):∀e∈seen p fn es,e∈es:=by
 unfold seen;simp only;have key:∀(l:List Event) (q:Bool) (kept:Array Event) (S:Event->Prop),(∀e∈l,S e)->(∀e∈kept,S e)->
   ∀e∈(l.foldl (λ(x:Bool×Array Event) (e:Event)=>match e.loc with|.mark (.extern f)=>((p.funcs[f]?).any (·.norace),x.2)|_=>(x.1,if x.1&&!e.sync then x.2 else x.2.push e)) (q,kept)).2,S e:=by
  intro l;induction l with
  |nil=>intro q kept S _ hk e he;exact hk e he
  |cons a l ih=>
   intro q kept S hl hk e he;simp only[List.foldl_cons]at he;split at he
   .exact ih _ _ S (λx hx=>hl x<|by simp[hx]) hk e he
   .refine ih _ _ S (λx hx=>hl x<|by simp[hx]) ?_ e he;split
    .exact hk
    .intro x hx;rcases Array.mem_push.1 hx with hx|rfl
     .exact hk x hx
     .exact hl _ aG
 intro e he;rw[<-Array.foldl_toList]at he;exact key es.toList _ #[] (λe=>e∈es) (λx hx=>by simpa using hx) (λx hx=>by simp at hx) e he
section
variable {ρ σ:Ren}
def eK.finish (h:eK P ok ρ fr eV)(hv:aw ok ρ v v'):eK P ok ρ (fr.finish v) (eV.finish v'):=by
 have ht:=h.todo;let⟨fn,tmps,todo,defers,mode,kind,roundOf⟩:=fr;let⟨dC,dj,jY,cU,pU,fo,bg⟩:=eV;simp only at ht;cases ht with
 |nil=>exact h
 |cons hx hl=>
  cases hx with
  |inRegion t ho=>
   cases t with
   |nil=>exact h
   |cons i rest=>
    refine⟨h.fn,h.aX,?_,.cons (.inRegion _ ho) hl,h.defers,h.mode,h.kind,h.fo,h.round⟩;unfold Frame.finish;simp only;split
    .exact h.tmps.set hv _
    .exact h.tmps
  |inRangeFunc hr=>exact⟨h.fn,h.aX,h.tmps,.cons (.endRangeFunc hr) hl,h.defers,h.mode,h.kind,h.fo,h.round⟩
  |beginRound=>exact⟨h.fn,h.aX,h.tmps,hl,h.defers,h.mode,h.kind,h.fo,h.round⟩
  |_=>exact h
omit [Gl] in
def iK (fr:Frame)(v:Value):(fr.finish v).roundOf=fr.roundOf:=by
 unfold Frame.finish;split<;>rfl
omit [Gl] in
def vp (fr:Frame)(c:List PanicEntry):(fr.raise c).roundOf=fr.roundOf:=by
 unfold Frame.raise;split<;>rfl
omit [Gl] in
def tU.swap (h:tU fr cs)(e:fr2.roundOf=fr.roundOf):tU fr2 cs:=by
 intro f hf;cases cs with
 |nil=>
  simp only[List.getLast?_singleton,Option.some.injEq]at hf;subst hf;rw[e];exact h fr rfl
 |cons c cs=>exact h f<|by simpa using hf
omit [Gl] in
def tU.push (h:tU fr cs):tU fr2 (fr::cs):=by
 intro f hf;exact h f<|by simpa using hf
omit [Gl] in
def tU.pop (h:tU fr (c::cs))(e:fr2.roundOf=c.roundOf):tU fr2 cs:=by
 have:tU c cs:=λf hf=>h f<|by simpa using hf
 exact this.swap e
def m9 (hS:Same P0 P ok)(hf:ok.aX f=true)(h:ax ok ρ xs xs'):eK P ok ρ (Frame.enter P0 f xs .normal) (Frame.enter P f xs' .normal):=by
 let⟨fn,c,h1,h2,h3,h4⟩:=hS.same f hf;unfold Frame.enter;rw[h1,h2];simp only[Option.map_some,Option.getD_some,Option.bind_some,h3];refine⟨rfl,hf,?_,.cons (.code h4) .nil,.nil,.run,rfl,rfl,.none⟩;rw[<-h.size];exact h.append<|ax.replicate lL _
omit [Gl] in
def Ac.WM {m m':FrameMode}(h:Ac m m')(e:m=.run):m'=.run:=by subst e;cases h;rfl
def eK.raise (h:eK P ok ρ fr eV)(c c':List PanicEntry):eK P ok ρ (fr.raise c) (eV.raise c'):=by
 have hm:=h.mode;unfold Frame.raise;let⟨fn,tmps,todo,defers,mode,kind,roundOf⟩:=fr;let⟨dC,dj,jY,cU,pU,fo,bg⟩:=eV;simp only at hm;cases hm with
 |run=>exact⟨h.fn,h.aX,h.tmps,h.todo,h.defers,.panicking,h.kind,h.fo,h.round⟩
 |returning=>exact⟨h.fn,h.aX,h.tmps,h.todo,h.defers,.panicking,h.kind,h.fo,h.round⟩
 |panicking=>exact⟨h.fn,h.aX,h.tmps,h.todo,h.defers,.panicking,h.kind,h.fo,h.round⟩
def mP.Oz {l l':List Item}(h:mP P ok ρ l l'):(∀d b r s k,l≠.call d b r s::k)/\∀d b r s k,l'≠.call d b r s::k:=by
 cases h with
 |nil=>exact⟨aG,aG⟩
 |cons h _=>cases h<;>exact⟨aG,aG⟩
omit [Gl] in
def lW {s:Sem Next}(hr:s.runT p w #[]=(.ok (.enter f xs) w',es))(hn:∀d b r s k,fr.todo≠.call d b r s::k)(hk:fr.kind=.normal):
  stepG.apply p true fr cs none s w=.go (G (Frame.enter p f xs .normal)<|fr::cs) w' (seen p fr.fn es):=by
 have F3:(CallKind.normal==CallKind.early)=false:=rfl;let⟨fn,tmps,todo,defers,mode,kind,roundOf⟩:=fr;simp only at hk hn;subst hk;cases todo with
 |nil=>simp only[stepG.apply,if_true,hr,GStep.after,F3];simp[G]
 |cons x l=>
  cases x with
  |call d b r s=>exact absurd rfl (hn d b r s l)
  |_=>simp only[stepG.apply,if_true,hr,GStep.after,F3];simp[G]
def tZ (hS:Same P0 P ok){s:Sem Next}(hR:af P0 P ok str (λσ x y=>py ok σ x y) ρ s s')(hf:eK P ok ρ fr eV)(hc:jb P ok ρ cs cs')(hb:tU fr cs)
  (hw:bN ok str ρ V W)
  (h:stepG.apply P0 true fr (cs++lb) none s V=.go g2 V2 es):
  ∃σ h2 W2 zn,stepG.apply P true eV (cs'++rb) none s' W=.go h2 W2 zn/\pv P0 P ok σ lb rb g2 h2/\bN ok str σ V2 W2/\iX ρ V W σ V2 W2/\∀e∈zn,pg σ V e:=by
 have F3:(CallKind.normal==CallKind.early)=false:=rfl;have lQ:=hf.todo.Oz;generalize hr:s.runT P0 V #[]=x at h;let⟨r,e1⟩:=x;rcases hR.sound #[] #[] hw hr with de|⟨σ,r',V',W',d',h1,h2,h4,h5⟩
 .exfalso;cases r with
  |ok a w=>cases de
  |halt hh w=>
   cases hh with
   |stuck y=>simp only[stepG.apply,if_true,hr,GStep.after]at h;cases h
   |unsupported u=>
    cases u with
    |initOrder g=>cases de
    |_=>simp only[stepG.apply,if_true,hr,GStep.after]at h;cases h
   |_=>cases de
 .have mK:∀e∈seen P eV.fn d',pg σ V e:=λe he=>h5 e (jP _ _ _ e he)
  have pn:s'.runT P W #[]=(r',d'):=by rw[h1];simp
  have NH:=hf.mono h4.le;have Ci:=hc.mono h4.le;cases h2 with
  |@ok a b V' W' hN hw'=>
   cases hN with
   |@value v v' hv=>
    simp only[stepG.apply,if_true,hr,GStep.after,GStep.go.injEq,hf.kind,F3]at h;obtain⟨rfl,rfl,_⟩:=h;refine⟨σ,G (eV.finish v')<|cs'++rb,W',_,?_,.inside (NH.finish hv) Ci<|hb.swap<|iK _ _,hw',h4,mK⟩;simp only[stepG.apply,if_true,pn,GStep.after,hf.fo,F3];simp[G]
   |skip=>
    simp only[stepG.apply,if_true,hr,GStep.after,GStep.go.injEq,hf.kind,F3]at h;obtain⟨rfl,rfl,_⟩:=h;refine⟨σ,G (eV.finish undef)<|cs'++rb,W',_,?_,.inside (NH.finish lL) Ci<|hb.swap<|iK _ _,hw',h4,mK⟩;simp only[stepG.apply,if_true,pn,GStep.after,hf.fo,F3];simp[G]
   |@enter f xs xs' eO hx=>
    rw[lW hr lQ.1 hf.kind]at h;simp only[GStep.go.injEq]at h;obtain⟨rfl,rfl,_⟩:=h;refine⟨σ,G (Frame.enter P f xs' .normal)<|(eV::cs')++rb,W',_,lW pn lQ.2 hf.fo,?_,hw',h4,mK⟩;cases hi:ok.aX f with
    |true=>exact .inside (cs:=fr::cs) (m9 hS hi hx) (.cons NH Ci) hb.push
    |false=>exact .door (cs:=fr::cs) eO hi hx (.cons NH Ci) aG hb
   |@round l l' f xs xs' a b hl hi hx ha dt=>
    simp only[stepG.apply,if_true,hr,GStep.after,GStep.go.injEq,hf.kind,F3]at h;obtain⟨rfl,rfl,_⟩:=h;refine⟨σ,G (Frame.round l' f xs' a b .normal)<|(eV::cs')++rb,W',_,?_,?_,hw',h4,mK⟩
    .simp only[stepG.apply,if_true,pn,GStep.after,hf.fo,F3];simp[G]
    .exact .inside (cs:=fr::cs) ⟨rfl,hi,hx,.cons (.code<|(hS.code _).symm.trans ha)<|.cons .beginRound<|.cons (.code<|(hS.code _).symm.trans dt) .nil,.nil,.run,rfl,rfl,.some hl⟩ (.cons NH Ci) hb.push
  |@panic v v' V' W' hv hw'=>
   simp only[stepG.apply,if_true,hr,GStep.after,GStep.go.injEq,hf.kind,F3]at h;obtain⟨rfl,rfl,_⟩:=h;refine⟨σ,G (eV.raise [{v:=v',recovered:=false}])<|cs'++rb,W',_,?_,.inside (NH.raise _ _) Ci<|hb.swap<|vp _ _,hw',h4,mK⟩;simp only[stepG.apply,if_true,pn,GStep.after,hf.fo,F3];simp[G]
end
section
variable {P0 P:Program}{ok:Ctx}{str:Bool}{ρ σ τ:Ren}{V W V1 W1 V2 W2:World}
def pg.shift (k1:iX ρ V W σ V1 W1)(k2:iX σ V1 W1 τ V2 W2){e:Event}(h:pg τ V1 e):pg τ V e:=by
 have key:∀b d,τ b=some d->Ro V b->Ro V1 b:=by
  intro b d hb hro;let⟨c,el,hc⟩:=hro;have ay:b<V:=(ac5.1 hc).1;rcases k2.new _ _ hb with h1|⟨h1,_⟩
  .rcases k1.new _ _ h1 with h2|⟨h2,_⟩
   .exact⟨c,el,by rw[(k1.ro _ _ h2 ⟨c,el,hc⟩).1];exact hc⟩
   .omega
  .have:=k1.A5;omega
 rcases h with⟨s,a,a',e1,r,w⟩|⟨s,r,r',e1,h,n⟩|h
 .exact .inl ⟨s,a,a',e1,r,λhw hro=>w hw<|key _ _ r.blk hro⟩
 .exact .inr (.inl ⟨s,r,r',e1,h,λhro=>n<|key _ _ h hro⟩)
 .exact .inr (.inr h)
def Pf {f f':α->Sem Value}{l:List α}:∀{ρ:Ren},(∀a∈l,∀{σ:Ren},ρ.le σ->af P0 P ok str (aw ok) σ (f a) (f' a))->af P0 P ok str (λσ x y=>iG ok σ x y) ρ (l.mapM f) (l.mapM f'):=by
 induction l with
 |nil=>intro ρ _;simp only[List.mapM_nil];exact ag .nil
 |cons a l ih=>
  intro ρ h;simp only[List.mapM_cons];refine ae _ (h a aG<|Ren.le_refl _) ?_;intro σ x x' le hx;refine ae _ (ih λb hb _ q_=>h b (by simp[hb])<|le.trans q_) ?_;intro τ xs xs' q_ vU;exact ag<|.cons (hx.mono q_) vU
def oO (hT:P0.toTables=P.toTables)(fn:Func)(h:ax ok ρ xs xs'):af P0 P ok str (aw ok) ρ (results fn xs) (results fn xs'):=by
 unfold results;rw[Array.mapM_eq_mapM_toList,Array.mapM_eq_mapM_toList];refine ae (λσ x y=>ax ok σ x y) ?_ ?_
 .refine ae _ (Pf ?_) ?_
  .intro a _ σ le;cases a with
   |tmp t=>exact ag ((h.mono le).getD t)
   |cell a t=>
    refine ae _ (uy hT<|(h.mono le).getD a) ?_;intro τ x y _ r;exact sD hT t r
  .intro σ x y _ hx;exact ag hx.array
 .intro σ x y _ hx;by_cases e:x.size=1
  .have e':y.size=1:=hx.size▸e;rw[dif_pos e,dif_pos e'];exact ag<|hx.at_ 0 _ _ (ada _)<|ada _
  .have e':¬y.size=1:=hx.size▸e;rw[dif_neg e,dif_neg e'];exact ag<|.tuple hx.size hx.at_
def vu (hl:ρ l=some l')(jump:Option Code)(hj:∀c,jump=some c->ok.code c=true):af P0 P ok str (aw ok) ρ (Instr.endRound l jump) (Instr.endRound l' jump):=by
 refine ae _ (lG hl) ?_;intro σ r r' le hr;refine af.setObj (le _ _ hl) (.loop ⟨rfl,rfl,hr.fn,hr.tmps,hr.params,hr.assign,hr.body,hr.defers,hr.aX,hr.G_,hr.H',hj⟩) ?_;exact .pure<|.bool _
def rh (hT:P0.toTables=P.toTables)(hl:ρ l=some l'):af P0 P ok str (λ_ _ _=>True) ρ (Instr.beginRound l) (Instr.beginRound l'):=by
 refine ae _ (lG hl) ?_;intro σ r r' le hr;refine af.setObj (le _ _ hl) (.loop ⟨rfl,hr.pending,hr.fn,hr.tmps,hr.params,hr.assign,hr.body,hr.defers,hr.aX,hr.G_,hr.H',hr.ok3⟩) ?_;show af P0 P ok str _ σ (match r.state with|.ready=>pure ()|.done=>runtimePanic (.error _)|.busy=>runtimePanic (.error _)|.exhausted=>runtimePanic<|.error _) (match r'.state with|.ready=>pure ()|.done=>runtimePanic (.error _)|.busy=>runtimePanic (.error _)|.exhausted=>runtimePanic<|.error _);rw[hr.state];cases r.state with
 |ready=>exact ag trivial
 |_=>exact eY hT (.error _) rfl
def yP (hT:P0.toTables=P.toTables)(hl:ρ l=some l'):af P0 P ok str (λ_ x y=>x=y/\∀c,x=some c->ok.code c=true) ρ (Instr.endLoop l) (Instr.endLoop l'):=by
 refine ae _ (lG hl) ?_;intro σ r r' le hr;rw[hr.state];split
 .exact eY hT (.error _) rfl
 .refine af.setObj (le _ _ hl) (.loop ⟨rfl,hr.pending,hr.fn,hr.tmps,hr.params,hr.assign,hr.body,hr.defers,hr.aX,hr.G_,hr.H',hr.ok3⟩) ?_;exact .pure ⟨hr.pending.symm,hr.ok3⟩
def JT {r r':Nat}(hr:ρ r=some r'):af P0 P ok str (λ_ x y=>x=[]/\y=[]) ρ (Instr.takeDeferred r) (Instr.takeDeferred r'):=by
 refine af.getObj hr λo o' ho=>?_
 cases ho with
 |deferred=>exact af.setObj hr .taken (.pure ⟨rfl,rfl⟩)
 |_=>exact .halt _ _
def tI (fn:FuncId)(hi:ok.aX fn=true)(h:ax ok ρ xs xs')(params:Array Tmp){a b:Code}(ha:ok.code a=true)(hb:ok.code b=true){r r':Option Nat}(hr:wN ρ r r'):
  af P0 P ok str (λσ x y=>σ x.1=some y.1/\kN σ x.2 y.2) ρ (Instr.enterLoop fn xs params a b r) (Instr.enterLoop fn xs' params a b r'):=by
 unfold Instr.enterLoop;have fin:∀{σ:Ren} {d d':Nat} {m m':List Deferred},ρ.le σ->σ d=some d'->kN σ m m'->
   af P0 P ok str (λσ x y=>σ x.1=some y.1/\kN σ x.2 y.2) σ (do pure (<-newObj (.loop {state:=.ready,pending:=none,fn,tmps:=xs,params,assign:=a,body:=b,defers:=d}),m))
    (do pure (<-newObj (.loop {state:=.ready,pending:=none,fn,tmps:=xs',params,assign:=a,body:=b,defers:=d'}),m')):=by
  intro σ d d' m m' le hd hm;refine af.new (.loop ⟨rfl,rfl,rfl,h.mono le,rfl,rfl,rfl,hd,hi,ha,hb,aG⟩) ?_;intro τ x y q_ e;exact .pure ⟨e,hm.mono q_⟩
 cases hr with
 |none=>
  refine af.new .deferred ?_;intro σ x y le e;exact fin le e (.cons e .nil)
 |some hl=>
  refine ae _ (lG hl) ?_;intro σ q q' le hq;exact fin le hq.defers .nil
def eK.eval (h:eK P ok ρ fr eV):Aa ok ρ fr.eval eV.eval:=by
 intro x hx;cases x with
 |tmp t=>exact h.tmps.getD t
 |const v=>exact sH hx
 |global g=>cases hx
 |func f=>exact .func (.func hx) rfl ax.nil.at_ rfl ax.nil.at_
def yY (h:ax ok ρ xs xs')(ops:Array Oper):yielded ops xs'=yielded ops xs:=by
 funext j;unfold yielded;cases ((ops[j]?).bind (·.dst))with
 |none=>rfl
 |some d=>
  simp only[Option.bind_some];cases hx:xs[d]? with
  |none=>rw[h.none hx]
  |some x=>
   let⟨x',dK,r⟩:=h.get hx;rw[dK];cases r with
   |hole h=>cases x'<;>first|rfl|cases h
   |_=>rfl
structure dL (P0 P:Program)(ok:Ctx):Prop extends Callable P0 P ok,Same P0 P ok where
 tab:P0.toTables=P.toTables
 D8:P.globals.size=Gl.n
def d9 (P0 P:Program)(ok:Ctx)(str:Bool)(ρ:Ren)(lb rb:List Frame)(V W:World)(g2:Goroutine)(V2:World)(s:GStep):Prop:=
 ∃σ h2 W2 zn,s=.go h2 W2 zn/\pv P0 P ok σ lb rb g2 h2/\bN ok str σ V2 W2/\iX ρ V W σ V2 W2/\∀e∈zn,pg σ V e
omit [Gl] in
def ff (h:GStep.after es (.ended o w)=.go g w' jI):False:=by
 simp[GStep.after]at h
def ul (hf:eK P ok ρ fr eV)(hc:jb P ok ρ cs cs')(hb:tU fr cs)(hw:bN ok str ρ V W)
  (jump:Option Code)(hj:∀c,jump=some c->ok.code c=true)(hr:fr.roundOf=some l)(hl:ρ l=some l')
  (h:(let(r,es):=(Instr.endRound l jump).runT P0 V #[];GStep.after (seen P0 fr.fn es)<|match r with|.ok v w=>doReturn P0 Ht fr (cs++lb) none v w|.halt _ w=>.ended (.stuck "range over a function: no such loop"<|fr.pos P0) w)=.go g2 V2 es):
  d9 P0 P ok str ρ lb rb V W g2 V2 (let(r,es):=(Instr.endRound l' jump).runT P W #[];GStep.after (seen P eV.fn es)<|match r with|.ok v w=>doReturn P acP eV (cs'++rb) none v w|.halt _ w=>.ended (.stuck "range over a function: no such loop"<|eV.pos P) w):=by
 generalize eb:(Instr.endRound l jump).runT P0 V #[]=x at h;let⟨r,e1⟩:=x;rcases(vu (P0:=P0) (P:=P) (str:=str) hl jump hj).sound #[] #[] hw eb with de|⟨σ,r',V',W',d',h1,h2,h4,h5⟩
 .exfalso;cases r with
  |ok a w=>cases de
  |halt hh w=>exact ff h
 .have pn:(Instr.endRound l' jump).runT P W #[]=(r',d'):=by rw[h1];simp
  cases h2 with
  |panic _ _=>exact(ff h).elim
  |@ok v v' V' W' hv hw'=>
   cases hc with
   |nil=>
    have:=hb fr rfl;rw[hr]at this;cases this
   |@cons c c' cs cs' NC hcs=>
    simp only[List.cons_append,doReturn,hf.kind,GStep.after,GStep.go.injEq]at h;obtain⟨rfl,rfl,_⟩:=h;refine⟨σ,G (c'.finish v')<|cs'++rb,W',seen P eV.fn d',?_,.inside ((NC.mono h4.le).finish hv) (hcs.mono h4.le)<|hb.pop<|iK _ _,hw',h4,λe he=>h5 e<|jP _ _ _ e he⟩;rw[pn];simp[List.cons_append,doReturn,hf.fo,GStep.after,G]
end
section
variable {ρ σ τ:Ren}
omit [Gl] in
def uB (h:fr.mode=.run):stepG p m (G fr cs) w=stepG.exec p m true fr cs none w:=by
 simp only[G,stepG,h]
omit [Gl] in
def ju (h:fr.mode≠.run):stepG p m (G fr cs) w=unwind p m fr cs none w:=by
 cases hm:fr.mode with
 |run=>exact absurd hm h
 |_=>simp only[G,stepG,hm]
def kN.append {a a' b b':List Deferred}(h:kN ρ a a')(h':kN ρ b b'):kN ρ (a++b) (a'++b'):=by
 induction h with
 |nil=>exact h'
 |cons h _ ih=>exact .cons h ih
def dV {fr2':Frame}(hf:eK P ok ρ fr2 fr2')(hc:jb P ok ρ cs cs')(hb:tU fr cs)(e:fr2.roundOf=fr.roundOf)(hw:bN ok str ρ V W)
  {s':GStep}(h:s=.go g2 V2 es)(hs:s=.go (G fr2<|cs++lb) V)(mL:s'=.go (G fr2'<|cs'++rb) W):d9 P0 P ok str ρ lb rb V W g2 V2 s':=by
 rw[hs]at h;simp only[GStep.go.injEq]at h;obtain⟨rfl,rfl,_⟩:=h;exact⟨ρ,_,W,#[],mL,.inside hf hc<|hb.swap e,hw,iX.refl _ _ _,aG⟩
def d9.wq (k:iX ρ V W σ V1 W1)(h:d9 P0 P ok str σ lb rb V1 W1 g2 V2 s)(he:∀e∈es,pg σ V e):d9 P0 P ok str ρ lb rb V W g2 V2 (GStep.after es s):=by
 obtain⟨τ,h2,W2,zn,rfl,hg,hw,hk,mK⟩:=h;refine⟨τ,h2,W2,es++zn,rfl,hg,hw,k.trans hk,λe hx=>?_⟩;rcases Array.mem_append.1 hx with hx|hx
 .exact(he e hx).mono hk.le
 .exact(mK e hx).shift k hk
omit [Gl] in
def kQ (h:GStep.after es s=.go g w jI):∃zn,s=.go g w zn:=by
 cases s<;>simp only[GStep.after,GStep.go.injEq,reduceCtorEq]at h
 obtain⟨rfl,rfl,_⟩:=h;exact⟨_,rfl⟩
def Ng (hP:dL P0 P ok)(hf:eK P ok ρ fr eV)(hc:jb P ok ρ cs cs')(hb:tU fr cs)(hw:bN ok str ρ V W)(hm:fr.mode=.run)
  (h:stepG.exec P0 Ht true fr (cs++lb) none V=.go g2 V2 es):d9 P0 P ok str ρ lb rb V W g2 V2 (stepG.exec P acP true eV (cs'++rb) none W):=by
 have mK:=hf.eval;let⟨fn,tmps,todo,defers,mode,kind,roundOf⟩:=fr;let⟨dC,dj,jY,cU,pU,fo,bg⟩:=eV;have ht:=hf.todo;have hro:=hf.round;have sJ:=hf.fn;have hk:=hf.kind;have po:=hf.fo;have rJ:=hf.mode;have hi:=hf.aX;simp only at ht hro sJ hk po hm rJ hi;subst hm hk po sJ;cases rJ;have to_:∀{k2 XV:List Item},mP P ok ρ k2 XV->eK P ok ρ ⟨dC,tmps,k2,defers,.run,.normal,roundOf⟩ ⟨dC,dj,XV,cU,.run,.normal,bg⟩:=λhk=>⟨rfl,hi,hf.tmps,hk,hf.defers,.run,rfl,rfl,hro⟩
 have T_:eK P ok ρ ⟨dC,tmps,todo,defers,.returning,.normal,roundOf⟩ ⟨dC,dj,jY,cU,.returning,.normal,bg⟩:=⟨rfl,hi,hf.tmps,ht,hf.defers,.returning,rfl,rfl,hro⟩;cases ht with
 |nil=>
  cases hro with
  |none=>exact dV T_ hc hb rfl hw h rfl rfl
  |some hl=>exact ul hf hc hb hw none aG rfl hl h
 |@cons x x' k k' hx od=>
  cases hx with
  |inBlock id=>exact dV (to_ od) hc hb rfl hw h rfl rfl
  |@inLoop body fy=>exact dV (to_<|.cons (.code fy)<|.cons (.inLoop fy) od) hc hb rfl hw h rfl rfl
  |inRangeFunc hl=>cases h
  |@endRangeFunc l l' hl=>
   have h':(let(r,es):=(Instr.endLoop l).runT P0 V #[];GStep.after (seen P0 dC es)<|match r with
    |.ok jump w=>.go (G ⟨dC,tmps,(jump.map Item.code).toList++k,defers,.run,.normal,roundOf⟩<|cs++lb) w
    |.halt (.panic v) w=>.go (G (Frame.raise ⟨dC,tmps,.endRangeFunc l::k,defers,.run,.normal,roundOf⟩ [{v,recovered:=false}])<|cs++lb) w
    |.halt _ w=>.ended (.stuck "range over a function: no such loop"<|Frame.pos P0 ⟨dC,tmps,.endRangeFunc l::k,defers,.run,.normal,roundOf⟩) w)=.go g2 V2 es:=h
   show d9 P0 P ok str ρ lb rb V W g2 V2 (let(r,es):=(Instr.endLoop l').runT P W #[];GStep.after (seen P dC es)<|match r with
    |.ok jump w=>.go (G ⟨dC,dj,(jump.map Item.code).toList++k',cU,.run,.normal,bg⟩<|cs'++rb) w
    |.halt (.panic v) w=>.go (G (Frame.raise ⟨dC,dj,.endRangeFunc l'::k',cU,.run,.normal,bg⟩ [{v,recovered:=false}])<|cs'++rb) w
    |.halt _ w=>.ended (.stuck "range over a function: no such loop"<|Frame.pos P ⟨dC,dj,.endRangeFunc l'::k',cU,.run,.normal,bg⟩) w)
   clear h;generalize eb:(Instr.endLoop l).runT P0 V #[]=x at h';let⟨r,e1⟩:=x;rcases(yP (P0:=P0) (P:=P) (str:=str) hP.tab hl).sound #[] #[] hw eb with de|⟨σ,r',V',W',d',h1,h2,h4,h5⟩
   .exfalso;cases r with
    |ok a w=>cases de
    |halt hh w=>cases hh<;>first|cases de;done|exact ff h'
   .have pn:(Instr.endLoop l').runT P W #[]=(r',d'):=by rw[h1];simp
    rw[pn];let⟨QV,h3⟩:=kQ h';refine d9.wq h4 ?_ λe he=>h5 e<|jP _ _ _ e he;cases h2 with
    |@ok j j' V' W' hv hw'=>
     obtain⟨rfl,hj⟩:=hv;refine dV (fr:=⟨dC,tmps,.endRangeFunc l::k,defers,.run,.normal,roundOf⟩) (fr2:=⟨dC,tmps,(j.map Item.code).toList++k,defers,.run,.normal,roundOf⟩) (fr2':=⟨dC,dj,(j.map Item.code).toList++k',cU,.run,.normal,bg⟩)
      ⟨rfl,hi,hf.tmps.mono h4.le,?_,hf.defers.mono h4.le,.run,rfl,rfl,hro.mono h4.le⟩ (hc.mono h4.le) hb rfl hw' h3 rfl rfl
     cases j with
     |none=>exact od.mono h4.le
     |some c=>exact .cons (.code<|(hP.code c).symm.trans<|hj c rfl) (od.mono h4.le)
    |@panic v v' V' W' hv hw'=>exact dV (fr:=⟨dC,tmps,.endRangeFunc l::k,defers,.run,.normal,roundOf⟩) ((hf.mono h4.le).raise _ _) (hc.mono h4.le) hb rfl hw' h3 rfl rfl
  |beginRound=>
   refine tZ hP.toSame ?_ hf hc hb hw h;refine C9 (A:=λ_ _ _=>True) ?_;cases hro with
   |none=>exact .halt _ _
   |some hl=>exact rh hP.tab hl
  |@inRegion ops todo ho=>
   cases todo with
   |nil=>exact dV (to_ od) hc hb rfl hw h rfl rfl
   |cons i rest=>
    have h':(if((ops[i]?).map (Region.wanted ·<|yielded ops tmps)).getD false then stepG.oper P0 true ⟨dC,tmps,.inRegion ops (i::rest)::k,defers,.run,.normal,roundOf⟩ (cs++lb) none V
     else .go (G (Frame.finish ⟨dC,tmps,.inRegion ops (i::rest)::k,defers,.run,.normal,roundOf⟩ undef)<|cs++lb) V)=.go g2 V2 es:=h
    show d9 P0 P ok str ρ lb rb V W g2 V2 (if((ops[i]?).map (Region.wanted ·<|yielded ops dj)).getD false then stepG.oper P true ⟨dC,dj,.inRegion ops (i::rest)::k',cU,.run,.normal,bg⟩ (cs'++rb) none W
     else .go (G (Frame.finish ⟨dC,dj,.inRegion ops (i::rest)::k',cU,.run,.normal,bg⟩ undef)<|cs'++rb) W)
    clear h;rw[yY hf.tmps];split at h'
    .rename_i qV;rw[if_pos qV];cases VP:ops[i]? with
     |none=>rw[VP]at qV;cases qV
     |some o=>
      have bp:lR P ok.fn o.op=true:=by
       rw[Array.all_eq_true]at ho;obtain⟨ay,rfl⟩:=ac5.1 VP;exact ho i ay
      have nd:∀c,o.op≠.defer c:=by
       intro c e;rw[e]at bp;cases bp
      have e1:∀(Q:Program) (t:Array Value) (kk:List Item) (d:List Deferred) (ro:Option Nat) (cc:List Frame) (w:World),stepG.oper Q true ⟨dC,t,.inRegion ops (i::rest)::kk,d,.run,.normal,ro⟩ cc none w=
        stepG.apply Q true ⟨dC,t,.inRegion ops (i::rest)::kk,d,.run,.normal,ro⟩ cc none (execOp (Frame.eval ⟨dC,t,.inRegion ops (i::rest)::kk,d,.run,.normal,ro⟩) o) w:=by
       intro Q t kk d ro cc w;simp only[stepG.oper,Frame.oper?,VP];split
       .rename_i e;exact absurd e<|nd _
       .rfl
      rw[e1]at h'⊢;exact tZ hP.toSame (T5 hP.tab hP.D8 hP.toCallable o bp mK (λ_=>⟨rfl,rfl⟩) λ_=>rfl) hf hc hb hw h'
    .rename_i qV;rw[if_neg qV];exact dV (hf.finish lL) hc hb (iK _ _) hw h' rfl rfl
  |@code c fy=>
   cases c with
   |skip=>exact dV (to_ od) hc hb rfl hw h rfl rfl
   |seq a b=>
    simp only[dg,Bool.and_eq_true]at fy;exact dV (to_<|.cons (.code fy.1)<|.cons (.code fy.2) od) hc hb rfl hw h rfl rfl
   |cond c a b=>
    simp only[dg,Bool.and_eq_true]at fy;have he:=mK c fy.1.1;have h':(match Frame.eval ⟨dC,tmps,.code (.cond c a b)::k,defers,.run,.normal,roundOf⟩ c with
     |.bool t=>GStep.go (G ⟨dC,tmps,.code (if t then a else b)::k,defers,.run,.normal,roundOf⟩<|cs++lb) V
     |_=>.ended (.stuck "cond: bool expected"<|Frame.pos P0 ⟨dC,tmps,.code (.cond c a b)::k,defers,.run,.normal,roundOf⟩) V)=.go g2 V2 es:=h
    show d9 P0 P ok str ρ lb rb V W g2 V2 (match Frame.eval ⟨dC,dj,.code (.cond c a b)::k',cU,.run,.normal,bg⟩ c with
     |.bool t=>GStep.go (G ⟨dC,dj,.code (if t then a else b)::k',cU,.run,.normal,bg⟩<|cs'++rb) W
     |_=>.ended (.stuck "cond: bool expected"<|Frame.pos P ⟨dC,dj,.code (.cond c a b)::k',cU,.run,.normal,bg⟩) W)
    clear h;generalize Frame.eval ⟨dC,tmps,.code (.cond c a b)::k,defers,.run,.normal,roundOf⟩ c=v at he h';generalize Frame.eval ⟨dC,dj,.code (.cond c a b)::k',cU,.run,.normal,bg⟩ c=v' at he;cases he with
    |bool t=>
     refine dV (to_<|.cons (.code (c:=if t then a else b) ?_) od) hc hb rfl hw h' rfl rfl;cases t
     .exact fy.2
     .exact fy.1.2
    |_=>cases h'
   |block id b=>exact dV (to_<|.cons (.code (c:=b) fy)<|.cons (.inBlock id) od) hc hb rfl hw h rfl rfl
   |loop b=>exact dV (to_<|.cons (.code (c:=b) fy)<|.cons (.inLoop (c:=b) fy) od) hc hb rfl hw h rfl rfl
   |exit id=>
    rcases od.exit (id:=id)with⟨n1,n2⟩|⟨q,q',s1,s2,hq⟩
    .simp only[stepG.exec,n1,Option.elim_none]at h;simp only[stepG.exec,n2,Option.elim_none];cases hro with
     |none=>simp at h
     |some hl=>exact ul hf hc hb hw (some<|.exit id) (by simp[hP.code,dg]) rfl hl h
    .simp only[stepG.exec,s1,Option.elim_some]at h;simp only[stepG.exec,s2,Option.elim_some];exact dV (to_ hq) hc hb rfl hw h rfl rfl
   |ret=>
    cases hro with
    |none=>exact dV T_ hc hb rfl hw h rfl rfl
    |some hl=>exact ul hf hc hb hw (some .ret) (by simp[hP.code,dg]) rfl hl h
   |region id ops draw=>
    cases draw with
    |false=>exact dV (to_<|.cons (.inRegion _ fy) od) hc hb rfl hw h rfl rfl
    |true=>
     have hq:(Question.order dC id).forced=false:=rfl;simp only[stepG.exec,choose,Sem.run,hq,Bool.not_true,Bool.false_eq_true,if_false]at h⊢;have e:W.tape W.drawn (.order dC id)=V.tape V.drawn (.order dC id):=by rw[hw.tape,hw.drawn]
     have hw':bN ok str ρ {V with drawn:=V.drawn+1} {W with drawn:=W.drawn+1}:=⟨hw.heap,hw.tape,by simp only[hw.drawn],hw.gV,hw.gW⟩;rw[e,show P.follows .mixedOrders=P0.follows .mixedOrders by rw[hP.tab]];have:=dV (P0:=P0) (rb:=rb) (to_<|.cons (.inRegion (Region.schedule (P0.follows .mixedOrders) ops<|(Question.order dC id).cut<|V.tape V.drawn<|.order dC id) fy) od) hc hb rfl hw' h rfl rfl;let⟨σ,h2,W2,zn,a1,a2,a3,a4,a5⟩:=this;exact⟨σ,h2,W2,zn,a1,a2,a3,⟨a4.le,a4.keep,a4.ro,a4.size,a4.A5,a4.new,a4.tape,a4.os,a4.out⟩,a5⟩
   |rangeFunc f params a b=>
    simp only[dg,Bool.and_eq_true]at fy;have h':(let(r,es):=(Instr.enterLoop dC tmps params a b roundOf).runT P0 V #[];GStep.after (seen P0 dC es)<|match r with
     |.ok (l,mark) w=>stepG.apply P0 true ⟨dC,tmps,.inRangeFunc l::k,mark++defers,.run,.normal,roundOf⟩ (cs++lb) none (do let d <-resolve (Frame.eval ⟨dC,tmps,.inRangeFunc l::k,mark++defers,.run,.normal,roundOf⟩) {callee:=.value f,args:=#[.const<|.func (.yield l) #[] #[]],argTypes:=#[]} 0;invoke d.target d.args) w
     |.halt _ w=>.ended (.stuck "range over a function: no such loop"<|Frame.pos P0 ⟨dC,tmps,.code (.rangeFunc f params a b)::k,defers,.run,.normal,roundOf⟩) w)=.go g2 V2 es:=h
    show d9 P0 P ok str ρ lb rb V W g2 V2 (let(r,es):=(Instr.enterLoop dC dj params a b bg).runT P W #[];GStep.after (seen P dC es)<|match r with
     |.ok (l,mark) w=>stepG.apply P true ⟨dC,dj,.inRangeFunc l::k',mark++cU,.run,.normal,bg⟩ (cs'++rb) none (do let d <-resolve (Frame.eval ⟨dC,dj,.inRangeFunc l::k',mark++cU,.run,.normal,bg⟩) {callee:=.value f,args:=#[.const<|.func (.yield l) #[] #[]],argTypes:=#[]} 0;invoke d.target d.args) w
     |.halt _ w=>.ended (.stuck "range over a function: no such loop"<|Frame.pos P ⟨dC,dj,.code (.rangeFunc f params a b)::k',cU,.run,.normal,bg⟩) w)
    clear h;generalize eb:(Instr.enterLoop dC tmps params a b roundOf).runT P0 V #[]=x at h';let⟨r,e1⟩:=x;rcases(tI (P0:=P0) (P:=P) (str:=str) dC hi hf.tmps params ((hP.code a).trans fy.1.2) ((hP.code b).trans fy.2) hro).sound #[] #[] hw eb with de|⟨σ,r',V',W',d',h1,h2,h4,h5⟩
    .exfalso;cases r with
     |ok a w=>cases de
     |halt hh w=>exact ff h'
    .have pn:(Instr.enterLoop dC dj params a b bg).runT P W #[]=(r',d'):=by rw[h1];simp
     rw[pn];let⟨QV,h3⟩:=kQ h';refine d9.wq h4 ?_ λe he=>h5 e<|jP _ _ _ e he;cases h2 with
     |panic _ _=>cases h3
     |@ok j j' V' W' hv hw'=>
      let⟨l,mark⟩:=j;let⟨l',tu⟩:=j';let⟨hl,P1⟩:=hv;have Tg:eK P ok σ ⟨dC,tmps,.inRangeFunc l::k,mark++defers,.run,.normal,roundOf⟩ ⟨dC,dj,.inRangeFunc l'::k',tu++cU,.run,.normal,bg⟩:=
       ⟨rfl,hi,hf.tmps.mono h4.le,.cons (.inRangeFunc hl)<|od.mono h4.le,P1.append<|hf.defers.mono h4.le,.run,rfl,rfl,hro.mono h4.le⟩
      refine tZ hP.toSame ?_ Tg (hc.mono h4.le) (hb.swap rfl) hw' h3;have Vz:=Tg.eval f fy.1.1;have hy:ax ok σ #[.func (.yield l) #[] #[]] #[.func (.yield l') #[] #[]]:=ax.nil.push<|.func (.yield hl) rfl ax.nil.at_ rfl ax.nil.at_;unfold resolve;dsimp only;generalize Frame.eval ⟨dC,tmps,.inRangeFunc l::k,mark++defers,.run,.normal,roundOf⟩ f=v at Vz;generalize Frame.eval ⟨dC,dj,.inRangeFunc l'::k',tu++cU,.run,.normal,bg⟩ f=v' at Vz;cases Vz with
      |func sJ e1 g1 e2 g2=>
       refine ba ?_;exact uz hP.tab hP.toCallable (.fn sJ ⟨e2,g2⟩) aG (ax.append ⟨e1,g1⟩<|by simpa[Frame.eval]using hy)
      |nilFunc=>exact eY hP.tab .nilDeref rfl
      |hole _=>exact .dead _ _ λV=>pO hP.hole _ V
      |_=>exact .halt _ _
   |_=>cases fy
def IA (hP:dL P0 P ok)(hf:eK P ok ρ fr eV)(hc:jb P ok ρ cs cs')(hb:tU fr cs)(hw:bN ok str ρ V W)(hm:fr.mode≠.run)(hl:cs=[]->fr.defers≠[])
  (h:unwind P0 Ht fr (cs++lb) none V=.go g2 V2 es):d9 P0 P ok str ρ lb rb V W g2 V2 (unwind P acP eV (cs'++rb) none W):=by
 let⟨fn,tmps,todo,defers,mode,kind,roundOf⟩:=fr;let⟨dC,dj,jY,cU,pU,fo,bg⟩:=eV;have sJ:=hf.fn;have hk:=hf.kind;have po:=hf.fo;have rJ:=hf.mode;have hi:=hf.aX;have hd:=hf.defers;simp only at sJ hk po hm rJ hi hd hl;subst hk po sJ;let⟨F,c,f1,f2,f3,f4⟩:=hP.same dC hi;cases hd with
 |@cons r0 Qa ds ds' hr Zg=>
  have h':(let(r,es):=(Instr.takeDeferred r0).runT P0 V #[];GStep.after (seen P0 dC es)<|match r with
   |.ok calls w=>.go (G ⟨dC,tmps,todo,calls++ds,mode,.normal,roundOf⟩<|cs++lb) w
   |.halt _ w=>.ended (.stuck "the deferred calls of a range-over-func loop have been taken"<|Frame.pos P0 ⟨dC,tmps,todo,{target:=.collected r0,args:=#[]}::ds,mode,.normal,roundOf⟩) w)=.go g2 V2 es:=h
  show d9 P0 P ok str ρ lb rb V W g2 V2 (let(r,es):=(Instr.takeDeferred Qa).runT P W #[];GStep.after (seen P dC es)<|match r with
   |.ok calls w=>.go (G ⟨dC,dj,jY,calls++ds',pU,.normal,bg⟩<|cs'++rb) w
   |.halt _ w=>.ended (.stuck "the deferred calls of a range-over-func loop have been taken"<|Frame.pos P ⟨dC,dj,jY,{target:=.collected Qa,args:=#[]}::ds',pU,.normal,bg⟩) w)
  clear h;generalize eb:(Instr.takeDeferred r0).runT P0 V #[]=x at h';let⟨r,e1⟩:=x;rcases(JT (P0:=P0) (P:=P) (ok:=ok) (str:=str) hr).sound #[] #[] hw eb with de|⟨σ,r',V',W',d',h1,h2,h4,h5⟩
  .exfalso;cases r with
   |ok a w=>cases de
   |halt hh w=>exact ff h'
  .have pn:(Instr.takeDeferred Qa).runT P W #[]=(r',d'):=by rw[h1];simp
   rw[pn];let⟨QV,h3⟩:=kQ h';refine d9.wq h4 ?_ λe he=>h5 e<|jP _ _ _ e he;cases h2 with
   |panic _ _=>cases h3
   |@ok j j' V' W' hv hw'=>
    obtain⟨rfl,rfl⟩:=hv;exact dV (fr2:=⟨dC,tmps,todo,ds,mode,.normal,roundOf⟩) (fr2':=⟨dC,dj,jY,ds',pU,.normal,bg⟩)
     ⟨rfl,hi,hf.tmps.mono h4.le,hf.todo.mono h4.le,Zg.mono h4.le,rJ,rfl,rfl,hf.round.mono h4.le⟩ (hc.mono h4.le) hb rfl hw' h3 rfl rfl
 |nil=>
  cases hc with
  |nil=>exact absurd rfl (hl rfl)
  |@cons a a' cs cs' ha hcs=>
   cases rJ with
   |run=>exact absurd rfl hm
   |@panicking ch ch'=>
    have c1:Frame.catches P0 ⟨dC,tmps,todo,[],.panicking ch,.normal,roundOf⟩=false:=by simp[Frame.catches,f1]
    have c2:Frame.catches P ⟨dC,dj,jY,[],.panicking ch',.normal,bg⟩=false:=by simp[Frame.catches,f2]
    simp only[unwind,c1,List.cons_append,Bool.false_eq_true,if_false,GStep.go.injEq]at h;obtain⟨rfl,rfl,_⟩:=h;refine⟨ρ,G (a'.raise ch')<|cs'++rb,W,#[],?_,.inside (ha.raise _ _) hcs<|hb.pop<|vp _ _,hw,iX.refl _ _ _,aG⟩;simp only[unwind,c2,List.cons_append,Bool.false_eq_true,if_false];rfl
   |returning=>
    have h':(let(r,es):=(results F tmps).runT P0 V #[];GStep.after (seen P0 dC es)<|match r with
     |.ok v w=>.go (G (a.finish v)<|cs++lb) w
     |.halt (.stuck s) w=>.ended (.stuck s<|Frame.pos P0 ⟨dC,tmps,todo,[],.returning,.normal,roundOf⟩) w
     |.halt _ w=>.ended (.stuck "return: the result variables cannot be read"<|Frame.pos P0 ⟨dC,tmps,todo,[],.returning,.normal,roundOf⟩) w)=.go g2 V2 es:=by
     rw[<-h];simp only[unwind,f1,List.cons_append,doReturn];rfl
    have e':unwind P acP ⟨dC,dj,jY,[],.returning,.normal,bg⟩ (a'::cs'++rb) none W=(let(r,es):=(results F dj).runT P W #[];GStep.after (seen P dC es)<|match r with
     |.ok v w=>.go (G (a'.finish v)<|cs'++rb) w
     |.halt (.stuck s) w=>.ended (.stuck s<|Frame.pos P ⟨dC,dj,jY,[],.returning,.normal,bg⟩) w
     |.halt _ w=>.ended (.stuck "return: the result variables cannot be read"<|Frame.pos P ⟨dC,dj,jY,[],.returning,.normal,bg⟩) w):=by
     simp only[unwind,f2,List.cons_append,doReturn];rfl
    rw[e'];clear h e';generalize eb:(results F tmps).runT P0 V #[]=x at h';let⟨r,e1⟩:=x;rcases(oO (P0:=P0) (P:=P) (str:=str) hP.tab F hf.tmps).sound #[] #[] hw eb with de|⟨σ,r',V',W',d',h1,h2,h4,h5⟩
    .exfalso;cases r with
     |ok a w=>cases de
     |halt hh w=>cases hh<;>exact ff h'
    .have pn:(results F dj).runT P W #[]=(r',d'):=by rw[h1];simp
     rw[pn];let⟨QV,h3⟩:=kQ h';refine d9.wq h4 ?_ λe he=>h5 e<|jP _ _ _ e he;cases h2 with
     |panic _ _=>cases h3
     |@ok j j' V' W' hv hw'=>
      have cj:tU a cs:=hb.pop rfl;exact dV ((ha.mono h4.le).finish hv) (hcs.mono h4.le) cj (iK _ _) hw' h3 rfl rfl
def tN (hP:dL P0 P ok)(hf:eK P ok ρ fr eV)(hc:jb P ok ρ cs cs')(hb:tU fr cs)(hw:bN ok str ρ V W)(hl:cs=[]->fr.mode≠.run->fr.defers≠[])
  (h:stepG P0 Ht (G fr<|cs++lb) V=.go g2 V2 es):d9 P0 P ok str ρ lb rb V W g2 V2 (stepG P acP (G eV<|cs'++rb) W):=by
 by_cases hm:fr.mode=.run
 .rw[uB hm]at h;rw[uB (hf.mode.WM hm)];exact Ng hP hf hc hb hw hm h
 .have rJ:eV.mode≠.run:=by
   intro e;have:=hf.mode;rw[e]at this;generalize fr.mode=m at this hm;cases this;exact hm rfl
  rw[ju hm]at h;rw[ju rJ];exact IA hP hf hc hb hw hm (λe=>hl e hm) h
end
def re (w:World)(τ:Nat->Question->Nat)(d:Nat):World:={w with tape:=τ,drawn:=d}
def kM (t:Nat->Question->Nat)(a:Nat)(t':Nat->Question->Nat)(b n:Nat):Prop:=∀i,i<n->∀q,t (a+i) q=t' (b+i) q
omit [Gl] in
def kM.less {m:Nat}(h:kM t a t' b n)(l:m<=n):kM t a t' b m:=λi hi q=>h i ab q
omit [Gl] in
def kM.tail {k:Nat}(h:kM t a t' b (k+n)):kM t (a+k) t' (b+k) n:=λi hi q=>by
 have:=h (k+i) (by omega) q;rw[show a+k+i=a+(k+i) by omega,show b+k+i=b+(k+i) by omega];exact this
def hZ:Result α->World
 |.ok _ w=>w
 |.halt _ w=>w
def Q_ (τ:Nat->Question->Nat)(d:Nat):Result α->Result α
 |.ok a w=>.ok a (re w τ d)
 |.halt h w=>.halt h<|re w τ d
section
variable {ρ:Ren}
def af.shift {A:Ren->α->β->Prop}{s:Sem α}{s':Sem β}(h:af P0 P ok str A ρ s s'):
  ∀{V W:World} (es:Array Event) {r:Result α} {e1:Array Event},bN ok str ρ V W->s.runT P0 V es=(r,e1)->Result.stops r=true\/
   (V.drawn<=(hZ r).drawn/\(hZ r).tape=V.tape/\∀τ d,kM V.tape V.drawn τ d ((hZ r).drawn-V.drawn)->s.runT P0 (re V τ d) es=(Q_ τ (d+((hZ r).drawn-V.drawn)) r,e1)):=by
 induction h with
 |@pure ρ a b hA=>
  intro V W es x e1 hw hr;simp only[Sem.runT,Prod.mk.injEq]at hr;obtain⟨rfl,rfl⟩:=hr;exact .inr ⟨ac3 _,rfl,λτ d _=>by simp[Sem.runT,Q_,hZ,re]⟩
 |@load ρ a a' k k' ra _ ih=>
  intro V W es x e1 hw hr;simp only[Sem.runT]at hr;cases hc:V.cell? a with
  |none=>
   rw[hc]at hr;let⟨y,hy⟩:=hw.far ra.blk (Mode.plain==Mode.atomic) P0;simp only[hy,Prod.mk.injEq]at hr;obtain⟨rfl,_⟩:=hr;exact .inl rfl
  |some v=>
   rw[hc]at hr;let⟨v',AE,rv⟩:=hw.load ra hc;rcases ih v v' rv _ hw hr with h|⟨h1,h2,h3⟩
   .exact .inl h
   .refine .inr ⟨h1,h2,λτ d hA=>?_⟩;have:(re V τ d).cell? a=some v:=hc;simp only[Sem.runT,this];exact h3 τ d hA
 |@store ρ a a' v v' k k' ra rv _ ih=>
  intro V W es x e1 hw hr;by_cases hn:(∃cs,v=.agg cs)\/(∃cs,v=.tuple cs)
  .rcases hn with⟨cs,rfl⟩|⟨cs,rfl⟩
   .simp only[Sem.runT,Prod.mk.injEq]at hr;obtain⟨rfl,_⟩:=hr;exact .inl rfl
   .simp only[Sem.runT,Prod.mk.injEq]at hr;obtain⟨rfl,_⟩:=hr;exact .inl rfl
  have n1:∀cs,v≠.agg cs:=λcs e=>hn<|.inl ⟨cs,e⟩
  have n2:∀cs,v≠.tuple cs:=λcs e=>hn<|.inr ⟨cs,e⟩
  have Qk:∀(U:World),(Sem.store .plain a v k).runT P0 U es=(match U.cell? a with
   |some _=>if U.frozen? a then(Result.halt (.unsupported<|.unsafePointer "a write to bytes that a string shares") U,es)else k.runT P0 (U.setCell a v) (es.push ⟨.cell a,true,false⟩)
   |none=>match U.farStore P0 a v (Mode.plain==Mode.atomic)with
    |.ok (w,Dh)=>k.runT P0 w (es++Dh.toArray.map (⟨.cell ·,true,Mode.plain==Mode.atomic⟩))
    |.error h=>(.halt h U,es)):=by
   intro U;cases v<;>first|exact absurd rfl (n1 _)|exact absurd rfl (n2 _)|(simp only[Sem.runT];rfl)
  rw[Qk]at hr;cases hc:V.cell? a with
  |none=>
   rw[hc]at hr;let⟨y,hy⟩:=hw.YD ra.blk v (Mode.plain==Mode.atomic) P0;simp only[hy,Prod.mk.injEq]at hr;obtain⟨rfl,_⟩:=hr;exact .inl rfl
  |some y=>
   rw[hc]at hr;simp only at hr;cases hf:V.frozen? a with
   |true=>
    rw[hf]at hr;simp only[if_true,Prod.mk.injEq]at hr;obtain⟨rfl,_⟩:=hr;exact .inl rfl
   |false=>
    rw[hf]at hr;rcases ih _ (hw.store ra rv) hr with h|⟨h1,h2,h3⟩
    .exact .inl h
    .refine .inr ⟨h1,h2,λτ d hA=>?_⟩;have e1:(re V τ d).cell? a=some y:=hc;have e2:(re V τ d).frozen? a=false:=hf;rw[Qk,e1];simp only[e2,Bool.false_eq_true,if_false];exact h3 τ d hA
 |@new ρ o o' k k' ro _ ih=>
  intro V W es x e1 hw hr;simp only[Sem.runT]at hr;let⟨N6,PX⟩:=hw.new ro;rcases ih _ V.heap.size W.heap.size hw.GI hw.Nh _ N6 hr with h|⟨h1,h2,h3⟩
  .exact .inl h
  .exact .inr ⟨h1,h2,λτ d hA=>by simp only[Sem.runT];exact h3 τ d hA⟩
 |@shape ρ r r' k k' fH _ ih=>
  intro V W es x e1 hw hr;simp only[Sem.runT]at hr⊢;exact ih _ _ hw hr
 |dead s s' h=>
  intro V W es x e1 hw hr;have h1:=Sem.runT_fst P0 s V es;rw[hr]at h1;exact .inl (by have:=h V;rw[<-h1]at this;exact this)
 |@getObj ρ r r' k k' fH _ ih=>
  intro V W es x e1 hw hr;cases ho:V.heap[r]? with
  |none=>simp only[Sem.runT,ho,Prod.mk.injEq]at hr;obtain⟨rfl,_⟩:=hr;exact .inl rfl
  |some o=>
   let⟨o',NN,ro⟩:=hw.getObj fH ho;rcases ro.kinds with⟨⟨c,e,z,rfl⟩,_⟩|⟨n1,n2⟩
   .simp only[Sem.runT,ho,Prod.mk.injEq]at hr;obtain⟨rfl,_⟩:=hr;exact .inl rfl
   .have Qk:∀U:World,U.heap[r]?=some o->(Sem.getObj r k).runT P0 U es=(k o).runT P0 U (es.push ⟨.obj r,false,o.isChan⟩):=by
     intro U hU;cases o<;>first|exact absurd rfl (n1 _ _ _)|simp only[Sem.runT,hU]
    rw[Qk V ho]at hr;rcases ih _ _ ro _ hw hr with h|⟨h1,h2,h3⟩
    .exact .inl h
    .exact .inr ⟨h1,h2,λτ d hA=>by rw[Qk (re V τ d) ho];exact h3 τ d hA⟩
 |@setObj ρ r r' o o' k k' fH ro _ ih=>
  intro V W es x e1 hw hr;cases hx:V.heap[r]? with
  |none=>simp only[Sem.runT,hx,Prod.mk.injEq]at hr;obtain⟨rfl,_⟩:=hr;exact .inl rfl
  |some y=>
   let⟨y',G7,ry⟩:=hw.getObj fH hx;rcases ry.kinds with⟨⟨c,e,z,rfl⟩,_⟩|⟨n1,n2⟩
   .simp only[Sem.runT,hx,Prod.mk.injEq]at hr;obtain⟨rfl,_⟩:=hr;exact .inl rfl
   .have Qk:∀U:World,U.heap[r]?=some y->(Sem.setObj r o k).runT P0 U es=k.runT P0 {U with heap:=U.heap.setIfInBounds r o} (es.push ⟨.obj r,true,o.isChan⟩):=by
     intro U hU;cases y<;>first|exact absurd rfl (n1 _ _ _)|simp only[Sem.runT,hU]
    rw[Qk V hx]at hr;rcases ih _ (hw.setObj fH ro) hr with h|⟨h1,h2,h3⟩
    .exact .inl h
    .exact .inr ⟨h1,h2,λτ d hA=>by rw[Qk (re V τ d) hx];exact h3 τ d hA⟩
 |@choose ρ q k k' _ ih=>
  intro V W es x e1 hw hr;simp only[Sem.runT]at hr⊢;split at hr
  .rename_i hq;simp only[if_pos hq];exact ih _ _ hw hr
  .rename_i hq;have hw':bN ok str ρ {V with drawn:=V.drawn+1} {W with drawn:=W.drawn+1}:=⟨hw.heap,hw.tape,by simp only[hw.drawn],hw.gV,hw.gW⟩;rcases ih _ _ hw' hr with h|⟨h1,h2,h3⟩
   .exact .inl h
   .simp only at h1 h2 h3;refine .inr ⟨by omega,h2,λτ d hA=>?_⟩;rw[if_neg hq];have e0:τ d q=V.tape V.drawn q:=(hA 0 (by omega) q).symm;have:=h3 τ (d+1) (by
     have:kM V.tape V.drawn τ d (1+((hZ x).drawn-(V.drawn+1))):=hA.less (by omega);exact this.tail)
    rw[show d+1+((hZ x).drawn-(V.drawn+1))=d+((hZ x).drawn-V.drawn) by omega]at this;rw[<-this];simp only[re,e0]
 |@program ρ k k' _ ih=>
  intro V W es x e1 hw hr;simp only[Sem.runT]at hr⊢;exact ih _ hw hr
 |@mark ρ m k k' hm _ ih=>
  intro V W es x e1 hw hr;simp only[Sem.runT]at hr⊢;exact ih _ hw hr
 |@panic ρ v v' hv=>
  intro V W es x e1 hw hr;simp only[Sem.runT,Prod.mk.injEq]at hr;obtain⟨rfl,rfl⟩:=hr;exact .inr ⟨ac3 _,rfl,λτ d _=>by simp[Sem.runT,Q_,hZ,re]⟩
 |halt h s he=>
  intro V W es x e1 hw hr;simp only[Sem.runT,Prod.mk.injEq]at hr;obtain⟨rfl,_⟩:=hr;exact .inl he
end
def Sh (F:World->GStep)(V:World):Prop:=((∃g2 V2 es,F V=.go g2 V2 es)\/∃o w es,F V=.ended o w es)/\∀g2 V2 es,F V=.go g2 V2 es->V.drawn<=V2.drawn/\V2.tape=V.tape/\
 ∀τ d,kM V.tape V.drawn τ d (V2.drawn-V.drawn)->F (re V τ d)=.go g2 (re V2 τ<|d+(V2.drawn-V.drawn)) es
omit [Gl] in
def gd (g:Goroutine)(es:Array Event)(h:∀w,F w=.go g w es):Sh F V:=by
 refine⟨.inl ⟨_,_,_,h V⟩,?_⟩;intro g2 V2 zn e;rw[h]at e;simp only[GStep.go.injEq]at e;obtain⟨rfl,rfl,rfl⟩:=e;refine⟨ac3 _,rfl,λτ d _=>?_⟩;rw[h];simp[re]
omit [Gl] in
def yL (h:∃o w es,F V=.ended o w es):Sh F V:=by
 refine⟨.inr h,?_⟩;intro g2 V2 zn e;let⟨o,w,es,h⟩:=h;rw[h]at e;cases e
omit [Gl] in
def Gn (h:(∃g2 V2 jI,s=.go g2 V2 jI)\/∃o w jI,s=.ended o w jI):(∃g2 V2 jI,GStep.after es s=.go g2 V2 jI)\/∃o w jI,GStep.after es s=.ended o w jI:=by
 rcases h with⟨_,_,_,rfl⟩|⟨_,_,_,rfl⟩
 .exact .inl ⟨_,_,_,rfl⟩
 .exact .inr ⟨_,_,_,rfl⟩
def wC {ρ:Ren}{A:Ren->α->β->Prop}{s:Sem α}{s':Sem β}(hR:af P0 P ok str A ρ s s')(hw:bN ok str ρ V W)
  {E:Array Event->Array Event}{k:α->Goroutine}{kp:Value->Option Goroutine}(eO:∀w a w' es,s.runT P0 w #[]=(.ok a w',es)->F w=.go (k a) w' (E es))
  (hp:∀w v w' es,s.runT P0 w #[]=(.halt (.panic v) w',es)->match kp v with|some g=>F w=.go g w' (E es)|none=>∃o u jI,F w=.ended o u jI)(hs:∀w r es,s.runT P0 w #[]=(r,es)->Result.stops r=true->∃o u jI,F w=.ended o u jI):Sh F V:=by
 generalize hr:s.runT P0 V #[]=x;let⟨r,e1⟩:=x;refine⟨?_,?_⟩
 .rcases hR.sound #[] #[] hw hr with de|⟨σ,r',V',W',d',_,h5,_,_⟩
  .exact .inr (hs _ _ _ hr de)
  .cases h5 with
   |ok _ _=>exact .inl ⟨_,_,_,eO _ _ _ _ hr⟩
   |@panic v v' V' W' _ _=>
    have h6:=hp _ _ _ _ hr;cases hk:kp v with
    |none=>rw[hk]at h6;exact .inr h6
    |some g=>rw[hk]at h6;exact .inl ⟨_,_,_,h6⟩
 intro g2 V2 zn e;have key:Result.stops r=true->False:=by
  intro de;let⟨o,u,jI,h⟩:=hs _ _ _ hr de;rw[h]at e;cases e
 rcases hR.shift #[] hw hr with de|⟨h1,h2,h3⟩
 .exact(key de).elim
 .rcases hR.sound #[] #[] hw hr with de|⟨σ,r',V',W',d',_,h5,_,_⟩
  .exact(key de).elim
  .cases h5 with
   |@ok a b V' W' _ _=>
    rw[eO _ _ _ _ hr]at e;simp only[GStep.go.injEq]at e;obtain⟨rfl,rfl,rfl⟩:=e;refine⟨h1,h2,λτ d hA=>?_⟩;exact eO _ _ _ _ (h3 τ d hA)
   |@panic v v' V' W' _ _=>
    have h6:=hp _ _ _ _ hr;cases hk:kp v with
    |none=>
     rw[hk]at h6;let⟨o,u,jI,h⟩:=h6;rw[h]at e;cases e
    |some g=>
     rw[hk]at h6;rw[h6]at e;simp only[GStep.go.injEq]at e;obtain⟨rfl,rfl,rfl⟩:=e;refine⟨h1,h2,λτ d hA=>?_⟩;have:=hp _ _ _ _<|h3 τ d hA;rw[hk]at this;exact this
section
variable {ρ:Ren}
def Jy (p:Program)(fr:Frame)(cs:List Frame):Next->Goroutine
 |.value v=>G (fr.finish v) cs
 |.skip=>G (fr.finish undef) cs
 |.enter f xs=>G (Frame.enter p f xs .normal) (fr::cs)
 |.round l f xs a b=>G (Frame.round l f xs a b .normal) (fr::cs)
 |_=>G fr cs
def wQ {s:Sem Next}(hR:af P0 P ok str (λσ x y=>py ok σ x y) ρ s s')(hf:eK P ok ρ fr eV)(hw:bN ok str ρ V W):Sh (λw=>stepG.apply P0 true fr cs none s w) V:=by
 have F3:(CallKind.normal==CallKind.early)=false:=rfl;have lQ:=hf.todo.Oz;have hR':af P0 P ok str (λσ x y=>py ok σ x y) ρ s s':=hR;generalize hr:s.runT P0 V #[]=x;let⟨r,e1⟩:=x;refine⟨?_,?_⟩
 .rcases hR.sound #[] #[] hw hr with de|⟨σ,r',V',W',d',_,h5,_,_⟩
  .cases r with
   |ok a w=>cases de
   |halt hh w=>
    cases hh with
    |stuck y=>simp only[stepG.apply,if_true,hr,GStep.after];exact .inr ⟨_,_,_,rfl⟩
    |unsupported u=>
     cases u with
     |initOrder g=>cases de
     |_=>simp only[stepG.apply,if_true,hr,GStep.after];exact .inr ⟨_,_,_,rfl⟩
    |_=>cases de
  .cases h5 with
   |@ok a b V' W' hN _=>
    cases hN with
    |value hv=>simp only[stepG.apply,if_true,hr,GStep.after];exact .inl ⟨_,_,_,rfl⟩
    |skip=>simp only[stepG.apply,if_true,hr,GStep.after];exact .inl ⟨_,_,_,rfl⟩
    |enter f eO hx=>exact .inl ⟨_,_,_,lW hr lQ.1 hf.kind⟩
    |round f hl hi hx ha hb=>simp only[stepG.apply,if_true,hr,GStep.after];exact .inl ⟨_,_,_,rfl⟩
   |panic _ _=>simp only[stepG.apply,if_true,hr,GStep.after];exact .inl ⟨_,_,_,rfl⟩
 intro g2 V2 zn e;have stop:Result.stops r=true->False:=by
  intro de;simp only at e;cases r with
  |ok a w=>cases de
  |halt hh w=>
   cases hh with
   |stuck y=>simp only[stepG.apply,if_true,hr,GStep.after]at e;cases e
   |unsupported u=>
    cases u with
    |initOrder g=>cases de
    |_=>simp only[stepG.apply,if_true,hr,GStep.after]at e;cases e
   |_=>cases de
 rcases hR.shift #[] hw hr with de|⟨h1,h2,h3⟩
 .exact(stop de).elim
 .rcases hR'.sound #[] #[] hw hr with de|⟨σ,r',V',W',d',_,h5,_,_⟩
  .exact(stop de).elim
  .simp only at e⊢;cases h5 with
   |@ok a b V' W' hN _=>
    have go:∀{w w':World} {es:Array Event},s.runT P0 w #[]=(.ok a w',es)->stepG.apply P0 true fr cs none s w=.go (Jy P0 fr cs a) w' (seen P0 fr.fn es):=by
     intro w w' es hh;cases hN with
     |value hv=>simp only[stepG.apply,if_true,hh,GStep.after,hf.kind,F3];simp[G,Jy]
     |skip=>simp only[stepG.apply,if_true,hh,GStep.after,hf.kind,F3];simp[G,Jy]
     |enter f eO hx=>exact lW hh lQ.1 hf.kind
     |round f hl hi hx ha hb=>simp only[stepG.apply,if_true,hh,GStep.after,hf.kind,F3];simp[G,Jy]
    rw[go hr]at e;simp only[GStep.go.injEq]at e;obtain⟨rfl,rfl,rfl⟩:=e;exact⟨h1,h2,λτ d hA=>go<|h3 τ d hA⟩
   |@panic v v' V' W' _ _=>
    have go:∀{w w':World} {es:Array Event},s.runT P0 w #[]=(.halt (.panic v) w',es)->stepG.apply P0 true fr cs none s w=.go (G (fr.raise [{v,recovered:=false}]) cs) w' (seen P0 fr.fn es):=by
     intro w w' es hh;simp only[stepG.apply,if_true,hh,GStep.after,hf.kind,F3];simp[G]
    rw[go hr]at e;simp only[GStep.go.injEq]at e;obtain⟨rfl,rfl,rfl⟩:=e;exact⟨h1,h2,λτ d hA=>go<|h3 τ d hA⟩
omit [Gl] in
def Sh.congr {F':World->GStep}(h:Sh F V)(e:∀w,F' w=F w):Sh F' V:=by
 refine⟨by rw[e];exact h.1,?_⟩;intro g2 V2 es hh;rw[e]at hh;let⟨h1,h2,h3⟩:=h.2 g2 V2 es hh;exact⟨h1,h2,λτ d hA=>by rw[e];exact h3 τ d hA⟩
omit [Gl] in
def vN (h:fr.kind=.normal):doReturn p m fr (c::cs) none v w=.go (G (c.finish v) cs) w:=by
 simp only[doReturn,h];rfl
def xY (hk:fr.kind=.normal)(hw:bN ok str ρ V W)(jump:Option Code)(hj:∀c,jump=some c->ok.code c=true)(hl:ρ l=some l'):
  Sh (λw=>let(r,es):=(Instr.endRound l jump).runT P0 w #[];GStep.after (seen P0 fr.fn es)<|match r with|.ok v w=>doReturn P0 m fr (c::cs) none v w|.halt _ w=>.ended (.stuck "range over a function: no such loop"<|fr.pos P0) w) V:=by
 refine wC (P0:=P0) (P:=P0) (E:=λes=>seen P0 fr.fn es) (k:=λv=>G (c.finish v) cs) (kp:=λ_=>none) (vu hl jump hj) hw ?_ ?_ ?_
 .intro w a w' es h;simp only[h,vN hk,GStep.after];simp
 .intro w v w' es h;simp only[h,GStep.after];exact⟨_,_,_,rfl⟩
 .intro w r es h de;cases r with
  |ok a w=>cases de
  |halt hh w=>simp only[h,GStep.after];exact⟨_,_,_,rfl⟩
def QX (hP:dL P0 P ok)(hf:eK P ok ρ fr eV)(hw:bN ok str ρ V W)(hm:fr.mode=.run):Sh (λw=>stepG.exec P0 m true fr (c::cs) none w) V:=by
 have mK:=hf.eval;let⟨fn,tmps,todo,defers,mode,kind,roundOf⟩:=fr;let⟨dC,dj,jY,cU,pU,fo,bg⟩:=eV;have ht:=hf.todo;have hro:=hf.round;have sJ:=hf.fn;have hk:=hf.kind;have po:=hf.fo;have rJ:=hf.mode;have hi:=hf.aX;simp only at ht hro sJ hk po hm rJ hi;subst hm hk po sJ;cases rJ;cases ht with
 |nil=>
  cases hro with
  |none=>exact gd _ _ λw=>rfl
  |some hl=>exact xY (fr:=⟨dC,tmps,[],defers,.run,.normal,some _⟩) rfl hw none aG hl
 |@cons x x' k k' hx od=>
  cases hx with
  |inBlock id=>exact gd _ _ λw=>rfl
  |@inLoop body fy=>exact gd _ _ λw=>rfl
  |inRangeFunc hl=>exact yL ⟨_,_,_,rfl⟩
  |@endRangeFunc l l' hl=>
   refine wC (P0:=P0) (P:=P) (E:=λes=>seen P0 dC es) (k:=λj=>G ⟨dC,tmps,(j.map Item.code).toList++k,defers,.run,.normal,roundOf⟩<|c::cs)
    (kp:=λv=>some<|G (Frame.raise ⟨dC,tmps,.endRangeFunc l::k,defers,.run,.normal,roundOf⟩ [{v,recovered:=false}])<|c::cs) (yP hP.tab hl) hw ?_ ?_ ?_
   .intro w a w' es h;simp only[stepG.exec,h,GStep.after];simp[G]
   .intro w v w' es h;simp only[stepG.exec,h,GStep.after];simp[G]
   .intro w r es h de;cases r with
    |ok a w=>cases de
    |halt hh w=>cases hh<;>first|cases de;done|(simp only[stepG.exec,h,GStep.after];exact⟨_,_,_,rfl⟩)
  |beginRound=>
   refine(wQ (P:=P) (s:=do roundOf.elim (stuck "beginRound: no round") Instr.beginRound;pure .skip) (s':=do bg.elim (stuck "beginRound: no round") Instr.beginRound;pure .skip) ?_ hf hw (cs:=c::cs)).congr λw=>rfl
   refine C9 (A:=λ_ _ _=>True) ?_;cases hro with
   |none=>exact .halt _ _
   |some hl=>exact rh hP.tab hl
  |@inRegion ops todo ho=>
   cases todo with
   |nil=>exact gd _ _ λw=>rfl
   |cons i rest=>
    by_cases qV:((ops[i]?).map (Region.wanted ·<|yielded ops tmps)).getD false=true
    .cases VP:ops[i]? with
     |none=>rw[VP]at qV;cases qV
     |some o=>
      have bp:lR P ok.fn o.op=true:=by
       rw[Array.all_eq_true]at ho;obtain⟨ay,rfl⟩:=ac5.1 VP;exact ho i ay
      have nd:∀c,o.op≠.defer c:=by
       intro c e;rw[e]at bp;cases bp
      have e1:∀w:World,stepG.exec P0 m true ⟨dC,tmps,.inRegion ops (i::rest)::k,defers,.run,.normal,roundOf⟩ (c::cs) none w=
        stepG.apply P0 true ⟨dC,tmps,.inRegion ops (i::rest)::k,defers,.run,.normal,roundOf⟩ (c::cs) none (execOp (Frame.eval ⟨dC,tmps,.inRegion ops (i::rest)::k,defers,.run,.normal,roundOf⟩) o) w:=by
       intro w;show(if((ops[i]?).map (Region.wanted ·<|yielded ops tmps)).getD false then stepG.oper P0 true ⟨dC,tmps,.inRegion ops (i::rest)::k,defers,.run,.normal,roundOf⟩ (c::cs) none w
        else .go (G (Frame.finish ⟨dC,tmps,.inRegion ops (i::rest)::k,defers,.run,.normal,roundOf⟩ undef)<|c::cs) w)=_
       rw[if_pos qV];simp only[stepG.oper,Frame.oper?,VP];split
       .rename_i e;exact absurd e<|nd _
       .rfl
      exact(wQ (P:=P) (T5 hP.tab hP.D8 hP.toCallable o bp mK (λ_=>⟨rfl,rfl⟩) λ_=>rfl) hf hw).congr e1
    .refine gd (G (Frame.finish ⟨dC,tmps,.inRegion ops (i::rest)::k,defers,.run,.normal,roundOf⟩ undef)<|c::cs) #[] λw=>?_
     show(if((ops[i]?).map (Region.wanted ·<|yielded ops tmps)).getD false then stepG.oper P0 true ⟨dC,tmps,.inRegion ops (i::rest)::k,defers,.run,.normal,roundOf⟩ (c::cs) none w
      else .go (G (Frame.finish ⟨dC,tmps,.inRegion ops (i::rest)::k,defers,.run,.normal,roundOf⟩ undef)<|c::cs) w)=_
     rw[if_neg qV]
  |@code cd fy=>
   cases cd with
   |skip=>exact gd _ _ λw=>rfl
   |seq a b=>exact gd _ _ λw=>rfl
   |cond o a b=>
    cases he:Frame.eval ⟨dC,tmps,.code (.cond o a b)::k,defers,.run,.normal,roundOf⟩ o with
    |bool t=>exact gd (G ⟨dC,tmps,.code (if t then a else b)::k,defers,.run,.normal,roundOf⟩<|c::cs) #[] λw=>by simp only[stepG.exec,he];rfl
    |_=>exact yL (by simp only[stepG.exec,he];exact⟨_,_,_,rfl⟩)
   |block id b=>exact gd _ _ λw=>rfl
   |loop b=>exact gd _ _ λw=>rfl
   |exit id=>
    rcases od.exit (id:=id)with⟨n1,n2⟩|⟨q,q',s1,s2,hq⟩
    .cases hro with
     |none=>exact yL (by simp only[stepG.exec,n1,Option.elim_none];exact⟨_,_,_,rfl⟩)
     |@some l l' hl=>
      refine(xY (P0:=P0) (m:=m) (c:=c) (cs:=cs) (fr:=⟨dC,tmps,.code (.exit id)::k,defers,.run,.normal,some l⟩) rfl hw (some<|.exit id) (by simp[hP.code,dg]) hl).congr λw=>?_
      simp only[stepG.exec,n1,Option.elim_none];rfl
    .exact gd (G ⟨dC,tmps,q,defers,.run,.normal,roundOf⟩<|c::cs) #[] λw=>by simp only[stepG.exec,s1,Option.elim_some];rfl
   |ret=>
    cases hro with
    |none=>exact gd _ _ λw=>rfl
    |some hl=>exact xY (fr:=⟨dC,tmps,.code .ret::k,defers,.run,.normal,some _⟩) rfl hw (some .ret) (by simp[hP.code,dg]) hl
   |region id ops draw=>
    cases draw with
    |false=>exact gd _ _ λw=>rfl
    |true=>
     have hq:(Question.order dC id).forced=false:=rfl;refine⟨?_,?_⟩
     .simp only[stepG.exec,choose,Sem.run,hq,Bool.not_true,Bool.false_eq_true,if_false];exact .inl ⟨_,_,_,rfl⟩
     intro g2 V2 es h;simp only[stepG.exec,choose,Sem.run,hq,Bool.not_true,Bool.false_eq_true,if_false,GStep.go.injEq]at h⊢;obtain⟨rfl,rfl,rfl⟩:=h;refine⟨Nat.le_succ _,rfl,λτ d hA=>?_⟩;have:τ d (.order dC id)=V.tape V.drawn (.order dC id):=(hA 0 aG _).symm;simp only[re,this,true_and,and_true];simp
   |rangeFunc f params a b=>
    simp only[dg,Bool.and_eq_true]at fy;let FA:Nat->List Deferred->World->GStep:=λl mark w=>stepG.apply P0 true ⟨dC,tmps,.inRangeFunc l::k,mark++defers,.run,.normal,roundOf⟩ (c::cs) none (do let d <-resolve (Frame.eval ⟨dC,tmps,.inRangeFunc l::k,mark++defers,.run,.normal,roundOf⟩) {callee:=.value f,args:=#[.const<|.func (.yield l) #[] #[]],argTypes:=#[]} 0;invoke d.target d.args) w
    have Qk:∀w,stepG.exec P0 m true ⟨dC,tmps,.code (.rangeFunc f params a b)::k,defers,.run,.normal,roundOf⟩ (c::cs) none w=
      (let(r,es):=(Instr.enterLoop dC tmps params a b roundOf).runT P0 w #[];GStep.after (seen P0 dC es)<|match r with
       |.ok (l,mark) w=>FA l mark w
       |.halt _ w=>.ended (.stuck "range over a function: no such loop"<|Frame.pos P0 ⟨dC,tmps,.code (.rangeFunc f params a b)::k,defers,.run,.normal,roundOf⟩) w):=λw=>rfl
    refine Sh.congr ?_ Qk;generalize eb:(Instr.enterLoop dC tmps params a b roundOf).runT P0 V #[]=x;let⟨r,e1⟩:=x;have hR:=tI (P0:=P0) (P:=P) (str:=str) dC hi hf.tmps params ((hP.code a).trans fy.1.2) ((hP.code b).trans fy.2) hro;have S7:∀{σ:Ren} {l l':Nat} {mark tu:List Deferred} {V' W':World},ρ.le σ->σ l=some l'->kN σ mark tu->bN ok str σ V' W'->Sh (FA l mark) V':=by
     intro σ l l' mark tu V' W' h4 hl P1 hw';have Tg:eK P ok σ ⟨dC,tmps,.inRangeFunc l::k,mark++defers,.run,.normal,roundOf⟩ ⟨dC,dj,.inRangeFunc l'::k',tu++cU,.run,.normal,bg⟩:=
      ⟨rfl,hi,hf.tmps.mono h4,.cons (.inRangeFunc hl)<|od.mono h4,P1.append<|hf.defers.mono h4,.run,rfl,rfl,hro.mono h4⟩
     refine wQ (P:=P) (s':=do let d <-resolve (Frame.eval ⟨dC,dj,.inRangeFunc l'::k',tu++cU,.run,.normal,bg⟩) {callee:=.value f,args:=#[.const<|.func (.yield l') #[] #[]],argTypes:=#[]} 0;invoke d.target d.args) ?_ Tg hw';have Vz:=Tg.eval f fy.1.1;have hy:ax ok σ #[.func (.yield l) #[] #[]] #[.func (.yield l') #[] #[]]:=ax.nil.push<|.func (.yield hl) rfl ax.nil.at_ rfl ax.nil.at_;unfold resolve;dsimp only;generalize Frame.eval ⟨dC,tmps,.inRangeFunc l::k,mark++defers,.run,.normal,roundOf⟩ f=v at Vz;generalize Frame.eval ⟨dC,dj,.inRangeFunc l'::k',tu++cU,.run,.normal,bg⟩ f=v' at Vz;cases Vz with
     |func sJ e1 g1 e2 g2=>
      refine ba ?_;exact uz hP.tab hP.toCallable (.fn sJ ⟨e2,g2⟩) aG (ax.append ⟨e1,g1⟩<|by simpa[Frame.eval]using hy)
     |nilFunc=>exact eY hP.tab .nilDeref rfl
     |hole _=>exact .dead _ _ λV=>pO hP.hole _ V
     |_=>exact .halt _ _
    refine⟨?_,?_⟩
    .simp only[eb];rcases hR.sound #[] #[] hw eb with de|⟨σ,r',V',W',d',h1,h2,h4,h5⟩
     .cases r with
      |ok a w=>cases de
      |halt hh w=>exact .inr ⟨_,_,_,rfl⟩
     .cases h2 with
      |panic _ _=>exact .inr ⟨_,_,_,rfl⟩
      |@ok j j' V' W' hv hw'=>
       exact Gn (S7 h4.le hv.1 hv.2 hw').1
    intro g2 V2 es h';simp only[eb]at h';rcases hR.sound #[] #[] hw eb with de|⟨σ,r',V',W',d',h1,h2,h4,h5⟩
    .exfalso;cases r with
     |ok a w=>cases de
     |halt hh w=>exact ff h'
    .rcases hR.shift #[] hw eb with de|⟨s1,s2,s3⟩
     .exfalso;cases r with
      |ok a w=>cases de
      |halt hh w=>exact ff h'
     .cases h2 with
      |panic _ _=>exact(ff h').elim
      |@ok j j' V' W' hv hw'=>
       let⟨l,mark⟩:=j;let⟨l',tu⟩:=j';let⟨hl,P1⟩:=hv;let⟨QV,h3⟩:=kQ h';have h3:FA l mark V'=.go g2 V2 QV:=h3;let⟨q1,q2,q3⟩:=(S7 h4.le hl P1 hw').2 g2 V2 QV h3;simp only[hZ]at s1 s2 s3;have he:es=seen P0 dC e1++QV:=by
        have:=h';simp only at this;rw[h3]at this;simp only[GStep.after,GStep.go.injEq,true_and]at this;exact this.symm
       refine⟨ab,by rw[q2,s2],λτ d hA=>?_⟩;have LY:kM V.tape V.drawn τ d (V'.drawn-V.drawn):=hA.less ab;have YM:kM V'.tape V'.drawn τ (d+(V'.drawn-V.drawn)) (V2.drawn-V'.drawn):=by
        have:kM V.tape V.drawn τ d ((V'.drawn-V.drawn)+(V2.drawn-V'.drawn)):=hA.less ab;have:=this.tail;rw[show V.drawn+(V'.drawn-V.drawn)=V'.drawn by omega]at this;rw[s2];exact this
       have z1:=s3 τ d LY;have z2:=q3 τ (d+(V'.drawn-V.drawn)) YM;simp only[z1,Q_];rw[z2,he,show d+(V'.drawn-V.drawn)+(V2.drawn-V'.drawn)=d+(V2.drawn-V.drawn) by omega];rfl
   |_=>cases fy
def LN (hP:dL P0 P ok)(hf:eK P ok ρ fr eV)(hw:bN ok str ρ V W)(hm:fr.mode≠.run):Sh (λw=>unwind P0 m fr (c::cs) none w) V:=by
 let⟨fn,tmps,todo,defers,mode,kind,roundOf⟩:=fr;let⟨dC,dj,jY,cU,pU,fo,bg⟩:=eV;have sJ:=hf.fn;have hk:=hf.kind;have rJ:=hf.mode;have hi:=hf.aX;have hd:=hf.defers;simp only at sJ hk hm rJ hi hd;subst hk sJ;let⟨F,cd,f1,f2,f3,f4⟩:=hP.same dC hi;cases hd with
 |@cons r0 Qa ds ds' hr Zg=>
  refine wC (P0:=P0) (P:=P) (E:=λes=>seen P0 dC es) (k:=λj=>G ⟨dC,tmps,todo,j++ds,mode,.normal,roundOf⟩<|c::cs) (kp:=λ_=>none) (JT (ok:=ok) hr) hw ?_ ?_ ?_
  .intro w a w' es h;simp only[unwind,h,GStep.after];simp[G]
  .intro w v w' es h;simp only[unwind,h,GStep.after];exact⟨_,_,_,rfl⟩
  .intro w r es h de;cases r with
   |ok a w=>cases de
   |halt hh w=>simp only[unwind,h,GStep.after];exact⟨_,_,_,rfl⟩
 |nil=>
  cases rJ with
  |run=>exact absurd rfl hm
  |@panicking ch ch'=>
   have c1:Frame.catches P0 ⟨dC,tmps,todo,[],.panicking ch,.normal,roundOf⟩=false:=by simp[Frame.catches,f1]
   refine gd (G (c.raise ch) cs) #[] λw=>?_
   simp only[unwind,c1,Bool.false_eq_true,if_false];rfl
  |returning=>
   refine wC (P0:=P0) (P:=P) (E:=λes=>seen P0 dC es) (k:=λv=>G (c.finish v) cs) (kp:=λ_=>none) (oO hP.tab F hf.tmps) hw ?_ ?_ ?_
   .intro w a w' es h;simp only[unwind,f1,h,GStep.after,doReturn];simp[G]
   .intro w v w' es h;simp only[unwind,f1,h,GStep.after];exact⟨_,_,_,rfl⟩
   .intro w r es h de;cases r with
    |ok a w=>cases de
    |halt hh w=>cases hh<;>(simp only[unwind,f1,h,GStep.after];exact⟨_,_,_,rfl⟩)
def De (hP:dL P0 P ok)(hf:eK P ok ρ fr eV)(hw:bN ok str ρ V W):Sh (λw=>stepG P0 m (G fr<|c::cs) w) V:=by
 by_cases hm:fr.mode=.run
 .exact(QX hP hf hw hm).congr λw=>uB hm
 .exact(LN hP hf hw hm).congr λw=>ju hm
end
structure St where
 fr:Frame
 cs:List Frame
 V:World
def St.re (s:St)(τ:Nat->Question->Nat)(d:Nat):St:=⟨s.fr,s.cs,Proofs.YtlmcblcijndipaaGreatDoor.re s.V τ d⟩
section
variable (P0:Program)(c:Frame)(Q:Value->World->Prop)
def zf (s:St):Prop:=s.cs=[]/\∃v,s.fr.leaving P0 s.V (.returned v)/\Q v s.V
def fw (s s':St):Prop:=∃es,stepG P0 true (G s.fr<|s.cs++[c]) s.V=.go (G s'.fr<|s'.cs++[c]) s'.V es
def DI:Nat->St->Prop
 |0,s=>zf P0 Q s
 |n+1,s=>∃s',fw P0 c s s'/\DI n s'
def vG (s' s:St):Prop:=∃τ d,fw P0 c (s.re τ d) s'
def H (s:St):Prop:=∀τ d,∃n,DI P0 c Q n (s.re τ d)
end
def fK (P0:Program)(ok:Ctx)(s:St):Prop:=∃ρ,eK P0 ok ρ s.fr s.fr/\jb P0 ok ρ s.cs s.cs/\tU s.fr s.cs/\bN ok true ρ s.V s.V
structure jA (P0:Program)(c:Frame):Prop where
 ret:∀v w,∃o w' es,stepG P0 true (G (c.finish v) []) w=.ended o w' es
 pan:∀ch w,∃o w' es,stepG P0 true (G (c.raise ch) []) w=.ended o w' es
def fK.re {s:St}(h:fK P0 ok s)(τ:Nat->Question->Nat)(d:Nat):fK P0 ok (s.re τ d):=by
 let⟨ρ,h1,h2,h3,h4⟩:=h;exact⟨ρ,h1,h2,h3,h4.heap,rfl,rfl,h4.gV,h4.gW⟩
def zg (s:St):Prop:=s.cs=[]/\s.fr.mode≠.run/\s.fr.defers=[]
def uh (hP:dL P0 P0 ok){s:St}(hs:fK P0 ok s)(he:zg s)(h:stepG P0 true (G s.fr<|s.cs++[c]) s.V=.go g2 V2 es):
  (∃v,g2=G (c.finish v) [])\/∃ch,g2=G (c.raise ch) []:=by
 let⟨ρ,h1,_,_,_⟩:=hs;let⟨fr,cs,V⟩:=s;let⟨e1,e2,e3⟩:=he;simp only at e1 e2 e3 h h1;subst e1;rw[ju e2]at h;let⟨F,cd,f1,_⟩:=hP.same _ h1.aX;have hm:=h1.mode;have hk:=h1.kind;let⟨fn,tmps,todo,defers,mode,kind,roundOf⟩:=fr;simp only at e2 e3 hm hk f1;subst e3 hk;cases mode with
 |run=>exact absurd rfl e2
 |panicking ch=>
  have c1:Frame.catches P0 ⟨fn,tmps,todo,[],.panicking ch,.normal,roundOf⟩=false:=by simp[Frame.catches,f1]
  simp only[unwind,c1,List.nil_append,Bool.false_eq_true,if_false,GStep.go.injEq]at h;exact .inr ⟨ch,h.1.symm⟩
 |returning=>
  simp only[unwind,f1,List.nil_append]at h;let⟨QV,h3⟩:=kQ h;generalize (results F tmps).runT P0 V #[]=x at h3;let⟨r,e⟩:=x;cases r with
  |ok v w=>
   simp only[doReturn,GStep.go.injEq]at h3;exact .inl ⟨v,h3.1.symm⟩
  |halt hh w=>cases hh<;>cases h3
def fw.inside (hP:dL P0 P0 ok){s s':St}(hs:fK P0 ok s)(h:fw P0 c s s'):¬zg s:=by
 intro he;let⟨es,h⟩:=h;rcases uh hP hs he h with⟨v,e⟩|⟨ch,e⟩
 .have:=congrArg Goroutine.callers e;simp[G]at this
 .have:=congrArg Goroutine.callers e;simp[G]at this
def A3 (hP:dL P0 P0 ok)(iA:∀f,ok.fn f=true->ok.aX f=true){s:St}(hs:fK P0 ok s)(he:¬zg s)(h:stepG P0 true (G s.fr<|s.cs++[c]) s.V=.go g2 V2 es):
  ∃s':St,g2=G s'.fr (s'.cs++[c])/\V2=s'.V/\fK P0 ok s':=by
 let⟨ρ,h1,h2,h3,h4⟩:=hs;let⟨σ,YG,W2,zn,e,hg,hw,_,_⟩:=tN (lb:=[c]) (rb:=[c]) (acP:=true) hP h1 h2 h3 h4 (λa b=>λd=>he ⟨a,b,d⟩) h;rw[h]at e;simp only[GStep.go.injEq]at e;obtain⟨rfl,rfl,_⟩:=e;generalize jT:g2=YG at hg;have qM:pv P0 P0 ok σ [c] [c] g2 YG:=by rw[jT]at*;exact hg
 clear hg;cases qM with
 |@inside fr eV cs cs' a1 a2 a3=>
  have e1:=congrArg Goroutine.frame jT;have e2:=congrArg Goroutine.callers jT;simp only[G]at e1 e2;have e2:cs=cs':=adq e2;subst e1 e2;exact⟨⟨fr,cs,V2⟩,rfl,rfl,σ,a1,a2,a3,hw⟩
 |door a1 a2=>rw[iA _ a1]at a2;cases a2
def fw.self (hP:dL P0 P0 ok)(iA:∀f,ok.fn f=true->ok.aX f=true){s s':St}(hs:fK P0 ok s)(h:fw P0 c s s'):fK P0 ok s':=by
 have hi:=h.inside hP hs;let⟨es,h⟩:=h;let⟨s2,e1,e2,h2⟩:=A3 hP iA hs hi h;let⟨fr,cs,V⟩:=s';let⟨fr2,Dw,V2⟩:=s2;have e3:=congrArg Goroutine.frame e1;have e4:=congrArg Goroutine.callers e1;simp only[G]at e3 e4 e2;have e4:cs=Dw:=adq e4;subst e3 e4 e2;exact h2
def fw.sh (hP:dL P0 P0 ok){s s':St}(hs:fK P0 ok s)(h:fw P0 c s s'):s.V.drawn<=s'.V.drawn/\s'.V.tape=s.V.tape/\
  ∀τ d,kM s.V.tape s.V.drawn τ d (s'.V.drawn-s.V.drawn)->fw P0 c (s.re τ d) (s'.re τ<|d+(s'.V.drawn-s.V.drawn)):=by
 let⟨ρ,h1,h2,h3,h4⟩:=hs;let⟨es,h⟩:=h;cases hcs:s.cs++[c]with
 |nil=>simp at hcs
 |cons a l=>
  have:=(De (m:=true) (c:=a) (cs:=l) hP h1 h4).2 _ _ _ (by rw[<-hcs];exact h);refine⟨this.1,this.2.1,λτ d hA=>⟨es,?_⟩⟩;have:=this.2.2 τ d hA;simp only[St.re];rw[hcs];exact this
def zf.re (hP:dL P0 P0 ok)(hQ:∀v w τ d,Q v w->Q v (re w τ d)){s:St}(hs:fK P0 ok s)(h:zf P0 Q s)(τ:Nat->Question->Nat)(d:Nat):zf P0 Q (s.re τ d):=by
 let⟨h1,v,⟨l1,l2,l3,fn,l4,l5⟩,h2⟩:=h;let⟨ρ,r1,_,_,r4⟩:=hs;refine⟨h1,v,⟨l1,l2,l3,fn,l4,?_⟩,hQ _ _ _ _ h2⟩;have hR:=oO (P0:=P0) (P:=P0) (str:=true) hP.tab fn r1.tmps;generalize hx:(results fn s.fr.tmps).runT P0 s.V #[]=x;let⟨r,e1⟩:=x;have hr:r=.ok v s.V:=by
  have:=Sem.runT_fst P0 (results fn s.fr.tmps) s.V #[];rw[hx,l5]at this;exact this
 subst hr;rcases hR.shift #[] r4 hx with de|⟨_,_,h3⟩
 .cases de
 .have:=h3 τ d (by intro i hi;simp[hZ]at hi);have h4:=Sem.runT_fst P0 (results fn s.fr.tmps) (Proofs.YtlmcblcijndipaaGreatDoor.re s.V τ d) #[];rw[this]at h4;show(results fn s.fr.tmps).run P0 (Proofs.YtlmcblcijndipaaGreatDoor.re s.V τ d)=.ok v (Proofs.YtlmcblcijndipaaGreatDoor.re s.V τ d);rw[<-h4];simp[Q_,hZ,Proofs.YtlmcblcijndipaaGreatDoor.re]
def DI.shift (hP:dL P0 P0 ok)(iA:∀f,ok.fn f=true->ok.aX f=true)(hQ:∀v w τ d,Q v w->Q v (re w τ d)):∀(n:Nat) {s:St},fK P0 ok s->DI P0 c Q n s->∀τ d,(∀i q,s.V.tape (s.V.drawn+i) q=τ (d+i) q)->DI P0 c Q n (s.re τ d):=by
 intro n;induction n with
 |zero=>intro s hs h τ d _;exact zf.re hP hQ hs h τ d
 |succ n ih=>
  intro s hs h τ d hA;let⟨s',h1,h2⟩:=h;let⟨k1,k2,k3⟩:=h1.sh hP hs;refine⟨_,k3 τ d λi _ q=>hA i q,ih (h1.self hP iA hs) h2 τ _ λi q=>?_⟩;rw[k2];have:=hA (s'.V.drawn-s.V.drawn+i) q;rw[show s.V.drawn+(s'.V.drawn-s.V.drawn+i)=s'.V.drawn+i by omega]at this;rw[this];congr 1;omega
omit [Gl] in
def fw.det {s s1 s2:St}(h1:fw P0 c s s1)(h2:fw P0 c s s2):s1=s2:=by
 let⟨_,h1⟩:=h1;let⟨_,h2⟩:=h2;rw[h1]at h2;simp only[GStep.go.injEq]at h2;let⟨e,e2,_⟩:=h2;have e3:=congrArg Goroutine.frame e;have e4:=congrArg Goroutine.callers e;simp only[G]at e3 e4;replace e4:=adq e4;let⟨a,b,d⟩:=s1;let⟨a',b',d'⟩:=s2;simp only at e2 e3 e4;subst e2 e3 e4;rfl
omit [Gl] in
def ui {s:St}(hs:zf P0 Q s):zg s:=by
 let⟨h1,v,⟨l1,l2,_⟩,_⟩:=hs;exact⟨h1,by rw[l1];simp,l2⟩
def H.succ (hP:dL P0 P0 ok)(iA:∀f,ok.fn f=true->ok.aX f=true)(hQ:∀v w τ d,Q v w->Q v (re w τ d)){s s':St}(hs:fK P0 ok s)(hH:H P0 c Q s)(h:vG P0 c s' s):H P0 c Q s'/\fK P0 ok s':=by
 let⟨τ,d,h⟩:=h;have vR:=hs.re τ d;let⟨k1,k2,k3⟩:=h.sh hP vR;have nh:=h.self hP iA vR;refine⟨λτ' d'=>?_,nh⟩;have l_:d<=s'.V.drawn:=k1;let t2:Nat->Question->Nat:=λi q=>if i<s'.V.drawn then τ i q else τ' (d'+(i-s'.V.drawn)) q
 have hA:kM (s.re τ d).V.tape (s.re τ d).V.drawn t2 d (s'.V.drawn-(s.re τ d).V.drawn):=by
  intro i hi q;show τ (d+i) q=t2 (d+i) q;simp only[t2];have nJ:i<s'.V.drawn-d:=hi;rw[if_pos ab]
 have h2:=k3 t2 d hA;let⟨n,hn⟩:=hH t2 d;have e1:(s.re τ d).re t2 d=s.re t2 d:=rfl;rw[e1]at h2;cases n with
 |zero=>exact absurd (ui hn) (h2.inside hP<|hs.re t2 d)
 |succ n=>
  let⟨s2,g1,g2⟩:=hn;have:=g1.det h2;subst this;refine⟨n,?_⟩;have e2:d+(s'.V.drawn-(s.re τ d).V.drawn)=s'.V.drawn:=by show d+(s'.V.drawn-d)=_;omega
  rw[e2]at g2;have:=DI.shift hP iA hQ n (nh.re t2 s'.V.drawn) g2 τ' d' (λi q=>by
   show t2 (s'.V.drawn+i) q=τ' (d'+i) q;simp only[t2];rw[if_neg ab];congr 1;omega)
  exact this
omit [Gl] in
def ue {s:St}(h:¬Acc (vG P0 c) s):∃f:Nat->St,f 0=s/\∀n,vG P0 c (f<|n+1) (f n):=by
 have step:∀s:{s:St //¬Acc (vG P0 c) s},∃s':{s:St //¬Acc (vG P0 c) s},vG P0 c s'.1 s.1:=by
  intro ⟨s,hs⟩;apply ads;intro hn;apply hs;refine⟨_,λy hy=>?_⟩;apply ads;intro G7;exact hn ⟨⟨y,G7⟩,hy⟩
 let g:Nat->{s:St //¬Acc (vG P0 c) s}:=λn=>Nat.rec ⟨s,h⟩ (λ_ x=>(step x).choose) n
 exact⟨λn=>(g n).1,rfl,λn=>(step<|g n).choose_spec⟩
omit [Gl] in
def EV (D:Nat->Nat)(hD:∀n,D n<=D (n+1))(t:Nat->Nat->Question->Nat):∃T:Nat->Question->Nat,∀n j q,D n+j<D (n+1)->T (D n+j) q=t n j q:=by
 have mono:∀n k,D n<=D (n+k):=by
  intro n k;induction k with
  |zero=>exact ac3 _
  |succ k ih=>exact ac6 ih<|hD<|n+k
 have Ck:∀p,(∃n,p<D (n+1))->∃n,p<D (n+1)/\∀m,m<n->¬p<D (m+1):=by
  intro p ⟨n,hn⟩;induction n using Nat.strongRecOn with
  |ind n ih=>
   by_cases h:∃m,m<n/\p<D (m+1)
   .let⟨m,h1,h2⟩:=h;exact ih m h1 h2
   .exact⟨n,hn,λm hm hp=>h ⟨m,hm,hp⟩⟩
 classical
 refine⟨λp q=>if h:∃n,p<D (n+1)then t (Ck p h).choose (p-D (Ck p h).choose) q else 0,λn j q hj=>?_⟩;have h:∃n',D n+j<D (n'+1):=⟨n,hj⟩;simp only[dif_pos h];have hs:=(Ck (D n+j) h).choose_spec;have:(Ck (D n+j) h).choose=n:=by
  generalize (Ck (D n+j) h).choose=m at hs;rcases Nat.lt_trichotomy m n with hl|rfl|hg
  .have h1:=hs.1;have h2:=mono (m+1)<|n-(m+1);rw[show m+1+(n-(m+1))=n by omega]at h2;omega
  .rfl
  .exact absurd hj (hs.2 n hg)
 rw[this];congr 1;omega
def MA (hP:dL P0 P0 ok)(iA:∀f,ok.fn f=true->ok.aX f=true)(hQ:∀v w τ d,Q v w->Q v (re w τ d)){s:St}(hs:fK P0 ok s)(hH:H P0 c Q s):Acc (vG P0 c) s:=by
 apply ads;intro hn;let⟨f,f0,hf⟩:=ue hn;have all:∀n,H P0 c Q (f n)/\fK P0 ok (f n):=by
  intro n;induction n with
  |zero=>rw[f0];exact⟨hH,hs⟩
  |succ n ih=>exact H.succ hP iA hQ ih.2 ih.1<|hf n
 let τ:Nat->Nat->Question->Nat:=λn=>(hf n).choose
 let d:Nat->Nat:=λn=>(hf n).choose_spec.choose
 have g:∀n,fw P0 c ((f n).re (τ n)<|d n) (f<|n+1):=λn=>(hf n).choose_spec.choose_spec
 let D:Nat->Nat:=λn=>Nat.rec 0 (λn x=>x+((f<|n+1).V.drawn-d n)) n
 have hD:∀n,D (n+1)=D n+((f<|n+1).V.drawn-d n):=λn=>rfl
 let⟨T,hT⟩:=EV D (λn=>by rw[hD];omega) λn j q=>τ n (d n+j) q;have go:∀n,fw P0 c ((f n).re T<|D n) ((f<|n+1).re T<|D<|n+1):=by
  intro n;let⟨_,_,k3⟩:=(g n).sh hP<|(all n).2.re (τ n)<|d n;have:=k3 T (D n) (λi hi q=>by
   show τ n (d n+i) q=T (D n+i) q;have nJ:i<(f<|n+1).V.drawn-d n:=hi;rw[hT n i q (by rw[hD];omega)])
  rw[hD];exact this
 have none_:∀N n,¬DI P0 c Q N ((f n).re T<|D n):=by
  intro N;induction N with
  |zero=>intro n h;exact absurd (ui h) ((go n).inside hP<|(all n).2.re T<|D n)
  |succ N ih=>
   intro n h;let⟨s',h1,h2⟩:=h;have:=h1.det<|go n;subst this;exact ih (n+1) h2
 let⟨N,hN⟩:=hH T 0;rw[<-f0]at hN;exact none_ N 0 hN
def H.step (hP:dL P0 P0 ok)(iA:∀f,ok.fn f=true->ok.aX f=true)(hQ:∀v w τ d,Q v w->Q v (re w τ d)){s:St}(hs:fK P0 ok s)(hH:H P0 c Q s)(τ:Nat->Question->Nat)(d:Nat):
  (zg s/\zf P0 Q (s.re τ d))\/(¬zg s/\∃s',fw P0 c (s.re τ d) s'/\vG P0 c s' s/\H P0 c Q s'/\fK P0 ok s'):=by
 let⟨n,hn⟩:=hH τ d;cases n with
 |zero=>exact .inl ⟨ui (s:=s.re τ d) hn,hn⟩
 |succ n=>
  let⟨s',h1,_⟩:=hn;have h2:=H.succ hP iA hQ hs hH ⟨τ,d,h1⟩;exact .inr ⟨λhe=>h1.inside hP (hs.re τ d) he,s',h1,⟨τ,d,h1⟩,h2⟩
omit [Gl] in
def oR (h:stepG P true (G fr cs) w=.go (G fr2 Dw) w2 es):step P (lone fr cs w)=.next (lone fr2 Dw w2):=by
 refine step_lone_go ?_;have:({frame:=fr,callers:=cs,status:=.running,dying:=none}:Goroutine)=G fr cs:=rfl;rw[this,h];rfl
omit [Gl] in
def gU (h:stepG P true (G fr cs) w=.ended o w2 es):step P (lone fr cs w)=.ended o w2:=by
 refine step_lone_ended ?_;have:({frame:=fr,callers:=cs,status:=.running,dying:=none}:Goroutine)=G fr cs:=rfl;rw[this,h];rfl
omit [Gl] in
def pT (h:lone fr cs w=lone fr2 Dw w2):fr=fr2/\cs=Dw/\w=w2:=by
 simp only[lone,Machine.mk.injEq,Array.mk.injEq,List.cons.injEq,Goroutine.mk.injEq,and_true]at h;exact⟨h.2.1,h.2.2,h.1⟩
def GK (hP:dL P0 P0 ok)(iA:∀f,ok.fn f=true->ok.aX f=true)(hF:jA P0 c){frE:Frame}{wE:World}(hl:frE.leaving P0 wE (.returned v))(hq:Q v wE):
  ∀(n:Nat) {s:St},fK P0 ok s->runN P0 n (lone s.fr (s.cs++[c]) s.V)=.next (lone frE [c] wE)->∃k,DI P0 c Q k s:=by
 intro n;induction n with
 |zero=>
  intro s hs h;simp only[runN,Stepped.next.injEq]at h;let⟨e1,e2,e3⟩:=pT h;have e2:s.cs=[]:=by
   have:=congrArg List.length e2;simpa using this
  refine⟨0,e2,v,?_,?_⟩
  .rw[e1,e3];exact hl
  .rw[e3];exact hq
 |succ n ih=>
  intro s hs h;let⟨ρ,h1,h2,h3,h4⟩:=hs;have hs:fK P0 ok s:=⟨ρ,h1,h2,h3,h4⟩;have hk:(∃g2 V2 es,stepG P0 true (G s.fr<|s.cs++[c]) s.V=.go g2 V2 es)\/∃o w es,stepG P0 true (G s.fr<|s.cs++[c]) s.V=.ended o w es:=by
   cases hcs:s.cs++[c]with
   |nil=>simp at hcs
   |cons a l=>exact(De (m:=true) (c:=a) (cs:=l) hP h1 h4).1
  simp only[runN]at h;rcases hk with⟨g2,V2,es,hg⟩|⟨o,w,es,hg⟩
  .by_cases he:zg s
   .exfalso;have fin:∀fr2,g2=G fr2 []->(∀w,∃o w' es,stepG P0 true (G fr2 []) w=.ended o w' es)->False:=by
     intro fr2 e kh;subst e;rw[oR hg]at h;simp only at h;cases n with
     |zero=>
      simp only[runN,Stepped.next.injEq]at h;let⟨_,e2,_⟩:=pT h;cases e2
     |succ n=>
      let⟨o,w',jI,hh⟩:=kh V2;simp only[runN,gU hh]at h;cases h
    rcases uh hP hs he hg with⟨v,e⟩|⟨ch,e⟩
    .exact fin _ e (hF.ret v)
    .exact fin _ e (hF.pan ch)
   .let⟨s',e1,e2,h5⟩:=A3 hP iA hs he hg;subst e1 e2;rw[oR hg]at h;let⟨k,hk⟩:=ih h5 h;exact⟨k+1,s',⟨es,hg⟩,hk⟩
  .rw[gU hg]at h;cases h
def Ge (hP:dL P0 P0 ok)(iA:∀f,ok.fn f=true->ok.aX f=true)(hF:jA P0 c)(hs:fK P0 ok ⟨Frame.enter P0 f xs .normal,[],V⟩)
  (hC:∀τ d,Calls P0 f xs (re V τ d) λe w'=>∃v,e=.returned v/\Q v w'):H P0 c Q ⟨Frame.enter P0 f xs .normal,[],V⟩:=by
 intro τ d;obtain⟨e,w',fr,⟨v,rfl,hq⟩,⟨n,hn⟩,_,hl⟩:=hC τ d [c];exact GK hP iA hF hl hq n (hs.re τ d) hn
structure jS (P0 P:Program)(ok:Ctx)(str:Bool)(c:Frame)(rb:List Frame)(Q:Value->World->Prop)(ρ:Ren)(s:St)(g:Goroutine)(W:World):Prop where
 at_:∃eV cs',g=G eV (cs'++rb)/\eK P ok ρ s.fr eV/\jb P ok ρ s.cs cs'
 bot:tU s.fr s.cs
 w:bN ok str ρ (re s.V W.tape W.drawn) W
 self:fK P0 ok s
 h:H P0 c Q s
 acc:Acc (vG P0 c) s
section
variable {ρ:Ren}{s:St}{ah:World}
def jS.rely (h:jS P0 P ok str c rb Q ρ s g W)(hk:∀b d,ρ b=some d->ah.heap[d]?=W.heap[d]?)(hn:Gl.n<=ah):jS P0 P ok str c rb Q ρ s g ah:=by
 refine⟨h.at_,h.bot,⟨λb d hb=>?_,rfl,rfl,h.w.gV,hn⟩,h.self,h.h,h.acc⟩;let⟨o,o',h1,h2,h3⟩:=h.w.heap b d hb;exact⟨o,o',h1,(hk b d hb).trans h2,h3⟩
def jS.running (h:jS P0 P ok str c rb Q ρ s g W):g.status=.running:=by
 obtain⟨eV,cs',rfl,_⟩:=h.at_;rfl
def jS.step (eL:dL P0 P0 ok)(hP:dL P0 P ok)(iA:∀f,ok.fn f=true->ok.aX f=true)(hQ:∀v w τ d,Q v w->Q v (re w τ d))(m:Bool){r0:Frame}{rest:List Frame}(hrb:rb=r0::rest)(h:jS P0 P ok str c rb Q ρ s g W):
  (∃σ v v' V' W' es,stepG P m g W=.go (G (r0.finish v') rest) W' es/\aw ok σ v v'/\Q v V'/\bN ok str σ V' W'/\iX ρ (re s.V W.tape W.drawn) W σ V' W'/\∀e∈es,pg σ (re s.V W.tape W.drawn) e)\/
  ∃σ s' g' W' es,stepG P m g W=.go g' W' es/\vG P0 c s' s/\jS P0 P ok str c rb Q σ s' g' W'/\iX ρ (re s.V W.tape W.drawn) W σ s'.V W'/\∀e∈es,pg σ (re s.V W.tape W.drawn) e:=by
 obtain⟨eV,cs',rfl,hf,hc⟩:=h.at_;rcases h.h.step eL iA hQ h.self W.tape W.drawn with⟨he,hE⟩|⟨he,s',hgo,TM,hH,nh⟩
 .left;let⟨e1,v,⟨l1,l2,l3,fn,l4,l5⟩,hq⟩:=hE;have e1:s.cs=[]:=e1;have l1:s.fr.mode=.returning:=l1;have l2:s.fr.defers=[]:=l2;have l5:(results fn s.fr.tmps).run P0 (re s.V W.tape W.drawn)=.ok v (re s.V W.tape W.drawn):=l5;have Ci:cs'=[]:=by rw[e1]at hc;cases hc;rfl
  subst Ci;have hd:eV.defers=[]:=by have:=hf.defers;rw[l2]at this;generalize eV.defers=x at this;cases this;rfl
  have hm:eV.mode=.returning:=by have:=hf.mode;rw[l1]at this;generalize eV.mode=x at this;cases this;rfl
  have l4:P.funcs[eV.fn]?=some fn:=by
   let⟨F,cd,f1,f2,_⟩:=hP.same _ hf.aX;rw[hf.fn,f2,<-f1];exact l4
  generalize hx:(results fn s.fr.tmps).runT P0 (re s.V W.tape W.drawn) #[]=x;let⟨r,e⟩:=x;have hr:r=.ok v (re s.V W.tape W.drawn):=by
   have:=Sem.runT_fst P0 (results fn s.fr.tmps) (re s.V W.tape W.drawn) #[];rw[hx,l5]at this;exact this
  subst hr;rcases(oO (P0:=P0) (P:=P) (str:=str) hP.tab fn hf.tmps).sound #[] #[] h.w hx with de|⟨σ,r',V',W',d',h1,h2,h4,h5⟩
  .cases de
  .cases h2 with
   |@ok _ v' _ W' hv hw'=>
    refine⟨σ,v,v',_,W',seen P eV.fn d',?_,hv,hq,hw',h4,λx hx=>h5 x<|jP _ _ _ x hx⟩;rw[ju (by rw[hm];simp)];have hk:=hf.fo;let⟨dC,dj,jY,cU,pU,fo,bg⟩:=eV;simp only at hd hm l4 hk h1⊢;subst hd hm hk hrb;simp only[unwind,l4,List.nil_append,h1,doReturn,GStep.after];simp[G]
 .right;let⟨es,XD⟩:=hgo;have hl:s.cs=[]->s.fr.mode≠.run->s.fr.defers≠[]:=λa b d=>he ⟨a,b,d⟩
  let⟨σ,g2,W2,zn,e,hg,hw,hk,mK⟩:=tN (lb:=[c]) (rb:=rb) (acP:=m) hP hf hc h.bot h.w hl XD;have key:∃fr2 Dw,g2=G fr2 (Dw++rb)/\eK P ok σ s'.fr fr2/\jb P ok σ s'.cs Dw/\tU s'.fr s'.cs:=by
   generalize hz:G s'.fr (s'.cs++[c])=z at hg;cases hg with
   |@inside fr fr2 cs Dw a1 a2 a3=>
    have z1:=congrArg Goroutine.frame hz;have z2:=congrArg Goroutine.callers hz;simp only[G]at z1 z2;replace z2:=adq z2;subst z1 z2;exact⟨fr2,Dw,rfl,a1,a2,a3⟩
   |door a1 a2=>rw[iA _ a1]at a2;cases a2
  obtain⟨fr2,Dw,rfl,b1,b2,b3⟩:=key;refine⟨σ,s',_,W2,zn,e,TM,⟨⟨fr2,Dw,rfl,b1,b2⟩,b3,⟨hw.heap,rfl,rfl,hw.gV,hw.gW⟩,nh,hH,h.acc.inv TM⟩,hk,mK⟩
end
end
