import Derived.Test.YtlmcblcijndipaaGreatDoora01
import Derived.Conc.Own
set_option linter.unusedVariables false
set_option linter.defProp false
set_option maxHeartbeats 1000000
namespace Go.Proofs.YtlmcblcijndipaaGreatDoor
open Conc
variable {es jL:Array Event}{xs xs':Array Value}{G3 acR m str:Bool}{ok:Ctx}{c eQ fr fr2:Frame}{f:FuncId}{s:GStep}{g g2:Goroutine}{C9 cs cs' lb rb:List Frame}{a b l l' n:Nat}{t t':Nat->Question->Nat}{ev tA:Operand->Value}{o:Outcome}{P P0 p:Program}{s':Sem Next}{α β:Type}{v v':Value}{Q:Value->World->Prop}{V V1 V2 W W1 W2 w w' w2:World}{F:World->GStep}
section
variable [Gl]
inductive pt (ok:Ctx)(ρ:Ren):Next->Next->Prop
 |value {v v':Value}:ar ok ρ v v'->pt ok ρ (.value v) (.value v')
 |skip:pt ok ρ .skip .skip
 |enter (f:FuncId) {xs xs':Array Value}:ok.fn f=true->ax ok ρ xs xs'->pt ok ρ (.enter f xs) (.enter f xs')
 |round {l l':Nat} (f:FuncId) {xs xs':Array Value} {a b:Code}:ρ l=some l'->ok.bh f=true->ax ok ρ xs xs'->ok.code a=true->ok.code b=true->pt ok ρ (.round l f xs a b) (.round l' f xs' a b)
structure Callable (P0 P:Program)(ok:Ctx):Prop where
 left:∀f,ok.fn f=true->∃fn,P0.funcs[f]?=some fn/\fn.body.isSome=true/\(fn.name== "runtime.NumGoroutine")=false
 right:∀f,ok.fn f=true->∃fn,P.funcs[f]?=some fn/\fn.body.isSome=true/\(fn.name== "runtime.NumGoroutine")=false
 hole:P0.info? 1000000000=none
 over:∀xs V,Result.stops ((callFunc Gl.ov xs).run P0 V)=true
def eA (fn:FuncId->Bool):Operand->Bool
 |.tmp _=>true
 |.const v=>CE v
 |.global _=>false
 |.func f=>fn f
def BL (P:Program)(s:TypeId)(f:Nat):Bool:=
 match P.underlying s with
 |some (.struct fs)=>(match fs[f]? with|some x=>(match P.info? x.type with|some i=>i.size !=0|none=>true)|none=>true)
 |_=>true
def mW:Builtin->Bool
 |.len|.cap|.max=>true
 |_=>false
def qh (P:Program)(ts:Array TypeId)(b:Builtin):Bool:=mW b||(b==.append&&(Dx P ts||Io P ts))||(b==.clear&&LZ P ts)||(b==.copy&&L5 P ts)
def ovr:Operand->Bool
 |.func g=>g==Gl.ov
 |_=>false
def F4 (P:Program)(ok:FuncId->Bool)(c:Call):Bool:=
 (match c.callee with|.builtin b=>qh P c.argTypes b|.value f=>eA ok f||ovr f|.invoke r n=>eA ok r&&xM P ok n)&&c.args.all (eA ok)
def aap (ok:FuncId->Bool):Fn->Bool
 |.func f=>ok f
 |_=>false
def OE (P:Program)(t:TypeId):Bool:=
 match P.underlying t with
 |some .string=>true
 |_=>false
def D7 (P:Program)(t:TypeId):Bool:=
 match P.underlying t with
 |some (.int _)=>true
 |_=>false
def lJ (P:Program)(ok:FuncId->Bool):Op->Bool
 |.move x|.assign x=>eA ok x
 |.pick c a b=>eA ok c&&eA ok a&&eA ok b
 |.alloc t=>FF P t
 |.box _ x=>eA ok x
 |.build t parts=>FF P t&&parts.all (λx=>eA ok x.2)
 |.buildSlice t _ parts=>Fq P t&&parts.all (λx=>eA ok x.2)
 |.load _ a=>eA ok a
 |.store _ a x=>eA ok a&&eA ok x
 |.binOp op t x y _=>(kU P op t||uK P op t y)&&eA ok x&&eA ok y
 |.unOp _ _ x=>eA ok x
 |.makeFunc f a b=>aap ok f&&a.all (eA ok)&&b.all (eA ok)
 |.makeSlice t l c=>Fq P t&&eA ok l&&eA ok c
 |.slice _ x a b c=>eA ok x&&a.all (eA ok)&&b.all (eA ok)&&c.all (eA ok)
 |.fieldAddr s x f=>BL P s f&&eA ok x
 |.indexAddr _ x i=>eA ok x&&eA ok i
 |.index _ x i=>eA ok x&&eA ok i
 |.extract x _=>eA ok x
 |.call c=>F4 P ok c
 |.nilCheck x=>eA ok x
 |.convert a b x=>D7 P a&&D7 P b&&eA ok x
 |.range t x=>OE P t&&eA ok x
 |.next it b=>b&&eA ok it
 |.makeInterface _ x=>eA ok x
 |.typeAssert x _ t c=>c&&FF P t&&eA ok x
 |_=>false
section
variable {ρ:Ren}
def VI (hT:P0.toTables=P.toTables)(ts:Array TypeId)(t:TypeId)(h:ax ok ρ xs xs'):af P0 P ok str (ar ok) ρ (Builtin.len_ ts t xs) (Builtin.len_ ts t xs'):=by
 unfold Builtin.len_;cases ht:ts[0]? with
 |none=>cases hx:xs[0]?<;>exact .halt _ _
 |some t=>
  cases hx:xs[0]? with
  |none=>exact .halt _ _
  |some x=>
   let⟨x',dG,r⟩:=h.get hx;rw[dG];refine ae _ (an hT t) ?_;rintro σ d _ l ⟨rfl,_⟩;have r:=r.mono l;cases d with
   |string=>cases r<;>first|exact ag (.int _ _)|exact .halt _ _
   |array n e=>exact ag (.int _ _)
   |pointer a=>
    refine ae _ (an hT a) ?_;rintro τ d _ l ⟨rfl,_⟩;cases d with
    |array n e=>exact ag (.int _ _)
    |_=>exact .halt _ _
   |slice e=>cases r<;>first|exact ag (.int _ _)|exact .halt _ _
   |_=>cases r<;>exact .halt _ _
def VF (hT:P0.toTables=P.toTables)(ts:Array TypeId)(t:TypeId)(h:ax ok ρ xs xs'):af P0 P ok str (ar ok) ρ (Builtin.cap_ ts t xs) (Builtin.cap_ ts t xs'):=by
 unfold Builtin.cap_;cases ht:ts[0]? with
 |none=>cases hx:xs[0]?<;>exact .halt _ _
 |some t=>
  cases hx:xs[0]? with
  |none=>exact .halt _ _
  |some x=>
   let⟨x',dG,r⟩:=h.get hx;rw[dG];refine ae _ (an hT t) ?_;rintro σ d _ l ⟨rfl,_⟩;have r:=r.mono l;cases d with
   |array n e=>exact ag (.int _ _)
   |pointer a=>
    refine ae _ (an hT a) ?_;rintro τ d _ l ⟨rfl,_⟩;cases d with
    |array n e=>exact ag (.int _ _)
    |_=>exact .halt _ _
   |slice e=>cases r<;>first|exact ag (.int _ _)|exact .halt _ _
   |_=>cases r<;>exact .halt _ _
def Rl {x x' y y':Value}(h:ar ok ρ x x')(h':ar ok ρ y y'):af P0 P ok str (ar ok) ρ (Builtin.max2 x y) (Builtin.max2 x' y'):=by
 cases h with
 |int k a=>cases h'<;>first|exact ag (.int _ _)|exact .halt _ _
 |string a=>
  cases h' with
  |string b=>
   refine ae _ (ve _ _ _) ?_;intro σ u u' _ hu;refine ae _ (A2 hu) ?_;rintro τ b _ _ rfl;split<;>exact ag (.string _)
  |_=>exact .halt _ _
 |_=>cases h'<;>exact .halt _ _
def KP {f:Value->Value->Sem Value}(hf:∀{ρ:Ren} {x x' y y':Value},ar ok ρ x x'->ar ok ρ y y'->af P0 P ok str (ar ok) ρ (f x y) (f x' y')):
  ∀{l l':List Value} {ρ:Ren} {x x':Value},iD ok ρ l l'->ar ok ρ x x'->af P0 P ok str (ar ok) ρ (l.foldlM f x) (l'.foldlM f x'):=by
 intro l;induction l with
 |nil=>intro l' ρ x x' h hx;cases h;exact ag hx
 |cons a l ih=>
  intro l' ρ x x' h hx;cases h with
  |cons ha h=>
   simp only[List.foldlM_cons];refine ae _ (hf hx ha) ?_;intro σ y y' le hy;exact ih (h.mono le) hy
def VJ (ts:Array TypeId)(t:TypeId)(h:ax ok ρ xs xs'):af P0 P ok str (ar ok) ρ (Builtin.max_ ts t xs) (Builtin.max_ ts t xs'):=by
 unfold Builtin.max_;have hl:=h.list;generalize xs.toList=l at hl;generalize xs'.toList=l' at hl;cases hl with
 |nil=>exact .halt _ _
 |cons hv hl=>exact KP (λh h'=>Rl h h') hl hv
def cG {s s':Sem Value}(h:af P0 P ok str (ar ok) ρ s s'):af P0 P ok str (λσ x y=>pt ok σ x y) ρ (do pure (.value<|<-s)) (do pure (.value<|<-s')):=by
 refine ae _ h ?_;intro σ x y _ hv;exact ag<|.value hv
def CR {s s':Sem Unit}{A:Ren->Unit->Unit->Prop}(h:af P0 P ok str A ρ s s'):af P0 P ok str (λσ x y=>pt ok σ x y) ρ (do s;pure .skip) (do s';pure .skip):=by
 refine ae _ h ?_;intro σ x y _ _;exact ag .skip
def vb (hC:Callable P0 P ok)(f:FuncId)(hf:ok.fn f=true)(h:ax ok ρ xs xs'):af P0 P ok str (λσ x y=>pt ok σ x y) ρ (callFunc f xs) (callFunc f xs'):=by
 refine af.program ?_;let⟨fn,h1,h2,h3⟩:=hC.left f hf;let⟨dC,pa,XR,I'⟩:=hC.right f hf;have e1:fn.body.isNone=false:=by cases hb:fn.body<;>simp_all
 have e2:dC.body.isNone=false:=by cases hb:dC.body<;>simp_all
 refine aZ ?_;rw[h1,pa];simp only[h3,I',e1,e2,Bool.false_eq_true,if_false];exact ag<|.enter f hf h
def lx (hl:ρ l=some l'):af P0 P ok str (λσ r r'=>Dt ok σ r r') ρ (Instr.getLoop l) (Instr.getLoop l'):=by
 refine af.getObj hl λo o' ho=>?_
 cases ho with
 |loop hr=>exact .pure hr
 |_=>exact .halt _ _
def OB (hl:ρ l=some l')(h:ax ok ρ xs xs'):af P0 P ok str (λσ x y=>pt ok σ x y) ρ (Instr.yield l xs) (Instr.yield l' xs'):=by
 refine ae _ (lx hl) ?_;intro σ r r' le hr;have h:=h.mono le;rw[h.size,hr.params];split
 .exact .halt _ _
 .rw[hr.fn,hr.assign,hr.body];refine ag<|.round _ (le _ _ hl) hr.bh ?_ hr.ZQ hr.ZR;have fold:∀(ps:List Tmp) (l l':List Value) (_:iD ok σ l l') (a a':Array Value),ax ok σ a a'->
    ax ok σ ((ps.zip l).foldl (λtmps (x:Tmp×Value)=>tmps.setIfInBounds x.1 x.2) a) ((ps.zip l').foldl (λtmps (x:Tmp×Value)=>tmps.setIfInBounds x.1 x.2) a'):=by
   intro ps;induction ps with
   |nil=>intro l l' _ a a' ha;exact ha
   |cons p ps ih=>
    intro l l' hl a a' ha;cases hl with
    |nil=>exact ha
    |cons hv hl=>exact ih _ _ hl _ _<|ha.set hv p
  have:=fold r.params.toList _ _ h.list _ _ hr.tmps;rw[<-Array.toList_zip,<-Array.toList_zip,Array.foldl_toList,Array.foldl_toList]at this;exact this
def Hi (hT:P0.toTables=P.toTables)(b:Builtin)(ts:Array TypeId)(hb:qh P ts b=true)(t:TypeId)(cs:Array Bool)(h:ax ok ρ xs xs'):af P0 P ok str (λσ x y=>pt ok σ x y) ρ (builtin b ts t cs xs) (builtin b ts t cs xs'):=by
 cases b with
 |len=>exact cG (VI hT ts t h)
 |cap=>exact cG (VF hT ts t h)
 |max=>exact cG (VJ ts t h)
 |append=>
  have dw:(Dx P ts||Io P ts)=true:=by simpa[qh,mW]using hb
  cases ha:Dx P ts with
  |true=>exact cG (KN hT ts t ha h)
  |false=>rw[ha]at dw;exact cG (Hg hT ts t dw h)
 |copy=>exact cG (Rg hT ts t (by simpa[qh,mW]using hb) h)
 |clear=>exact cG (Oo hT ts t (by simpa[qh,mW]using hb) h)
 |_=>simp[qh,mW]at hb
def uj (hT:P0.toTables=P.toTables)(hC:Callable P0 P ok){d d':Target}(hd:zW ok ρ d d')(hb:∀b a t c,d≠.builtin b a t c)(h:ax ok ρ xs xs'):af P0 P ok str (λσ x y=>pt ok σ x y) ρ (invoke d xs) (invoke d' xs'):=by
 cases hd with
 |fn hf hx=>
  cases hf with
  |func hf=>exact vb hC _ hf (h.append hx)
  |yield hl=>exact OB hl h
 |nil=>exact eT hT .nilDeref rfl
 |builtin b a t c=>exact absurd rfl (hb b a t c)
 |collected _=>exact .halt _ _
def zF (hT:P0.toTables=P.toTables)(hC:Callable P0 P ok)(n:String)(hm:xM P ok.fn n=true)(hv:ar ok ρ v v')(h:ax ok ρ xs xs'):af P0 P ok str (λσ x y=>pt ok σ x y) ρ (callMethod v n xs) (callMethod v' n xs'):=by
 unfold callMethod;cases hv with
 |iface t hv=>
  refine af.program ?_;refine aZ ?_;rw[hT];refine ae _ (KT hT _ t n hm hv) ?_;rintro σ ⟨f,x⟩ ⟨_,y⟩ l ⟨rfl,hf,hx⟩;exact vb hC f hf ((ax.nil.push hx).append<|h.mono l)
 |nilIface=>exact eT hT .nilDeref rfl
 |hole _=>exact .halt _ _
 |_=>exact .halt _ _
def zP (ok:Ctx)(ρ:Ren)(ev tA:Operand->Value):Prop:=∀x,eA ok.fn x=true->ar ok ρ (ev x) (tA x)
def Bp (h:zP ok ρ ev tA){xs:Array Operand}(hx:xs.all (eA ok.fn)=true):ax ok ρ (xs.map ev) (xs.map tA):=by
 refine⟨aF,λi x x' e e'=>?_⟩;rw[Array.getElem?_map]at e e';cases hi:xs[i]? with
 |none=>rw[hi]at e;cases e
 |some o=>
  rw[hi]at e e';simp only[Option.map_some,Option.some.injEq]at e e';subst e;subst e';rw[Array.all_eq_true]at hx;obtain⟨hl,rfl⟩:=ac7.1 hi;exact h _<|hx i hl
def AO (h:zP ok ρ ev tA){xs:Array (Nat×Operand)}(hx:xs.all (λx=>eA ok.fn x.2)=true):
  (xs.map λx=>(x.1,ev x.2)).toList.map (·.1)=(xs.map λx=>(x.1,tA x.2)).toList.map (·.1)/\iD ok ρ ((xs.map λx=>(x.1,ev x.2)).toList.map (·.2)) ((xs.map λx=>(x.1,tA x.2)).toList.map (·.2)):=by
 refine⟨aF,?_⟩;simp only[Array.toList_map,List.map_map];have dG:∀x∈xs.toList,eA ok.fn x.2=true:=by
  intro x hm;rw[Array.all_eq_true]at hx;obtain⟨i,hi,rfl⟩:=Array.getElem_of_mem<|Array.mem_toList_iff.1 hm;exact hx i hi
 generalize xs.toList=l at dG;induction l with
 |nil=>exact .nil
 |cons a l ih=>exact .cons (h _<|dG a aF)<|ih λx hm=>dG x<|by simp[hm]
def CC (h:zP ok ρ ev tA){x:Option Operand}(hx:x.all (eA ok.fn)=true):mQ ok ρ (x.map ev) (x.map tA):=by
 cases x with
 |none=>exact .none
 |some o=>exact .some<|h _<|by simpa using hx
omit [Gl] in
def wV (op:BinOp)(t:TypeId)(x y:Operand)(a:Value)(V:World):(eqGuard op t x y a hole).run P0 V=.ok () V/\(eqGuard op t x y hole a).run P0 V=.ok () V:=by
 constructor<;>(cases op<;>first|rfl|(cases a<;>rfl))
omit [Gl] in
def Hh (hT:P0.toTables=P.toTables)(op:BinOp)(t:TypeId)(ht:kU P op t=true)(x y:Operand)(a b:Value)(h:a=hole\/b=hole)(V:World):Result.stops ((do eqGuard op t x y a b;binOp op t a b:Sem Value).run P0 V)=true:=by
 rw[Sem.run_bind];rcases h with rfl|rfl
 .rw[(wV op t x y b V).2];exact(nH hT op t ht b V).2
 .rw[(wV op t x y a V).1];exact(nH hT op t ht a V).1
def Hk (hT:P0.toTables=P.toTables)(op:BinOp)(t:TypeId)(ht:kU P op t=true)(x y:Operand){a a' b b':Value}(h:ar ok ρ a a')(h':ar ok ρ b b')(na:a≠hole)(nb:b≠hole):af P0 P ok str (λ_ _ _=>True) ρ (eqGuard op t x y a b) (eqGuard op t x y a' b'):=by
 unfold eqGuard;by_cases he:Di op=true
 .unfold kU at ht;rw[if_pos he]at ht;have hd:∀(Q:Program),Q.toTables=P.toTables->Q.eqGuardType Q.depth t=false:=by
   intro Q hQ;have:Q.depth=(2*(Q.types.size+Made.depth)+1)+1:=rfl;rw[this];unfold Program.eqGuardType;rw[ur hQ];rcases Bool.or_eq_true_iff.1 ht with ht|ht
   .unfold BK at ht;split at ht<;>simp_all
   .unfold TX at ht;cases hu:P.underlying t with
    |none=>simp[hu]at ht
    |some u=>
     rw[hu]at ht;cases u with
     |struct fs=>
      simp only[Bool.and_eq_true,Array.all_eq_true_iff_forall_mem]at ht;dsimp only;rw[Array.any_eq_false];intro i hi;have hf:=ht.2 fs[i]<|Array.getElem_mem hi;unfold Program.eqGuardType;rw[ur hQ];unfold BK at hf;split at hf<;>simp_all
     |_=>cases ht
  have hg:∀{σ:Ren},af P0 P ok str (λ_ x y=>x=false/\y=false) σ (Op.eqGuardIn Op.maxDepth t .nilIface .nilIface) (Op.eqGuardIn Op.maxDepth t .nilIface .nilIface):=by
   intro σ;show af P0 P ok str _ σ (Op.eqGuardIn (9999+1) t .nilIface .nilIface) (Op.eqGuardIn (9999+1) t .nilIface .nilIface);unfold Op.eqGuardIn;refine ae _ (an hT t) ?_;rintro τ d _ _ ⟨rfl,hu⟩;unfold R5 BK TX at ht;rw[hu]at ht;cases d with
   |struct fs=>exact ag ⟨rfl,rfl⟩
   |bool=>exact ag ⟨rfl,rfl⟩
   |string=>exact ag ⟨rfl,rfl⟩
   |int k=>exact ag ⟨rfl,rfl⟩
   |slice e=>exact ag ⟨rfl,rfl⟩
   |_=>simp at ht
  have e1:(!(match op with|.eql|.neq=>true|_=>false))=false:=by cases op<;>first|rfl|cases he
  cases op with
  |eql=>
   cases h with
   |hole _=>exact absurd rfl na
   |nilIface=>
    cases h' with
    |hole _=>exact absurd rfl nb
    |nilIface=>
     have tail:af P0 P ok str (λ_ _ _=>True) ρ (do if<-Op.eqGuardIn Op.maxDepth t .nilIface .nilIface then unsupported (.noEntry "binop/eql: two nil values of an interface type with methods, neither of them the literal nil")else pure ())
       (do if<-Op.eqGuardIn Op.maxDepth t .nilIface .nilIface then unsupported (.noEntry "binop/eql: two nil values of an interface type with methods, neither of them the literal nil")else pure ()):=by
      refine ae _ hg ?_;rintro σ _ _ _ ⟨rfl,rfl⟩;exact ag trivial
     cases x<;>cases y<;>first|exact ag trivial|exact tail
    |_=>exact ag trivial
   |agg _ _=>
    cases h' with
    |hole _=>exact absurd rfl nb
    |agg _ _=>
     refine af.program<|aZ<|af.program<|aZ ?_;rw[hd P0 hT,hd P rfl];exact ag trivial
    |_=>exact ag trivial
   |_=>cases h'<;>first|exact absurd rfl nb|exact ag trivial
  |neq=>
   cases h with
   |hole _=>exact absurd rfl na
   |nilIface=>
    cases h' with
    |hole _=>exact absurd rfl nb
    |nilIface=>
     have tail:af P0 P ok str (λ_ _ _=>True) ρ (do if<-Op.eqGuardIn Op.maxDepth t .nilIface .nilIface then unsupported (.noEntry "binop/eql: two nil values of an interface type with methods, neither of them the literal nil")else pure ())
       (do if<-Op.eqGuardIn Op.maxDepth t .nilIface .nilIface then unsupported (.noEntry "binop/eql: two nil values of an interface type with methods, neither of them the literal nil")else pure ()):=by
      refine ae _ hg ?_;rintro σ _ _ _ ⟨rfl,rfl⟩;exact ag trivial
     cases x<;>cases y<;>first|exact ag trivial|exact tail
    |_=>exact ag trivial
   |agg _ _=>
    cases h' with
    |hole _=>exact absurd rfl nb
    |agg _ _=>
     refine af.program<|aZ<|af.program<|aZ ?_;rw[hd P0 hT,hd P rfl];exact ag trivial
    |_=>exact ag trivial
   |_=>cases h'<;>first|exact absurd rfl nb|exact ag trivial
  |_=>cases he
 .cases op<;>first|exact ag trivial|exact absurd rfl he
omit [Gl] in
def Gf {s:TypeId}{f:Nat}(h:BL P s f=true):∀fs x i,P.underlying s=some (.struct fs)->fs[f]?=some x->P.info? x.type=some i->i.size≠0:=by
 intro fs x i h1 h2 h3;unfold BL at h;rw[h1]at h;simp only[h2,h3]at h;simpa using h
omit [Gl] in
def qX (h:P0.info? 1000000000=none)(V:World):Result.stops ((typeInfo 1000000000).run P0 V)=true:=by
 simp[typeInfo,h,Result.stops,ends]
omit [Gl] in
def zx (h:P0.info? 1000000000=none)(n:Nat)(V:World):Result.stops ((nilAhead n 1000000000 (.chan none) "").run P0 V)=true\/(nilAhead n 1000000000 (.chan none) "").run P0 V=.ok none V:=by
 cases n with
 |zero=>exact .inr rfl
 |succ n=>
  left;unfold nilAhead;rw[Sem.run_bind];exact gh (qX h V) _
omit [Gl] in
def zy (h:P0.info? 1000000000=none)(V:World):Result.stops ((do
    if(<-nilAhead ((<-program).types.size+Made.depth) 1000000000 (.chan none) "")!=some false then
     unsupported (.noEntry "op/nilCheck.the method's receiver behind this interface value is a nil pointer, or cannot be seen to be none, and the arguments act or may panic (ledger 612)")
    pure (.value<|.func (.method "") #[.iface 1000000000<|.chan none] #[]):Sem Next).run P0 V)=true:=by
 rw[Sem.run_bind];show Result.stops (Sem.run P0 _ V)=true;rw[Sem.run_bind];rcases zx h (P0.types.size+Made.depth) V with e|e
 .exact gh e _
 .rw[e];rfl
omit [Gl] in
def pK (h:P0.info? 1000000000=none)(args:Array Value)(V:World):Result.stops ((invoke (.fn (.method "") #[])<|#[.iface 1000000000<|.chan none]++args).run P0 V)=true:=by
 unfold invoke;have e:(#[Value.iface 1000000000<|.chan none]++args)[0]?=some (.iface 1000000000<|.chan none):=by rw[Array.getElem?_append_left bF];rfl
 simp only[e];unfold callMethod;rw[Sem.run_bind];show Result.stops (Sem.run P0 _ V)=true;rw[Sem.run_bind];refine gh ?_ _;generalize P0.types.size+Made.depth=n;cases n with
 |zero=>rfl
 |succ n=>
  unfold method;rw[Sem.run_bind];exact gh (qX h V) _
def Rf (hT:P0.toTables=P.toTables)(hC:Callable P0 P ok)(c:Call)(t:TypeId)(hc:F4 P ok.fn c=true)(h:zP ok ρ ev tA)(hcf:∀g,ev (.func g)=.func (.func g) #[] #[]):
  af P0 P ok str (λσ x y=>pt ok σ x y) ρ (do let d <-resolve ev c t;invoke d.target d.args) (do let d <-resolve tA c t;invoke d.target d.args):=by
 unfold F4 at hc;rw[adz]at hc;have ha:=Bp h hc.2;unfold resolve;cases Uu:c.callee with
 |builtin b=>
  rw[Uu]at hc;exact Hi hT b _ hc.1 _ _ ha
 |invoke r n=>
  rw[Uu]at hc;simp only[Bool.and_eq_true]at hc;refine aZ ?_;have e:∀(v:Value) (xs:Array Value),invoke (.fn (.method n) #[]) (#[v]++xs)=callMethod v n xs:=λv xs=>by
   unfold invoke;simp only[Array.extract_append];have h0:(#[v]++xs)[0]?=some v:=by rw[Array.getElem?_append_left aF];rfl
   simp[h0]
  dsimp only;rw[e,e];exact zF hT hC n hc.1.2 (h r hc.1.1) ha
 |value f=>
  rw[Uu]at hc;cases hon:eA ok.fn f with
  |false=>
   have ze:ovr f=true:=by have:(eA ok.fn f||ovr f)=true:=hc.1;rw[hon]at this;exact this
   cases f with
   |func g=>
    have hg:g=Gl.ov:=by simpa[ovr]using ze
    subst hg;refine .dead _ _ λV=>?_
    dsimp only;rw[hcf];exact hC.over _ V
   |_=>cases ze
  |true=>
  have hf:=h f hon;dsimp only;generalize ev f=v at hf;generalize tA f=v' at hf;cases hf with
  |func sz e1 h1 e2 h2=>
   refine aZ ?_;exact uj hT hC (.fn sz ⟨e2,h2⟩) aF (ax.append ⟨e1,h1⟩ ha)
  |nilFunc=>exact eT hT .nilDeref rfl
  |hole _=>exact .dead _ _ λV=>pK hC.hole _ V
  |_=>exact .halt _ _
def E0 (hT:P0.toTables=P.toTables)(hC:Callable P0 P ok)(o:Oper)(x:Operand)(bz:o.op=.nilCheck x)(hx:ar ok ρ (ev x) (tA x)):af P0 P ok str (λσ x y=>pt ok σ x y) ρ (execOp ev o) (execOp tA o):=by
 unfold execOp;rw[bz];dsimp only;generalize ev x=v at hx;generalize tA x=v' at hx;cases hx with
 |hole h=>exact .dead _ _ λV=>zy hC.hole V
 |mz=>exact eT hT .nilDeref rfl
 |nilFunc=>exact eT hT .nilDeref rfl
 |nilIface=>exact eT hT .nilDeref rfl
 |bool b=>exact ag (.value<|.bool b)
 |int k n=>exact ag (.value<|.int k n)
 |string s=>exact ag (.value<|.string s)
 |ptr r=>exact ag (.value<|.ptr r)
 |dH l c=>exact ag (.value<|.dH l c)
 |slice l c r=>exact ag (.value<|.slice l c r)
 |iface t h=>exact ag (.value<|.iface t h)
 |func hf e1 h1 e2 h2=>
  cases hf with
  |func h=>exact ag (.value<|.func (.func h) e1 h1 e2 h2)
  |yield h=>exact ag (.value<|.func (.yield h) e1 h1 e2 h2)
 |agg e h=>exact ag (.value<|.agg e h)
 |tuple e h=>exact ag<|.value<|.tuple e h
def Hj (hT:P0.toTables=P.toTables)(a b:TypeId)(ha:D7 P a=true)(hb:D7 P b=true)(hx:ar ok ρ v v'):af P0 P ok str (ar ok) ρ (convert a b v) (convert a b v'):=by
 unfold convert;refine ae _ (an hT a) ?_;rintro σ d _ l ⟨rfl,hd⟩;refine ae _ (an hT b) ?_;rintro τ e _ l' ⟨rfl,he⟩;unfold D7 at ha hb;rw[hd]at ha;rw[he]at hb;cases d<;>first|cases ha|skip
 cases e<;>first|cases hb|skip
 cases hx with
 |int k n=>exact ag (.int _ _)
 |_=>exact .halt _ _
def Ox (hT:P0.toTables=P.toTables)(t:TypeId)(ht:OE P t=true)(hx:ar ok ρ v v'):af P0 P ok str (ar ok) ρ (Instr.range t v) (Instr.range t v'):=by
 unfold Instr.range;refine ae _ (an hT t) ?_;rintro σ d _ l ⟨rfl,hd⟩;unfold OE at ht;rw[hd]at ht;cases d with
 |string=>
  cases hx with
  |string s=>
   refine aZ ?_;refine af.new (.stringIter s 0) ?_;intro τ b c _ e;exact .pure (.ptr ⟨e,rfl,rfl⟩)
  |_=>exact .halt _ _
 |_=>cases ht
def Rm (t:TypeId)(hx:ar ok ρ v v'):af P0 P ok str (ar ok) ρ (Instr.next v true t) (Instr.next v' true t):=by
 unfold Instr.next;cases hx with
 |@ptr a a' r=>
  let⟨b,off,sp⟩:=a;let⟨b',ce,sp'⟩:=a';have h1:=r.off;simp only at h1;subst h1;cases ce with
  |zero=>
   refine af.getObj r.blk λo o' ho=>?_
   refine aZ ?_;cases ho with
   |stringIter s p=>
    dsimp only;split
    .exact af.setObj r.blk (.stringIter s _) (.pure (.tuple rfl (λi x x' h h'=>by
      match i with
      |0=>simp at h h';subst h h';exact .bool _
      |1=>simp at h h';subst h h';exact .int _ _
      |2=>simp at h h';subst h h';exact .int _ _
      |i+3=>simp at h)))
    .exact ag (.tuple rfl (λi x x' h h'=>by
      match i with
      |0=>simp at h h';subst h h';exact .bool _
      |i+1=>simp at h))
   |_=>exact .halt _ _
  |succ n=>exact .halt _ _
 |_=>exact .halt _ _
def SY (hT:P0.toTables=P.toTables)(hG:P.globals.size=Gl.n)(hC:Callable P0 P ok)(o:Oper)(ho:lJ P ok.fn o.op=true)(h:zP ok ρ ev tA)(hcv:∀v,ev (.const v)=v/\tA (.const v)=v)(hcf:∀g,ev (.func g)=.func (.func g) #[] #[]):
  af P0 P ok str (λσ x y=>pt ok σ x y) ρ (execOp ev o) (execOp tA o):=by
 unfold execOp;cases bz:o.op with
 |move x=>rw[bz]at ho;exact ag (.value<|h x ho)
 |assign x=>rw[bz]at ho;exact ag (.value<|h x ho)
 |pick c a b=>
  rw[bz]at ho;simp only[lJ,Bool.and_eq_true]at ho;refine ae _ (A2<|h c ho.1.1) ?_;rintro σ b _ l rfl;split
  .exact ag (.value<|(h _ ho.1.2).mono l)
  .exact ag (.value<|(h _ ho.2).mono l)
 |alloc t=>rw[bz]at ho;exact cG (Ol hT t ho)
 |box t x=>rw[bz]at ho;exact cG (VE t<|h x ho)
 |build t parts=>
  rw[bz]at ho;simp only[lJ,Bool.and_eq_true]at ho;have:=AO h ho.2;exact cG (On hT t ho.1 this.1 this.2)
 |buildSlice t n parts=>
  rw[bz]at ho;simp only[lJ,Bool.and_eq_true]at ho;have:=AO h ho.2;exact cG (zD hT t n ho.1 this.1 this.2)
 |load t a=>
  rw[bz]at ho;refine cG<|ae _ (tv<|h a ho) ?_;intro σ x y l r;exact rZ hT t r
 |store t a x=>
  rw[bz]at ho;simp only[lJ,Bool.and_eq_true]at ho;refine CR (A:=λ_ _ _=>True)<|ae _ (tv<|h a ho.1) ?_;intro σ b b' l r;exact E2 hT t r ((h x ho.2).mono l)
 |binOp op t x y u=>
  rw[bz]at ho;simp only[lJ,Bool.and_eq_true]at ho;cases mG:kU P op t with
  |false=>
   have hn:uK P op t y=true:=by have:=ho.1.1;rw[mG]at this;exact this
   have hy:=IU hn;have e1:ev y=.nilIface:=by rw[hy];exact(hcv .nilIface).1
   have e2:tA y=.nilIface:=by rw[hy];exact(hcv .nilIface).2
   refine cG (s:=do eqGuard op t x y (ev x) (ev y);binOp op t (ev x) (ev y)) (s':=do eqGuard op t x y (tA x) (tA y);binOp op t (tA x) (tA y)) ?_;rw[e1,e2];exact Ot hT op t x y hn (h x ho.1.2)
  |true=>
  by_cases hd:ev x=hole\/ev y=hole
  .exact cG (.dead _ _ λV=>Hh hT op t mG x y _ _ hd V)
  refine cG<|ae _ (Hk hT op t mG x y (h x ho.1.2) (h y ho.2) (λe=>hd<|.inl e) λe=>hd<|.inr e) ?_;intro σ _ _ l _;exact Om hT hG op t mG ((h x ho.1.2).mono l) ((h y ho.2).mono l)
 |unOp op t x=>rw[bz]at ho;exact cG (Oz op<|h x ho)
 |makeFunc f a b=>
  rw[bz]at ho;simp only[lJ,Bool.and_eq_true]at ho;cases f with
  |func f=>
   have h1:=Bp h ho.1.2;have h2:=Bp h ho.2;exact ag (.value<|.func (.func ho.1.1) h1.size h1.at_ h2.size h2.at_)
  |_=>cases ho.1.1
 |makeSlice t l c=>
  rw[bz]at ho;simp only[lJ,Bool.and_eq_true]at ho;exact cG (CQ hT t ho.1.1 (h l ho.1.2)<|h c ho.2)
 |slice t x a b c=>
  rw[bz]at ho;simp only[lJ,Bool.and_eq_true]at ho;exact cG (Hq hT t (h x ho.1.1.1) (CC h ho.1.1.2) (CC h ho.1.2)<|CC h ho.2)
 |fieldAddr s x f=>
  rw[bz]at ho;simp only[lJ,Bool.and_eq_true]at ho;exact cG (Hm hT s f (Gf ho.1)<|h x ho.2)
 |indexAddr t x i=>
  rw[bz]at ho;simp only[lJ,Bool.and_eq_true]at ho;exact cG (Hn hT t (h x ho.1)<|h i ho.2)
 |index t x i=>
  rw[bz]at ho;simp only[lJ,Bool.and_eq_true]at ho;exact cG (Ou hT t (h x ho.1)<|h i ho.2)
 |extract x n=>rw[bz]at ho;exact cG (Hl (h x ho) n)
 |call c=>rw[bz]at ho;exact Rf hT hC c _ ho h hcf
 |convert a b x=>
  rw[bz]at ho;simp only[lJ,Bool.and_eq_true]at ho;exact cG (Hj hT a b ho.1.1 ho.1.2<|h x ho.2)
 |range t x=>
  rw[bz]at ho;simp only[lJ,Bool.and_eq_true]at ho;exact cG (Ox hT t ho.1<|h x ho.2)
 |next it b=>
  rw[bz]at ho;simp only[lJ,Bool.and_eq_true]at ho;obtain⟨rfl,ho⟩:=ho;exact cG (Rm o.type<|h it ho)
 |makeInterface t x=>rw[bz]at ho;exact cG (uk hT t<|h x ho)
 |typeAssert x t a c=>
  rw[bz]at ho;simp only[lJ,Bool.and_eq_true]at ho;obtain⟨⟨rfl,hz⟩,ho⟩:=ho;exact cG (zG hT t a hz<|h x ho)
 |nilCheck x=>
  rw[bz]at ho;have:=E0 (P0:=P0) (P:=P) (str:=str) hT hC o x bz<|h x ho;unfold execOp at this;rw[bz]at this;exact this
 |_=>rw[bz]at ho;cases ho
end
end
section
variable [Gl]
def dh (P:Program)(fn:FuncId->Bool):Code->Bool
 |.skip|.ret|.exit _=>true
 |.seq a b=>dh P fn a&&dh P fn b
 |.cond c a b=>eA fn c&&dh P fn a&&dh P fn b
 |.block _ b|.loop b=>dh P fn b
 |.region _ ops _=>ops.all (λo=>lJ P fn o.op)
 |.rangeFunc f _ a b=>eA fn f&&dh P fn a&&dh P fn b
 |_=>false
inductive po (P:Program)(ok:Ctx)(ρ:Ren):Item->Item->Prop
 |code {c:Code}:dh P ok.fn c=true->po P ok ρ (.code c) (.code c)
 |inBlock (id:Nat):po P ok ρ (.inBlock id) (.inBlock id)
 |inLoop {c:Code}:dh P ok.fn c=true->po P ok ρ (.inLoop c) (.inLoop c)
 |inRegion {ops:Array Oper} (todo:List Nat):ops.all (λo=>lJ P ok.fn o.op)=true->po P ok ρ (.inRegion ops todo) (.inRegion ops todo)
 |inRangeFunc {l l':Nat}:ρ l=some l'->po P ok ρ (.inRangeFunc l) (.inRangeFunc l')
 |endRangeFunc {l l':Nat}:ρ l=some l'->po P ok ρ (.endRangeFunc l) (.endRangeFunc l')
 |beginRound:po P ok ρ .beginRound .beginRound
inductive mL (P:Program)(ok:Ctx)(ρ:Ren):List Item->List Item->Prop
 |nil:mL P ok ρ [] []
 |cons {x x':Item} {l l':List Item}:po P ok ρ x x'->mL P ok ρ l l'->mL P ok ρ (x::l) (x'::l')
inductive zR:FrameMode->FrameMode->Prop
 |run:zR .run .run
 |returning:zR .returning .returning
 |panicking {c c':List PanicEntry}:zR (.panicking c) (.panicking c')
inductive kR (ρ:Ren):List Deferred->List Deferred->Prop
 |nil:kR ρ [] []
 |cons {r r':Nat} {l l':List Deferred}:ρ r=some r'->kR ρ l l'->kR ρ ({target:=.collected r,args:=#[]}::l) ({target:=.collected r',args:=#[]}::l')
inductive wj (ρ:Ren):Option Nat->Option Nat->Prop
 |none:wj ρ none none
 |some {l l':Nat}:ρ l=some l'->wj ρ (some l) (some l')
structure eF (P:Program)(ok:Ctx)(ρ:Ren)(fr eQ:Frame):Prop where
 fn:eQ.fn=fr.fn
 bh:ok.bh fr.fn=true
 tmps:ax ok ρ fr.tmps eQ.tmps
 todo:mL P ok ρ fr.todo eQ.todo
 defers:kR ρ fr.defers eQ.defers
 mode:zR fr.mode eQ.mode
 kind:fr.kind=.normal
 fp:eQ.kind=.normal
 round:wj ρ fr.roundOf eQ.roundOf
inductive jd (P:Program)(ok:Ctx)(ρ:Ren):List Frame->List Frame->Prop
 |nil:jd P ok ρ [] []
 |cons {f f':Frame} {l l':List Frame}:eF P ok ρ f f'->jd P ok ρ l l'->jd P ok ρ (f::l) (f'::l')
section
variable {ρ σ:Ren}
def po.mono {x x':Item}(h:po P ok ρ x x')(l:ρ.le σ):po P ok σ x x':=by
 cases h with
 |code h=>exact .code h
 |inBlock id=>exact .inBlock id
 |inLoop h=>exact .inLoop h
 |inRegion t h=>exact .inRegion t h
 |inRangeFunc h=>exact .inRangeFunc (l _ _ h)
 |endRangeFunc h=>exact .endRangeFunc (l _ _ h)
 |beginRound=>exact .beginRound
def mL.mono {x x':List Item}(h:mL P ok ρ x x')(l:ρ.le σ):mL P ok σ x x':=by
 induction h with
 |nil=>exact .nil
 |cons h _ ih=>exact .cons (h.mono l) ih
def kR.mono {x x':List Deferred}(h:kR ρ x x')(l:ρ.le σ):kR σ x x':=by
 induction h with
 |nil=>exact .nil
 |cons h _ ih=>exact .cons (l _ _ h) ih
def wj.mono {x x':Option Nat}(h:wj ρ x x')(l:ρ.le σ):wj σ x x':=by
 cases h with
 |none=>exact .none
 |some h=>exact .some<|l _ _ h
def eF.mono {f f':Frame}(h:eF P ok ρ f f')(l:ρ.le σ):eF P ok σ f f':=⟨h.fn,h.bh,h.tmps.mono l,h.todo.mono l,h.defers.mono l,h.mode,h.kind,h.fp,h.round.mono l⟩
def jd.mono {f f':List Frame}(h:jd P ok ρ f f')(l:ρ.le σ):jd P ok σ f f':=by
 induction h with
 |nil=>exact .nil
 |cons h _ ih=>exact .cons (h.mono l) ih
def mL.exit {id:Nat}:∀{l l':List Item},mL P ok ρ l l'->(exitTo id l=none/\exitTo id l'=none)\/∃k k',exitTo id l=some k/\exitTo id l'=some k'/\mL P ok ρ k k':=by
 intro l l' h;induction h with
 |nil=>exact .inl ⟨rfl,rfl⟩
 |@cons x x' l l' hx hl ih=>
  cases hx with
  |inBlock i=>
   simp only[exitTo];split
   .exact .inr ⟨_,_,rfl,rfl,hl⟩
   .exact ih
  |_=>exact ih
end
def tG (fr:Frame)(cs:List Frame):Prop:=∀f,(fr::cs).getLast?=some f->f.roundOf=none
inductive pn (P0 P:Program)(ok:Ctx)(σ:Ren)(lb rb:List Frame):Goroutine->Goroutine->Prop
 |inside {fr eQ:Frame} {cs cs':List Frame}:eF P ok σ fr eQ->jd P ok σ cs cs'->tG fr cs->pn P0 P ok σ lb rb (G fr<|cs++lb) (G eQ<|cs'++rb)
 |door {f:FuncId} {xs xs':Array Value} {cs cs':List Frame}:ok.fn f=true->ok.bh f=false->ax ok σ xs xs'->jd P ok σ cs cs'->cs≠[]->(∀f,cs.getLast?=some f->f.roundOf=none)->
   pn P0 P ok σ lb rb (G (Frame.enter P0 f xs .normal)<|cs++lb) (G (Frame.enter P f xs' .normal)<|cs'++rb)
structure Same (P0 P:Program)(ok:Ctx):Prop where
 same:∀f,ok.bh f=true->∃fn c,P0.funcs[f]?=some fn/\P.funcs[f]?=some fn/\fn.body=some c/\dh P ok.fn c=true
 code:∀c,ok.code c=dh P ok.fn c
omit [Gl] in
def jT (p:Program)(fn:FuncId)(es:Array Event):∀e∈seen p fn es,e∈es:=by
 unfold seen;simp only;have key:∀(l:List Event) (q:Bool) (kept:Array Event) (S:Event->Prop),(∀e∈l,S e)->(∀e∈kept,S e)->
   ∀e∈(l.foldl (λ(x:Bool×Array Event) (e:Event)=>match e.loc with|.mark (.extern f)=>((p.funcs[f]?).any (·.norace),x.2)|_=>(x.1,if x.1&&!e.sync then x.2 else x.2.push e)) (q,kept)).2,S e:=by
  intro l;induction l with
  |nil=>intro q kept S _ hk e he;exact hk e he
  |cons a l ih=>
   intro q kept S hl hk e he;simp only[List.foldl_cons]at he;split at he
   .exact ih _ _ S (λx hx=>hl x<|by simp[hx]) hk e he
   .refine ih _ _ S (λx hx=>hl x<|by simp[hx]) ?_ e he;split
    .exact hk
    .intro x hx;rcases Array.mem_push.1 hx with hx|rfl
     .exact hk x hx
     .exact hl _ aF
 intro e he;rw[<-Array.foldl_toList]at he;exact key es.toList _ #[] (λe=>e∈es) (λx hx=>by simpa using hx) (λx hx=>by simp at hx) e he
section
variable {ρ σ:Ren}
def eF.finish (h:eF P ok ρ fr eQ)(hv:ar ok ρ v v'):eF P ok ρ (fr.finish v) (eQ.finish v'):=by
 have ht:=h.todo;let⟨fn,tmps,todo,defers,mode,kind,roundOf⟩:=fr;let⟨dC,dl,j0,cY,pP,fp,bj⟩:=eQ;simp only at ht;cases ht with
 |nil=>exact h
 |cons hx hl=>
  cases hx with
  |inRegion t ho=>
   cases t with
   |nil=>exact h
   |cons i rest=>
    refine⟨h.fn,h.bh,?_,.cons (.inRegion _ ho) hl,h.defers,h.mode,h.kind,h.fp,h.round⟩;unfold Frame.finish;simp only;split
    .exact h.tmps.set hv _
    .exact h.tmps
  |inRangeFunc hr=>exact⟨h.fn,h.bh,h.tmps,.cons (.endRangeFunc hr) hl,h.defers,h.mode,h.kind,h.fp,h.round⟩
  |beginRound=>exact⟨h.fn,h.bh,h.tmps,hl,h.defers,h.mode,h.kind,h.fp,h.round⟩
  |_=>exact h
omit [Gl] in
def iI (fr:Frame)(v:Value):(fr.finish v).roundOf=fr.roundOf:=by
 unfold Frame.finish;split<;>rfl
omit [Gl] in
def uW (fr:Frame)(c:List PanicEntry):(fr.raise c).roundOf=fr.roundOf:=by
 unfold Frame.raise;split<;>rfl
omit [Gl] in
def tG.swap (h:tG fr cs)(e:fr2.roundOf=fr.roundOf):tG fr2 cs:=by
 intro f hf;cases cs with
 |nil=>
  simp only[List.getLast?_singleton,Option.some.injEq]at hf;subst hf;rw[e];exact h fr rfl
 |cons c cs=>exact h f<|by simpa using hf
omit [Gl] in
def tG.push (h:tG fr cs):tG fr2 (fr::cs):=by
 intro f hf;exact h f<|by simpa using hf
omit [Gl] in
def tG.pop (h:tG fr (c::cs))(e:fr2.roundOf=c.roundOf):tG fr2 cs:=by
 have:tG c cs:=λf hf=>h f<|by simpa using hf
 exact this.swap e
def mX (hS:Same P0 P ok)(hf:ok.bh f=true)(h:ax ok ρ xs xs'):eF P ok ρ (Frame.enter P0 f xs .normal) (Frame.enter P f xs' .normal):=by
 let⟨fn,c,h1,h2,h3,h4⟩:=hS.same f hf;unfold Frame.enter;rw[h1,h2];simp only[Option.map_some,Option.getD_some,Option.bind_some,h3];refine⟨rfl,hf,?_,.cons (.code h4) .nil,.nil,.run,rfl,rfl,.none⟩;rw[<-h.size];exact h.append<|ax.replicate lF _
omit [Gl] in
def zR.Vz {m m':FrameMode}(h:zR m m')(e:m=.run):m'=.run:=by subst e;cases h;rfl
def eF.raise (h:eF P ok ρ fr eQ)(c c':List PanicEntry):eF P ok ρ (fr.raise c) (eQ.raise c'):=by
 have hm:=h.mode;unfold Frame.raise;let⟨fn,tmps,todo,defers,mode,kind,roundOf⟩:=fr;let⟨dC,dl,j0,cY,pP,fp,bj⟩:=eQ;simp only at hm;cases hm with
 |run=>exact⟨h.fn,h.bh,h.tmps,h.todo,h.defers,.panicking,h.kind,h.fp,h.round⟩
 |returning=>exact⟨h.fn,h.bh,h.tmps,h.todo,h.defers,.panicking,h.kind,h.fp,h.round⟩
 |panicking=>exact⟨h.fn,h.bh,h.tmps,h.todo,h.defers,.panicking,h.kind,h.fp,h.round⟩
def mL.NG {l l':List Item}(h:mL P ok ρ l l'):(∀d b r s k,l≠.call d b r s::k)/\∀d b r s k,l'≠.call d b r s::k:=by
 cases h with
 |nil=>exact⟨aF,aF⟩
 |cons h _=>cases h<;>exact⟨aF,aF⟩
omit [Gl] in
def lO {s:Sem Next}(hr:s.runT p w #[]=(.ok (.enter f xs) w',es))(hn:∀d b r s k,fr.todo≠.call d b r s::k)(hk:fr.kind=.normal):
  stepG.apply p true fr cs none s w=.go (G (Frame.enter p f xs .normal)<|fr::cs) w' (seen p fr.fn es):=by
 have Fy:(CallKind.normal==CallKind.early)=false:=rfl;let⟨fn,tmps,todo,defers,mode,kind,roundOf⟩:=fr;simp only at hk hn;subst hk;cases todo with
 |nil=>simp only[stepG.apply,if_true,hr,GStep.after,Fy];simp[G]
 |cons x l=>
  cases x with
  |call d b r s=>exact absurd rfl (hn d b r s l)
  |_=>simp only[stepG.apply,if_true,hr,GStep.after,Fy];simp[G]
def tK (hS:Same P0 P ok){s:Sem Next}(hR:af P0 P ok str (λσ x y=>pt ok σ x y) ρ s s')(hf:eF P ok ρ fr eQ)(hc:jd P ok ρ cs cs')(hb:tG fr cs)
  (hw:bO ok str ρ V W)
  (h:stepG.apply P0 true fr (cs++lb) none s V=.go g2 V2 es):
  ∃σ h2 W2 yX,stepG.apply P true eQ (cs'++rb) none s' W=.go h2 W2 yX/\pn P0 P ok σ lb rb g2 h2/\bO ok str σ V2 W2/\iY ρ V W σ V2 W2/\∀e∈yX,oN σ V e:=by
 have Fy:(CallKind.normal==CallKind.early)=false:=rfl;have pg:=hf.todo.NG;generalize hr:s.runT P0 V #[]=x at h;let⟨r,e1⟩:=x;rcases hR.sound #[] #[] hw hr with dz|⟨σ,r',V',W',d',h1,h2,h4,h5⟩
 .exfalso;cases r with
  |ok a w=>cases dz
  |halt hh w=>
   cases hh with
   |stuck y=>simp only[stepG.apply,if_true,hr,GStep.after]at h;cases h
   |unsupported u=>
    cases u with
    |initOrder g=>cases dz
    |_=>simp only[stepG.apply,if_true,hr,GStep.after]at h;cases h
   |_=>cases dz
 .have mH:∀e∈seen P eQ.fn d',oN σ V e:=λe he=>h5 e (jT _ _ _ e he)
  have pa:s'.runT P W #[]=(r',d'):=by rw[h1];simp
  have J7:=hf.mono h4.le;have BW:=hc.mono h4.le;cases h2 with
  |@ok a b V' W' hN hw'=>
   cases hN with
   |@value v v' hv=>
    simp only[stepG.apply,if_true,hr,GStep.after,GStep.go.injEq,hf.kind,Fy]at h;obtain⟨rfl,rfl,_⟩:=h;refine⟨σ,G (eQ.finish v')<|cs'++rb,W',_,?_,.inside (J7.finish hv) BW<|hb.swap<|iI _ _,hw',h4,mH⟩;simp only[stepG.apply,if_true,pa,GStep.after,hf.fp,Fy];simp[G]
   |skip=>
    simp only[stepG.apply,if_true,hr,GStep.after,GStep.go.injEq,hf.kind,Fy]at h;obtain⟨rfl,rfl,_⟩:=h;refine⟨σ,G (eQ.finish undef)<|cs'++rb,W',_,?_,.inside (J7.finish lF) BW<|hb.swap<|iI _ _,hw',h4,mH⟩;simp only[stepG.apply,if_true,pa,GStep.after,hf.fp,Fy];simp[G]
   |@enter f xs xs' ez hx=>
    rw[lO hr pg.1 hf.kind]at h;simp only[GStep.go.injEq]at h;obtain⟨rfl,rfl,_⟩:=h;refine⟨σ,G (Frame.enter P f xs' .normal)<|(eQ::cs')++rb,W',_,lO pa pg.2 hf.fp,?_,hw',h4,mH⟩;cases hi:ok.bh f with
    |true=>exact .inside (cs:=fr::cs) (mX hS hi hx) (.cons J7 BW) hb.push
    |false=>exact .door (cs:=fr::cs) ez hi hx (.cons J7 BW) aF hb
   |@round l l' f xs xs' a b hl hi hx ha dw=>
    simp only[stepG.apply,if_true,hr,GStep.after,GStep.go.injEq,hf.kind,Fy]at h;obtain⟨rfl,rfl,_⟩:=h;refine⟨σ,G (Frame.round l' f xs' a b .normal)<|(eQ::cs')++rb,W',_,?_,?_,hw',h4,mH⟩
    .simp only[stepG.apply,if_true,pa,GStep.after,hf.fp,Fy];simp[G]
    .exact .inside (cs:=fr::cs) ⟨rfl,hi,hx,.cons (.code<|(hS.code _).symm.trans ha)<|.cons .beginRound<|.cons (.code<|(hS.code _).symm.trans dw) .nil,.nil,.run,rfl,rfl,.some hl⟩ (.cons J7 BW) hb.push
  |@panic v v' V' W' hv hw'=>
   simp only[stepG.apply,if_true,hr,GStep.after,GStep.go.injEq,hf.kind,Fy]at h;obtain⟨rfl,rfl,_⟩:=h;refine⟨σ,G (eQ.raise [{v:=v',recovered:=false}])<|cs'++rb,W',_,?_,.inside (J7.raise _ _) BW<|hb.swap<|uW _ _,hw',h4,mH⟩;simp only[stepG.apply,if_true,pa,GStep.after,hf.fp,Fy];simp[G]
end
section
variable {P0 P:Program}{ok:Ctx}{str:Bool}{ρ σ τ:Ren}{V W V1 W1 V2 W2:World}
def oN.shift (k1:iY ρ V W σ V1 W1)(k2:iY σ V1 W1 τ V2 W2){e:Event}(h:oN τ V1 e):oN τ V e:=by
 have key:∀b d,τ b=some d->Ro V b->Ro V1 b:=by
  intro b d hb hro;let⟨c,el,hc⟩:=hro;have aB:b<V:=(ac7.1 hc).1;rcases k2.new _ _ hb with h1|⟨h1,_⟩
  .rcases k1.new _ _ h1 with h2|⟨h2,_⟩
   .exact⟨c,el,by rw[(k1.ro _ _ h2 ⟨c,el,hc⟩).1];exact hc⟩
   .omega
  .have:=k1.AY;omega
 rcases h with⟨s,a,a',e1,r,w⟩|⟨s,r,r',e1,h,n⟩|h
 .exact .inl ⟨s,a,a',e1,r,λhw hro=>w hw<|key _ _ r.blk hro⟩
 .exact .inr (.inl ⟨s,r,r',e1,h,λhro=>n<|key _ _ h hro⟩)
 .exact .inr (.inr h)
def Ow {f f':α->Sem Value}{l:List α}:∀{ρ:Ren},(∀a∈l,∀{σ:Ren},ρ.le σ->af P0 P ok str (ar ok) σ (f a) (f' a))->af P0 P ok str (λσ x y=>iD ok σ x y) ρ (l.mapM f) (l.mapM f'):=by
 induction l with
 |nil=>intro ρ _;simp only[List.mapM_nil];exact ag .nil
 |cons a l ih=>
  intro ρ h;simp only[List.mapM_cons];refine ae _ (h a aF<|Ren.le_refl _) ?_;intro σ x x' le hx;refine ae _ (ih λb hb _ ZA=>h b (by simp[hb])<|le.trans ZA) ?_;intro τ xs xs' ZA vA;exact ag<|.cons (hx.mono ZA) vA
def ox (hT:P0.toTables=P.toTables)(fn:Func)(h:ax ok ρ xs xs'):af P0 P ok str (ar ok) ρ (results fn xs) (results fn xs'):=by
 unfold results;rw[Array.mapM_eq_mapM_toList,Array.mapM_eq_mapM_toList];refine ae (λσ x y=>ax ok σ x y) ?_ ?_
 .refine ae _ (Ow ?_) ?_
  .intro a _ σ le;cases a with
   |tmp t=>exact ag ((h.mono le).getD t)
   |cell a t=>
    refine ae _ (ui hT<|(h.mono le).getD a) ?_;intro τ x y _ r;exact rZ hT t r
  .intro σ x y _ hx;exact ag hx.array
 .intro σ x y _ hx;by_cases e:x.size=1
  .have e':y.size=1:=hx.size▸e;rw[dif_pos e,dif_pos e'];exact ag<|hx.at_ 0 _ _ (adc _)<|adc _
  .have e':¬y.size=1:=hx.size▸e;rw[dif_neg e,dif_neg e'];exact ag<|.tuple hx.size hx.at_
def vc (hl:ρ l=some l')(jump:Option Code)(hj:∀c,jump=some c->ok.code c=true):af P0 P ok str (ar ok) ρ (Instr.endRound l jump) (Instr.endRound l' jump):=by
 refine ae _ (lx hl) ?_;intro σ r r' le hr;refine af.setObj (le _ _ hl) (.loop ⟨rfl,rfl,hr.fn,hr.tmps,hr.params,hr.assign,hr.body,hr.defers,hr.bh,hr.ZQ,hr.ZR,hj⟩) ?_;exact .pure<|.bool _
def qU (hT:P0.toTables=P.toTables)(hl:ρ l=some l'):af P0 P ok str (λ_ _ _=>True) ρ (Instr.beginRound l) (Instr.beginRound l'):=by
 refine ae _ (lx hl) ?_;intro σ r r' le hr;refine af.setObj (le _ _ hl) (.loop ⟨rfl,hr.pending,hr.fn,hr.tmps,hr.params,hr.assign,hr.body,hr.defers,hr.bh,hr.ZQ,hr.ZR,hr.ok3⟩) ?_;show af P0 P ok str _ σ (match r.state with|.ready=>pure ()|.done=>runtimePanic (.error _)|.busy=>runtimePanic (.error _)|.exhausted=>runtimePanic<|.error _) (match r'.state with|.ready=>pure ()|.done=>runtimePanic (.error _)|.busy=>runtimePanic (.error _)|.exhausted=>runtimePanic<|.error _);rw[hr.state];cases r.state with
 |ready=>exact ag trivial
 |_=>exact eT hT (.error _) rfl
def yF (hT:P0.toTables=P.toTables)(hl:ρ l=some l'):af P0 P ok str (λ_ x y=>x=y/\∀c,x=some c->ok.code c=true) ρ (Instr.endLoop l) (Instr.endLoop l'):=by
 refine ae _ (lx hl) ?_;intro σ r r' le hr;rw[hr.state];split
 .exact eT hT (.error _) rfl
 .refine af.setObj (le _ _ hl) (.loop ⟨rfl,hr.pending,hr.fn,hr.tmps,hr.params,hr.assign,hr.body,hr.defers,hr.bh,hr.ZQ,hr.ZR,hr.ok3⟩) ?_;exact .pure ⟨hr.pending.symm,hr.ok3⟩
def Jl {r r':Nat}(hr:ρ r=some r'):af P0 P ok str (λ_ x y=>x=[]/\y=[]) ρ (Instr.takeDeferred r) (Instr.takeDeferred r'):=by
 refine af.getObj hr λo o' ho=>?_
 cases ho with
 |deferred=>exact af.setObj hr .taken (.pure ⟨rfl,rfl⟩)
 |_=>exact .halt _ _
def tm (fn:FuncId)(hi:ok.bh fn=true)(h:ax ok ρ xs xs')(params:Array Tmp){a b:Code}(ha:ok.code a=true)(hb:ok.code b=true){r r':Option Nat}(hr:wj ρ r r'):
  af P0 P ok str (λσ x y=>σ x.1=some y.1/\kR σ x.2 y.2) ρ (Instr.enterLoop fn xs params a b r) (Instr.enterLoop fn xs' params a b r'):=by
 unfold Instr.enterLoop;have fin:∀{σ:Ren} {d d':Nat} {m m':List Deferred},ρ.le σ->σ d=some d'->kR σ m m'->
   af P0 P ok str (λσ x y=>σ x.1=some y.1/\kR σ x.2 y.2) σ (do pure (<-newObj (.loop {state:=.ready,pending:=none,fn,tmps:=xs,params,assign:=a,body:=b,defers:=d}),m))
    (do pure (<-newObj (.loop {state:=.ready,pending:=none,fn,tmps:=xs',params,assign:=a,body:=b,defers:=d'}),m')):=by
  intro σ d d' m m' le hd hm;refine af.new (.loop ⟨rfl,rfl,rfl,h.mono le,rfl,rfl,rfl,hd,hi,ha,hb,aF⟩) ?_;intro τ x y ZA e;exact .pure ⟨e,hm.mono ZA⟩
 cases hr with
 |none=>
  refine af.new .deferred ?_;intro σ x y le e;exact fin le e (.cons e .nil)
 |some hl=>
  refine ae _ (lx hl) ?_;intro σ q q' le hq;exact fin le hq.defers .nil
def eF.eval (h:eF P ok ρ fr eQ):zP ok ρ fr.eval eQ.eval:=by
 intro x hx;cases x with
 |tmp t=>exact h.tmps.getD t
 |const v=>exact so hx
 |global g=>cases hx
 |func f=>exact .func (.func hx) rfl ax.nil.at_ rfl ax.nil.at_
def yK (h:ax ok ρ xs xs')(ops:Array Oper):yielded ops xs'=yielded ops xs:=by
 funext j;unfold yielded;cases ((ops[j]?).bind (·.dst))with
 |none=>rfl
 |some d=>
  simp only[Option.bind_some];cases hx:xs[d]? with
  |none=>rw[h.none hx]
  |some x=>
   let⟨x',dG,r⟩:=h.get hx;rw[dG];cases r with
   |hole h=>cases x'<;>first|rfl|cases h
   |_=>rfl
structure dM (P0 P:Program)(ok:Ctx):Prop extends Callable P0 P ok,Same P0 P ok where
 tab:P0.toTables=P.toTables
 DL:P.globals.size=Gl.n
def dZ (P0 P:Program)(ok:Ctx)(str:Bool)(ρ:Ren)(lb rb:List Frame)(V W:World)(g2:Goroutine)(V2:World)(s:GStep):Prop:=
 ∃σ h2 W2 yX,s=.go h2 W2 yX/\pn P0 P ok σ lb rb g2 h2/\bO ok str σ V2 W2/\iY ρ V W σ V2 W2/\∀e∈yX,oN σ V e
omit [Gl] in
def fd (h:GStep.after es (.ended o w)=.go g w' jL):False:=by
 simp[GStep.after]at h
def tV (hf:eF P ok ρ fr eQ)(hc:jd P ok ρ cs cs')(hb:tG fr cs)(hw:bO ok str ρ V W)
  (jump:Option Code)(hj:∀c,jump=some c->ok.code c=true)(hr:fr.roundOf=some l)(hl:ρ l=some l')
  (h:(let(r,es):=(Instr.endRound l jump).runT P0 V #[];GStep.after (seen P0 fr.fn es)<|match r with|.ok v w=>doReturn P0 G3 fr (cs++lb) none v w|.halt _ w=>.ended (.stuck "range over a function: no such loop"<|fr.pos P0) w)=.go g2 V2 es):
  dZ P0 P ok str ρ lb rb V W g2 V2 (let(r,es):=(Instr.endRound l' jump).runT P W #[];GStep.after (seen P eQ.fn es)<|match r with|.ok v w=>doReturn P acR eQ (cs'++rb) none v w|.halt _ w=>.ended (.stuck "range over a function: no such loop"<|eQ.pos P) w):=by
 generalize d6:(Instr.endRound l jump).runT P0 V #[]=x at h;let⟨r,e1⟩:=x;rcases(vc (P0:=P0) (P:=P) (str:=str) hl jump hj).sound #[] #[] hw d6 with dz|⟨σ,r',V',W',d',h1,h2,h4,h5⟩
 .exfalso;cases r with
  |ok a w=>cases dz
  |halt hh w=>exact fd h
 .have pa:(Instr.endRound l' jump).runT P W #[]=(r',d'):=by rw[h1];simp
  cases h2 with
  |panic _ _=>exact(fd h).elim
  |@ok v v' V' W' hv hw'=>
   cases hc with
   |nil=>
    have:=hb fr rfl;rw[hr]at this;cases this
   |@cons c c' cs cs' MJ hcs=>
    simp only[List.cons_append,doReturn,hf.kind,GStep.after,GStep.go.injEq]at h;obtain⟨rfl,rfl,_⟩:=h;refine⟨σ,G (c'.finish v')<|cs'++rb,W',seen P eQ.fn d',?_,.inside ((MJ.mono h4.le).finish hv) (hcs.mono h4.le)<|hb.pop<|iI _ _,hw',h4,λe he=>h5 e<|jT _ _ _ e he⟩;rw[pa];simp[List.cons_append,doReturn,hf.fp,GStep.after,G]
end
section
variable {ρ σ τ:Ren}
omit [Gl] in
def ul (h:fr.mode=.run):stepG p m (G fr cs) w=stepG.exec p m true fr cs none w:=by
 simp only[G,stepG,h]
omit [Gl] in
def jy (h:fr.mode≠.run):stepG p m (G fr cs) w=unwind p m fr cs none w:=by
 cases hm:fr.mode with
 |run=>exact absurd hm h
 |_=>simp only[G,stepG,hm]
def kR.append {a a' b b':List Deferred}(h:kR ρ a a')(h':kR ρ b b'):kR ρ (a++b) (a'++b'):=by
 induction h with
 |nil=>exact h'
 |cons h _ ih=>exact .cons h ih
def dU {fr2':Frame}(hf:eF P ok ρ fr2 fr2')(hc:jd P ok ρ cs cs')(hb:tG fr cs)(e:fr2.roundOf=fr.roundOf)(hw:bO ok str ρ V W)
  {s':GStep}(h:s=.go g2 V2 es)(hs:s=.go (G fr2<|cs++lb) V)(mJ:s'=.go (G fr2'<|cs'++rb) W):dZ P0 P ok str ρ lb rb V W g2 V2 s':=by
 rw[hs]at h;simp only[GStep.go.injEq]at h;obtain⟨rfl,rfl,_⟩:=h;exact⟨ρ,_,W,#[],mJ,.inside hf hc<|hb.swap e,hw,iY.refl _ _ _,aF⟩
def dZ.vN (k:iY ρ V W σ V1 W1)(h:dZ P0 P ok str σ lb rb V1 W1 g2 V2 s)(he:∀e∈es,oN σ V e):dZ P0 P ok str ρ lb rb V W g2 V2 (GStep.after es s):=by
 obtain⟨τ,h2,W2,yX,rfl,hg,hw,hk,mH⟩:=h;refine⟨τ,h2,W2,es++yX,rfl,hg,hw,k.trans hk,λe hx=>?_⟩;rcases Array.mem_append.1 hx with hx|hx
 .exact(he e hx).mono hk.le
 .exact(mH e hx).shift k hk
omit [Gl] in
def kS (h:GStep.after es s=.go g w jL):∃yX,s=.go g w yX:=by
 cases s<;>simp only[GStep.after,GStep.go.injEq,reduceCtorEq]at h
 obtain⟨rfl,rfl,_⟩:=h;exact⟨_,rfl⟩
def Ml (hP:dM P0 P ok)(hf:eF P ok ρ fr eQ)(hc:jd P ok ρ cs cs')(hb:tG fr cs)(hw:bO ok str ρ V W)(hm:fr.mode=.run)
  (h:stepG.exec P0 G3 true fr (cs++lb) none V=.go g2 V2 es):dZ P0 P ok str ρ lb rb V W g2 V2 (stepG.exec P acR true eQ (cs'++rb) none W):=by
 have mH:=hf.eval;let⟨fn,tmps,todo,defers,mode,kind,roundOf⟩:=fr;let⟨dC,dl,j0,cY,pP,fp,bj⟩:=eQ;have ht:=hf.todo;have hro:=hf.round;have sz:=hf.fn;have hk:=hf.kind;have pc:=hf.fp;have tU:=hf.mode;have hi:=hf.bh;simp only at ht hro sz hk pc hm tU hi;subst hm hk pc sz;cases tU;have to_:∀{k2 WT:List Item},mL P ok ρ k2 WT->eF P ok ρ ⟨dC,tmps,k2,defers,.run,.normal,roundOf⟩ ⟨dC,dl,WT,cY,.run,.normal,bj⟩:=λhk=>⟨rfl,hi,hf.tmps,hk,hf.defers,.run,rfl,rfl,hro⟩
 have Z5:eF P ok ρ ⟨dC,tmps,todo,defers,.returning,.normal,roundOf⟩ ⟨dC,dl,j0,cY,.returning,.normal,bj⟩:=⟨rfl,hi,hf.tmps,ht,hf.defers,.returning,rfl,rfl,hro⟩;cases ht with
 |nil=>
  cases hro with
  |none=>exact dU Z5 hc hb rfl hw h rfl rfl
  |some hl=>exact tV hf hc hb hw none aF rfl hl h
 |@cons x x' k k' hx mY=>
  cases hx with
  |inBlock id=>exact dU (to_ mY) hc hb rfl hw h rfl rfl
  |@inLoop body fB=>exact dU (to_<|.cons (.code fB)<|.cons (.inLoop fB) mY) hc hb rfl hw h rfl rfl
  |inRangeFunc hl=>cases h
  |@endRangeFunc l l' hl=>
   have h':(let(r,es):=(Instr.endLoop l).runT P0 V #[];GStep.after (seen P0 dC es)<|match r with
    |.ok jump w=>.go (G ⟨dC,tmps,(jump.map Item.code).toList++k,defers,.run,.normal,roundOf⟩<|cs++lb) w
    |.halt (.panic v) w=>.go (G (Frame.raise ⟨dC,tmps,.endRangeFunc l::k,defers,.run,.normal,roundOf⟩ [{v,recovered:=false}])<|cs++lb) w
    |.halt _ w=>.ended (.stuck "range over a function: no such loop"<|Frame.pos P0 ⟨dC,tmps,.endRangeFunc l::k,defers,.run,.normal,roundOf⟩) w)=.go g2 V2 es:=h
   show dZ P0 P ok str ρ lb rb V W g2 V2 (let(r,es):=(Instr.endLoop l').runT P W #[];GStep.after (seen P dC es)<|match r with
    |.ok jump w=>.go (G ⟨dC,dl,(jump.map Item.code).toList++k',cY,.run,.normal,bj⟩<|cs'++rb) w
    |.halt (.panic v) w=>.go (G (Frame.raise ⟨dC,dl,.endRangeFunc l'::k',cY,.run,.normal,bj⟩ [{v,recovered:=false}])<|cs'++rb) w
    |.halt _ w=>.ended (.stuck "range over a function: no such loop"<|Frame.pos P ⟨dC,dl,.endRangeFunc l'::k',cY,.run,.normal,bj⟩) w)
   clear h;generalize d6:(Instr.endLoop l).runT P0 V #[]=x at h';let⟨r,e1⟩:=x;rcases(yF (P0:=P0) (P:=P) (str:=str) hP.tab hl).sound #[] #[] hw d6 with dz|⟨σ,r',V',W',d',h1,h2,h4,h5⟩
   .exfalso;cases r with
    |ok a w=>cases dz
    |halt hh w=>cases hh<;>first|cases dz;done|exact fd h'
   .have pa:(Instr.endLoop l').runT P W #[]=(r',d'):=by rw[h1];simp
    rw[pa];let⟨PY,h3⟩:=kS h';refine dZ.vN h4 ?_ λe he=>h5 e<|jT _ _ _ e he;cases h2 with
    |@ok j j' V' W' hv hw'=>
     obtain⟨rfl,hj⟩:=hv;refine dU (fr:=⟨dC,tmps,.endRangeFunc l::k,defers,.run,.normal,roundOf⟩) (fr2:=⟨dC,tmps,(j.map Item.code).toList++k,defers,.run,.normal,roundOf⟩) (fr2':=⟨dC,dl,(j.map Item.code).toList++k',cY,.run,.normal,bj⟩)
      ⟨rfl,hi,hf.tmps.mono h4.le,?_,hf.defers.mono h4.le,.run,rfl,rfl,hro.mono h4.le⟩ (hc.mono h4.le) hb rfl hw' h3 rfl rfl
     cases j with
     |none=>exact mY.mono h4.le
     |some c=>exact .cons (.code<|(hP.code c).symm.trans<|hj c rfl) (mY.mono h4.le)
    |@panic v v' V' W' hv hw'=>exact dU (fr:=⟨dC,tmps,.endRangeFunc l::k,defers,.run,.normal,roundOf⟩) ((hf.mono h4.le).raise _ _) (hc.mono h4.le) hb rfl hw' h3 rfl rfl
  |beginRound=>
   refine tK hP.toSame ?_ hf hc hb hw h;refine CR (A:=λ_ _ _=>True) ?_;cases hro with
   |none=>exact .halt _ _
   |some hl=>exact qU hP.tab hl
  |@inRegion ops todo ho=>
   cases todo with
   |nil=>exact dU (to_ mY) hc hb rfl hw h rfl rfl
   |cons i rest=>
    have h':(if((ops[i]?).map (Region.wanted ·<|yielded ops tmps)).getD false then stepG.oper P0 true ⟨dC,tmps,.inRegion ops (i::rest)::k,defers,.run,.normal,roundOf⟩ (cs++lb) none V
     else .go (G (Frame.finish ⟨dC,tmps,.inRegion ops (i::rest)::k,defers,.run,.normal,roundOf⟩ undef)<|cs++lb) V)=.go g2 V2 es:=h
    show dZ P0 P ok str ρ lb rb V W g2 V2 (if((ops[i]?).map (Region.wanted ·<|yielded ops dl)).getD false then stepG.oper P true ⟨dC,dl,.inRegion ops (i::rest)::k',cY,.run,.normal,bj⟩ (cs'++rb) none W
     else .go (G (Frame.finish ⟨dC,dl,.inRegion ops (i::rest)::k',cY,.run,.normal,bj⟩ undef)<|cs'++rb) W)
    clear h;rw[yK hf.tmps];split at h'
    .rename_i qN;rw[if_pos qN];cases UQ:ops[i]? with
     |none=>rw[UQ]at qN;cases qN
     |some o=>
      have bz:lJ P ok.fn o.op=true:=by
       rw[Array.all_eq_true]at ho;obtain⟨aB,rfl⟩:=ac7.1 UQ;exact ho i aB
      have nd:∀c,o.op≠.defer c:=by
       intro c e;rw[e]at bz;cases bz
      have e1:∀(Q:Program) (t:Array Value) (kk:List Item) (d:List Deferred) (ro:Option Nat) (cc:List Frame) (w:World),stepG.oper Q true ⟨dC,t,.inRegion ops (i::rest)::kk,d,.run,.normal,ro⟩ cc none w=
        stepG.apply Q true ⟨dC,t,.inRegion ops (i::rest)::kk,d,.run,.normal,ro⟩ cc none (execOp (Frame.eval ⟨dC,t,.inRegion ops (i::rest)::kk,d,.run,.normal,ro⟩) o) w:=by
       intro Q t kk d ro cc w;simp only[stepG.oper,Frame.oper?,UQ];split
       .rename_i e;exact absurd e<|nd _
       .rfl
      rw[e1]at h'⊢;exact tK hP.toSame (SY hP.tab hP.DL hP.toCallable o bz mH (λ_=>⟨rfl,rfl⟩) λ_=>rfl) hf hc hb hw h'
    .rename_i qN;rw[if_neg qN];exact dU (hf.finish lF) hc hb (iI _ _) hw h' rfl rfl
  |@code c fB=>
   cases c with
   |skip=>exact dU (to_ mY) hc hb rfl hw h rfl rfl
   |seq a b=>
    simp only[dh,Bool.and_eq_true]at fB;exact dU (to_<|.cons (.code fB.1)<|.cons (.code fB.2) mY) hc hb rfl hw h rfl rfl
   |cond c a b=>
    simp only[dh,Bool.and_eq_true]at fB;have he:=mH c fB.1.1;have h':(match Frame.eval ⟨dC,tmps,.code (.cond c a b)::k,defers,.run,.normal,roundOf⟩ c with
     |.bool t=>GStep.go (G ⟨dC,tmps,.code (if t then a else b)::k,defers,.run,.normal,roundOf⟩<|cs++lb) V
     |_=>.ended (.stuck "cond: bool expected"<|Frame.pos P0 ⟨dC,tmps,.code (.cond c a b)::k,defers,.run,.normal,roundOf⟩) V)=.go g2 V2 es:=h
    show dZ P0 P ok str ρ lb rb V W g2 V2 (match Frame.eval ⟨dC,dl,.code (.cond c a b)::k',cY,.run,.normal,bj⟩ c with
     |.bool t=>GStep.go (G ⟨dC,dl,.code (if t then a else b)::k',cY,.run,.normal,bj⟩<|cs'++rb) W
     |_=>.ended (.stuck "cond: bool expected"<|Frame.pos P ⟨dC,dl,.code (.cond c a b)::k',cY,.run,.normal,bj⟩) W)
    clear h;generalize Frame.eval ⟨dC,tmps,.code (.cond c a b)::k,defers,.run,.normal,roundOf⟩ c=v at he h';generalize Frame.eval ⟨dC,dl,.code (.cond c a b)::k',cY,.run,.normal,bj⟩ c=v' at he;cases he with
    |bool t=>
     refine dU (to_<|.cons (.code (c:=if t then a else b) ?_) mY) hc hb rfl hw h' rfl rfl;cases t
     .exact fB.2
     .exact fB.1.2
    |_=>cases h'
   |block id b=>exact dU (to_<|.cons (.code (c:=b) fB)<|.cons (.inBlock id) mY) hc hb rfl hw h rfl rfl
   |loop b=>exact dU (to_<|.cons (.code (c:=b) fB)<|.cons (.inLoop (c:=b) fB) mY) hc hb rfl hw h rfl rfl
   |exit id=>
    rcases mY.exit (id:=id)with⟨n1,n2⟩|⟨q,q',s1,s2,hq⟩
    .simp only[stepG.exec,n1,Option.elim_none]at h;simp only[stepG.exec,n2,Option.elim_none];cases hro with
     |none=>simp at h
     |some hl=>exact tV hf hc hb hw (some<|.exit id) (by simp[hP.code,dh]) rfl hl h
    .simp only[stepG.exec,s1,Option.elim_some]at h;simp only[stepG.exec,s2,Option.elim_some];exact dU (to_ hq) hc hb rfl hw h rfl rfl
   |ret=>
    cases hro with
    |none=>exact dU Z5 hc hb rfl hw h rfl rfl
    |some hl=>exact tV hf hc hb hw (some .ret) (by simp[hP.code,dh]) rfl hl h
   |region id ops draw=>
    cases draw with
    |false=>exact dU (to_<|.cons (.inRegion _ fB) mY) hc hb rfl hw h rfl rfl
    |true=>
     have hq:(Question.order dC id).forced=false:=rfl;simp only[stepG.exec,choose,Sem.run,hq,Bool.not_true,Bool.false_eq_true,if_false]at h⊢;have e:W.tape W.drawn (.order dC id)=V.tape V.drawn (.order dC id):=by rw[hw.tape,hw.drawn]
     have hw':bO ok str ρ {V with drawn:=V.drawn+1} {W with drawn:=W.drawn+1}:=⟨hw.heap,hw.tape,by simp only[hw.drawn],hw.gV,hw.gW⟩;rw[e,show P.follows .mixedOrders=P0.follows .mixedOrders by rw[hP.tab]];have:=dU (P0:=P0) (rb:=rb) (to_<|.cons (.inRegion (Region.schedule (P0.follows .mixedOrders) ops<|(Question.order dC id).cut<|V.tape V.drawn<|.order dC id) fB) mY) hc hb rfl hw' h rfl rfl;let⟨σ,h2,W2,yX,a1,a2,a3,a4,a5⟩:=this;exact⟨σ,h2,W2,yX,a1,a2,a3,⟨a4.le,a4.keep,a4.ro,a4.size,a4.AY,a4.new,a4.tape,a4.os,a4.out⟩,a5⟩
   |rangeFunc f params a b=>
    simp only[dh,Bool.and_eq_true]at fB;have h':(let(r,es):=(Instr.enterLoop dC tmps params a b roundOf).runT P0 V #[];GStep.after (seen P0 dC es)<|match r with
     |.ok (l,mark) w=>stepG.apply P0 true ⟨dC,tmps,.inRangeFunc l::k,mark++defers,.run,.normal,roundOf⟩ (cs++lb) none (do let d <-resolve (Frame.eval ⟨dC,tmps,.inRangeFunc l::k,mark++defers,.run,.normal,roundOf⟩) {callee:=.value f,args:=#[.const<|.func (.yield l) #[] #[]],argTypes:=#[]} 0;invoke d.target d.args) w
     |.halt _ w=>.ended (.stuck "range over a function: no such loop"<|Frame.pos P0 ⟨dC,tmps,.code (.rangeFunc f params a b)::k,defers,.run,.normal,roundOf⟩) w)=.go g2 V2 es:=h
    show dZ P0 P ok str ρ lb rb V W g2 V2 (let(r,es):=(Instr.enterLoop dC dl params a b bj).runT P W #[];GStep.after (seen P dC es)<|match r with
     |.ok (l,mark) w=>stepG.apply P true ⟨dC,dl,.inRangeFunc l::k',mark++cY,.run,.normal,bj⟩ (cs'++rb) none (do let d <-resolve (Frame.eval ⟨dC,dl,.inRangeFunc l::k',mark++cY,.run,.normal,bj⟩) {callee:=.value f,args:=#[.const<|.func (.yield l) #[] #[]],argTypes:=#[]} 0;invoke d.target d.args) w
     |.halt _ w=>.ended (.stuck "range over a function: no such loop"<|Frame.pos P ⟨dC,dl,.code (.rangeFunc f params a b)::k',cY,.run,.normal,bj⟩) w)
    clear h;generalize d6:(Instr.enterLoop dC tmps params a b roundOf).runT P0 V #[]=x at h';let⟨r,e1⟩:=x;rcases(tm (P0:=P0) (P:=P) (str:=str) dC hi hf.tmps params ((hP.code a).trans fB.1.2) ((hP.code b).trans fB.2) hro).sound #[] #[] hw d6 with dz|⟨σ,r',V',W',d',h1,h2,h4,h5⟩
    .exfalso;cases r with
     |ok a w=>cases dz
     |halt hh w=>exact fd h'
    .have pa:(Instr.enterLoop dC dl params a b bj).runT P W #[]=(r',d'):=by rw[h1];simp
     rw[pa];let⟨PY,h3⟩:=kS h';refine dZ.vN h4 ?_ λe he=>h5 e<|jT _ _ _ e he;cases h2 with
     |panic _ _=>cases h3
     |@ok j j' V' W' hv hw'=>
      let⟨l,mark⟩:=j;let⟨l',sV⟩:=j';let⟨hl,O6⟩:=hv;have Sg:eF P ok σ ⟨dC,tmps,.inRangeFunc l::k,mark++defers,.run,.normal,roundOf⟩ ⟨dC,dl,.inRangeFunc l'::k',sV++cY,.run,.normal,bj⟩:=
       ⟨rfl,hi,hf.tmps.mono h4.le,.cons (.inRangeFunc hl)<|mY.mono h4.le,O6.append<|hf.defers.mono h4.le,.run,rfl,rfl,hro.mono h4.le⟩
      refine tK hP.toSame ?_ Sg (hc.mono h4.le) (hb.swap rfl) hw' h3;have UA:=Sg.eval f fB.1.1;have hy:ax ok σ #[.func (.yield l) #[] #[]] #[.func (.yield l') #[] #[]]:=ax.nil.push<|.func (.yield hl) rfl ax.nil.at_ rfl ax.nil.at_;unfold resolve;dsimp only;generalize Frame.eval ⟨dC,tmps,.inRangeFunc l::k,mark++defers,.run,.normal,roundOf⟩ f=v at UA;generalize Frame.eval ⟨dC,dl,.inRangeFunc l'::k',sV++cY,.run,.normal,bj⟩ f=v' at UA;cases UA with
      |func sz e1 g1 e2 g2=>
       refine aZ ?_;exact uj hP.tab hP.toCallable (.fn sz ⟨e2,g2⟩) aF (ax.append ⟨e1,g1⟩<|by simpa[Frame.eval]using hy)
      |nilFunc=>exact eT hP.tab .nilDeref rfl
      |hole _=>exact .dead _ _ λV=>pK hP.hole _ V
      |_=>exact .halt _ _
   |_=>cases fB
def Hv (hP:dM P0 P ok)(hf:eF P ok ρ fr eQ)(hc:jd P ok ρ cs cs')(hb:tG fr cs)(hw:bO ok str ρ V W)(hm:fr.mode≠.run)(hl:cs=[]->fr.defers≠[])
  (h:unwind P0 G3 fr (cs++lb) none V=.go g2 V2 es):dZ P0 P ok str ρ lb rb V W g2 V2 (unwind P acR eQ (cs'++rb) none W):=by
 let⟨fn,tmps,todo,defers,mode,kind,roundOf⟩:=fr;let⟨dC,dl,j0,cY,pP,fp,bj⟩:=eQ;have sz:=hf.fn;have hk:=hf.kind;have pc:=hf.fp;have tU:=hf.mode;have hi:=hf.bh;have hd:=hf.defers;simp only at sz hk pc hm tU hi hd hl;subst hk pc sz;let⟨F,c,f1,f2,f3,f4⟩:=hP.same dC hi;cases hd with
 |@cons r0 Pe ds F_ hr Yv=>
  have h':(let(r,es):=(Instr.takeDeferred r0).runT P0 V #[];GStep.after (seen P0 dC es)<|match r with
   |.ok calls w=>.go (G ⟨dC,tmps,todo,calls++ds,mode,.normal,roundOf⟩<|cs++lb) w
   |.halt _ w=>.ended (.stuck "the deferred calls of a range-over-func loop have been taken"<|Frame.pos P0 ⟨dC,tmps,todo,{target:=.collected r0,args:=#[]}::ds,mode,.normal,roundOf⟩) w)=.go g2 V2 es:=h
  show dZ P0 P ok str ρ lb rb V W g2 V2 (let(r,es):=(Instr.takeDeferred Pe).runT P W #[];GStep.after (seen P dC es)<|match r with
   |.ok calls w=>.go (G ⟨dC,dl,j0,calls++F_,pP,.normal,bj⟩<|cs'++rb) w
   |.halt _ w=>.ended (.stuck "the deferred calls of a range-over-func loop have been taken"<|Frame.pos P ⟨dC,dl,j0,{target:=.collected Pe,args:=#[]}::F_,pP,.normal,bj⟩) w)
  clear h;generalize d6:(Instr.takeDeferred r0).runT P0 V #[]=x at h';let⟨r,e1⟩:=x;rcases(Jl (P0:=P0) (P:=P) (ok:=ok) (str:=str) hr).sound #[] #[] hw d6 with dz|⟨σ,r',V',W',d',h1,h2,h4,h5⟩
  .exfalso;cases r with
   |ok a w=>cases dz
   |halt hh w=>exact fd h'
  .have pa:(Instr.takeDeferred Pe).runT P W #[]=(r',d'):=by rw[h1];simp
   rw[pa];let⟨PY,h3⟩:=kS h';refine dZ.vN h4 ?_ λe he=>h5 e<|jT _ _ _ e he;cases h2 with
   |panic _ _=>cases h3
   |@ok j j' V' W' hv hw'=>
    obtain⟨rfl,rfl⟩:=hv;exact dU (fr2:=⟨dC,tmps,todo,ds,mode,.normal,roundOf⟩) (fr2':=⟨dC,dl,j0,F_,pP,.normal,bj⟩)
     ⟨rfl,hi,hf.tmps.mono h4.le,hf.todo.mono h4.le,Yv.mono h4.le,tU,rfl,rfl,hf.round.mono h4.le⟩ (hc.mono h4.le) hb rfl hw' h3 rfl rfl
 |nil=>
  cases hc with
  |nil=>exact absurd rfl (hl rfl)
  |@cons a a' cs cs' ha hcs=>
   cases tU with
   |run=>exact absurd rfl hm
   |@panicking ch ch'=>
    have c1:Frame.catches P0 ⟨dC,tmps,todo,[],.panicking ch,.normal,roundOf⟩=false:=by simp[Frame.catches,f1]
    have c2:Frame.catches P ⟨dC,dl,j0,[],.panicking ch',.normal,bj⟩=false:=by simp[Frame.catches,f2]
    simp only[unwind,c1,List.cons_append,Bool.false_eq_true,if_false,GStep.go.injEq]at h;obtain⟨rfl,rfl,_⟩:=h;refine⟨ρ,G (a'.raise ch')<|cs'++rb,W,#[],?_,.inside (ha.raise _ _) hcs<|hb.pop<|uW _ _,hw,iY.refl _ _ _,aF⟩;simp only[unwind,c2,List.cons_append,Bool.false_eq_true,if_false];rfl
   |returning=>
    have h':(let(r,es):=(results F tmps).runT P0 V #[];GStep.after (seen P0 dC es)<|match r with
     |.ok v w=>.go (G (a.finish v)<|cs++lb) w
     |.halt (.stuck s) w=>.ended (.stuck s<|Frame.pos P0 ⟨dC,tmps,todo,[],.returning,.normal,roundOf⟩) w
     |.halt _ w=>.ended (.stuck "return: the result variables cannot be read"<|Frame.pos P0 ⟨dC,tmps,todo,[],.returning,.normal,roundOf⟩) w)=.go g2 V2 es:=by
     rw[<-h];simp only[unwind,f1,List.cons_append,doReturn];rfl
    have e':unwind P acR ⟨dC,dl,j0,[],.returning,.normal,bj⟩ (a'::cs'++rb) none W=(let(r,es):=(results F dl).runT P W #[];GStep.after (seen P dC es)<|match r with
     |.ok v w=>.go (G (a'.finish v)<|cs'++rb) w
     |.halt (.stuck s) w=>.ended (.stuck s<|Frame.pos P ⟨dC,dl,j0,[],.returning,.normal,bj⟩) w
     |.halt _ w=>.ended (.stuck "return: the result variables cannot be read"<|Frame.pos P ⟨dC,dl,j0,[],.returning,.normal,bj⟩) w):=by
     simp only[unwind,f2,List.cons_append,doReturn];rfl
    rw[e'];clear h e';generalize d6:(results F tmps).runT P0 V #[]=x at h';let⟨r,e1⟩:=x;rcases(ox (P0:=P0) (P:=P) (str:=str) hP.tab F hf.tmps).sound #[] #[] hw d6 with dz|⟨σ,r',V',W',d',h1,h2,h4,h5⟩
    .exfalso;cases r with
     |ok a w=>cases dz
     |halt hh w=>cases hh<;>exact fd h'
    .have pa:(results F dl).runT P W #[]=(r',d'):=by rw[h1];simp
     rw[pa];let⟨PY,h3⟩:=kS h';refine dZ.vN h4 ?_ λe he=>h5 e<|jT _ _ _ e he;cases h2 with
     |panic _ _=>cases h3
     |@ok j j' V' W' hv hw'=>
      have cP:tG a cs:=hb.pop rfl;exact dU ((ha.mono h4.le).finish hv) (hcs.mono h4.le) cP (iI _ _) hw' h3 rfl rfl
def tx (hP:dM P0 P ok)(hf:eF P ok ρ fr eQ)(hc:jd P ok ρ cs cs')(hb:tG fr cs)(hw:bO ok str ρ V W)(hl:cs=[]->fr.mode≠.run->fr.defers≠[])
  (h:stepG P0 G3 (G fr<|cs++lb) V=.go g2 V2 es):dZ P0 P ok str ρ lb rb V W g2 V2 (stepG P acR (G eQ<|cs'++rb) W):=by
 by_cases hm:fr.mode=.run
 .rw[ul hm]at h;rw[ul (hf.mode.Vz hm)];exact Ml hP hf hc hb hw hm h
 .have tU:eQ.mode≠.run:=by
   intro e;have:=hf.mode;rw[e]at this;generalize fr.mode=m at this hm;cases this;exact hm rfl
  rw[jy hm]at h;rw[jy tU];exact Hv hP hf hc hb hw hm (λe=>hl e hm) h
end
def re (w:World)(τ:Nat->Question->Nat)(d:Nat):World:={w with tape:=τ,drawn:=d}
def kQ (t:Nat->Question->Nat)(a:Nat)(t':Nat->Question->Nat)(b n:Nat):Prop:=∀i,i<n->∀q,t (a+i) q=t' (b+i) q
omit [Gl] in
def kQ.less {m:Nat}(h:kQ t a t' b n)(l:m<=n):kQ t a t' b m:=λi hi q=>h i aa q
omit [Gl] in
def kQ.tail {k:Nat}(h:kQ t a t' b (k+n)):kQ t (a+k) t' (b+k) n:=λi hi q=>by
 have:=h (k+i) (by omega) q;rw[show a+k+i=a+(k+i) by omega,show b+k+i=b+(k+i) by omega];exact this
def gY:Result α->World
 |.ok _ w=>w
 |.halt _ w=>w
def Z2 (τ:Nat->Question->Nat)(d:Nat):Result α->Result α
 |.ok a w=>.ok a (re w τ d)
 |.halt h w=>.halt h<|re w τ d
section
variable {ρ:Ren}
def af.shift {A:Ren->α->β->Prop}{s:Sem α}{s':Sem β}(h:af P0 P ok str A ρ s s'):
  ∀{V W:World} (es:Array Event) {r:Result α} {e1:Array Event},bO ok str ρ V W->s.runT P0 V es=(r,e1)->Result.stops r=true\/
   (V.drawn<=(gY r).drawn/\(gY r).tape=V.tape/\∀τ d,kQ V.tape V.drawn τ d ((gY r).drawn-V.drawn)->s.runT P0 (re V τ d) es=(Z2 τ (d+((gY r).drawn-V.drawn)) r,e1)):=by
 induction h with
 |@pure ρ a b hA=>
  intro V W es x e1 hw hr;simp only[Sem.runT,Prod.mk.injEq]at hr;obtain⟨rfl,rfl⟩:=hr;exact .inr ⟨ac5 _,rfl,λτ d _=>by simp[Sem.runT,Z2,gY,re]⟩
 |@load ρ a a' k k' ra _ ih=>
  intro V W es x e1 hw hr;simp only[Sem.runT]at hr;cases hc:V.cell? a with
  |none=>
   rw[hc]at hr;let⟨y,hy⟩:=hw.far ra.blk (Mode.plain==Mode.atomic) P0;simp only[hy,Prod.mk.injEq]at hr;obtain⟨rfl,_⟩:=hr;exact .inl rfl
  |some v=>
   rw[hc]at hr;let⟨v',Ay,rv⟩:=hw.load ra hc;rcases ih v v' rv _ hw hr with h|⟨h1,h2,h3⟩
   .exact .inl h
   .refine .inr ⟨h1,h2,λτ d hA=>?_⟩;have:(re V τ d).cell? a=some v:=hc;simp only[Sem.runT,this];exact h3 τ d hA
 |@store ρ a a' v v' k k' ra rv _ ih=>
  intro V W es x e1 hw hr;by_cases hn:(∃cs,v=.agg cs)\/(∃cs,v=.tuple cs)
  .rcases hn with⟨cs,rfl⟩|⟨cs,rfl⟩
   .simp only[Sem.runT,Prod.mk.injEq]at hr;obtain⟨rfl,_⟩:=hr;exact .inl rfl
   .simp only[Sem.runT,Prod.mk.injEq]at hr;obtain⟨rfl,_⟩:=hr;exact .inl rfl
  have n1:∀cs,v≠.agg cs:=λcs e=>hn<|.inl ⟨cs,e⟩
  have n2:∀cs,v≠.tuple cs:=λcs e=>hn<|.inr ⟨cs,e⟩
  have Pp:∀(U:World),(Sem.store .plain a v k).runT P0 U es=(match U.cell? a with
   |some _=>if U.frozen? a then(Result.halt (.unsupported<|.unsafePointer "a write to bytes that a string shares") U,es)else k.runT P0 (U.setCell a v) (es.push ⟨.cell a,true,false⟩)
   |none=>match U.farStore P0 a v (Mode.plain==Mode.atomic)with
    |.ok (w,CX)=>k.runT P0 w (es++CX.toArray.map (⟨.cell ·,true,Mode.plain==Mode.atomic⟩))
    |.error h=>(.halt h U,es)):=by
   intro U;cases v<;>first|exact absurd rfl (n1 _)|exact absurd rfl (n2 _)|(simp only[Sem.runT];rfl)
  rw[Pp]at hr;cases hc:V.cell? a with
  |none=>
   rw[hc]at hr;let⟨y,hy⟩:=hw.XL ra.blk v (Mode.plain==Mode.atomic) P0;simp only[hy,Prod.mk.injEq]at hr;obtain⟨rfl,_⟩:=hr;exact .inl rfl
  |some y=>
   rw[hc]at hr;simp only at hr;cases hf:V.frozen? a with
   |true=>
    rw[hf]at hr;simp only[if_true,Prod.mk.injEq]at hr;obtain⟨rfl,_⟩:=hr;exact .inl rfl
   |false=>
    rw[hf]at hr;rcases ih _ (hw.store ra rv) hr with h|⟨h1,h2,h3⟩
    .exact .inl h
    .refine .inr ⟨h1,h2,λτ d hA=>?_⟩;have e1:(re V τ d).cell? a=some y:=hc;have e2:(re V τ d).frozen? a=false:=hf;rw[Pp,e1];simp only[e2,Bool.false_eq_true,if_false];exact h3 τ d hA
 |@new ρ o o' k k' ro _ ih=>
  intro V W es x e1 hw hr;simp only[Sem.runT]at hr;let⟨FE,Fx⟩:=hw.new ro;rcases ih _ V.heap.size W.heap.size hw.Ge hw.Mm _ FE hr with h|⟨h1,h2,h3⟩
  .exact .inl h
  .exact .inr ⟨h1,h2,λτ d hA=>by simp only[Sem.runT];exact h3 τ d hA⟩
 |@shape ρ r r' k k' gG _ ih=>
  intro V W es x e1 hw hr;simp only[Sem.runT]at hr⊢;exact ih _ _ hw hr
 |dead s s' h=>
  intro V W es x e1 hw hr;have h1:=Sem.runT_fst P0 s V es;rw[hr]at h1;exact .inl (by have:=h V;rw[<-h1]at this;exact this)
 |@getObj ρ r r' k k' gG _ ih=>
  intro V W es x e1 hw hr;cases ho:V.heap[r]? with
  |none=>simp only[Sem.runT,ho,Prod.mk.injEq]at hr;obtain⟨rfl,_⟩:=hr;exact .inl rfl
  |some o=>
   let⟨o',MV,ro⟩:=hw.getObj gG ho;rcases ro.kinds with⟨⟨c,e,z,rfl⟩,_⟩|⟨n1,n2⟩
   .simp only[Sem.runT,ho,Prod.mk.injEq]at hr;obtain⟨rfl,_⟩:=hr;exact .inl rfl
   .have Pp:∀U:World,U.heap[r]?=some o->(Sem.getObj r k).runT P0 U es=(k o).runT P0 U (es.push ⟨.obj r,false,o.isChan⟩):=by
     intro U hU;cases o<;>first|exact absurd rfl (n1 _ _ _)|simp only[Sem.runT,hU]
    rw[Pp V ho]at hr;rcases ih _ _ ro _ hw hr with h|⟨h1,h2,h3⟩
    .exact .inl h
    .exact .inr ⟨h1,h2,λτ d hA=>by rw[Pp (re V τ d) ho];exact h3 τ d hA⟩
 |@setObj ρ r r' o o' k k' gG ro _ ih=>
  intro V W es x e1 hw hr;cases hx:V.heap[r]? with
  |none=>simp only[Sem.runT,hx,Prod.mk.injEq]at hr;obtain⟨rfl,_⟩:=hr;exact .inl rfl
  |some y=>
   let⟨y',GH,ry⟩:=hw.getObj gG hx;rcases ry.kinds with⟨⟨c,e,z,rfl⟩,_⟩|⟨n1,n2⟩
   .simp only[Sem.runT,hx,Prod.mk.injEq]at hr;obtain⟨rfl,_⟩:=hr;exact .inl rfl
   .have Pp:∀U:World,U.heap[r]?=some y->(Sem.setObj r o k).runT P0 U es=k.runT P0 {U with heap:=U.heap.setIfInBounds r o} (es.push ⟨.obj r,true,o.isChan⟩):=by
     intro U hU;cases y<;>first|exact absurd rfl (n1 _ _ _)|simp only[Sem.runT,hU]
    rw[Pp V hx]at hr;rcases ih _ (hw.setObj gG ro) hr with h|⟨h1,h2,h3⟩
    .exact .inl h
    .exact .inr ⟨h1,h2,λτ d hA=>by rw[Pp (re V τ d) hx];exact h3 τ d hA⟩
 |@choose ρ q k k' _ ih=>
  intro V W es x e1 hw hr;simp only[Sem.runT]at hr⊢;split at hr
  .rename_i hq;simp only[if_pos hq];exact ih _ _ hw hr
  .rename_i hq;have hw':bO ok str ρ {V with drawn:=V.drawn+1} {W with drawn:=W.drawn+1}:=⟨hw.heap,hw.tape,by simp only[hw.drawn],hw.gV,hw.gW⟩;rcases ih _ _ hw' hr with h|⟨h1,h2,h3⟩
   .exact .inl h
   .simp only at h1 h2 h3;refine .inr ⟨by omega,h2,λτ d hA=>?_⟩;rw[if_neg hq];have e0:τ d q=V.tape V.drawn q:=(hA 0 (by omega) q).symm;have:=h3 τ (d+1) (by
     have:kQ V.tape V.drawn τ d (1+((gY x).drawn-(V.drawn+1))):=hA.less (by omega);exact this.tail)
    rw[show d+1+((gY x).drawn-(V.drawn+1))=d+((gY x).drawn-V.drawn) by omega]at this;rw[<-this];simp only[re,e0]
 |@program ρ k k' _ ih=>
  intro V W es x e1 hw hr;simp only[Sem.runT]at hr⊢;exact ih _ hw hr
 |@mark ρ m k k' hm _ ih=>
  intro V W es x e1 hw hr;simp only[Sem.runT]at hr⊢;exact ih _ hw hr
 |@panic ρ v v' hv=>
  intro V W es x e1 hw hr;simp only[Sem.runT,Prod.mk.injEq]at hr;obtain⟨rfl,rfl⟩:=hr;exact .inr ⟨ac5 _,rfl,λτ d _=>by simp[Sem.runT,Z2,gY,re]⟩
 |halt h s he=>
  intro V W es x e1 hw hr;simp only[Sem.runT,Prod.mk.injEq]at hr;obtain⟨rfl,_⟩:=hr;exact .inl he
end
def Sh (F:World->GStep)(V:World):Prop:=((∃g2 V2 es,F V=.go g2 V2 es)\/∃o w es,F V=.ended o w es)/\∀g2 V2 es,F V=.go g2 V2 es->V.drawn<=V2.drawn/\V2.tape=V.tape/\
 ∀τ d,kQ V.tape V.drawn τ d (V2.drawn-V.drawn)->F (re V τ d)=.go g2 (re V2 τ<|d+(V2.drawn-V.drawn)) es
omit [Gl] in
def fZ (g:Goroutine)(es:Array Event)(h:∀w,F w=.go g w es):Sh F V:=by
 refine⟨.inl ⟨_,_,_,h V⟩,?_⟩;intro g2 V2 yX e;rw[h]at e;simp only[GStep.go.injEq]at e;obtain⟨rfl,rfl,rfl⟩:=e;refine⟨ac5 _,rfl,λτ d _=>?_⟩;rw[h];simp[re]
omit [Gl] in
def yB (h:∃o w es,F V=.ended o w es):Sh F V:=by
 refine⟨.inr h,?_⟩;intro g2 V2 yX e;let⟨o,w,es,h⟩:=h;rw[h]at e;cases e
omit [Gl] in
def FU (h:(∃g2 V2 jL,s=.go g2 V2 jL)\/∃o w jL,s=.ended o w jL):(∃g2 V2 jL,GStep.after es s=.go g2 V2 jL)\/∃o w jL,GStep.after es s=.ended o w jL:=by
 rcases h with⟨_,_,_,rfl⟩|⟨_,_,_,rfl⟩
 .exact .inl ⟨_,_,_,rfl⟩
 .exact .inr ⟨_,_,_,rfl⟩
def vW {ρ:Ren}{A:Ren->α->β->Prop}{s:Sem α}{s':Sem β}(hR:af P0 P ok str A ρ s s')(hw:bO ok str ρ V W)
  {E:Array Event->Array Event}{k:α->Goroutine}{kp:Value->Option Goroutine}(ez:∀w a w' es,s.runT P0 w #[]=(.ok a w',es)->F w=.go (k a) w' (E es))
  (hp:∀w v w' es,s.runT P0 w #[]=(.halt (.panic v) w',es)->match kp v with|some g=>F w=.go g w' (E es)|none=>∃o u jL,F w=.ended o u jL)(hs:∀w r es,s.runT P0 w #[]=(r,es)->Result.stops r=true->∃o u jL,F w=.ended o u jL):Sh F V:=by
 generalize hr:s.runT P0 V #[]=x;let⟨r,e1⟩:=x;refine⟨?_,?_⟩
 .rcases hR.sound #[] #[] hw hr with dz|⟨σ,r',V',W',d',_,h5,_,_⟩
  .exact .inr (hs _ _ _ hr dz)
  .cases h5 with
   |ok _ _=>exact .inl ⟨_,_,_,ez _ _ _ _ hr⟩
   |@panic v v' V' W' _ _=>
    have h6:=hp _ _ _ _ hr;cases hk:kp v with
    |none=>rw[hk]at h6;exact .inr h6
    |some g=>rw[hk]at h6;exact .inl ⟨_,_,_,h6⟩
 intro g2 V2 yX e;have key:Result.stops r=true->False:=by
  intro dz;let⟨o,u,jL,h⟩:=hs _ _ _ hr dz;rw[h]at e;cases e
 rcases hR.shift #[] hw hr with dz|⟨h1,h2,h3⟩
 .exact(key dz).elim
 .rcases hR.sound #[] #[] hw hr with dz|⟨σ,r',V',W',d',_,h5,_,_⟩
  .exact(key dz).elim
  .cases h5 with
   |@ok a b V' W' _ _=>
    rw[ez _ _ _ _ hr]at e;simp only[GStep.go.injEq]at e;obtain⟨rfl,rfl,rfl⟩:=e;refine⟨h1,h2,λτ d hA=>?_⟩;exact ez _ _ _ _ (h3 τ d hA)
   |@panic v v' V' W' _ _=>
    have h6:=hp _ _ _ _ hr;cases hk:kp v with
    |none=>
     rw[hk]at h6;let⟨o,u,jL,h⟩:=h6;rw[h]at e;cases e
    |some g=>
     rw[hk]at h6;rw[h6]at e;simp only[GStep.go.injEq]at e;obtain⟨rfl,rfl,rfl⟩:=e;refine⟨h1,h2,λτ d hA=>?_⟩;have:=hp _ _ _ _<|h3 τ d hA;rw[hk]at this;exact this
section
variable {ρ:Ren}
def I1 (p:Program)(fr:Frame)(cs:List Frame):Next->Goroutine
 |.value v=>G (fr.finish v) cs
 |.skip=>G (fr.finish undef) cs
 |.enter f xs=>G (Frame.enter p f xs .normal) (fr::cs)
 |.round l f xs a b=>G (Frame.round l f xs a b .normal) (fr::cs)
 |_=>G fr cs
def wu {s:Sem Next}(hR:af P0 P ok str (λσ x y=>pt ok σ x y) ρ s s')(hf:eF P ok ρ fr eQ)(hw:bO ok str ρ V W):Sh (λw=>stepG.apply P0 true fr cs none s w) V:=by
 have Fy:(CallKind.normal==CallKind.early)=false:=rfl;have pg:=hf.todo.NG;have hR':af P0 P ok str (λσ x y=>pt ok σ x y) ρ s s':=hR;generalize hr:s.runT P0 V #[]=x;let⟨r,e1⟩:=x;refine⟨?_,?_⟩
 .rcases hR.sound #[] #[] hw hr with dz|⟨σ,r',V',W',d',_,h5,_,_⟩
  .cases r with
   |ok a w=>cases dz
   |halt hh w=>
    cases hh with
    |stuck y=>simp only[stepG.apply,if_true,hr,GStep.after];exact .inr ⟨_,_,_,rfl⟩
    |unsupported u=>
     cases u with
     |initOrder g=>cases dz
     |_=>simp only[stepG.apply,if_true,hr,GStep.after];exact .inr ⟨_,_,_,rfl⟩
    |_=>cases dz
  .cases h5 with
   |@ok a b V' W' hN _=>
    cases hN with
    |value hv=>simp only[stepG.apply,if_true,hr,GStep.after];exact .inl ⟨_,_,_,rfl⟩
    |skip=>simp only[stepG.apply,if_true,hr,GStep.after];exact .inl ⟨_,_,_,rfl⟩
    |enter f ez hx=>exact .inl ⟨_,_,_,lO hr pg.1 hf.kind⟩
    |round f hl hi hx ha hb=>simp only[stepG.apply,if_true,hr,GStep.after];exact .inl ⟨_,_,_,rfl⟩
   |panic _ _=>simp only[stepG.apply,if_true,hr,GStep.after];exact .inl ⟨_,_,_,rfl⟩
 intro g2 V2 yX e;have stop:Result.stops r=true->False:=by
  intro dz;simp only at e;cases r with
  |ok a w=>cases dz
  |halt hh w=>
   cases hh with
   |stuck y=>simp only[stepG.apply,if_true,hr,GStep.after]at e;cases e
   |unsupported u=>
    cases u with
    |initOrder g=>cases dz
    |_=>simp only[stepG.apply,if_true,hr,GStep.after]at e;cases e
   |_=>cases dz
 rcases hR.shift #[] hw hr with dz|⟨h1,h2,h3⟩
 .exact(stop dz).elim
 .rcases hR'.sound #[] #[] hw hr with dz|⟨σ,r',V',W',d',_,h5,_,_⟩
  .exact(stop dz).elim
  .simp only at e⊢;cases h5 with
   |@ok a b V' W' hN _=>
    have go:∀{w w':World} {es:Array Event},s.runT P0 w #[]=(.ok a w',es)->stepG.apply P0 true fr cs none s w=.go (I1 P0 fr cs a) w' (seen P0 fr.fn es):=by
     intro w w' es hh;cases hN with
     |value hv=>simp only[stepG.apply,if_true,hh,GStep.after,hf.kind,Fy];simp[G,I1]
     |skip=>simp only[stepG.apply,if_true,hh,GStep.after,hf.kind,Fy];simp[G,I1]
     |enter f ez hx=>exact lO hh pg.1 hf.kind
     |round f hl hi hx ha hb=>simp only[stepG.apply,if_true,hh,GStep.after,hf.kind,Fy];simp[G,I1]
    rw[go hr]at e;simp only[GStep.go.injEq]at e;obtain⟨rfl,rfl,rfl⟩:=e;exact⟨h1,h2,λτ d hA=>go<|h3 τ d hA⟩
   |@panic v v' V' W' _ _=>
    have go:∀{w w':World} {es:Array Event},s.runT P0 w #[]=(.halt (.panic v) w',es)->stepG.apply P0 true fr cs none s w=.go (G (fr.raise [{v,recovered:=false}]) cs) w' (seen P0 fr.fn es):=by
     intro w w' es hh;simp only[stepG.apply,if_true,hh,GStep.after,hf.kind,Fy];simp[G]
    rw[go hr]at e;simp only[GStep.go.injEq]at e;obtain⟨rfl,rfl,rfl⟩:=e;exact⟨h1,h2,λτ d hA=>go<|h3 τ d hA⟩
omit [Gl] in
def Sh.congr {F':World->GStep}(h:Sh F V)(e:∀w,F' w=F w):Sh F' V:=by
 refine⟨by rw[e];exact h.1,?_⟩;intro g2 V2 es hh;rw[e]at hh;let⟨h1,h2,h3⟩:=h.2 g2 V2 es hh;exact⟨h1,h2,λτ d hA=>by rw[e];exact h3 τ d hA⟩
omit [Gl] in
def vt (h:fr.kind=.normal):doReturn p m fr (c::cs) none v w=.go (G (c.finish v) cs) w:=by
 simp only[doReturn,h];rfl
def xJ (hk:fr.kind=.normal)(hw:bO ok str ρ V W)(jump:Option Code)(hj:∀c,jump=some c->ok.code c=true)(hl:ρ l=some l'):
  Sh (λw=>let(r,es):=(Instr.endRound l jump).runT P0 w #[];GStep.after (seen P0 fr.fn es)<|match r with|.ok v w=>doReturn P0 m fr (c::cs) none v w|.halt _ w=>.ended (.stuck "range over a function: no such loop"<|fr.pos P0) w) V:=by
 refine vW (P0:=P0) (P:=P0) (E:=λes=>seen P0 fr.fn es) (k:=λv=>G (c.finish v) cs) (kp:=λ_=>none) (vc hl jump hj) hw ?_ ?_ ?_
 .intro w a w' es h;simp only[h,vt hk,GStep.after];simp
 .intro w v w' es h;simp only[h,GStep.after];exact⟨_,_,_,rfl⟩
 .intro w r es h dz;cases r with
  |ok a w=>cases dz
  |halt hh w=>simp only[h,GStep.after];exact⟨_,_,_,rfl⟩
def P1 (hP:dM P0 P ok)(hf:eF P ok ρ fr eQ)(hw:bO ok str ρ V W)(hm:fr.mode=.run):Sh (λw=>stepG.exec P0 m true fr (c::cs) none w) V:=by
 have mH:=hf.eval;let⟨fn,tmps,todo,defers,mode,kind,roundOf⟩:=fr;let⟨dC,dl,j0,cY,pP,fp,bj⟩:=eQ;have ht:=hf.todo;have hro:=hf.round;have sz:=hf.fn;have hk:=hf.kind;have pc:=hf.fp;have tU:=hf.mode;have hi:=hf.bh;simp only at ht hro sz hk pc hm tU hi;subst hm hk pc sz;cases tU;cases ht with
 |nil=>
  cases hro with
  |none=>exact fZ _ _ λw=>rfl
  |some hl=>exact xJ (fr:=⟨dC,tmps,[],defers,.run,.normal,some _⟩) rfl hw none aF hl
 |@cons x x' k k' hx mY=>
  cases hx with
  |inBlock id=>exact fZ _ _ λw=>rfl
  |@inLoop body fB=>exact fZ _ _ λw=>rfl
  |inRangeFunc hl=>exact yB ⟨_,_,_,rfl⟩
  |@endRangeFunc l l' hl=>
   refine vW (P0:=P0) (P:=P) (E:=λes=>seen P0 dC es) (k:=λj=>G ⟨dC,tmps,(j.map Item.code).toList++k,defers,.run,.normal,roundOf⟩<|c::cs)
    (kp:=λv=>some<|G (Frame.raise ⟨dC,tmps,.endRangeFunc l::k,defers,.run,.normal,roundOf⟩ [{v,recovered:=false}])<|c::cs) (yF hP.tab hl) hw ?_ ?_ ?_
   .intro w a w' es h;simp only[stepG.exec,h,GStep.after];simp[G]
   .intro w v w' es h;simp only[stepG.exec,h,GStep.after];simp[G]
   .intro w r es h dz;cases r with
    |ok a w=>cases dz
    |halt hh w=>cases hh<;>first|cases dz;done|(simp only[stepG.exec,h,GStep.after];exact⟨_,_,_,rfl⟩)
  |beginRound=>
   refine(wu (P:=P) (s:=do roundOf.elim (stuck "beginRound: no round") Instr.beginRound;pure .skip) (s':=do bj.elim (stuck "beginRound: no round") Instr.beginRound;pure .skip) ?_ hf hw (cs:=c::cs)).congr λw=>rfl
   refine CR (A:=λ_ _ _=>True) ?_;cases hro with
   |none=>exact .halt _ _
   |some hl=>exact qU hP.tab hl
  |@inRegion ops todo ho=>
   cases todo with
   |nil=>exact fZ _ _ λw=>rfl
   |cons i rest=>
    by_cases qN:((ops[i]?).map (Region.wanted ·<|yielded ops tmps)).getD false=true
    .cases UQ:ops[i]? with
     |none=>rw[UQ]at qN;cases qN
     |some o=>
      have bz:lJ P ok.fn o.op=true:=by
       rw[Array.all_eq_true]at ho;obtain⟨aB,rfl⟩:=ac7.1 UQ;exact ho i aB
      have nd:∀c,o.op≠.defer c:=by
       intro c e;rw[e]at bz;cases bz
      have e1:∀w:World,stepG.exec P0 m true ⟨dC,tmps,.inRegion ops (i::rest)::k,defers,.run,.normal,roundOf⟩ (c::cs) none w=
        stepG.apply P0 true ⟨dC,tmps,.inRegion ops (i::rest)::k,defers,.run,.normal,roundOf⟩ (c::cs) none (execOp (Frame.eval ⟨dC,tmps,.inRegion ops (i::rest)::k,defers,.run,.normal,roundOf⟩) o) w:=by
       intro w;show(if((ops[i]?).map (Region.wanted ·<|yielded ops tmps)).getD false then stepG.oper P0 true ⟨dC,tmps,.inRegion ops (i::rest)::k,defers,.run,.normal,roundOf⟩ (c::cs) none w
        else .go (G (Frame.finish ⟨dC,tmps,.inRegion ops (i::rest)::k,defers,.run,.normal,roundOf⟩ undef)<|c::cs) w)=_
       rw[if_pos qN];simp only[stepG.oper,Frame.oper?,UQ];split
       .rename_i e;exact absurd e<|nd _
       .rfl
      exact(wu (P:=P) (SY hP.tab hP.DL hP.toCallable o bz mH (λ_=>⟨rfl,rfl⟩) λ_=>rfl) hf hw).congr e1
    .refine fZ (G (Frame.finish ⟨dC,tmps,.inRegion ops (i::rest)::k,defers,.run,.normal,roundOf⟩ undef)<|c::cs) #[] λw=>?_
     show(if((ops[i]?).map (Region.wanted ·<|yielded ops tmps)).getD false then stepG.oper P0 true ⟨dC,tmps,.inRegion ops (i::rest)::k,defers,.run,.normal,roundOf⟩ (c::cs) none w
      else .go (G (Frame.finish ⟨dC,tmps,.inRegion ops (i::rest)::k,defers,.run,.normal,roundOf⟩ undef)<|c::cs) w)=_
     rw[if_neg qN]
  |@code cd fB=>
   cases cd with
   |skip=>exact fZ _ _ λw=>rfl
   |seq a b=>exact fZ _ _ λw=>rfl
   |cond o a b=>
    cases he:Frame.eval ⟨dC,tmps,.code (.cond o a b)::k,defers,.run,.normal,roundOf⟩ o with
    |bool t=>exact fZ (G ⟨dC,tmps,.code (if t then a else b)::k,defers,.run,.normal,roundOf⟩<|c::cs) #[] λw=>by simp only[stepG.exec,he];rfl
    |_=>exact yB (by simp only[stepG.exec,he];exact⟨_,_,_,rfl⟩)
   |block id b=>exact fZ _ _ λw=>rfl
   |loop b=>exact fZ _ _ λw=>rfl
   |exit id=>
    rcases mY.exit (id:=id)with⟨n1,n2⟩|⟨q,q',s1,s2,hq⟩
    .cases hro with
     |none=>exact yB (by simp only[stepG.exec,n1,Option.elim_none];exact⟨_,_,_,rfl⟩)
     |@some l l' hl=>
      refine(xJ (P0:=P0) (m:=m) (c:=c) (cs:=cs) (fr:=⟨dC,tmps,.code (.exit id)::k,defers,.run,.normal,some l⟩) rfl hw (some<|.exit id) (by simp[hP.code,dh]) hl).congr λw=>?_
      simp only[stepG.exec,n1,Option.elim_none];rfl
    .exact fZ (G ⟨dC,tmps,q,defers,.run,.normal,roundOf⟩<|c::cs) #[] λw=>by simp only[stepG.exec,s1,Option.elim_some];rfl
   |ret=>
    cases hro with
    |none=>exact fZ _ _ λw=>rfl
    |some hl=>exact xJ (fr:=⟨dC,tmps,.code .ret::k,defers,.run,.normal,some _⟩) rfl hw (some .ret) (by simp[hP.code,dh]) hl
   |region id ops draw=>
    cases draw with
    |false=>exact fZ _ _ λw=>rfl
    |true=>
     have hq:(Question.order dC id).forced=false:=rfl;refine⟨?_,?_⟩
     .simp only[stepG.exec,choose,Sem.run,hq,Bool.not_true,Bool.false_eq_true,if_false];exact .inl ⟨_,_,_,rfl⟩
     intro g2 V2 es h;simp only[stepG.exec,choose,Sem.run,hq,Bool.not_true,Bool.false_eq_true,if_false,GStep.go.injEq]at h⊢;obtain⟨rfl,rfl,rfl⟩:=h;refine⟨Nat.le_succ _,rfl,λτ d hA=>?_⟩;have:τ d (.order dC id)=V.tape V.drawn (.order dC id):=(hA 0 aF _).symm;simp only[re,this,true_and,and_true];simp
   |rangeFunc f params a b=>
    simp only[dh,Bool.and_eq_true]at fB;let FA:Nat->List Deferred->World->GStep:=λl mark w=>stepG.apply P0 true ⟨dC,tmps,.inRangeFunc l::k,mark++defers,.run,.normal,roundOf⟩ (c::cs) none (do let d <-resolve (Frame.eval ⟨dC,tmps,.inRangeFunc l::k,mark++defers,.run,.normal,roundOf⟩) {callee:=.value f,args:=#[.const<|.func (.yield l) #[] #[]],argTypes:=#[]} 0;invoke d.target d.args) w
    have Pp:∀w,stepG.exec P0 m true ⟨dC,tmps,.code (.rangeFunc f params a b)::k,defers,.run,.normal,roundOf⟩ (c::cs) none w=
      (let(r,es):=(Instr.enterLoop dC tmps params a b roundOf).runT P0 w #[];GStep.after (seen P0 dC es)<|match r with
       |.ok (l,mark) w=>FA l mark w
       |.halt _ w=>.ended (.stuck "range over a function: no such loop"<|Frame.pos P0 ⟨dC,tmps,.code (.rangeFunc f params a b)::k,defers,.run,.normal,roundOf⟩) w):=λw=>rfl
    refine Sh.congr ?_ Pp;generalize d6:(Instr.enterLoop dC tmps params a b roundOf).runT P0 V #[]=x;let⟨r,e1⟩:=x;have hR:=tm (P0:=P0) (P:=P) (str:=str) dC hi hf.tmps params ((hP.code a).trans fB.1.2) ((hP.code b).trans fB.2) hro;have oR:∀{σ:Ren} {l l':Nat} {mark sV:List Deferred} {V' W':World},ρ.le σ->σ l=some l'->kR σ mark sV->bO ok str σ V' W'->Sh (FA l mark) V':=by
     intro σ l l' mark sV V' W' h4 hl O6 hw';have Sg:eF P ok σ ⟨dC,tmps,.inRangeFunc l::k,mark++defers,.run,.normal,roundOf⟩ ⟨dC,dl,.inRangeFunc l'::k',sV++cY,.run,.normal,bj⟩:=
      ⟨rfl,hi,hf.tmps.mono h4,.cons (.inRangeFunc hl)<|mY.mono h4,O6.append<|hf.defers.mono h4,.run,rfl,rfl,hro.mono h4⟩
     refine wu (P:=P) (s':=do let d <-resolve (Frame.eval ⟨dC,dl,.inRangeFunc l'::k',sV++cY,.run,.normal,bj⟩) {callee:=.value f,args:=#[.const<|.func (.yield l') #[] #[]],argTypes:=#[]} 0;invoke d.target d.args) ?_ Sg hw';have UA:=Sg.eval f fB.1.1;have hy:ax ok σ #[.func (.yield l) #[] #[]] #[.func (.yield l') #[] #[]]:=ax.nil.push<|.func (.yield hl) rfl ax.nil.at_ rfl ax.nil.at_;unfold resolve;dsimp only;generalize Frame.eval ⟨dC,tmps,.inRangeFunc l::k,mark++defers,.run,.normal,roundOf⟩ f=v at UA;generalize Frame.eval ⟨dC,dl,.inRangeFunc l'::k',sV++cY,.run,.normal,bj⟩ f=v' at UA;cases UA with
     |func sz e1 g1 e2 g2=>
      refine aZ ?_;exact uj hP.tab hP.toCallable (.fn sz ⟨e2,g2⟩) aF (ax.append ⟨e1,g1⟩<|by simpa[Frame.eval]using hy)
     |nilFunc=>exact eT hP.tab .nilDeref rfl
     |hole _=>exact .dead _ _ λV=>pK hP.hole _ V
     |_=>exact .halt _ _
    refine⟨?_,?_⟩
    .simp only[d6];rcases hR.sound #[] #[] hw d6 with dz|⟨σ,r',V',W',d',h1,h2,h4,h5⟩
     .cases r with
      |ok a w=>cases dz
      |halt hh w=>exact .inr ⟨_,_,_,rfl⟩
     .cases h2 with
      |panic _ _=>exact .inr ⟨_,_,_,rfl⟩
      |@ok j j' V' W' hv hw'=>
       exact FU (oR h4.le hv.1 hv.2 hw').1
    intro g2 V2 es h';simp only[d6]at h';rcases hR.sound #[] #[] hw d6 with dz|⟨σ,r',V',W',d',h1,h2,h4,h5⟩
    .exfalso;cases r with
     |ok a w=>cases dz
     |halt hh w=>exact fd h'
    .rcases hR.shift #[] hw d6 with dz|⟨s1,s2,s3⟩
     .exfalso;cases r with
      |ok a w=>cases dz
      |halt hh w=>exact fd h'
     .cases h2 with
      |panic _ _=>exact(fd h').elim
      |@ok j j' V' W' hv hw'=>
       let⟨l,mark⟩:=j;let⟨l',sV⟩:=j';let⟨hl,O6⟩:=hv;let⟨PY,h3⟩:=kS h';have h3:FA l mark V'=.go g2 V2 PY:=h3;let⟨q1,q2,q3⟩:=(oR h4.le hl O6 hw').2 g2 V2 PY h3;simp only[gY]at s1 s2 s3;have he:es=seen P0 dC e1++PY:=by
        have:=h';simp only at this;rw[h3]at this;simp only[GStep.after,GStep.go.injEq,true_and]at this;exact this.symm
       refine⟨aa,by rw[q2,s2],λτ d hA=>?_⟩;have La:kQ V.tape V.drawn τ d (V'.drawn-V.drawn):=hA.less aa;have XT:kQ V'.tape V'.drawn τ (d+(V'.drawn-V.drawn)) (V2.drawn-V'.drawn):=by
        have:kQ V.tape V.drawn τ d ((V'.drawn-V.drawn)+(V2.drawn-V'.drawn)):=hA.less aa;have:=this.tail;rw[show V.drawn+(V'.drawn-V.drawn)=V'.drawn by omega]at this;rw[s2];exact this
       have z1:=s3 τ d La;have z2:=q3 τ (d+(V'.drawn-V.drawn)) XT;simp only[z1,Z2];rw[z2,he,show d+(V'.drawn-V.drawn)+(V2.drawn-V'.drawn)=d+(V2.drawn-V.drawn) by omega];rfl
   |_=>cases fB
def K0 (hP:dM P0 P ok)(hf:eF P ok ρ fr eQ)(hw:bO ok str ρ V W)(hm:fr.mode≠.run):Sh (λw=>unwind P0 m fr (c::cs) none w) V:=by
 let⟨fn,tmps,todo,defers,mode,kind,roundOf⟩:=fr;let⟨dC,dl,j0,cY,pP,fp,bj⟩:=eQ;have sz:=hf.fn;have hk:=hf.kind;have tU:=hf.mode;have hi:=hf.bh;have hd:=hf.defers;simp only at sz hk hm tU hi hd;subst hk sz;let⟨F,cd,f1,f2,f3,f4⟩:=hP.same dC hi;cases hd with
 |@cons r0 Pe ds F_ hr Yv=>
  refine vW (P0:=P0) (P:=P) (E:=λes=>seen P0 dC es) (k:=λj=>G ⟨dC,tmps,todo,j++ds,mode,.normal,roundOf⟩<|c::cs) (kp:=λ_=>none) (Jl (ok:=ok) hr) hw ?_ ?_ ?_
  .intro w a w' es h;simp only[unwind,h,GStep.after];simp[G]
  .intro w v w' es h;simp only[unwind,h,GStep.after];exact⟨_,_,_,rfl⟩
  .intro w r es h dz;cases r with
   |ok a w=>cases dz
   |halt hh w=>simp only[unwind,h,GStep.after];exact⟨_,_,_,rfl⟩
 |nil=>
  cases tU with
  |run=>exact absurd rfl hm
  |@panicking ch ch'=>
   have c1:Frame.catches P0 ⟨dC,tmps,todo,[],.panicking ch,.normal,roundOf⟩=false:=by simp[Frame.catches,f1]
   refine fZ (G (c.raise ch) cs) #[] λw=>?_
   simp only[unwind,c1,Bool.false_eq_true,if_false];rfl
  |returning=>
   refine vW (P0:=P0) (P:=P) (E:=λes=>seen P0 dC es) (k:=λv=>G (c.finish v) cs) (kp:=λ_=>none) (ox hP.tab F hf.tmps) hw ?_ ?_ ?_
   .intro w a w' es h;simp only[unwind,f1,h,GStep.after,doReturn];simp[G]
   .intro w v w' es h;simp only[unwind,f1,h,GStep.after];exact⟨_,_,_,rfl⟩
   .intro w r es h dz;cases r with
    |ok a w=>cases dz
    |halt hh w=>cases hh<;>(simp only[unwind,f1,h,GStep.after];exact⟨_,_,_,rfl⟩)
def CV (hP:dM P0 P ok)(hf:eF P ok ρ fr eQ)(hw:bO ok str ρ V W):Sh (λw=>stepG P0 m (G fr<|c::cs) w) V:=by
 by_cases hm:fr.mode=.run
 .exact(P1 hP hf hw hm).congr λw=>ul hm
 .exact(K0 hP hf hw hm).congr λw=>jy hm
end
structure St where
 fr:Frame
 cs:List Frame
 V:World
def St.re (s:St)(τ:Nat->Question->Nat)(d:Nat):St:=⟨s.fr,s.cs,Proofs.YtlmcblcijndipaaGreatDoor.re s.V τ d⟩
section
variable (P0:Program)(c:Frame)(Q:Value->World->Prop)
def yR (s:St):Prop:=s.cs=[]/\∃v,s.fr.leaving P0 s.V (.returned v)/\Q v s.V
def fx (s s':St):Prop:=∃es,stepG P0 true (G s.fr<|s.cs++[c]) s.V=.go (G s'.fr<|s'.cs++[c]) s'.V es
def Dm:Nat->St->Prop
 |0,s=>yR P0 Q s
 |n+1,s=>∃s',fx P0 c s s'/\Dm n s'
def vo (s' s:St):Prop:=∃τ d,fx P0 c (s.re τ d) s'
def H (s:St):Prop:=∀τ d,∃n,Dm P0 c Q n (s.re τ d)
end
def fJ (P0:Program)(ok:Ctx)(s:St):Prop:=∃ρ,eF P0 ok ρ s.fr s.fr/\jd P0 ok ρ s.cs s.cs/\tG s.fr s.cs/\bO ok true ρ s.V s.V
structure jE (P0:Program)(c:Frame):Prop where
 ret:∀v w,∃o w' es,stepG P0 true (G (c.finish v) []) w=.ended o w' es
 pan:∀ch w,∃o w' es,stepG P0 true (G (c.raise ch) []) w=.ended o w' es
def fJ.re {s:St}(h:fJ P0 ok s)(τ:Nat->Question->Nat)(d:Nat):fJ P0 ok (s.re τ d):=by
 let⟨ρ,h1,h2,h3,h4⟩:=h;exact⟨ρ,h1,h2,h3,h4.heap,rfl,rfl,h4.gV,h4.gW⟩
def yS (s:St):Prop:=s.cs=[]/\s.fr.mode≠.run/\s.fr.defers=[]
def tP (hP:dM P0 P0 ok){s:St}(hs:fJ P0 ok s)(he:yS s)(h:stepG P0 true (G s.fr<|s.cs++[c]) s.V=.go g2 V2 es):
  (∃v,g2=G (c.finish v) [])\/∃ch,g2=G (c.raise ch) []:=by
 let⟨ρ,h1,_,_,_⟩:=hs;let⟨fr,cs,V⟩:=s;let⟨e1,e2,e3⟩:=he;simp only at e1 e2 e3 h h1;subst e1;rw[jy e2]at h;let⟨F,cd,f1,_⟩:=hP.same _ h1.bh;have hm:=h1.mode;have hk:=h1.kind;let⟨fn,tmps,todo,defers,mode,kind,roundOf⟩:=fr;simp only at e2 e3 hm hk f1;subst e3 hk;cases mode with
 |run=>exact absurd rfl e2
 |panicking ch=>
  have c1:Frame.catches P0 ⟨fn,tmps,todo,[],.panicking ch,.normal,roundOf⟩=false:=by simp[Frame.catches,f1]
  simp only[unwind,c1,List.nil_append,Bool.false_eq_true,if_false,GStep.go.injEq]at h;exact .inr ⟨ch,h.1.symm⟩
 |returning=>
  simp only[unwind,f1,List.nil_append]at h;let⟨PY,h3⟩:=kS h;generalize (results F tmps).runT P0 V #[]=x at h3;let⟨r,e⟩:=x;cases r with
  |ok v w=>
   simp only[doReturn,GStep.go.injEq]at h3;exact .inl ⟨v,h3.1.symm⟩
  |halt hh w=>cases hh<;>cases h3
def fx.inside (hP:dM P0 P0 ok){s s':St}(hs:fJ P0 ok s)(h:fx P0 c s s'):¬yS s:=by
 intro he;let⟨es,h⟩:=h;rcases tP hP hs he h with⟨v,e⟩|⟨ch,e⟩
 .have:=congrArg Goroutine.callers e;simp[G]at this
 .have:=congrArg Goroutine.callers e;simp[G]at this
def AW (hP:dM P0 P0 ok)(iv:∀f,ok.fn f=true->ok.bh f=true){s:St}(hs:fJ P0 ok s)(he:¬yS s)(h:stepG P0 true (G s.fr<|s.cs++[c]) s.V=.go g2 V2 es):
  ∃s':St,g2=G s'.fr (s'.cs++[c])/\V2=s'.V/\fJ P0 ok s':=by
 let⟨ρ,h1,h2,h3,h4⟩:=hs;let⟨σ,XO,W2,yX,e,hg,hw,_,_⟩:=tx (lb:=[c]) (rb:=[c]) (acR:=true) hP h1 h2 h3 h4 (λa b=>λd=>he ⟨a,b,d⟩) h;rw[h]at e;simp only[GStep.go.injEq]at e;obtain⟨rfl,rfl,_⟩:=e;generalize jW:g2=XO at hg;have qE:pn P0 P0 ok σ [c] [c] g2 XO:=by rw[jW]at*;exact hg
 clear hg;cases qE with
 |@inside fr eQ cs cs' a1 a2 a3=>
  have e1:=congrArg Goroutine.frame jW;have e2:=congrArg Goroutine.callers jW;simp only[G]at e1 e2;have e2:cs=cs':=ads e2;subst e1 e2;exact⟨⟨fr,cs,V2⟩,rfl,rfl,σ,a1,a2,a3,hw⟩
 |door a1 a2=>rw[iv _ a1]at a2;cases a2
def fx.self (hP:dM P0 P0 ok)(iv:∀f,ok.fn f=true->ok.bh f=true){s s':St}(hs:fJ P0 ok s)(h:fx P0 c s s'):fJ P0 ok s':=by
 have hi:=h.inside hP hs;let⟨es,h⟩:=h;let⟨s2,e1,e2,h2⟩:=AW hP iv hs hi h;let⟨fr,cs,V⟩:=s';let⟨fr2,C9,V2⟩:=s2;have e3:=congrArg Goroutine.frame e1;have e4:=congrArg Goroutine.callers e1;simp only[G]at e3 e4 e2;have e4:cs=C9:=ads e4;subst e3 e4 e2;exact h2
def fx.sh (hP:dM P0 P0 ok){s s':St}(hs:fJ P0 ok s)(h:fx P0 c s s'):s.V.drawn<=s'.V.drawn/\s'.V.tape=s.V.tape/\
  ∀τ d,kQ s.V.tape s.V.drawn τ d (s'.V.drawn-s.V.drawn)->fx P0 c (s.re τ d) (s'.re τ<|d+(s'.V.drawn-s.V.drawn)):=by
 let⟨ρ,h1,h2,h3,h4⟩:=hs;let⟨es,h⟩:=h;cases hcs:s.cs++[c]with
 |nil=>simp at hcs
 |cons a l=>
  have:=(CV (m:=true) (c:=a) (cs:=l) hP h1 h4).2 _ _ _ (by rw[<-hcs];exact h);refine⟨this.1,this.2.1,λτ d hA=>⟨es,?_⟩⟩;have:=this.2.2 τ d hA;simp only[St.re];rw[hcs];exact this
def yR.re (hP:dM P0 P0 ok)(hQ:∀v w τ d,Q v w->Q v (re w τ d)){s:St}(hs:fJ P0 ok s)(h:yR P0 Q s)(τ:Nat->Question->Nat)(d:Nat):yR P0 Q (s.re τ d):=by
 let⟨h1,v,⟨l1,l2,l3,fn,l4,l5⟩,h2⟩:=h;let⟨ρ,r1,_,_,r4⟩:=hs;refine⟨h1,v,⟨l1,l2,l3,fn,l4,?_⟩,hQ _ _ _ _ h2⟩;have hR:=ox (P0:=P0) (P:=P0) (str:=true) hP.tab fn r1.tmps;generalize hx:(results fn s.fr.tmps).runT P0 s.V #[]=x;let⟨r,e1⟩:=x;have hr:r=.ok v s.V:=by
  have:=Sem.runT_fst P0 (results fn s.fr.tmps) s.V #[];rw[hx,l5]at this;exact this
 subst hr;rcases hR.shift #[] r4 hx with dz|⟨_,_,h3⟩
 .cases dz
 .have:=h3 τ d (by intro i hi;simp[gY]at hi);have h4:=Sem.runT_fst P0 (results fn s.fr.tmps) (Proofs.YtlmcblcijndipaaGreatDoor.re s.V τ d) #[];rw[this]at h4;show(results fn s.fr.tmps).run P0 (Proofs.YtlmcblcijndipaaGreatDoor.re s.V τ d)=.ok v (Proofs.YtlmcblcijndipaaGreatDoor.re s.V τ d);rw[<-h4];simp[Z2,gY,Proofs.YtlmcblcijndipaaGreatDoor.re]
def Dm.shift (hP:dM P0 P0 ok)(iv:∀f,ok.fn f=true->ok.bh f=true)(hQ:∀v w τ d,Q v w->Q v (re w τ d)):∀(n:Nat) {s:St},fJ P0 ok s->Dm P0 c Q n s->∀τ d,(∀i q,s.V.tape (s.V.drawn+i) q=τ (d+i) q)->Dm P0 c Q n (s.re τ d):=by
 intro n;induction n with
 |zero=>intro s hs h τ d _;exact yR.re hP hQ hs h τ d
 |succ n ih=>
  intro s hs h τ d hA;let⟨s',h1,h2⟩:=h;let⟨k1,k2,k3⟩:=h1.sh hP hs;refine⟨_,k3 τ d λi _ q=>hA i q,ih (h1.self hP iv hs) h2 τ _ λi q=>?_⟩;rw[k2];have:=hA (s'.V.drawn-s.V.drawn+i) q;rw[show s.V.drawn+(s'.V.drawn-s.V.drawn+i)=s'.V.drawn+i by omega]at this;rw[this];congr 1;omega
omit [Gl] in
def fx.E_ {s s1 s2:St}(h1:fx P0 c s s1)(h2:fx P0 c s s2):s1=s2:=by
 let⟨_,h1⟩:=h1;let⟨_,h2⟩:=h2;rw[h1]at h2;simp only[GStep.go.injEq]at h2;let⟨e,e2,_⟩:=h2;have e3:=congrArg Goroutine.frame e;have e4:=congrArg Goroutine.callers e;simp only[G]at e3 e4;replace e4:=ads e4;let⟨a,b,d⟩:=s1;let⟨a',b',d'⟩:=s2;simp only at e2 e3 e4;subst e2 e3 e4;rfl
omit [Gl] in
def tQ {s:St}(hs:yR P0 Q s):yS s:=by
 let⟨h1,v,⟨l1,l2,_⟩,_⟩:=hs;exact⟨h1,by rw[l1];simp,l2⟩
def H.succ (hP:dM P0 P0 ok)(iv:∀f,ok.fn f=true->ok.bh f=true)(hQ:∀v w τ d,Q v w->Q v (re w τ d)){s s':St}(hs:fJ P0 ok s)(hH:H P0 c Q s)(h:vo P0 c s' s):H P0 c Q s'/\fJ P0 ok s':=by
 let⟨τ,d,h⟩:=h;have yQ:=hs.re τ d;let⟨k1,k2,k3⟩:=h.sh hP yQ;have m8:=h.self hP iv yQ;refine⟨λτ' d'=>?_,m8⟩;have Zw:d<=s'.V.drawn:=k1;let t2:Nat->Question->Nat:=λi q=>if i<s'.V.drawn then τ i q else τ' (d'+(i-s'.V.drawn)) q
 have hA:kQ (s.re τ d).V.tape (s.re τ d).V.drawn t2 d (s'.V.drawn-(s.re τ d).V.drawn):=by
  intro i hi q;show τ (d+i) q=t2 (d+i) q;simp only[t2];have oH:i<s'.V.drawn-d:=hi;rw[if_pos aa]
 have h2:=k3 t2 d hA;let⟨n,hn⟩:=hH t2 d;have e1:(s.re τ d).re t2 d=s.re t2 d:=rfl;rw[e1]at h2;cases n with
 |zero=>exact absurd (tQ hn) (h2.inside hP<|hs.re t2 d)
 |succ n=>
  let⟨s2,g1,g2⟩:=hn;have:=g1.E_ h2;subst this;refine⟨n,?_⟩;have e2:d+(s'.V.drawn-(s.re τ d).V.drawn)=s'.V.drawn:=by show d+(s'.V.drawn-d)=_;omega
  rw[e2]at g2;have:=Dm.shift hP iv hQ n (m8.re t2 s'.V.drawn) g2 τ' d' (λi q=>by
   show t2 (s'.V.drawn+i) q=τ' (d'+i) q;simp only[t2];rw[if_neg aa];congr 1;omega)
  exact this
omit [Gl] in
def tM {s:St}(h:¬Acc (vo P0 c) s):∃f:Nat->St,f 0=s/\∀n,vo P0 c (f<|n+1) (f n):=by
 have step:∀s:{s:St //¬Acc (vo P0 c) s},∃s':{s:St //¬Acc (vo P0 c) s},vo P0 c s'.1 s.1:=by
  intro ⟨s,hs⟩;apply adu;intro hn;apply hs;refine⟨_,λy hy=>?_⟩;apply adu;intro GH;exact hn ⟨⟨y,GH⟩,hy⟩
 let g:Nat->{s:St //¬Acc (vo P0 c) s}:=λn=>Nat.rec ⟨s,h⟩ (λ_ x=>(step x).choose) n
 exact⟨λn=>(g n).1,rfl,λn=>(step<|g n).choose_spec⟩
omit [Gl] in
def Eu (D:Nat->Nat)(hD:∀n,D n<=D (n+1))(t:Nat->Nat->Question->Nat):∃T:Nat->Question->Nat,∀n j q,D n+j<D (n+1)->T (D n+j) q=t n j q:=by
 have mono:∀n k,D n<=D (n+k):=by
  intro n k;induction k with
  |zero=>exact ac5 _
  |succ k ih=>exact ac8 ih<|hD<|n+k
 have BX:∀p,(∃n,p<D (n+1))->∃n,p<D (n+1)/\∀m,m<n->¬p<D (m+1):=by
  intro p ⟨n,hn⟩;induction n using Nat.strongRecOn with
  |ind n ih=>
   by_cases h:∃m,m<n/\p<D (m+1)
   .let⟨m,h1,h2⟩:=h;exact ih m h1 h2
   .exact⟨n,hn,λm hm hp=>h ⟨m,hm,hp⟩⟩
 classical
 refine⟨λp q=>if h:∃n,p<D (n+1)then t (BX p h).choose (p-D (BX p h).choose) q else 0,λn j q hj=>?_⟩;have h:∃n',D n+j<D (n'+1):=⟨n,hj⟩;simp only[dif_pos h];have hs:=(BX (D n+j) h).choose_spec;have:(BX (D n+j) h).choose=n:=by
  generalize (BX (D n+j) h).choose=m at hs;rcases Nat.lt_trichotomy m n with hl|rfl|hg
  .have h1:=hs.1;have h2:=mono (m+1)<|n-(m+1);rw[show m+1+(n-(m+1))=n by omega]at h2;omega
  .rfl
  .exact absurd hj (hs.2 n hg)
 rw[this];congr 1;omega
def LE (hP:dM P0 P0 ok)(iv:∀f,ok.fn f=true->ok.bh f=true)(hQ:∀v w τ d,Q v w->Q v (re w τ d)){s:St}(hs:fJ P0 ok s)(hH:H P0 c Q s):Acc (vo P0 c) s:=by
 apply adu;intro hn;let⟨f,f0,hf⟩:=tM hn;have all:∀n,H P0 c Q (f n)/\fJ P0 ok (f n):=by
  intro n;induction n with
  |zero=>rw[f0];exact⟨hH,hs⟩
  |succ n ih=>exact H.succ hP iv hQ ih.2 ih.1<|hf n
 let τ:Nat->Nat->Question->Nat:=λn=>(hf n).choose
 let d:Nat->Nat:=λn=>(hf n).choose_spec.choose
 have g:∀n,fx P0 c ((f n).re (τ n)<|d n) (f<|n+1):=λn=>(hf n).choose_spec.choose_spec
 let D:Nat->Nat:=λn=>Nat.rec 0 (λn x=>x+((f<|n+1).V.drawn-d n)) n
 have hD:∀n,D (n+1)=D n+((f<|n+1).V.drawn-d n):=λn=>rfl
 let⟨T,hT⟩:=Eu D (λn=>by rw[hD];omega) λn j q=>τ n (d n+j) q;have go:∀n,fx P0 c ((f n).re T<|D n) ((f<|n+1).re T<|D<|n+1):=by
  intro n;let⟨_,_,k3⟩:=(g n).sh hP<|(all n).2.re (τ n)<|d n;have:=k3 T (D n) (λi hi q=>by
   show τ n (d n+i) q=T (D n+i) q;have oH:i<(f<|n+1).V.drawn-d n:=hi;rw[hT n i q (by rw[hD];omega)])
  rw[hD];exact this
 have none_:∀N n,¬Dm P0 c Q N ((f n).re T<|D n):=by
  intro N;induction N with
  |zero=>intro n h;exact absurd (tQ h) ((go n).inside hP<|(all n).2.re T<|D n)
  |succ N ih=>
   intro n h;let⟨s',h1,h2⟩:=h;have:=h1.E_<|go n;subst this;exact ih (n+1) h2
 let⟨N,hN⟩:=hH T 0;rw[<-f0]at hN;exact none_ N 0 hN
def H.step (hP:dM P0 P0 ok)(iv:∀f,ok.fn f=true->ok.bh f=true)(hQ:∀v w τ d,Q v w->Q v (re w τ d)){s:St}(hs:fJ P0 ok s)(hH:H P0 c Q s)(τ:Nat->Question->Nat)(d:Nat):
  (yS s/\yR P0 Q (s.re τ d))\/(¬yS s/\∃s',fx P0 c (s.re τ d) s'/\vo P0 c s' s/\H P0 c Q s'/\fJ P0 ok s'):=by
 let⟨n,hn⟩:=hH τ d;cases n with
 |zero=>exact .inl ⟨tQ (s:=s.re τ d) hn,hn⟩
 |succ n=>
  let⟨s',h1,_⟩:=hn;have h2:=H.succ hP iv hQ hs hH ⟨τ,d,h1⟩;exact .inr ⟨λhe=>h1.inside hP (hs.re τ d) he,s',h1,⟨τ,d,h1⟩,h2⟩
omit [Gl] in
def oz (h:stepG P true (G fr cs) w=.go (G fr2 C9) w2 es):step P (lone fr cs w)=.next (lone fr2 C9 w2):=by
 refine step_lone_go ?_;have:({frame:=fr,callers:=cs,status:=.running,dying:=none}:Goroutine)=G fr cs:=rfl;rw[this,h];rfl
omit [Gl] in
def gS (h:stepG P true (G fr cs) w=.ended o w2 es):step P (lone fr cs w)=.ended o w2:=by
 refine step_lone_ended ?_;have:({frame:=fr,callers:=cs,status:=.running,dying:=none}:Goroutine)=G fr cs:=rfl;rw[this,h];rfl
omit [Gl] in
def pO (h:lone fr cs w=lone fr2 C9 w2):fr=fr2/\cs=C9/\w=w2:=by
 simp only[lone,Machine.mk.injEq,Array.mk.injEq,List.cons.injEq,Goroutine.mk.injEq,and_true]at h;exact⟨h.2.1,h.2.2,h.1⟩
def Gg (hP:dM P0 P0 ok)(iv:∀f,ok.fn f=true->ok.bh f=true)(hF:jE P0 c){frE:Frame}{wE:World}(hl:frE.leaving P0 wE (.returned v))(hq:Q v wE):
  ∀(n:Nat) {s:St},fJ P0 ok s->runN P0 n (lone s.fr (s.cs++[c]) s.V)=.next (lone frE [c] wE)->∃k,Dm P0 c Q k s:=by
 intro n;induction n with
 |zero=>
  intro s hs h;simp only[runN,Stepped.next.injEq]at h;let⟨e1,e2,e3⟩:=pO h;have e2:s.cs=[]:=by
   have:=congrArg List.length e2;simpa using this
  refine⟨0,e2,v,?_,?_⟩
  .rw[e1,e3];exact hl
  .rw[e3];exact hq
 |succ n ih=>
  intro s hs h;let⟨ρ,h1,h2,h3,h4⟩:=hs;have hs:fJ P0 ok s:=⟨ρ,h1,h2,h3,h4⟩;have hk:(∃g2 V2 es,stepG P0 true (G s.fr<|s.cs++[c]) s.V=.go g2 V2 es)\/∃o w es,stepG P0 true (G s.fr<|s.cs++[c]) s.V=.ended o w es:=by
   cases hcs:s.cs++[c]with
   |nil=>simp at hcs
   |cons a l=>exact(CV (m:=true) (c:=a) (cs:=l) hP h1 h4).1
  simp only[runN]at h;rcases hk with⟨g2,V2,es,hg⟩|⟨o,w,es,hg⟩
  .by_cases he:yS s
   .exfalso;have fin:∀fr2,g2=G fr2 []->(∀w,∃o w' es,stepG P0 true (G fr2 []) w=.ended o w' es)->False:=by
     intro fr2 e ml;subst e;rw[oz hg]at h;simp only at h;cases n with
     |zero=>
      simp only[runN,Stepped.next.injEq]at h;let⟨_,e2,_⟩:=pO h;cases e2
     |succ n=>
      let⟨o,w',jL,hh⟩:=ml V2;simp only[runN,gS hh]at h;cases h
    rcases tP hP hs he hg with⟨v,e⟩|⟨ch,e⟩
    .exact fin _ e (hF.ret v)
    .exact fin _ e (hF.pan ch)
   .let⟨s',e1,e2,h5⟩:=AW hP iv hs he hg;subst e1 e2;rw[oz hg]at h;let⟨k,hk⟩:=ih h5 h;exact⟨k+1,s',⟨es,hg⟩,hk⟩
  .rw[gS hg]at h;cases h
def FM (hP:dM P0 P0 ok)(iv:∀f,ok.fn f=true->ok.bh f=true)(hF:jE P0 c)(hs:fJ P0 ok ⟨Frame.enter P0 f xs .normal,[],V⟩)
  (hC:∀τ d,Calls P0 f xs (re V τ d) λe w'=>∃v,e=.returned v/\Q v w'):H P0 c Q ⟨Frame.enter P0 f xs .normal,[],V⟩:=by
 intro τ d;obtain⟨e,w',fr,⟨v,rfl,hq⟩,⟨n,hn⟩,_,hl⟩:=hC τ d [c];exact Gg hP iv hF hl hq n (hs.re τ d) hn
structure jV (P0 P:Program)(ok:Ctx)(str:Bool)(c:Frame)(rb:List Frame)(Q:Value->World->Prop)(ρ:Ren)(s:St)(g:Goroutine)(W:World):Prop where
 at_:∃eQ cs',g=G eQ (cs'++rb)/\eF P ok ρ s.fr eQ/\jd P ok ρ s.cs cs'
 bot:tG s.fr s.cs
 w:bO ok str ρ (re s.V W.tape W.drawn) W
 self:fJ P0 ok s
 h:H P0 c Q s
 acc:Acc (vo P0 c) s
section
variable {ρ:Ren}{s:St}{ah:World}
def jV.rely (h:jV P0 P ok str c rb Q ρ s g W)(hk:∀b d,ρ b=some d->ah.heap[d]?=W.heap[d]?)(hn:Gl.n<=ah):jV P0 P ok str c rb Q ρ s g ah:=by
 refine⟨h.at_,h.bot,⟨λb d hb=>?_,rfl,rfl,h.w.gV,hn⟩,h.self,h.h,h.acc⟩;let⟨o,o',h1,h2,h3⟩:=h.w.heap b d hb;exact⟨o,o',h1,(hk b d hb).trans h2,h3⟩
def jV.running (h:jV P0 P ok str c rb Q ρ s g W):g.status=.running:=by
 obtain⟨eQ,cs',rfl,_⟩:=h.at_;rfl
def jV.step (eG:dM P0 P0 ok)(hP:dM P0 P ok)(iv:∀f,ok.fn f=true->ok.bh f=true)(hQ:∀v w τ d,Q v w->Q v (re w τ d))(m:Bool){r0:Frame}{rest:List Frame}(hrb:rb=r0::rest)(h:jV P0 P ok str c rb Q ρ s g W):
  (∃σ v v' V' W' es,stepG P m g W=.go (G (r0.finish v') rest) W' es/\ar ok σ v v'/\Q v V'/\bO ok str σ V' W'/\iY ρ (re s.V W.tape W.drawn) W σ V' W'/\∀e∈es,oN σ (re s.V W.tape W.drawn) e)\/
  ∃σ s' g' W' es,stepG P m g W=.go g' W' es/\vo P0 c s' s/\jV P0 P ok str c rb Q σ s' g' W'/\iY ρ (re s.V W.tape W.drawn) W σ s'.V W'/\∀e∈es,oN σ (re s.V W.tape W.drawn) e:=by
 obtain⟨eQ,cs',rfl,hf,hc⟩:=h.at_;rcases h.h.step eG iv hQ h.self W.tape W.drawn with⟨he,hE⟩|⟨he,s',hgo,zf,hH,m8⟩
 .left;let⟨e1,v,⟨l1,l2,l3,fn,l4,l5⟩,hq⟩:=hE;have e1:s.cs=[]:=e1;have l1:s.fr.mode=.returning:=l1;have l2:s.fr.defers=[]:=l2;have l5:(results fn s.fr.tmps).run P0 (re s.V W.tape W.drawn)=.ok v (re s.V W.tape W.drawn):=l5;have BW:cs'=[]:=by rw[e1]at hc;cases hc;rfl
  subst BW;have hd:eQ.defers=[]:=by have:=hf.defers;rw[l2]at this;generalize eQ.defers=x at this;cases this;rfl
  have hm:eQ.mode=.returning:=by have:=hf.mode;rw[l1]at this;generalize eQ.mode=x at this;cases this;rfl
  have l4:P.funcs[eQ.fn]?=some fn:=by
   let⟨F,cd,f1,f2,_⟩:=hP.same _ hf.bh;rw[hf.fn,f2,<-f1];exact l4
  generalize hx:(results fn s.fr.tmps).runT P0 (re s.V W.tape W.drawn) #[]=x;let⟨r,e⟩:=x;have hr:r=.ok v (re s.V W.tape W.drawn):=by
   have:=Sem.runT_fst P0 (results fn s.fr.tmps) (re s.V W.tape W.drawn) #[];rw[hx,l5]at this;exact this
  subst hr;rcases(ox (P0:=P0) (P:=P) (str:=str) hP.tab fn hf.tmps).sound #[] #[] h.w hx with dz|⟨σ,r',V',W',d',h1,h2,h4,h5⟩
  .cases dz
  .cases h2 with
   |@ok _ v' _ W' hv hw'=>
    refine⟨σ,v,v',_,W',seen P eQ.fn d',?_,hv,hq,hw',h4,λx hx=>h5 x<|jT _ _ _ x hx⟩;rw[jy (by rw[hm];simp)];have hk:=hf.fp;let⟨dC,dl,j0,cY,pP,fp,bj⟩:=eQ;simp only at hd hm l4 hk h1⊢;subst hd hm hk hrb;simp only[unwind,l4,List.nil_append,h1,doReturn,GStep.after];simp[G]
 .right;let⟨es,Wy⟩:=hgo;have hl:s.cs=[]->s.fr.mode≠.run->s.fr.defers≠[]:=λa b d=>he ⟨a,b,d⟩
  let⟨σ,g2,W2,yX,e,hg,hw,hk,mH⟩:=tx (lb:=[c]) (rb:=rb) (acR:=m) hP hf hc h.bot h.w hl Wy;have key:∃fr2 C9,g2=G fr2 (C9++rb)/\eF P ok σ s'.fr fr2/\jd P ok σ s'.cs C9/\tG s'.fr s'.cs:=by
   generalize hz:G s'.fr (s'.cs++[c])=z at hg;cases hg with
   |@inside fr fr2 cs C9 a1 a2 a3=>
    have z1:=congrArg Goroutine.frame hz;have z2:=congrArg Goroutine.callers hz;simp only[G]at z1 z2;replace z2:=ads z2;subst z1 z2;exact⟨fr2,C9,rfl,a1,a2,a3⟩
   |door a1 a2=>rw[iv _ a1]at a2;cases a2
  obtain⟨fr2,C9,rfl,b1,b2,b3⟩:=key;refine⟨σ,s',_,W2,yX,e,zf,⟨⟨fr2,C9,rfl,b1,b2⟩,b3,⟨hw.heap,rfl,rfl,hw.gV,hw.gW⟩,m8,hH,h.acc.inv zf⟩,hk,mH⟩
end
end
