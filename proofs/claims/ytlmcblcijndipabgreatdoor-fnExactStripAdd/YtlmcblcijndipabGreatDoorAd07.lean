import Derived.Test.YtlmcblcijndipabGreatDoorAd06
import Derived.Conc.Own
set_option maxHeartbeats 1000000
namespace Go.Proofs.YtlmcblcijndipabGreatDoor
open Go
variable [Gl]
inductive jb (ok:Ctx)(ρ:Ren):Next->Next->Prop
 |value {v v':Value}:aj ok ρ v v'->jb ok ρ (.value v) (.value v')
 |skip:jb ok ρ .skip .skip
 |enter (f:FuncId) {xs xs':Array Value}:ok.fn f=true->am ok ρ xs xs'->jb ok ρ (.enter f xs) (.enter f xs')
 |round {l l':Nat} (f:FuncId) {xs xs':Array Value} {a b:Code}:ρ l=some l'->ok.inn f=true->am ok ρ xs xs'->ok.code a=true->ok.code b=true->jb ok ρ (.round l f xs a b) (.round l' f xs' a b)
structure Callable (P0 P:Program)(ok:Ctx):Prop where
 left:∀f,ok.fn f=true->∃fn,P0.funcs[f]?=some fn/\fn.body.isSome=true/\(fn.name== "runtime.NumGoroutine")=false
 right:∀f,ok.fn f=true->∃fn,P.funcs[f]?=some fn/\fn.body.isSome=true/\(fn.name== "runtime.NumGoroutine")=false
 hole:P0.info? 1000000000=none
 over:∀xs V,Result.stops ((callFunc Gl.ov xs).run P0 V)=true
def bR (fn:FuncId->Bool):Operand->Bool
 |.tmp _=>true
 |.const v=>qU v
 |.global _=>false
 |.func f=>fn f
def qZ (P:Program)(s:TypeId)(f:Nat):Bool:=
 match P.underlying s with
 |some (.struct fs)=>(match fs[f]? with|some x=>(match P.info? x.type with|some i=>i.size !=0|none=>true)|none=>true)
 |_=>true
def gS:Builtin->Bool
 |.len|.cap|.max|.min=>true
 |_=>false
def jE (P:Program)(ts:Array TypeId)(b:Builtin):Bool:=gS b||(b==.append&&(tu P ts||wq P ts))||(b==.clear&&zm P ts)||(b==.copy&&zp P ts)
def Ei:Operand->Bool
 |.func g=>g==Gl.ov
 |_=>false
def uQ (P:Program)(ok:FuncId->Bool)(c:Call):Bool:=
 (match c.callee with|.builtin b=>jE P c.argTypes b|.value f=>bR ok f||Ei f|.invoke r n=>bR ok r&&nV P ok n)&&c.args.all (bR ok)
def Ep (ok:FuncId->Bool):Fn->Bool
 |.func f=>ok f
 |_=>false
def pW (P:Program)(t:TypeId):Bool:=
 match P.underlying t with
 |some .string=>true
 |_=>false
def tv (P:Program)(t:TypeId):Bool:=
 match P.underlying t with
 |some (.int _)=>true
 |_=>false
def rh (P:Program)(t:TypeId):Bool:=
 match P.underlying t with
 |some (.slice e)=>(match P.underlying e with|some (.int .u8)=>true|_=>false)
 |_=>false
def ge (P:Program)(ok:FuncId->Bool):Op->Bool
 |.move x|.assign x=>bR ok x
 |.pick c a b=>bR ok c&&bR ok a&&bR ok b
 |.alloc t=>uv P t
 |.box _ x=>bR ok x
 |.build t parts=>uv P t&&parts.all (λx=>bR ok x.2)
 |.buildSlice t _ parts=>s7 P t&&parts.all (λx=>bR ok x.2)
 |.load _ a=>bR ok a
 |.store _ a x=>bR ok a&&bR ok x
 |.binOp op t x y _=>(jU P op t||pV P op t y)&&bR ok x&&bR ok y
 |.unOp _ _ x=>bR ok x
 |.makeFunc f a b=>Ep ok f&&a.all (bR ok)&&b.all (bR ok)
 |.makeSlice t l c=>s7 P t&&bR ok l&&bR ok c
 |.slice _ x a b c=>bR ok x&&a.all (bR ok)&&b.all (bR ok)&&c.all (bR ok)
 |.fieldAddr s x f=>qZ P s f&&bR ok x
 |.field _ x _=>bR ok x
 |.indexAddr _ x i=>bR ok x&&bR ok i
 |.index _ x i=>bR ok x&&bR ok i
 |.extract x _=>bR ok x
 |.call c=>uQ P ok c
 |.nilCheck x=>bR ok x
 |.convert a b x=>((tv P a&&tv P b)||(rh P a&&pW P b))&&bR ok x
 |.range t x=>pW P t&&bR ok x
 |.next it b=>b&&bR ok it
 |.makeInterface _ x=>bR ok x
 |.typeAssert x _ t c=>c&&uv P t&&bR ok x
 |_=>false
section
variable {P0 P:Program}{ok:Ctx}{str:Bool}{ρ:Ren}
theorem C5 (hT:P0.toTables=P.toTables)(ts:Array TypeId)(t:TypeId){xs xs':Array Value}(h:am ok ρ xs xs'):ab P0 P ok str (λσ x y=>aj ok σ x y) ρ (Builtin.len_ ts t xs) (Builtin.len_ ts t xs'):=by
 unfold Builtin.len_;cases ht:ts[0]? with
 |none=>cases hx:xs[0]?<;>exact .halt _ _
 |some t=>
  cases hx:xs[0]? with
  |none=>exact .halt _ _
  |some x=>
   obtain⟨x',hx',r⟩:=h.get hx;rw[hx'];refine aa _ (ah hT t) ?_;rintro σ d _ l ⟨rfl,_⟩;have r:=r.mono l;cases d with
   |string=>cases r<;>first|exact ae (.int _ _)|exact .halt _ _
   |array n e=>exact ae (.int _ _)
   |pointer a=>
    refine aa _ (ah hT a) ?_;rintro τ d _ l ⟨rfl,_⟩;cases d with
    |array n e=>exact ae (.int _ _)
    |_=>exact .halt _ _
   |slice e=>cases r<;>first|exact ae (.int _ _)|exact .halt _ _
   |_=>cases r<;>exact .halt _ _
theorem C6 (hT:P0.toTables=P.toTables)(ts:Array TypeId)(t:TypeId){xs xs':Array Value}(h:am ok ρ xs xs'):ab P0 P ok str (λσ x y=>aj ok σ x y) ρ (Builtin.cap_ ts t xs) (Builtin.cap_ ts t xs'):=by
 unfold Builtin.cap_;cases ht:ts[0]? with
 |none=>cases hx:xs[0]?<;>exact .halt _ _
 |some t=>
  cases hx:xs[0]? with
  |none=>exact .halt _ _
  |some x=>
   obtain⟨x',hx',r⟩:=h.get hx;rw[hx'];refine aa _ (ah hT t) ?_;rintro σ d _ l ⟨rfl,_⟩;have r:=r.mono l;cases d with
   |array n e=>exact ae (.int _ _)
   |pointer a=>
    refine aa _ (ah hT a) ?_;rintro τ d _ l ⟨rfl,_⟩;cases d with
    |array n e=>exact ae (.int _ _)
    |_=>exact .halt _ _
   |slice e=>cases r<;>first|exact ae (.int _ _)|exact .halt _ _
   |_=>cases r<;>exact .halt _ _
theorem AZ {x x' y y':Value}(h:aj ok ρ x x')(h':aj ok ρ y y'):ab P0 P ok str (λσ x y=>aj ok σ x y) ρ (Builtin.max2 x y) (Builtin.max2 x' y'):=by
 cases h with
 |int k a=>cases h'<;>first|exact ae (.int _ _)|exact .halt _ _
 |string a=>
  cases h' with
  |string b=>
   refine aa _ (ja _ _ _) ?_;intro σ u u' _ hu;refine aa _ (lP hu) ?_;rintro τ b _ _ rfl;split<;>exact ae (.string _)
  |_=>exact .halt _ _
 |_=>cases h'<;>exact .halt _ _
theorem A0 {x x' y y':Value}(h:aj ok ρ x x')(h':aj ok ρ y y'):ab P0 P ok str (λσ x y=>aj ok σ x y) ρ (Builtin.min2 x y) (Builtin.min2 x' y'):=by
 cases h with
 |int k a=>cases h'<;>first|exact ae (.int _ _)|exact .halt _ _
 |string a=>
  cases h' with
  |string b=>
   refine aa _ (ja _ _ _) ?_;intro σ u u' _ hu;refine aa _ (lP hu) ?_;rintro τ b _ _ rfl;split<;>exact ae (.string _)
  |_=>exact .halt _ _
 |_=>cases h'<;>exact .halt _ _
theorem pX {f:Value->Value->Sem Value}(hf:∀{ρ:Ren} {x x' y y':Value},aj ok ρ x x'->aj ok ρ y y'->ab P0 P ok str (λσ x y=>aj ok σ x y) ρ (f x y) (f x' y')):
  ∀{l l':List Value} {ρ:Ren} {x x':Value},dH ok ρ l l'->aj ok ρ x x'->ab P0 P ok str (λσ x y=>aj ok σ x y) ρ (l.foldlM f x) (l'.foldlM f x'):=by
 intro l;induction l with
 |nil=>intro l' ρ x x' h hx;cases h;exact ae hx
 |cons a l ih=>
  intro l' ρ x x' h hx;cases h with
  |cons ha h=>
   simp only[List.foldlM_cons];refine aa _ (hf hx ha) ?_;intro σ y y' le hy;exact ih (h.mono le) hy
theorem C7 (ts:Array TypeId)(t:TypeId){xs xs':Array Value}(h:am ok ρ xs xs'):ab P0 P ok str (λσ x y=>aj ok σ x y) ρ (Builtin.max_ ts t xs) (Builtin.max_ ts t xs'):=by
 unfold Builtin.max_;have hl:=h.list;generalize xs.toList=l at hl;generalize xs'.toList=l' at hl;cases hl with
 |nil=>exact .halt _ _
 |cons hv hl=>exact pX (λh h'=>AZ h h') hl hv
theorem C8 (ts:Array TypeId)(t:TypeId){xs xs':Array Value}(h:am ok ρ xs xs'):ab P0 P ok str (λσ x y=>aj ok σ x y) ρ (Builtin.min_ ts t xs) (Builtin.min_ ts t xs'):=by
 unfold Builtin.min_;have hl:=h.list;generalize xs.toList=l at hl;generalize xs'.toList=l' at hl;cases hl with
 |nil=>exact .halt _ _
 |cons hv hl=>exact pX (λh h'=>A0 h h') hl hv
theorem aM {s s':Sem Value}(h:ab P0 P ok str (λσ x y=>aj ok σ x y) ρ s s'):ab P0 P ok str (λσ x y=>jb ok σ x y) ρ (do pure (.value (<-s))) (do pure (.value (<-s'))):=by
 refine aa _ h ?_;intro σ x y _ hv;exact ae (.value hv)
theorem ri {s s':Sem Unit}{A:Ren->Unit->Unit->Prop}(h:ab P0 P ok str A ρ s s'):ab P0 P ok str (λσ x y=>jb ok σ x y) ρ (do s;pure .skip) (do s';pure .skip):=by
 refine aa _ h ?_;intro σ x y _ _;exact ae .skip
theorem mJ (hC:Callable P0 P ok)(f:FuncId)(hf:ok.fn f=true){xs xs':Array Value}(h:am ok ρ xs xs'):ab P0 P ok str (λσ x y=>jb ok σ x y) ρ (callFunc f xs) (callFunc f xs'):=by
 refine ab.program ?_;obtain⟨fn,h1,h2,h3⟩:=hC.left f hf;obtain⟨fn',h1',h2',h3'⟩:=hC.right f hf;have e1:fn.body.isNone=false:=by cases hb:fn.body<;>simp_all
 have e2:fn'.body.isNone=false:=by cases hb:fn'.body<;>simp_all
 refine aA ?_;rw[h1,h1'];simp only[h3,h3',e1,e2,Bool.false_eq_true,if_false];exact ae (.enter f hf h)
theorem fR {l l':Nat}(hl:ρ l=some l'):ab P0 P ok str (λσ r r'=>sZ ok σ r r') ρ (Instr.getLoop l) (Instr.getLoop l'):=by
 refine ab.getObj hl λo o' ho=>?_
 cases ho with
 |loop hr=>exact .pure hr
 |_=>exact .halt _ _
theorem zs {l l':Nat}(hl:ρ l=some l'){xs xs':Array Value}(h:am ok ρ xs xs'):ab P0 P ok str (λσ x y=>jb ok σ x y) ρ (Instr.yield l xs) (Instr.yield l' xs'):=by
 refine aa _ (fR hl) ?_;intro σ r r' le hr;have h:=h.mono le;rw[h.size,hr.params];split
 .exact .halt _ _
 .rw[hr.fn,hr.assign,hr.body];refine ae (.round _ (le _ _ hl) hr.inn ?_ hr.ok1 hr.ok2);have fold:∀(ps:List Tmp) (l l':List Value) (_:dH ok σ l l') (a a':Array Value),am ok σ a a'->
    am ok σ ((ps.zip l).foldl (λtmps (x:Tmp×Value)=>tmps.setIfInBounds x.1 x.2) a) ((ps.zip l').foldl (λtmps (x:Tmp×Value)=>tmps.setIfInBounds x.1 x.2) a'):=by
   intro ps;induction ps with
   |nil=>intro l l' _ a a' ha;exact ha
   |cons p ps ih=>
    intro l l' hl a a' ha;cases hl with
    |nil=>exact ha
    |cons hv hl=>exact ih _ _ hl _ _ (ha.set hv p)
  have:=fold r.params.toList _ _ h.list _ _ hr.tmps;rw[<-Array.toList_zip,<-Array.toList_zip,Array.foldl_toList,Array.foldl_toList]at this;exact this
theorem uR (hT:P0.toTables=P.toTables)(b:Builtin)(ts:Array TypeId)(hb:jE P ts b=true)(t:TypeId)(cs:Array Bool){xs xs':Array Value}(h:am ok ρ xs xs'):ab P0 P ok str (λσ x y=>jb ok σ x y) ρ (builtin b ts t cs xs) (builtin b ts t cs xs'):=by
 cases b with
 |len=>exact aM (C5 hT ts t h)
 |cap=>exact aM (C6 hT ts t h)
 |max=>exact aM (C7 ts t h)
 |min=>exact aM (C8 ts t h)
 |append=>
  have hb':(tu P ts||wq P ts)=true:=by simpa[jE,gS]using hb
  cases ha:tu P ts with
  |true=>exact aM (xA hT ts t ha h)
  |false=>rw[ha]at hb';exact aM (uP hT ts t hb' h)
 |copy=>exact aM (AX hT ts t (by simpa[jE,gS]using hb) h)
 |clear=>exact aM (zn hT ts t (by simpa[jE,gS]using hb) h)
 |_=>simp[jE,gS]at hb
theorem lR (hT:P0.toTables=P.toTables)(hC:Callable P0 P ok){d d':Target}{xs xs':Array Value}(hd:pT ok ρ d d')(hb:∀b a t c,d≠.builtin b a t c)(h:am ok ρ xs xs'):ab P0 P ok str (λσ x y=>jb ok σ x y) ρ (invoke d xs) (invoke d' xs'):=by
 cases hd with
 |fn hf hx=>
  cases hf with
  |func hf=>exact mJ hC _ hf (h.append hx)
  |yield hl=>exact zs hl h
 |nil=>exact bU hT .nilDeref rfl
 |builtin b a t c=>exact absurd rfl (hb b a t c)
 |collected _=>exact .halt _ _
theorem pC (hT:P0.toTables=P.toTables)(hC:Callable P0 P ok)(n:String)(hm:nV P ok.fn n=true){v v':Value}(hv:aj ok ρ v v'){xs xs':Array Value}(h:am ok ρ xs xs'):ab P0 P ok str (λσ x y=>jb ok σ x y) ρ (callMethod v n xs) (callMethod v' n xs'):=by
 unfold callMethod;cases hv with
 |iface t hv=>
  refine ab.program ?_;refine aA ?_;rw[hT];refine aa _ (xD hT _ t n hm hv) ?_;rintro σ ⟨f,x⟩ ⟨_,y⟩ l ⟨rfl,hf,hx⟩;exact mJ hC f hf ((am.nil.push hx).append (h.mono l))
 |nilIface=>exact bU hT .nilDeref rfl
 |hole _=>exact .halt _ _
 |_=>exact .halt _ _
def pY (ok:Ctx)(ρ:Ren)(ev ev':Operand->Value):Prop:=∀x,bR ok.fn x=true->aj ok ρ (ev x) (ev' x)
theorem rj {ev ev':Operand->Value}(h:pY ok ρ ev ev'){xs:Array Operand}(hx:xs.all (bR ok.fn)=true):am ok ρ (xs.map ev) (xs.map ev'):=by
 refine⟨by simp,λi x x' e e'=>?_⟩;rw[Array.getElem?_map]at e e';cases hi:xs[i]? with
 |none=>rw[hi]at e;cases e
 |some o=>
  rw[hi]at e e';simp only[Option.map_some,Option.some.injEq]at e e';subst e;subst e';rw[Array.all_eq_true]at hx;obtain⟨hl,rfl⟩:=Gp.1 hi;exact h _ (hx i hl)
theorem pZ {ev ev':Operand->Value}(h:pY ok ρ ev ev'){xs:Array (Nat×Operand)}(hx:xs.all (λx=>bR ok.fn x.2)=true):
  (xs.map λx=>(x.1,ev x.2)).toList.map (·.1)=(xs.map λx=>(x.1,ev' x.2)).toList.map (·.1)/\dH ok ρ ((xs.map λx=>(x.1,ev x.2)).toList.map (·.2)) ((xs.map λx=>(x.1,ev' x.2)).toList.map (·.2)):=by
 refine⟨by simp,?_⟩;simp only[Array.toList_map,List.map_map];have hx':∀x∈xs.toList,bR ok.fn x.2=true:=by
  intro x hm;rw[Array.all_eq_true]at hx;obtain⟨i,hi,rfl⟩:=Array.getElem_of_mem (Array.mem_toList_iff.1 hm);exact hx i hi
 generalize xs.toList=l at hx';induction l with
 |nil=>exact .nil
 |cons a l ih=>exact .cons (h _ (hx' a (by simp))) (ih λx hm=>hx' x (by simp[hm]))
theorem rk {ev ev':Operand->Value}(h:pY ok ρ ev ev'){x:Option Operand}(hx:x.all (bR ok.fn)=true):gQ ok ρ (x.map ev) (x.map ev'):=by
 cases x with
 |none=>exact .none
 |some o=>exact .some (h _ (by simpa using hx))
omit [Gl] in
theorem nW (op:BinOp)(t:TypeId)(x y:Operand)(a:Value)(V:World):(eqGuard op t x y a hole).run P0 V=.ok () V/\(eqGuard op t x y hole a).run P0 V=.ok () V:=by
 constructor<;>(cases op<;>first|rfl|(cases a<;>rfl))
omit [Gl] in
theorem uS (hT:P0.toTables=P.toTables)(op:BinOp)(t:TypeId)(ht:jU P op t=true)(x y:Operand)(a b:Value)(h:a=hole\/b=hole)(V:World):Result.stops ((do eqGuard op t x y a b;binOp op t a b:Sem Value).run P0 V)=true:=by
 rw[Sem.run_bind];rcases h with rfl|rfl
 .rw[(nW op t x y b V).2];exact(iw hT op t ht b V).2
 .rw[(nW op t x y a V).1];exact(iw hT op t ht a V).1
theorem uT (hT:P0.toTables=P.toTables)(op:BinOp)(t:TypeId)(ht:jU P op t=true)(x y:Operand){a a' b b':Value}(h:aj ok ρ a a')(h':aj ok ρ b b')(na:a≠hole)(nb:b≠hole):ab P0 P ok str (λ_ _ _=>True) ρ (eqGuard op t x y a b) (eqGuard op t x y a' b'):=by
 unfold eqGuard;by_cases he:tm op=true
 .unfold jU at ht;rw[if_pos he]at ht;have hd:∀(Q:Program),Q.toTables=P.toTables->Q.eqGuardType Q.depth t=false:=by
   intro Q hQ;have:Q.depth=(2*(Q.types.size+Made.depth)+1)+1:=rfl;rw[this];unfold Program.eqGuardType;rw[lL hQ];unfold CD at ht;split at ht<;>simp_all
  have hg:∀{σ:Ren} {u u' v v':Value},ab P0 P ok str (λ_ x y=>x=false/\y=false) σ (Op.eqGuardIn Op.maxDepth t u v) (Op.eqGuardIn Op.maxDepth t u' v'):=by
   intro σ u u' v v';show ab P0 P ok str _ σ (Op.eqGuardIn (9999+1) t u v) (Op.eqGuardIn (9999+1) t u' v');unfold Op.eqGuardIn;refine aa _ (ah hT t) ?_;rintro τ d _ _ ⟨rfl,hu⟩;unfold CD at ht;rw[hu]at ht;cases d with
   |bool=>exact ae ⟨rfl,rfl⟩
   |string=>exact ae ⟨rfl,rfl⟩
   |int k=>exact ae ⟨rfl,rfl⟩
   |slice e=>exact ae ⟨rfl,rfl⟩
   |_=>cases ht
  have e1:(!(match op with|.eql|.neq=>true|_=>false))=false:=by cases op<;>first|rfl|cases he
  cases op with
  |eql=>
   cases h with
   |hole _=>exact absurd rfl na
   |nilIface=>
    cases h' with
    |hole _=>exact absurd rfl nb
    |nilIface=>
     have tail:ab P0 P ok str (λ_ _ _=>True) ρ (do if<-Op.eqGuardIn Op.maxDepth t .nilIface .nilIface then unsupported (.noEntry "binop/eql: two nil values of an interface type with methods, neither of them the literal nil")else pure ())
       (do if<-Op.eqGuardIn Op.maxDepth t .nilIface .nilIface then unsupported (.noEntry "binop/eql: two nil values of an interface type with methods, neither of them the literal nil")else pure ()):=by
      refine aa _ hg ?_;rintro σ _ _ _ ⟨rfl,rfl⟩;exact ae trivial
     cases x<;>cases y<;>first|exact ae trivial|exact tail
    |_=>exact ae trivial
   |agg _ _=>
    cases h' with
    |hole _=>exact absurd rfl nb
    |agg _ _=>
     refine ab.program (aA (ab.program (aA ?_)));rw[hd P0 hT,hd P rfl];exact ae trivial
    |_=>exact ae trivial
   |_=>cases h'<;>first|exact absurd rfl nb|exact ae trivial
  |neq=>
   cases h with
   |hole _=>exact absurd rfl na
   |nilIface=>
    cases h' with
    |hole _=>exact absurd rfl nb
    |nilIface=>
     have tail:ab P0 P ok str (λ_ _ _=>True) ρ (do if<-Op.eqGuardIn Op.maxDepth t .nilIface .nilIface then unsupported (.noEntry "binop/eql: two nil values of an interface type with methods, neither of them the literal nil")else pure ())
       (do if<-Op.eqGuardIn Op.maxDepth t .nilIface .nilIface then unsupported (.noEntry "binop/eql: two nil values of an interface type with methods, neither of them the literal nil")else pure ()):=by
      refine aa _ hg ?_;rintro σ _ _ _ ⟨rfl,rfl⟩;exact ae trivial
     cases x<;>cases y<;>first|exact ae trivial|exact tail
    |_=>exact ae trivial
   |agg _ _=>
    cases h' with
    |hole _=>exact absurd rfl nb
    |agg _ _=>
     refine ab.program (aA (ab.program (aA ?_)));rw[hd P0 hT,hd P rfl];exact ae trivial
    |_=>exact ae trivial
   |_=>cases h'<;>first|exact absurd rfl nb|exact ae trivial
  |_=>cases he
 .cases op<;>first|exact ae trivial|exact absurd rfl he
omit [Gl] in
theorem uU {s:TypeId}{f:Nat}(h:qZ P s f=true):∀fs x i,P.underlying s=some (.struct fs)->fs[f]?=some x->P.info? x.type=some i->i.size≠0:=by
 intro fs x i h1 h2 h3;unfold qZ at h;rw[h1]at h;simp only[h2,h3]at h;simpa using h
omit [Gl] in
theorem jV (h:P0.info? 1000000000=none)(V:World):Result.stops ((typeInfo 1000000000).run P0 V)=true:=by
 simp[typeInfo,h,Result.stops,ends]
omit [Gl] in
theorem pD (h:P0.info? 1000000000=none)(n:Nat)(V:World):Result.stops ((nilAhead n 1000000000 (.chan none) "").run P0 V)=true\/(nilAhead n 1000000000 (.chan none) "").run P0 V=.ok none V:=by
 cases n with
 |zero=>exact .inr rfl
 |succ n=>
  left;unfold nilAhead;rw[Sem.run_bind];exact dj (jV h V) _
omit [Gl] in
theorem pE (h:P0.info? 1000000000=none)(V:World):Result.stops ((do
    if(<-nilAhead ((<-program).types.size+Made.depth) 1000000000 (.chan none) "")!=some false then
     unsupported (.noEntry "op/nilCheck.the method's receiver behind this interface value is a nil pointer, or cannot be seen to be none, and the arguments act or may panic (ledger 612)")
    pure (.value (.func (.method "") #[.iface 1000000000 (.chan none)] #[])):Sem Next).run P0 V)=true:=by
 rw[Sem.run_bind];show Result.stops (Sem.run P0 _ V)=true;rw[Sem.run_bind];rcases pD h (P0.types.size+Made.depth) V with e|e
 .exact dj e _
 .rw[e];rfl
omit [Gl] in
theorem jc (h:P0.info? 1000000000=none)(args:Array Value)(V:World):Result.stops ((invoke (.fn (.method "") #[]) (#[.iface 1000000000 (.chan none)]++args)).run P0 V)=true:=by
 unfold invoke;have e:(#[Value.iface 1000000000 (.chan none)]++args)[0]?=some (.iface 1000000000 (.chan none)):=by rw[Array.getElem?_append_left (by decide)];rfl
 simp only[e];unfold callMethod;rw[Sem.run_bind];show Result.stops (Sem.run P0 _ V)=true;rw[Sem.run_bind];refine dj ?_ _;generalize P0.types.size+Made.depth=n;cases n with
 |zero=>rfl
 |succ n=>
  unfold method;rw[Sem.run_bind];exact dj (jV h V) _
theorem A1 (hT:P0.toTables=P.toTables)(hC:Callable P0 P ok)(c:Call)(t:TypeId)(hc:uQ P ok.fn c=true){ev ev':Operand->Value}(h:pY ok ρ ev ev')(hcf:∀g,ev (.func g)=.func (.func g) #[] #[]):
  ab P0 P ok str (λσ x y=>jb ok σ x y) ρ (do let d <-resolve ev c t;invoke d.target d.args) (do let d <-resolve ev' c t;invoke d.target d.args):=by
 unfold uQ at hc;rw[GQ]at hc;have ha:=rj h hc.2;unfold resolve;cases hcal:c.callee with
 |builtin b=>
  rw[hcal]at hc;exact uR hT b _ hc.1 _ _ ha
 |invoke r n=>
  rw[hcal]at hc;simp only[Bool.and_eq_true]at hc;refine aA ?_;have e:∀(v:Value) (xs:Array Value),invoke (.fn (.method n) #[]) (#[v]++xs)=callMethod v n xs:=λv xs=>by
   unfold invoke;simp only[Array.extract_append];have h0:(#[v]++xs)[0]?=some v:=by rw[Array.getElem?_append_left (by simp)];rfl
   simp[h0]
  dsimp only;rw[e,e];exact pC hT hC n hc.1.2 (h r hc.1.1) ha
 |value f=>
  rw[hcal]at hc;cases hon:bR ok.fn f with
  |false=>
   have hov:Ei f=true:=by have:(bR ok.fn f||Ei f)=true:=hc.1;rw[hon]at this;exact this
   cases f with
   |func g=>
    have hg:g=Gl.ov:=by simpa[Ei]using hov
    subst hg;refine .dead _ _ λV=>?_
    dsimp only;rw[hcf];exact hC.over _ V
   |_=>cases hov
  |true=>
  have hf:=h f hon;dsimp only;generalize ev f=v at hf;generalize ev' f=v' at hf;cases hf with
  |func hfn e1 h1 e2 h2=>
   refine aA ?_;exact lR hT hC (.fn hfn ⟨e2,h2⟩) (by simp) (am.append ⟨e1,h1⟩ ha)
  |nilFunc=>exact bU hT .nilDeref rfl
  |hole _=>exact .dead _ _ λV=>jc hC.hole _ V
  |_=>exact .halt _ _
theorem tw (hT:P0.toTables=P.toTables)(hC:Callable P0 P ok)(o:Oper)(x:Operand)(hop:o.op=.nilCheck x){ev ev':Operand->Value}(hx:aj ok ρ (ev x) (ev' x)):ab P0 P ok str (λσ x y=>jb ok σ x y) ρ (execOp ev o) (execOp ev' o):=by
 unfold execOp;rw[hop];dsimp only;generalize ev x=v at hx;generalize ev' x=v' at hx;cases hx with
 |hole h=>exact .dead _ _ λV=>pE hC.hole V
 |ptr0=>exact bU hT .nilDeref rfl
 |nilFunc=>exact bU hT .nilDeref rfl
 |nilIface=>exact bU hT .nilDeref rfl
 |bool b=>exact ae (.value (.bool b))
 |int k n=>exact ae (.value (.int k n))
 |string s=>exact ae (.value (.string s))
 |ptr r=>exact ae (.value (.ptr r))
 |slice0 l c=>exact ae (.value (.slice0 l c))
 |slice l c r=>exact ae (.value (.slice l c r))
 |iface t h=>exact ae (.value (.iface t h))
 |func hf e1 h1 e2 h2=>
  cases hf with
  |func h=>exact ae (.value (.func (.func h) e1 h1 e2 h2))
  |yield h=>exact ae (.value (.func (.yield h) e1 h1 e2 h2))
 |agg e h=>exact ae (.value (.agg e h))
 |tuple e h=>exact ae (.value (.tuple e h))
theorem uV (hT:P0.toTables=P.toTables)(a b:TypeId)(ha:tv P a=true)(hb:tv P b=true){v v':Value}(hx:aj ok ρ v v'):ab P0 P ok str (λσ x y=>aj ok σ x y) ρ (convert a b v) (convert a b v'):=by
 unfold convert;refine aa _ (ah hT a) ?_;rintro σ d _ l ⟨rfl,hd⟩;refine aa _ (ah hT b) ?_;rintro τ e _ l' ⟨rfl,he⟩;unfold tv at ha hb;rw[hd]at ha;rw[he]at hb;cases d<;>first|cases ha|skip
 cases e<;>first|cases hb|skip
 cases hx with
 |int k n=>exact ae (.int _ _)
 |_=>exact .halt _ _
theorem rl:∀{l l':List Value} {ρ:Ren} (s:ByteArray),dH ok ρ l l'->ab P0 P ok str (λ_ x y=>x=y) ρ
  (forIn l s λ(c:Value) (s:ByteArray)=>match c with|.int .u8 n=>pure (ForInStep.yield (s.push (UInt8.ofNat n.toNat)))|_=>(stuck "bytesToString: byte expected":Sem (ForInStep ByteArray)))
  (forIn l' s λ(c:Value) (s:ByteArray)=>match c with|.int .u8 n=>pure (ForInStep.yield (s.push (UInt8.ofNat n.toNat)))|_=>(stuck "bytesToString: byte expected":Sem (ForInStep ByteArray))):=by
 intro l;induction l with
 |nil=>intro l' ρ s h;cases h;exact ae rfl
 |cons a l ih=>
  intro l' ρ s h;cases h with
  |cons ha h=>
   simp only[List.forIn_cons];cases ha with
   |int k n=>
    cases k with
    |u8=>exact ih _ h
    |_=>exact .halt _ _
   |_=>exact .halt _ _
theorem lU {v v':Value}(hx:aj ok ρ v v'):ab P0 P ok str (λσ x y=>aj ok σ x y) ρ (Conv.bytesToString v) (Conv.bytesToString v'):=by
 unfold Conv.bytesToString;cases hx with
 |slice0 l c=>exact ae (.string _)
 |slice l c r=>
  dsimp only;refine aa _ (iq r _) ?_;intro σ x y _ hxy;rw[<-Array.forIn_toList,<-Array.forIn_toList];refine aa _ (rl _ hxy.list) ?_;rintro τ s _ _ rfl;exact ae (.string _)
 |_=>exact .halt _ _
theorem rm (hT:P0.toTables=P.toTables)(a b:TypeId)(ha:rh P a=true)(hb:pW P b=true){v v':Value}(hx:aj ok ρ v v'):ab P0 P ok str (λσ x y=>aj ok σ x y) ρ (convert a b v) (convert a b v'):=by
 unfold convert;refine aa _ (ah hT a) ?_;rintro σ d _ l ⟨rfl,hd⟩;refine aa _ (ah hT b) ?_;rintro τ e _ l' ⟨rfl,he⟩;unfold rh at ha;unfold pW at hb;rw[hd]at ha;rw[he]at hb;cases d<;>first|cases ha;done|skip
 rename_i el;cases e<;>first|cases hb;done|skip
 have hx:=(hx.mono l).mono l';have tail:∀{x x':Value},aj ok τ x x'->ab P0 P ok str (λσ x y=>aj ok σ x y) τ (do match<-underlying el with|.int .u8=>Conv.bytesToString x|.int .i32=>Conv.runesToString x|_=>stuck "Convert: a slice of what to string?")
   (do match<-underlying el with|.int .u8=>Conv.bytesToString x'|.int .i32=>Conv.runesToString x'|_=>stuck "Convert: a slice of what to string?"):=by
  intro x x' h;refine aa _ (ah hT el) ?_;rintro υ u _ l2 ⟨rfl,hu⟩;dsimp only at ha;rw[hu]at ha;cases u<;>first|cases ha;done|skip
  rename_i k;cases k<;>first|cases ha;done|skip
  exact lU (h.mono l2)
 cases hx with
 |hole h=>
  refine .dead _ _ λV=>?_
  have hel:P0.underlying el=some (.int .u8):=by
   rw[lL hT];dsimp only at ha;split at ha<;>first|assumption|cases ha
  have hr:(underlying el).run P0 V=.ok (.int .u8) V:=by simp[underlying,hel]
  show Result.stops (Sem.run P0 (do match<-underlying el with|.int .u8=>Conv.bytesToString hole|.int .i32=>Conv.runesToString hole|_=>stuck "Convert: a slice of what to string?") V)=true;rw[Sem.run_bind,hr];rfl
 |int k n=>exact ae (.string _)
 |string s=>exact ae (.string _)
 |bool b=>exact tail (.bool b)
 |ptr0=>exact tail .ptr0
 |ptr r=>exact tail (.ptr r)
 |slice0 l c=>exact tail (.slice0 l c)
 |slice l c r=>exact tail (.slice l c r)
 |nilFunc=>exact tail .nilFunc
 |nilIface=>exact tail .nilIface
 |iface t h=>exact tail (.iface t h)
 |func hf e1 h1 e2 h2=>exact tail (.func hf e1 h1 e2 h2)
 |agg e h=>exact tail (.agg e h)
 |tuple e h=>exact tail (.tuple e h)
theorem zt (hT:P0.toTables=P.toTables)(t:TypeId)(ht:pW P t=true){v v':Value}(hx:aj ok ρ v v'):ab P0 P ok str (λσ x y=>aj ok σ x y) ρ (Instr.range t v) (Instr.range t v'):=by
 unfold Instr.range;refine aa _ (ah hT t) ?_;rintro σ d _ l ⟨rfl,hd⟩;unfold pW at ht;rw[hd]at ht;cases d with
 |string=>
  cases hx with
  |string s=>
   refine aA ?_;refine ab.new (.stringIter s 0) ?_;intro τ b c _ e;exact .pure (.ptr ⟨e,rfl,rfl⟩)
  |_=>exact .halt _ _
 |_=>cases ht
theorem A2 {v v':Value}(t:TypeId)(hx:aj ok ρ v v'):ab P0 P ok str (λσ x y=>aj ok σ x y) ρ (Instr.next v true t) (Instr.next v' true t):=by
 unfold Instr.next;cases hx with
 |@ptr a a' r=>
  obtain⟨b,off,sp⟩:=a;obtain⟨b',off',sp'⟩:=a';have h1:=r.off;simp only at h1;subst h1;cases off' with
  |zero=>
   refine ab.getObj r.blk λo o' ho=>?_
   refine aA ?_;cases ho with
   |stringIter s p=>
    dsimp only;split
    .exact ab.setObj r.blk (.stringIter s _) (.pure (.tuple rfl (λi x x' h h'=>by
      match i with
      |0=>simp at h h';subst h h';exact .bool _
      |1=>simp at h h';subst h h';exact .int _ _
      |2=>simp at h h';subst h h';exact .int _ _
      |i+3=>simp at h)))
    .exact ae (.tuple rfl (λi x x' h h'=>by
      match i with
      |0=>simp at h h';subst h h';exact .bool _
      |i+1=>simp at h))
   |_=>exact .halt _ _
  |succ n=>exact .halt _ _
 |_=>exact .halt _ _
theorem CE (hT:P0.toTables=P.toTables)(hG:P.globals.size=Gl.n)(hC:Callable P0 P ok)(o:Oper)(ho:ge P ok.fn o.op=true){ev ev':Operand->Value}(h:pY ok ρ ev ev')(hcv:∀v,ev (.const v)=v/\ev' (.const v)=v)(hcf:∀g,ev (.func g)=.func (.func g) #[] #[]):
  ab P0 P ok str (λσ x y=>jb ok σ x y) ρ (execOp ev o) (execOp ev' o):=by
 unfold execOp;cases hop:o.op with
 |move x=>rw[hop]at ho;exact ae (.value (h x ho))
 |assign x=>rw[hop]at ho;exact ae (.value (h x ho))
 |pick c a b=>
  rw[hop]at ho;simp only[ge,Bool.and_eq_true]at ho;refine aa _ (lP (h c ho.1.1)) ?_;rintro σ b _ l rfl;split
  .exact ae (.value ((h _ ho.1.2).mono l))
  .exact ae (.value ((h _ ho.2).mono l))
 |alloc t=>rw[hop]at ho;exact aM (ze hT t ho)
 |box t x=>rw[hop]at ho;exact aM (C3 t (h x ho))
 |build t parts=>
  rw[hop]at ho;simp only[ge,Bool.and_eq_true]at ho;have:=pZ h ho.2;exact aM (zf hT t ho.1 this.1 this.2)
 |buildSlice t n parts=>
  rw[hop]at ho;simp only[ge,Bool.and_eq_true]at ho;have:=pZ h ho.2;exact aM (pz hT t n ho.1 this.1 this.2)
 |load t a=>
  rw[hop]at ho;refine aM (aa _ (kP (h a ho)) ?_);intro σ x y l r;exact ko hT t r
 |store t a x=>
  rw[hop]at ho;simp only[ge,Bool.and_eq_true]at ho;refine ri (A:=λ_ _ _=>True) (aa _ (kP (h a ho.1)) ?_);intro σ b b' l r;exact tf hT t r ((h x ho.2).mono l)
 |binOp op t x y u=>
  rw[hop]at ho;simp only[ge,Bool.and_eq_true]at ho;cases hbk:jU P op t with
  |false=>
   have hn:pV P op t y=true:=by have:=ho.1.1;rw[hbk]at this;exact this
   have hy:=ws hn;have e1:ev y=.nilIface:=by rw[hy];exact(hcv .nilIface).1
   have e2:ev' y=.nilIface:=by rw[hy];exact(hcv .nilIface).2
   refine aM (s:=do eqGuard op t x y (ev x) (ev y);binOp op t (ev x) (ev y)) (s':=do eqGuard op t x y (ev' x) (ev' y);binOp op t (ev' x) (ev' y)) ?_;rw[e1,e2];exact zq hT op t x y hn (h x ho.1.2)
  |true=>
  by_cases hd:ev x=hole\/ev y=hole
  .exact aM (.dead _ _ λV=>uS hT op t hbk x y _ _ hd V)
  refine aM (aa _ (uT hT op t hbk x y (h x ho.1.2) (h y ho.2) (λe=>hd (.inl e)) (λe=>hd (.inr e))) ?_);intro σ _ _ l _;exact zk hT hG op t hbk ((h x ho.1.2).mono l) ((h y ho.2).mono l)
 |unOp op t x=>rw[hop]at ho;exact aM (zi op (h x ho))
 |makeFunc f a b=>
  rw[hop]at ho;simp only[ge,Bool.and_eq_true]at ho;cases f with
  |func f=>
   have h1:=rj h ho.1.2;have h2:=rj h ho.2;exact ae (.value (.func (.func ho.1.1) h1.size h1.at_ h2.size h2.at_))
  |_=>cases ho.1.1
 |makeSlice t l c=>
  rw[hop]at ho;simp only[ge,Bool.and_eq_true]at ho;exact aM (qV hT t ho.1.1 (h l ho.1.2) (h c ho.2))
 |slice t x a b c=>
  rw[hop]at ho;simp only[ge,Bool.and_eq_true]at ho;exact aM (uJ hT t (h x ho.1.1.1) (rk h ho.1.1.2) (rk h ho.1.2) (rk h ho.2))
 |fieldAddr s x f=>
  rw[hop]at ho;simp only[ge,Bool.and_eq_true]at ho;exact aM (uG hT s f (uU ho.1) (h x ho.2))
 |field t x f=>rw[hop]at ho;exact aM (zg hT t (h x ho) f)
 |indexAddr t x i=>
  rw[hop]at ho;simp only[ge,Bool.and_eq_true]at ho;exact aM (uH hT t (h x ho.1) (h i ho.2))
 |index t x i=>
  rw[hop]at ho;simp only[ge,Bool.and_eq_true]at ho;exact aM (zh hT t (h x ho.1) (h i ho.2))
 |extract x n=>rw[hop]at ho;exact aM (uK (h x ho) n)
 |call c=>rw[hop]at ho;exact A1 hT hC c _ ho h hcf
 |convert a b x=>
  rw[hop]at ho;simp only[ge,Bool.and_eq_true]at ho;simp only[Bool.or_eq_true,Bool.and_eq_true]at ho;rcases ho.1 with hab|hab
  .exact aM (uV hT a b hab.1 hab.2 (h x ho.2))
  .exact aM (rm hT a b hab.1 hab.2 (h x ho.2))
 |range t x=>
  rw[hop]at ho;simp only[ge,Bool.and_eq_true]at ho;exact aM (zt hT t ho.1 (h x ho.2))
 |next it b=>
  rw[hop]at ho;simp only[ge,Bool.and_eq_true]at ho;obtain⟨rfl,ho⟩:=ho;exact aM (A2 o.type (h it ho))
 |makeInterface t x=>rw[hop]at ho;exact aM (lQ hT t (h x ho))
 |typeAssert x t a c=>
  rw[hop]at ho;simp only[ge,Bool.and_eq_true]at ho;obtain⟨⟨rfl,hz⟩,ho⟩:=ho;exact aM (pB hT t a hz (h x ho))
 |nilCheck x=>
  rw[hop]at ho;have:=tw (P0:=P0) (P:=P) (str:=str) hT hC o x hop (h x ho);unfold execOp at this;rw[hop]at this;exact this
 |_=>rw[hop]at ho;cases ho
end
end Go.Proofs.YtlmcblcijndipabGreatDoor
namespace Go.Proofs.YtlmcblcijndipabGreatDoor
open Go Go.Conc
variable [Gl]
def aR (P:Program)(fn:FuncId->Bool):Code->Bool
 |.skip|.label _|.ret|.exit _|.goto _=>true
 |.seq a b=>aR P fn a&&aR P fn b
 |.cond c a b=>bR fn c&&aR P fn a&&aR P fn b
 |.block _ b|.loop b|.scope b=>aR P fn b
 |.region _ ops _=>ops.all (λo=>ge P fn o.op)
 |.rangeFunc f _ a b=>bR fn f&&aR P fn a&&aR P fn b
 |_=>false
inductive iL (P:Program)(ok:Ctx)(ρ:Ren):Item->Item->Prop
 |code {c:Code}:aR P ok.fn c=true->iL P ok ρ (.code c) (.code c)
 |inBlock (id:Nat):iL P ok ρ (.inBlock id) (.inBlock id)
 |inLoop {c:Code}:aR P ok.fn c=true->iL P ok ρ (.inLoop c) (.inLoop c)
 |inScope {c:Code}:aR P ok.fn c=true->iL P ok ρ (.inScope c) (.inScope c)
 |inRegion {ops:Array Oper} (todo:List Nat):ops.all (λo=>ge P ok.fn o.op)=true->iL P ok ρ (.inRegion ops todo) (.inRegion ops todo)
 |inRangeFunc {l l':Nat}:ρ l=some l'->iL P ok ρ (.inRangeFunc l) (.inRangeFunc l')
 |endRangeFunc {l l':Nat}:ρ l=some l'->iL P ok ρ (.endRangeFunc l) (.endRangeFunc l')
 |beginRound:iL P ok ρ .beginRound .beginRound
inductive fw (P:Program)(ok:Ctx)(ρ:Ren):List Item->List Item->Prop
 |nil:fw P ok ρ [] []
 |cons {x x':Item} {l l':List Item}:iL P ok ρ x x'->fw P ok ρ l l'->fw P ok ρ (x::l) (x'::l')
inductive p7:FrameMode->FrameMode->Prop
 |run:p7 .run .run
 |returning:p7 .returning .returning
 |panicking {c c':List PanicEntry}:p7 (.panicking c) (.panicking c')
inductive fS (ρ:Ren):List Deferred->List Deferred->Prop
 |nil:fS ρ [] []
 |cons {r r':Nat} {l l':List Deferred}:ρ r=some r'->fS ρ l l'->fS ρ ({target:=.collected r,args:=#[]}::l) ({target:=.collected r',args:=#[]}::l')
inductive nX (ρ:Ren):Option Nat->Option Nat->Prop
 |none:nX ρ none none
 |some {l l':Nat}:ρ l=some l'->nX ρ (some l) (some l')
structure bJ (P:Program)(ok:Ctx)(ρ:Ren)(fr fr':Frame):Prop where
 fn:fr'.fn=fr.fn
 inn:ok.inn fr.fn=true
 tmps:am ok ρ fr.tmps fr'.tmps
 todo:fw P ok ρ fr.todo fr'.todo
 defers:fS ρ fr.defers fr'.defers
 mode:p7 fr.mode fr'.mode
 kind:fr.kind=.normal
 kind':fr'.kind=.normal
 round:nX ρ fr.roundOf fr'.roundOf
inductive eH (P:Program)(ok:Ctx)(ρ:Ren):List Frame->List Frame->Prop
 |nil:eH P ok ρ [] []
 |cons {f f':Frame} {l l':List Frame}:bJ P ok ρ f f'->eH P ok ρ l l'->eH P ok ρ (f::l) (f'::l')
section
variable {P:Program}{ok:Ctx}{ρ σ:Ren}
theorem iL.mono {x x':Item}(h:iL P ok ρ x x')(l:ρ.le σ):iL P ok σ x x':=by
 cases h with
 |code h=>exact .code h
 |inBlock id=>exact .inBlock id
 |inLoop h=>exact .inLoop h
 |inScope h=>exact .inScope h
 |inRegion t h=>exact .inRegion t h
 |inRangeFunc h=>exact .inRangeFunc (l _ _ h)
 |endRangeFunc h=>exact .endRangeFunc (l _ _ h)
 |beginRound=>exact .beginRound
theorem fw.mono {x x':List Item}(h:fw P ok ρ x x')(l:ρ.le σ):fw P ok σ x x':=by
 induction h with
 |nil=>exact .nil
 |cons h _ ih=>exact .cons (h.mono l) ih
theorem fS.mono {x x':List Deferred}(h:fS ρ x x')(l:ρ.le σ):fS σ x x':=by
 induction h with
 |nil=>exact .nil
 |cons h _ ih=>exact .cons (l _ _ h) ih
theorem nX.mono {x x':Option Nat}(h:nX ρ x x')(l:ρ.le σ):nX σ x x':=by
 cases h with
 |none=>exact .none
 |some h=>exact .some (l _ _ h)
theorem bJ.mono {f f':Frame}(h:bJ P ok ρ f f')(l:ρ.le σ):bJ P ok σ f f':=⟨h.fn,h.inn,h.tmps.mono l,h.todo.mono l,h.defers.mono l,h.mode,h.kind,h.kind',h.round.mono l⟩
theorem eH.mono {f f':List Frame}(h:eH P ok ρ f f')(l:ρ.le σ):eH P ok σ f f':=by
 induction h with
 |nil=>exact .nil
 |cons h _ ih=>exact .cons (h.mono l) ih
theorem fw.exit {id:Nat}:∀{l l':List Item},fw P ok ρ l l'->(exitTo id l=none/\exitTo id l'=none)\/∃k k',exitTo id l=some k/\exitTo id l'=some k'/\fw P ok ρ k k':=by
 intro l l' h;induction h with
 |nil=>exact .inl ⟨rfl,rfl⟩
 |@cons x x' l l' hx hl ih=>
  cases hx with
  |inBlock i=>
   simp only[exitTo];split
   .exact .inr ⟨_,_,rfl,rfl,hl⟩
   .exact ih
  |_=>exact ih
theorem rr {l:Nat}:∀{c r:Code},aR P ok.fn c=true->findLabel c l=some r->aR P ok.fn r=true:=by
 intro c;induction c with
 |seq a b ia ib=>
  intro r h e;simp only[aR,Bool.and_eq_true]at h;simp only[findLabel]at e;split at e
  .rename_i x hx;cases e;simp only[aR,Bool.and_eq_true];exact⟨ia h.1 hx,h.2⟩
  .exact ib h.2 e
 |label k=>
  intro r h e;simp only[findLabel]at e;split at e
  .cases e;rfl
  .cases e
 |_=>intro r h e;simp[findLabel]at e
theorem fw.goto {id:Nat}:∀{l l':List Item},fw P ok ρ l l'->(gotoIn id l=none/\gotoIn id l'=none)\/∃k k',gotoIn id l=some k/\gotoIn id l'=some k'/\fw P ok ρ k k':=by
 intro l l' h;induction h with
 |nil=>exact .inl ⟨rfl,rfl⟩
 |@cons x x' l l' hx hl ih=>
  cases hx with
  |@inScope body hb=>
   simp only[gotoIn];split
   .rename_i r hr;exact .inr ⟨_,_,rfl,rfl,.cons (.code (rr hb hr)) (.cons (.inScope hb) hl)⟩
   .exact ih
  |_=>exact ih
end
def lV (fr:Frame)(cs:List Frame):Prop:=∀f,(fr::cs).getLast?=some f->f.roundOf=none
inductive jd (P0 P:Program)(ok:Ctx)(σ:Ren)(lb rb:List Frame):Goroutine->Goroutine->Prop
 |inside {fr fr':Frame} {cs cs':List Frame}:bJ P ok σ fr fr'->eH P ok σ cs cs'->lV fr cs->jd P0 P ok σ lb rb (G fr (cs++lb)) (G fr' (cs'++rb))
 |door {f:FuncId} {xs xs':Array Value} {cs cs':List Frame}:ok.fn f=true->ok.inn f=false->am ok σ xs xs'->eH P ok σ cs cs'->cs≠[]->(∀f,cs.getLast?=some f->f.roundOf=none)->
   jd P0 P ok σ lb rb (G (Frame.enter P0 f xs .normal) (cs++lb)) (G (Frame.enter P f xs' .normal) (cs'++rb))
structure Same (P0 P:Program)(ok:Ctx):Prop where
 same:∀f,ok.inn f=true->∃fn c,P0.funcs[f]?=some fn/\P.funcs[f]?=some fn/\fn.body=some c/\aR P ok.fn c=true
 code:∀c,ok.code c=aR P ok.fn c
omit [Gl] in
theorem fe (p:Program)(fn:FuncId)(es:Array Event):∀e∈seen p fn es,e∈es:=by
 unfold seen;simp only;have key:∀(l:List Event) (q:Bool) (kept:Array Event) (S:Event->Prop),(∀e∈l,S e)->(∀e∈kept,S e)->
   ∀e∈(l.foldl (λ(x:Bool×Array Event) (e:Event)=>match e.loc with|.mark (.extern f)=>((p.funcs[f]?).any (·.norace),x.2)|_=>(x.1,if x.1&&!e.sync then x.2 else x.2.push e)) (q,kept)).2,S e:=by
  intro l;induction l with
  |nil=>intro q kept S _ hk e he;exact hk e he
  |cons a l ih=>
   intro q kept S hl hk e he;simp only[List.foldl_cons]at he;split at he
   .exact ih _ _ S (λx hx=>hl x (by simp[hx])) hk e he
   .refine ih _ _ S (λx hx=>hl x (by simp[hx])) ?_ e he;split
    .exact hk
    .intro x hx;rcases Array.mem_push.1 hx with hx|rfl
     .exact hk x hx
     .exact hl _ (by simp)
 intro e he;rw[<-Array.foldl_toList]at he;exact key es.toList _ #[] (λe=>e∈es) (λx hx=>by simpa using hx) (λx hx=>by simp at hx) e he
section
variable {P0 P:Program}{ok:Ctx}{str:Bool}{ρ σ:Ren}
theorem bJ.finish {fr fr':Frame}(h:bJ P ok ρ fr fr'){v v':Value}(hv:aj ok ρ v v'):bJ P ok ρ (fr.finish v) (fr'.finish v'):=by
 have ht:=h.todo;obtain⟨fn,tmps,todo,defers,mode,kind,roundOf⟩:=fr;obtain⟨fn',tmps',todo',defers',mode',kind',roundOf'⟩:=fr';simp only at ht;cases ht with
 |nil=>exact h
 |cons hx hl=>
  cases hx with
  |inRegion t ho=>
   cases t with
   |nil=>exact h
   |cons i rest=>
    refine⟨h.fn,h.inn,?_,.cons (.inRegion _ ho) hl,h.defers,h.mode,h.kind,h.kind',h.round⟩;unfold Frame.finish;simp only;split
    .exact h.tmps.set hv _
    .exact h.tmps
  |inRangeFunc hr=>exact⟨h.fn,h.inn,h.tmps,.cons (.endRangeFunc hr) hl,h.defers,h.mode,h.kind,h.kind',h.round⟩
  |beginRound=>exact⟨h.fn,h.inn,h.tmps,hl,h.defers,h.mode,h.kind,h.kind',h.round⟩
  |_=>exact h
omit [Gl] in
theorem d9 (fr:Frame)(v:Value):(fr.finish v).roundOf=fr.roundOf:=by
 unfold Frame.finish;split<;>rfl
omit [Gl] in
theorem mK (fr:Frame)(c:List PanicEntry):(fr.raise c).roundOf=fr.roundOf:=by
 unfold Frame.raise;split<;>rfl
omit [Gl] in
theorem lV.swap {fr fr2:Frame}{cs:List Frame}(h:lV fr cs)(e:fr2.roundOf=fr.roundOf):lV fr2 cs:=by
 intro f hf;cases cs with
 |nil=>
  simp only[List.getLast?_singleton,Option.some.injEq]at hf;subst hf;rw[e];exact h fr rfl
 |cons c cs=>exact h f (by simpa using hf)
omit [Gl] in
theorem lV.push {fr fr2:Frame}{cs:List Frame}(h:lV fr cs):lV fr2 (fr::cs):=by
 intro f hf;exact h f (by simpa using hf)
omit [Gl] in
theorem lV.pop {fr c fr2:Frame}{cs:List Frame}(h:lV fr (c::cs))(e:fr2.roundOf=c.roundOf):lV fr2 cs:=by
 have:lV c cs:=λf hf=>h f (by simpa using hf)
 exact this.swap e
theorem gT (hS:Same P0 P ok){f:FuncId}(hf:ok.inn f=true){xs xs':Array Value}(h:am ok ρ xs xs'):bJ P ok ρ (Frame.enter P0 f xs .normal) (Frame.enter P f xs' .normal):=by
 obtain⟨fn,c,h1,h2,h3,h4⟩:=hS.same f hf;unfold Frame.enter;rw[h1,h2];simp only[Option.map_some,Option.getD_some,Option.bind_some,h3];refine⟨rfl,hf,?_,.cons (.code h4) .nil,.nil,.run,rfl,rfl,.none⟩;rw[<-h.size];exact h.append (am.replicate fO _)
omit [Gl] in
theorem p7.run_of {m m':FrameMode}(h:p7 m m')(e:m=.run):m'=.run:=by subst e;cases h;rfl
theorem bJ.raise {fr fr':Frame}(h:bJ P ok ρ fr fr')(c c':List PanicEntry):bJ P ok ρ (fr.raise c) (fr'.raise c'):=by
 have hm:=h.mode;unfold Frame.raise;obtain⟨fn,tmps,todo,defers,mode,kind,roundOf⟩:=fr;obtain⟨fn',tmps',todo',defers',mode',kind',roundOf'⟩:=fr';simp only at hm;cases hm with
 |run=>exact⟨h.fn,h.inn,h.tmps,h.todo,h.defers,.panicking,h.kind,h.kind',h.round⟩
 |returning=>exact⟨h.fn,h.inn,h.tmps,h.todo,h.defers,.panicking,h.kind,h.kind',h.round⟩
 |panicking=>exact⟨h.fn,h.inn,h.tmps,h.todo,h.defers,.panicking,h.kind,h.kind',h.round⟩
theorem fw.noCall {l l':List Item}(h:fw P ok ρ l l'):(∀d b r s k,l≠.call d b r s::k)/\∀d b r s k,l'≠.call d b r s::k:=by
 cases h with
 |nil=>exact⟨(by simp),(by simp)⟩
 |cons h _=>cases h<;>exact⟨(by simp),(by simp)⟩
omit [Gl] in
theorem gm {p:Program}{fr:Frame}{cs:List Frame}{s:Sem Next}{w w':World}{f:FuncId}{xs:Array Value}{es:Array Event}(hr:s.runT p w #[]=(.ok (.enter f xs) w',es))(hn:∀d b r s k,fr.todo≠.call d b r s::k)(hk:fr.kind=.normal):
  stepG.apply p true fr cs none s w=.go (G (Frame.enter p f xs .normal) (fr::cs)) w' (seen p fr.fn es):=by
 have hke:(CallKind.normal==CallKind.early)=false:=rfl;obtain⟨fn,tmps,todo,defers,mode,kind,roundOf⟩:=fr;simp only at hk hn;subst hk;cases todo with
 |nil=>simp only[stepG.apply,if_true,hr,GStep.after,hke];simp[G]
 |cons x l=>
  cases x with
  |call d b r s=>exact absurd rfl (hn d b r s l)
  |_=>simp only[stepG.apply,if_true,hr,GStep.after,hke];simp[G]
theorem lW (hS:Same P0 P ok){lb rb:List Frame}{s s':Sem Next}(hR:ab P0 P ok str (λσ x y=>jb ok σ x y) ρ s s'){fr fr':Frame}{cs cs':List Frame}(hf:bJ P ok ρ fr fr')(hc:eH P ok ρ cs cs')(hb:lV fr cs)
  {V W:World}(hw:aH ok str ρ V W){g2:Goroutine}{V2:World}{es:Array Event}
  (h:stepG.apply P0 true fr (cs++lb) none s V=.go g2 V2 es):
  ∃σ h2 W2 es2,stepG.apply P true fr' (cs'++rb) none s' W=.go h2 W2 es2/\jd P0 P ok σ lb rb g2 h2/\aH ok str σ V2 W2/\eD ρ V W σ V2 W2/\∀e∈es2,iO σ V e:=by
 have hke:(CallKind.normal==CallKind.early)=false:=rfl;have hno:=hf.todo.noCall;generalize hr:s.runT P0 V #[]=x at h;obtain⟨r,e1⟩:=x;rcases hR.sound #[] #[] hw hr with hst|⟨σ,r',V',W',d',h1,h2,h4,h5⟩
 .exfalso;cases r with
  |ok a w=>cases hst
  |halt hh w=>
   cases hh with
   |stuck y=>simp only[stepG.apply,if_true,hr,GStep.after]at h;cases h
   |unsupported u=>
    cases u with
    |initOrder g=>cases hst
    |_=>simp only[stepG.apply,if_true,hr,GStep.after]at h;cases h
   |_=>cases hst
 .have hev:∀e∈seen P fr'.fn d',iO σ V e:=λe he=>h5 e (fe _ _ _ e he)
  have h1':s'.runT P W #[]=(r',d'):=by rw[h1];simp
  have hf':=hf.mono h4.le;have hc':=hc.mono h4.le;cases h2 with
  |@ok a b V' W' hN hw'=>
   cases hN with
   |@value v v' hv=>
    simp only[stepG.apply,if_true,hr,GStep.after,GStep.go.injEq,hf.kind,hke]at h;obtain⟨rfl,rfl,_⟩:=h;refine⟨σ,G (fr'.finish v') (cs'++rb),W',_,?_,.inside (hf'.finish hv) hc' (hb.swap (d9 _ _)),hw',h4,hev⟩;simp only[stepG.apply,if_true,h1',GStep.after,hf.kind',hke];simp[G]
   |skip=>
    simp only[stepG.apply,if_true,hr,GStep.after,GStep.go.injEq,hf.kind,hke]at h;obtain⟨rfl,rfl,_⟩:=h;refine⟨σ,G (fr'.finish undef) (cs'++rb),W',_,?_,.inside (hf'.finish fO) hc' (hb.swap (d9 _ _)),hw',h4,hev⟩;simp only[stepG.apply,if_true,h1',GStep.after,hf.kind',hke];simp[G]
   |@enter f xs xs' hok hx=>
    rw[gm hr hno.1 hf.kind]at h;simp only[GStep.go.injEq]at h;obtain⟨rfl,rfl,_⟩:=h;refine⟨σ,G (Frame.enter P f xs' .normal) ((fr'::cs')++rb),W',_,gm h1' hno.2 hf.kind',?_,hw',h4,hev⟩;cases hi:ok.inn f with
    |true=>exact .inside (cs:=fr::cs) (gT hS hi hx) (.cons hf' hc') hb.push
    |false=>exact .door (cs:=fr::cs) hok hi hx (.cons hf' hc') (by simp) hb
   |@round l l' f xs xs' a b hl hi hx ha hb'=>
    simp only[stepG.apply,if_true,hr,GStep.after,GStep.go.injEq,hf.kind,hke]at h;obtain⟨rfl,rfl,_⟩:=h;refine⟨σ,G (Frame.round l' f xs' a b .normal) ((fr'::cs')++rb),W',_,?_,?_,hw',h4,hev⟩
    .simp only[stepG.apply,if_true,h1',GStep.after,hf.kind',hke];simp[G]
    .exact .inside (cs:=fr::cs) ⟨rfl,hi,hx,.cons (.code ((hS.code _).symm.trans ha)) (.cons .beginRound (.cons (.code ((hS.code _).symm.trans hb')) .nil)),.nil,.run,rfl,rfl,.some hl⟩ (.cons hf' hc') hb.push
  |@panic v v' V' W' hv hw'=>
   simp only[stepG.apply,if_true,hr,GStep.after,GStep.go.injEq,hf.kind,hke]at h;obtain⟨rfl,rfl,_⟩:=h;refine⟨σ,G (fr'.raise [{v:=v',recovered:=false}]) (cs'++rb),W',_,?_,.inside (hf'.raise _ _) hc' (hb.swap (mK _ _)),hw',h4,hev⟩;simp only[stepG.apply,if_true,h1',GStep.after,hf.kind',hke];simp[G]
end
end Go.Proofs.YtlmcblcijndipabGreatDoor
namespace Go.Proofs.YtlmcblcijndipabGreatDoor
open Go Go.Conc
variable [Gl]
section
variable {P0 P:Program}{ok:Ctx}{str:Bool}{ρ σ τ:Ren}{V W V1 W1 V2 W2:World}
theorem iO.shift (k1:eD ρ V W σ V1 W1)(k2:eD σ V1 W1 τ V2 W2){e:Event}(h:iO τ V1 e):iO τ V e:=by
 have key:∀b d,τ b=some d->Ro V b->Ro V1 b:=by
  intro b d hb hro;obtain⟨c,el,hc⟩:=hro;have hlt:b<V.heap.size:=(Gp.1 hc).1;rcases k2.new _ _ hb with h1|⟨h1,_⟩
  .rcases k1.new _ _ h1 with h2|⟨h2,_⟩
   .exact⟨c,el,by rw[(k1.ro _ _ h2 ⟨c,el,hc⟩).1];exact hc⟩
   .omega
  .have:=k1.sizeV;omega
 rcases h with⟨s,a,a',e1,r,w⟩|⟨s,r,r',e1,h,n⟩|h
 .exact .inl ⟨s,a,a',e1,r,λhw hro=>w hw (key _ _ r.blk hro)⟩
 .exact .inr (.inl ⟨s,r,r',e1,h,λhro=>n (key _ _ h hro)⟩)
 .exact .inr (.inr h)
theorem zu {α:Type}{f f':α->Sem Value}{l:List α}:∀{ρ:Ren},(∀a∈l,∀{σ:Ren},ρ.le σ->ab P0 P ok str (λσ x y=>aj ok σ x y) σ (f a) (f' a))->ab P0 P ok str (λσ x y=>dH ok σ x y) ρ (l.mapM f) (l.mapM f'):=by
 induction l with
 |nil=>intro ρ _;simp only[List.mapM_nil];exact ae .nil
 |cons a l ih=>
  intro ρ h;simp only[List.mapM_cons];refine aa _ (h a (by simp) (Ren.le_refl _)) ?_;intro σ x x' le hx;refine aa _ (ih λb hb _ le'=>h b (by simp[hb]) (le.trans le')) ?_;intro τ xs xs' le' hxs;exact ae (.cons (hx.mono le') hxs)
theorem iy (hT:P0.toTables=P.toTables)(fn:Func){xs xs':Array Value}(h:am ok ρ xs xs'):ab P0 P ok str (λσ x y=>aj ok σ x y) ρ (results fn xs) (results fn xs'):=by
 unfold results;rw[Array.mapM_eq_mapM_toList,Array.mapM_eq_mapM_toList];refine aa (λσ x y=>am ok σ x y) ?_ ?_
 .refine aa _ (zu ?_) ?_
  .intro a _ σ le;cases a with
   |tmp t=>exact ae ((h.mono le).getD t)
   |cell a t=>
    refine aa _ (lO hT ((h.mono le).getD a)) ?_;intro τ x y _ r;exact ko hT t r
  .intro σ x y _ hx;exact ae hx.array
 .intro σ x y _ hx;by_cases e:x.size=1
  .have e':y.size=1:=hx.size▸e;rw[dif_pos e,dif_pos e'];exact ae (hx.at_ 0 _ _ (Gu _) (Gu _))
  .have e':¬y.size=1:=hx.size▸e;rw[dif_neg e,dif_neg e'];exact ae (.tuple hx.size hx.at_)
theorem mL {l l':Nat}(hl:ρ l=some l')(jump:Option Code)(hj:∀c,jump=some c->ok.code c=true):ab P0 P ok str (λσ x y=>aj ok σ x y) ρ (Instr.endRound l jump) (Instr.endRound l' jump):=by
 refine aa _ (fR hl) ?_;intro σ r r' le hr;refine ab.setObj (le _ _ hl) (.loop ⟨rfl,rfl,hr.fn,hr.tmps,hr.params,hr.assign,hr.body,hr.defers,hr.inn,hr.ok1,hr.ok2,hj⟩) ?_;exact .pure (.bool _)
theorem jW (hT:P0.toTables=P.toTables){l l':Nat}(hl:ρ l=some l'):ab P0 P ok str (λ_ _ _=>True) ρ (Instr.beginRound l) (Instr.beginRound l'):=by
 refine aa _ (fR hl) ?_;intro σ r r' le hr;refine ab.setObj (le _ _ hl) (.loop ⟨rfl,hr.pending,hr.fn,hr.tmps,hr.params,hr.assign,hr.body,hr.defers,hr.inn,hr.ok1,hr.ok2,hr.ok3⟩) ?_;show ab P0 P ok str _ σ (match r.state with|.ready=>pure ()|.done=>runtimePanic (.error _)|.busy=>runtimePanic (.error _)|.exhausted=>runtimePanic (.error _)) (match r'.state with|.ready=>pure ()|.done=>runtimePanic (.error _)|.busy=>runtimePanic (.error _)|.exhausted=>runtimePanic (.error _));rw[hr.state];cases r.state with
 |ready=>exact ae trivial
 |_=>exact bU hT (.error _) rfl
theorem nY (hT:P0.toTables=P.toTables){l l':Nat}(hl:ρ l=some l'):ab P0 P ok str (λ_ x y=>x=y/\∀c,x=some c->ok.code c=true) ρ (Instr.endLoop l) (Instr.endLoop l'):=by
 refine aa _ (fR hl) ?_;intro σ r r' le hr;rw[hr.state];split
 .exact bU hT (.error _) rfl
 .refine ab.setObj (le _ _ hl) (.loop ⟨rfl,hr.pending,hr.fn,hr.tmps,hr.params,hr.assign,hr.body,hr.defers,hr.inn,hr.ok1,hr.ok2,hr.ok3⟩) ?_;exact .pure ⟨hr.pending.symm,hr.ok3⟩
theorem wu {r r':Nat}(hr:ρ r=some r'):ab P0 P ok str (λ_ x y=>x=[]/\y=[]) ρ (Instr.takeDeferred r) (Instr.takeDeferred r'):=by
 refine ab.getObj hr λo o' ho=>?_
 cases ho with
 |deferred=>exact ab.setObj hr .taken (.pure ⟨rfl,rfl⟩)
 |_=>exact .halt _ _
theorem kS (fn:FuncId)(hi:ok.inn fn=true){xs xs':Array Value}(h:am ok ρ xs xs')(params:Array Tmp){a b:Code}(ha:ok.code a=true)(hb:ok.code b=true){r r':Option Nat}(hr:nX ρ r r'):
  ab P0 P ok str (λσ x y=>σ x.1=some y.1/\fS σ x.2 y.2) ρ (Instr.enterLoop fn xs params a b r) (Instr.enterLoop fn xs' params a b r'):=by
 unfold Instr.enterLoop;have fin:∀{σ:Ren} {d d':Nat} {m m':List Deferred},ρ.le σ->σ d=some d'->fS σ m m'->
   ab P0 P ok str (λσ x y=>σ x.1=some y.1/\fS σ x.2 y.2) σ (do pure (<-newObj (.loop {state:=.ready,pending:=none,fn,tmps:=xs,params,assign:=a,body:=b,defers:=d}),m))
    (do pure (<-newObj (.loop {state:=.ready,pending:=none,fn,tmps:=xs',params,assign:=a,body:=b,defers:=d'}),m')):=by
  intro σ d d' m m' le hd hm;refine ab.new (.loop ⟨rfl,rfl,rfl,h.mono le,rfl,rfl,rfl,hd,hi,ha,hb,by simp⟩) ?_;intro τ x y le' e;exact .pure ⟨e,hm.mono le'⟩
 cases hr with
 |none=>
  refine ab.new .deferred ?_;intro σ x y le e;exact fin le e (.cons e .nil)
 |some hl=>
  refine aa _ (fR hl) ?_;intro σ q q' le hq;exact fin le hq.defers .nil
theorem bJ.eval {fr fr':Frame}(h:bJ P ok ρ fr fr'):pY ok ρ fr.eval fr'.eval:=by
 intro x hx;cases x with
 |tmp t=>exact h.tmps.getD t
 |const v=>exact ki hx
 |global g=>cases hx
 |func f=>exact .func (.func hx) rfl am.nil.at_ rfl am.nil.at_
theorem nZ {xs xs':Array Value}(h:am ok ρ xs xs')(ops:Array Oper):yielded ops xs'=yielded ops xs:=by
 funext j;unfold yielded;cases ((ops[j]?).bind (·.dst))with
 |none=>rfl
 |some d=>
  simp only[Option.bind_some];cases hx:xs[d]? with
  |none=>rw[h.none hx]
  |some x=>
   obtain⟨x',hx',r⟩:=h.get hx;rw[hx'];cases r with
   |hole h=>cases x'<;>first|rfl|cases h
   |_=>rfl
structure bq (P0 P:Program)(ok:Ctx):Prop extends Callable P0 P ok,Same P0 P ok where
 tab:P0.toTables=P.toTables
 glob:P.globals.size=Gl.n
def bD (P0 P:Program)(ok:Ctx)(str:Bool)(ρ:Ren)(lb rb:List Frame)(V W:World)(g2:Goroutine)(V2:World)(s:GStep):Prop:=
 ∃σ h2 W2 es2,s=.go h2 W2 es2/\jd P0 P ok σ lb rb g2 h2/\aH ok str σ V2 W2/\eD ρ V W σ V2 W2/\∀e∈es2,iO σ V e
omit [Gl] in
theorem cf {es es':Array Event}{o:Outcome}{w w':World}{g:Goroutine}(h:GStep.after es (.ended o w)=.go g w' es'):False:=by
 simp[GStep.after]at h
theorem jF {lb rb:List Frame}{FU FV:Bool}{fr fr':Frame}{cs cs':List Frame}(hf:bJ P ok ρ fr fr')(hc:eH P ok ρ cs cs')(hb:lV fr cs)(hw:aH ok str ρ V W)
  (jump:Option Code)(hj:∀c,jump=some c->ok.code c=true){l l':Nat}(hr:fr.roundOf=some l)(hl:ρ l=some l'){g2:Goroutine}{es:Array Event}
  (h:(let(r,es):=(Instr.endRound l jump).runT P0 V #[];GStep.after (seen P0 fr.fn es)<|match r with|.ok v w=>doReturn P0 FU fr (cs++lb) none v w|.halt _ w=>.ended (.stuck "range over a function: no such loop" (fr.pos P0)) w)=.go g2 V2 es):
  bD P0 P ok str ρ lb rb V W g2 V2 (let(r,es):=(Instr.endRound l' jump).runT P W #[];GStep.after (seen P fr'.fn es)<|match r with|.ok v w=>doReturn P FV fr' (cs'++rb) none v w|.halt _ w=>.ended (.stuck "range over a function: no such loop" (fr'.pos P)) w):=by
 generalize hrun:(Instr.endRound l jump).runT P0 V #[]=x at h;obtain⟨r,e1⟩:=x;rcases(mL (P0:=P0) (P:=P) (str:=str) hl jump hj).sound #[] #[] hw hrun with hst|⟨σ,r',V',W',d',h1,h2,h4,h5⟩
 .exfalso;cases r with
  |ok a w=>cases hst
  |halt hh w=>exact cf h
 .have h1':(Instr.endRound l' jump).runT P W #[]=(r',d'):=by rw[h1];simp
  cases h2 with
  |panic _ _=>exact(cf h).elim
  |@ok v v' V' W' hv hw'=>
   cases hc with
   |nil=>
    have:=hb fr rfl;rw[hr]at this;cases this
   |@cons c c' cs cs' hcc hcs=>
    simp only[List.cons_append,doReturn,hf.kind,GStep.after,GStep.go.injEq]at h;obtain⟨rfl,rfl,_⟩:=h;refine⟨σ,G (c'.finish v') (cs'++rb),W',seen P fr'.fn d',?_,.inside ((hcc.mono h4.le).finish hv) (hcs.mono h4.le) (hb.pop (d9 _ _)),hw',h4,λe he=>h5 e (fe _ _ _ e he)⟩;rw[h1'];simp[List.cons_append,doReturn,hf.kind',GStep.after,G]
end
end Go.Proofs.YtlmcblcijndipabGreatDoor
namespace Go.Proofs.YtlmcblcijndipabGreatDoor
open Go Go.Conc
variable [Gl]
section
variable {P0 P:Program}{ok:Ctx}{str:Bool}{ρ σ τ:Ren}{V W V1 W1 V2 W2:World}
omit [Gl] in
theorem lX {p:Program}{m:Bool}{fr:Frame}{cs:List Frame}{w:World}(h:fr.mode=.run):stepG p m (G fr cs) w=stepG.exec p m true fr cs none w:=by
 simp only[G,stepG,h]
omit [Gl] in
theorem eL {p:Program}{m:Bool}{fr:Frame}{cs:List Frame}{w:World}(h:fr.mode≠.run):stepG p m (G fr cs) w=unwind p m fr cs none w:=by
 cases hm:fr.mode with
 |run=>exact absurd hm h
 |_=>simp only[G,stepG,hm]
theorem fS.append {a a' b b':List Deferred}(h:fS ρ a a')(h':fS ρ b b'):fS ρ (a++b) (a'++b'):=by
 induction h with
 |nil=>exact h'
 |cons h _ ih=>exact .cons h ih
theorem bd {lb rb:List Frame}{fr fr2 fr2':Frame}{cs cs':List Frame}(hf:bJ P ok ρ fr2 fr2')(hc:eH P ok ρ cs cs')(hb:lV fr cs)(e:fr2.roundOf=fr.roundOf)(hw:aH ok str ρ V W)
  {s s':GStep}{g2:Goroutine}{es:Array Event}(h:s=.go g2 V2 es)(hs:s=.go (G fr2 (cs++lb)) V)(hs':s'=.go (G fr2' (cs'++rb)) W):bD P0 P ok str ρ lb rb V W g2 V2 s':=by
 rw[hs]at h;simp only[GStep.go.injEq]at h;obtain⟨rfl,rfl,_⟩:=h;exact⟨ρ,_,W,#[],hs',.inside hf hc (hb.swap e),hw,eD.refl _ _ _,by simp⟩
theorem bD.of_kept {lb rb:List Frame}(k:eD ρ V W σ V1 W1){g2:Goroutine}{s:GStep}(h:bD P0 P ok str σ lb rb V1 W1 g2 V2 s){es:Array Event}(he:∀e∈es,iO σ V e):bD P0 P ok str ρ lb rb V W g2 V2 (GStep.after es s):=by
 obtain⟨τ,h2,W2,es2,rfl,hg,hw,hk,hev⟩:=h;refine⟨τ,h2,W2,es++es2,rfl,hg,hw,k.trans hk,λe hx=>?_⟩;rcases Array.mem_append.1 hx with hx|hx
 .exact(he e hx).mono hk.le
 .exact(hev e hx).shift k hk
omit [Gl] in
theorem fT {es es':Array Event}{s:GStep}{g:Goroutine}{w:World}(h:GStep.after es s=.go g w es'):∃es2,s=.go g w es2:=by
 cases s<;>simp only[GStep.after,GStep.go.injEq,reduceCtorEq]at h
 obtain⟨rfl,rfl,_⟩:=h;exact⟨_,rfl⟩
theorem zv (hP:bq P0 P ok){lb rb:List Frame}{FU FV:Bool}{fr fr':Frame}{cs cs':List Frame}(hf:bJ P ok ρ fr fr')(hc:eH P ok ρ cs cs')(hb:lV fr cs)(hw:aH ok str ρ V W)(hm:fr.mode=.run){g2:Goroutine}{es:Array Event}
  (h:stepG.exec P0 FU true fr (cs++lb) none V=.go g2 V2 es):bD P0 P ok str ρ lb rb V W g2 V2 (stepG.exec P FV true fr' (cs'++rb) none W):=by
 have hev:=hf.eval;obtain⟨fn,tmps,todo,defers,mode,kind,roundOf⟩:=fr;obtain⟨fn',tmps',todo',defers',mode',kind',roundOf'⟩:=fr';have ht:=hf.todo;have hro:=hf.round;have hfn:=hf.fn;have hk:=hf.kind;have hk':=hf.kind';have hm':=hf.mode;have hi:=hf.inn;simp only at ht hro hfn hk hk' hm hm' hi;subst hm hk hk' hfn;cases hm';have to_:∀{k2 k2':List Item},fw P ok ρ k2 k2'->bJ P ok ρ ⟨fn',tmps,k2,defers,.run,.normal,roundOf⟩ ⟨fn',tmps',k2',defers',.run,.normal,roundOf'⟩:=λhk=>⟨rfl,hi,hf.tmps,hk,hf.defers,.run,rfl,rfl,hro⟩
 have ret_:bJ P ok ρ ⟨fn',tmps,todo,defers,.returning,.normal,roundOf⟩ ⟨fn',tmps',todo',defers',.returning,.normal,roundOf'⟩:=⟨rfl,hi,hf.tmps,ht,hf.defers,.returning,rfl,rfl,hro⟩;cases ht with
 |nil=>
  cases hro with
  |none=>exact bd ret_ hc hb rfl hw h rfl rfl
  |some hl=>exact jF hf hc hb hw none (by simp) rfl hl h
 |@cons x x' k k' hx hk2=>
  cases hx with
  |inBlock id=>exact bd (to_ hk2) hc hb rfl hw h rfl rfl
  |inScope hcode=>exact bd (to_ hk2) hc hb rfl hw h rfl rfl
  |@inLoop body hcode=>exact bd (to_ (.cons (.code hcode) (.cons (.inLoop hcode) hk2))) hc hb rfl hw h rfl rfl
  |inRangeFunc hl=>cases h
  |@endRangeFunc l l' hl=>
   have h':(let(r,es):=(Instr.endLoop l).runT P0 V #[];GStep.after (seen P0 fn' es)<|match r with
    |.ok jump w=>.go (G ⟨fn',tmps,(jump.map Item.code).toList++k,defers,.run,.normal,roundOf⟩ (cs++lb)) w
    |.halt (.panic v) w=>.go (G (Frame.raise ⟨fn',tmps,.endRangeFunc l::k,defers,.run,.normal,roundOf⟩ [{v,recovered:=false}]) (cs++lb)) w
    |.halt _ w=>.ended (.stuck "range over a function: no such loop" (Frame.pos P0 ⟨fn',tmps,.endRangeFunc l::k,defers,.run,.normal,roundOf⟩)) w)=.go g2 V2 es:=h
   show bD P0 P ok str ρ lb rb V W g2 V2 (let(r,es):=(Instr.endLoop l').runT P W #[];GStep.after (seen P fn' es)<|match r with
    |.ok jump w=>.go (G ⟨fn',tmps',(jump.map Item.code).toList++k',defers',.run,.normal,roundOf'⟩ (cs'++rb)) w
    |.halt (.panic v) w=>.go (G (Frame.raise ⟨fn',tmps',.endRangeFunc l'::k',defers',.run,.normal,roundOf'⟩ [{v,recovered:=false}]) (cs'++rb)) w
    |.halt _ w=>.ended (.stuck "range over a function: no such loop" (Frame.pos P ⟨fn',tmps',.endRangeFunc l'::k',defers',.run,.normal,roundOf'⟩)) w)
   clear h;generalize hrun:(Instr.endLoop l).runT P0 V #[]=x at h';obtain⟨r,e1⟩:=x;rcases(nY (P0:=P0) (P:=P) (str:=str) hP.tab hl).sound #[] #[] hw hrun with hst|⟨σ,r',V',W',d',h1,h2,h4,h5⟩
   .exfalso;cases r with
    |ok a w=>cases hst
    |halt hh w=>cases hh<;>first|cases hst;done|exact cf h'
   .have h1':(Instr.endLoop l').runT P W #[]=(r',d'):=by rw[h1];simp
    rw[h1'];obtain⟨es3,h3⟩:=fT h';refine bD.of_kept h4 ?_ (λe he=>h5 e (fe _ _ _ e he));cases h2 with
    |@ok j j' V' W' hv hw'=>
     obtain⟨rfl,hj⟩:=hv;refine bd (fr:=⟨fn',tmps,.endRangeFunc l::k,defers,.run,.normal,roundOf⟩) (fr2:=⟨fn',tmps,(j.map Item.code).toList++k,defers,.run,.normal,roundOf⟩) (fr2':=⟨fn',tmps',(j.map Item.code).toList++k',defers',.run,.normal,roundOf'⟩)
      ⟨rfl,hi,hf.tmps.mono h4.le,?_,hf.defers.mono h4.le,.run,rfl,rfl,hro.mono h4.le⟩ (hc.mono h4.le) hb rfl hw' h3 rfl rfl
     cases j with
     |none=>exact hk2.mono h4.le
     |some c=>exact .cons (.code ((hP.code c).symm.trans (hj c rfl))) (hk2.mono h4.le)
    |@panic v v' V' W' hv hw'=>exact bd (fr:=⟨fn',tmps,.endRangeFunc l::k,defers,.run,.normal,roundOf⟩) ((hf.mono h4.le).raise _ _) (hc.mono h4.le) hb rfl hw' h3 rfl rfl
  |beginRound=>
   refine lW hP.toSame ?_ hf hc hb hw h;refine ri (A:=λ_ _ _=>True) ?_;cases hro with
   |none=>exact .halt _ _
   |some hl=>exact jW hP.tab hl
  |@inRegion ops todo ho=>
   cases todo with
   |nil=>exact bd (to_ hk2) hc hb rfl hw h rfl rfl
   |cons i rest=>
    have h':(if((ops[i]?).map (Region.wanted · (yielded ops tmps))).getD false then stepG.oper P0 true ⟨fn',tmps,.inRegion ops (i::rest)::k,defers,.run,.normal,roundOf⟩ (cs++lb) none V
     else .go (G (Frame.finish ⟨fn',tmps,.inRegion ops (i::rest)::k,defers,.run,.normal,roundOf⟩ undef) (cs++lb)) V)=.go g2 V2 es:=h
    show bD P0 P ok str ρ lb rb V W g2 V2 (if((ops[i]?).map (Region.wanted · (yielded ops tmps'))).getD false then stepG.oper P true ⟨fn',tmps',.inRegion ops (i::rest)::k',defers',.run,.normal,roundOf'⟩ (cs'++rb) none W
     else .go (G (Frame.finish ⟨fn',tmps',.inRegion ops (i::rest)::k',defers',.run,.normal,roundOf'⟩ undef) (cs'++rb)) W)
    clear h;rw[nZ hf.tmps];split at h'
    .rename_i hwant;rw[if_pos hwant];cases hoi:ops[i]? with
     |none=>rw[hoi]at hwant;cases hwant
     |some o=>
      have hop:ge P ok.fn o.op=true:=by
       rw[Array.all_eq_true]at ho;obtain⟨hlt,rfl⟩:=Gp.1 hoi;exact ho i hlt
      have nd:∀c,o.op≠.defer c:=by
       intro c e;rw[e]at hop;cases hop
      have e1:∀(Q:Program) (t:Array Value) (kk:List Item) (d:List Deferred) (ro:Option Nat) (cc:List Frame) (w:World),stepG.oper Q true ⟨fn',t,.inRegion ops (i::rest)::kk,d,.run,.normal,ro⟩ cc none w=
        stepG.apply Q true ⟨fn',t,.inRegion ops (i::rest)::kk,d,.run,.normal,ro⟩ cc none (execOp (Frame.eval ⟨fn',t,.inRegion ops (i::rest)::kk,d,.run,.normal,ro⟩) o) w:=by
       intro Q t kk d ro cc w;simp only[stepG.oper,Frame.oper?,hoi];split
       .rename_i e;exact absurd e (nd _)
       .rfl
      rw[e1]at h'⊢;exact lW hP.toSame (CE hP.tab hP.glob hP.toCallable o hop hev (λ_=>⟨rfl,rfl⟩) (λ_=>rfl)) hf hc hb hw h'
    .rename_i hwant;rw[if_neg hwant];exact bd (hf.finish fO) hc hb (d9 _ _) hw h' rfl rfl
  |@code c hcode=>
   cases c with
   |skip=>exact bd (to_ hk2) hc hb rfl hw h rfl rfl
   |label l=>exact bd (to_ hk2) hc hb rfl hw h rfl rfl
   |seq a b=>
    simp only[aR,Bool.and_eq_true]at hcode;exact bd (to_ (.cons (.code hcode.1) (.cons (.code hcode.2) hk2))) hc hb rfl hw h rfl rfl
   |cond c a b=>
    simp only[aR,Bool.and_eq_true]at hcode;have he:=hev c hcode.1.1;have h':(match Frame.eval ⟨fn',tmps,.code (.cond c a b)::k,defers,.run,.normal,roundOf⟩ c with
     |.bool t=>GStep.go (G ⟨fn',tmps,.code (if t then a else b)::k,defers,.run,.normal,roundOf⟩ (cs++lb)) V
     |_=>.ended (.stuck "cond: bool expected" (Frame.pos P0 ⟨fn',tmps,.code (.cond c a b)::k,defers,.run,.normal,roundOf⟩)) V)=.go g2 V2 es:=h
    show bD P0 P ok str ρ lb rb V W g2 V2 (match Frame.eval ⟨fn',tmps',.code (.cond c a b)::k',defers',.run,.normal,roundOf'⟩ c with
     |.bool t=>GStep.go (G ⟨fn',tmps',.code (if t then a else b)::k',defers',.run,.normal,roundOf'⟩ (cs'++rb)) W
     |_=>.ended (.stuck "cond: bool expected" (Frame.pos P ⟨fn',tmps',.code (.cond c a b)::k',defers',.run,.normal,roundOf'⟩)) W)
    clear h;generalize Frame.eval ⟨fn',tmps,.code (.cond c a b)::k,defers,.run,.normal,roundOf⟩ c=v at he h';generalize Frame.eval ⟨fn',tmps',.code (.cond c a b)::k',defers',.run,.normal,roundOf'⟩ c=v' at he;cases he with
    |bool t=>
     refine bd (to_ (.cons (.code (c:=if t then a else b) ?_) hk2)) hc hb rfl hw h' rfl rfl;cases t
     .exact hcode.2
     .exact hcode.1.2
    |_=>cases h'
   |block id b=>exact bd (to_ (.cons (.code (c:=b) hcode) (.cons (.inBlock id) hk2))) hc hb rfl hw h rfl rfl
   |loop b=>exact bd (to_ (.cons (.code (c:=b) hcode) (.cons (.inLoop (c:=b) hcode) hk2))) hc hb rfl hw h rfl rfl
   |scope b=>exact bd (to_ (.cons (.code (c:=b) hcode) (.cons (.inScope (c:=b) hcode) hk2))) hc hb rfl hw h rfl rfl
   |exit id=>
    rcases hk2.exit (id:=id)with⟨n1,n2⟩|⟨q,q',s1,s2,hq⟩
    .simp only[stepG.exec,n1,Option.elim_none]at h;simp only[stepG.exec,n2,Option.elim_none];cases hro with
     |none=>simp at h
     |some hl=>exact jF hf hc hb hw (some (.exit id)) (by simp[hP.code,aR]) rfl hl h
    .simp only[stepG.exec,s1,Option.elim_some]at h;simp only[stepG.exec,s2,Option.elim_some];exact bd (to_ hq) hc hb rfl hw h rfl rfl
   |goto id=>
    rcases hk2.goto (id:=id)with⟨n1,n2⟩|⟨q,q',s1,s2,hq⟩
    .simp only[stepG.exec,n1,Option.elim_none]at h;simp only[stepG.exec,n2,Option.elim_none];cases hro with
     |none=>simp at h
     |some hl=>exact jF hf hc hb hw (some (.goto id)) (by simp[hP.code,aR]) rfl hl h
    .simp only[stepG.exec,s1,Option.elim_some]at h;simp only[stepG.exec,s2,Option.elim_some];exact bd (to_ hq) hc hb rfl hw h rfl rfl
   |ret=>
    cases hro with
    |none=>exact bd ret_ hc hb rfl hw h rfl rfl
    |some hl=>exact jF hf hc hb hw (some .ret) (by simp[hP.code,aR]) rfl hl h
   |region id ops draw=>
    cases draw with
    |false=>exact bd (to_ (.cons (.inRegion _ hcode) hk2)) hc hb rfl hw h rfl rfl
    |true=>
     have hq:(Question.order fn' id).forced=false:=rfl;simp only[stepG.exec,choose,Sem.run,hq,Bool.not_true,Bool.false_eq_true,if_false]at h⊢;have e:W.tape W.drawn (.order fn' id)=V.tape V.drawn (.order fn' id):=by rw[hw.tape,hw.drawn]
     have hw':aH ok str ρ {V with drawn:=V.drawn+1} {W with drawn:=W.drawn+1}:=⟨hw.heap,hw.tape,by simp only[hw.drawn],hw.gV,hw.gW⟩;rw[e,show P.follows .mixedOrders=P0.follows .mixedOrders by rw[hP.tab]];have:=bd (P0:=P0) (rb:=rb) (to_ (.cons (.inRegion (Region.schedule (P0.follows .mixedOrders) ops ((Question.order fn' id).cut (V.tape V.drawn (.order fn' id)))) hcode) hk2)) hc hb rfl hw' h rfl rfl;obtain⟨σ,h2,W2,es2,a1,a2,a3,a4,a5⟩:=this;exact⟨σ,h2,W2,es2,a1,a2,a3,⟨a4.le,a4.keep,a4.ro,a4.size,a4.sizeV,a4.new,a4.tape,a4.os,a4.out⟩,a5⟩
   |rangeFunc f params a b=>
    simp only[aR,Bool.and_eq_true]at hcode;have h':(let(r,es):=(Instr.enterLoop fn' tmps params a b roundOf).runT P0 V #[];GStep.after (seen P0 fn' es)<|match r with
     |.ok (l,mark) w=>stepG.apply P0 true ⟨fn',tmps,.inRangeFunc l::k,mark++defers,.run,.normal,roundOf⟩ (cs++lb) none (do let d <-resolve (Frame.eval ⟨fn',tmps,.inRangeFunc l::k,mark++defers,.run,.normal,roundOf⟩) {callee:=.value f,args:=#[.const (.func (.yield l) #[] #[])],argTypes:=#[]} 0;invoke d.target d.args) w
     |.halt _ w=>.ended (.stuck "range over a function: no such loop" (Frame.pos P0 ⟨fn',tmps,.code (.rangeFunc f params a b)::k,defers,.run,.normal,roundOf⟩)) w)=.go g2 V2 es:=h
    show bD P0 P ok str ρ lb rb V W g2 V2 (let(r,es):=(Instr.enterLoop fn' tmps' params a b roundOf').runT P W #[];GStep.after (seen P fn' es)<|match r with
     |.ok (l,mark) w=>stepG.apply P true ⟨fn',tmps',.inRangeFunc l::k',mark++defers',.run,.normal,roundOf'⟩ (cs'++rb) none (do let d <-resolve (Frame.eval ⟨fn',tmps',.inRangeFunc l::k',mark++defers',.run,.normal,roundOf'⟩) {callee:=.value f,args:=#[.const (.func (.yield l) #[] #[])],argTypes:=#[]} 0;invoke d.target d.args) w
     |.halt _ w=>.ended (.stuck "range over a function: no such loop" (Frame.pos P ⟨fn',tmps',.code (.rangeFunc f params a b)::k',defers',.run,.normal,roundOf'⟩)) w)
    clear h;generalize hrun:(Instr.enterLoop fn' tmps params a b roundOf).runT P0 V #[]=x at h';obtain⟨r,e1⟩:=x;rcases(kS (P0:=P0) (P:=P) (str:=str) fn' hi hf.tmps params ((hP.code a).trans hcode.1.2) ((hP.code b).trans hcode.2) hro).sound #[] #[] hw hrun with hst|⟨σ,r',V',W',d',h1,h2,h4,h5⟩
    .exfalso;cases r with
     |ok a w=>cases hst
     |halt hh w=>exact cf h'
    .have h1':(Instr.enterLoop fn' tmps' params a b roundOf').runT P W #[]=(r',d'):=by rw[h1];simp
     rw[h1'];obtain⟨es3,h3⟩:=fT h';refine bD.of_kept h4 ?_ (λe he=>h5 e (fe _ _ _ e he));cases h2 with
     |panic _ _=>cases h3
     |@ok j j' V' W' hv hw'=>
      obtain⟨l,mark⟩:=j;obtain⟨l',mark'⟩:=j';obtain⟨hl,hmk⟩:=hv;have hf2:bJ P ok σ ⟨fn',tmps,.inRangeFunc l::k,mark++defers,.run,.normal,roundOf⟩ ⟨fn',tmps',.inRangeFunc l'::k',mark'++defers',.run,.normal,roundOf'⟩:=
       ⟨rfl,hi,hf.tmps.mono h4.le,.cons (.inRangeFunc hl) (hk2.mono h4.le),hmk.append (hf.defers.mono h4.le),.run,rfl,rfl,hro.mono h4.le⟩
      refine lW hP.toSame ?_ hf2 (hc.mono h4.le) (hb.swap rfl) hw' h3;have hfv:=hf2.eval f hcode.1.1;have hy:am ok σ #[.func (.yield l) #[] #[]] #[.func (.yield l') #[] #[]]:=am.nil.push (.func (.yield hl) rfl am.nil.at_ rfl am.nil.at_);unfold resolve;dsimp only;generalize Frame.eval ⟨fn',tmps,.inRangeFunc l::k,mark++defers,.run,.normal,roundOf⟩ f=v at hfv;generalize Frame.eval ⟨fn',tmps',.inRangeFunc l'::k',mark'++defers',.run,.normal,roundOf'⟩ f=v' at hfv;cases hfv with
      |func hfn e1 g1 e2 g2=>
       refine aA ?_;exact lR hP.tab hP.toCallable (.fn hfn ⟨e2,g2⟩) (by simp) (am.append ⟨e1,g1⟩ (by simpa[Frame.eval]using hy))
      |nilFunc=>exact bU hP.tab .nilDeref rfl
      |hole _=>exact .dead _ _ λV=>jc hP.hole _ V
      |_=>exact .halt _ _
   |refuse w=>cases hcode
theorem uW (hP:bq P0 P ok){lb rb:List Frame}{FU FV:Bool}{fr fr':Frame}{cs cs':List Frame}(hf:bJ P ok ρ fr fr')(hc:eH P ok ρ cs cs')(hb:lV fr cs)(hw:aH ok str ρ V W)(hm:fr.mode≠.run)(hl:cs=[]->fr.defers≠[])
  {g2:Goroutine}{es:Array Event}(h:unwind P0 FU fr (cs++lb) none V=.go g2 V2 es):bD P0 P ok str ρ lb rb V W g2 V2 (unwind P FV fr' (cs'++rb) none W):=by
 obtain⟨fn,tmps,todo,defers,mode,kind,roundOf⟩:=fr;obtain⟨fn',tmps',todo',defers',mode',kind',roundOf'⟩:=fr';have hfn:=hf.fn;have hk:=hf.kind;have hk':=hf.kind';have hm':=hf.mode;have hi:=hf.inn;have hd:=hf.defers;simp only at hfn hk hk' hm hm' hi hd hl;subst hk hk' hfn;obtain⟨F,c,f1,f2,f3,f4⟩:=hP.same fn' hi;cases hd with
 |@cons r0 r0' ds ds' hr hds=>
  have h':(let(r,es):=(Instr.takeDeferred r0).runT P0 V #[];GStep.after (seen P0 fn' es)<|match r with
   |.ok calls w=>.go (G ⟨fn',tmps,todo,calls++ds,mode,.normal,roundOf⟩ (cs++lb)) w
   |.halt _ w=>.ended (.stuck "the deferred calls of a range-over-func loop have been taken" (Frame.pos P0 ⟨fn',tmps,todo,{target:=.collected r0,args:=#[]}::ds,mode,.normal,roundOf⟩)) w)=.go g2 V2 es:=h
  show bD P0 P ok str ρ lb rb V W g2 V2 (let(r,es):=(Instr.takeDeferred r0').runT P W #[];GStep.after (seen P fn' es)<|match r with
   |.ok calls w=>.go (G ⟨fn',tmps',todo',calls++ds',mode',.normal,roundOf'⟩ (cs'++rb)) w
   |.halt _ w=>.ended (.stuck "the deferred calls of a range-over-func loop have been taken" (Frame.pos P ⟨fn',tmps',todo',{target:=.collected r0',args:=#[]}::ds',mode',.normal,roundOf'⟩)) w)
  clear h;generalize hrun:(Instr.takeDeferred r0).runT P0 V #[]=x at h';obtain⟨r,e1⟩:=x;rcases(wu (P0:=P0) (P:=P) (ok:=ok) (str:=str) hr).sound #[] #[] hw hrun with hst|⟨σ,r',V',W',d',h1,h2,h4,h5⟩
  .exfalso;cases r with
   |ok a w=>cases hst
   |halt hh w=>exact cf h'
  .have h1':(Instr.takeDeferred r0').runT P W #[]=(r',d'):=by rw[h1];simp
   rw[h1'];obtain⟨es3,h3⟩:=fT h';refine bD.of_kept h4 ?_ (λe he=>h5 e (fe _ _ _ e he));cases h2 with
   |panic _ _=>cases h3
   |@ok j j' V' W' hv hw'=>
    obtain⟨rfl,rfl⟩:=hv;exact bd (fr2:=⟨fn',tmps,todo,ds,mode,.normal,roundOf⟩) (fr2':=⟨fn',tmps',todo',ds',mode',.normal,roundOf'⟩)
     ⟨rfl,hi,hf.tmps.mono h4.le,hf.todo.mono h4.le,hds.mono h4.le,hm',rfl,rfl,hf.round.mono h4.le⟩ (hc.mono h4.le) hb rfl hw' h3 rfl rfl
 |nil=>
  cases hc with
  |nil=>exact absurd rfl (hl rfl)
  |@cons a a' cs cs' ha hcs=>
   cases hm' with
   |run=>exact absurd rfl hm
   |@panicking ch ch'=>
    have c1:Frame.catches P0 ⟨fn',tmps,todo,[],.panicking ch,.normal,roundOf⟩=false:=by simp[Frame.catches,f1]
    have c2:Frame.catches P ⟨fn',tmps',todo',[],.panicking ch',.normal,roundOf'⟩=false:=by simp[Frame.catches,f2]
    simp only[unwind,c1,List.cons_append,Bool.false_eq_true,if_false,GStep.go.injEq]at h;obtain⟨rfl,rfl,_⟩:=h;refine⟨ρ,G (a'.raise ch') (cs'++rb),W,#[],?_,.inside (ha.raise _ _) hcs (hb.pop (mK _ _)),hw,eD.refl _ _ _,by simp⟩;simp only[unwind,c2,List.cons_append,Bool.false_eq_true,if_false];rfl
   |returning=>
    have h':(let(r,es):=(results F tmps).runT P0 V #[];GStep.after (seen P0 fn' es)<|match r with
     |.ok v w=>.go (G (a.finish v) (cs++lb)) w
     |.halt (.stuck s) w=>.ended (.stuck s (Frame.pos P0 ⟨fn',tmps,todo,[],.returning,.normal,roundOf⟩)) w
     |.halt _ w=>.ended (.stuck "return: the result variables cannot be read" (Frame.pos P0 ⟨fn',tmps,todo,[],.returning,.normal,roundOf⟩)) w)=.go g2 V2 es:=by
     rw[<-h];simp only[unwind,f1,List.cons_append,doReturn];rfl
    have e':unwind P FV ⟨fn',tmps',todo',[],.returning,.normal,roundOf'⟩ (a'::cs'++rb) none W=(let(r,es):=(results F tmps').runT P W #[];GStep.after (seen P fn' es)<|match r with
     |.ok v w=>.go (G (a'.finish v) (cs'++rb)) w
     |.halt (.stuck s) w=>.ended (.stuck s (Frame.pos P ⟨fn',tmps',todo',[],.returning,.normal,roundOf'⟩)) w
     |.halt _ w=>.ended (.stuck "return: the result variables cannot be read" (Frame.pos P ⟨fn',tmps',todo',[],.returning,.normal,roundOf'⟩)) w):=by
     simp only[unwind,f2,List.cons_append,doReturn];rfl
    rw[e'];clear h e';generalize hrun:(results F tmps).runT P0 V #[]=x at h';obtain⟨r,e1⟩:=x;rcases(iy (P0:=P0) (P:=P) (str:=str) hP.tab F hf.tmps).sound #[] #[] hw hrun with hst|⟨σ,r',V',W',d',h1,h2,h4,h5⟩
    .exfalso;cases r with
     |ok a w=>cases hst
     |halt hh w=>cases hh<;>exact cf h'
    .have h1':(results F tmps').runT P W #[]=(r',d'):=by rw[h1];simp
     rw[h1'];obtain⟨es3,h3⟩:=fT h';refine bD.of_kept h4 ?_ (λe he=>h5 e (fe _ _ _ e he));cases h2 with
     |panic _ _=>cases h3
     |@ok j j' V' W' hv hw'=>
      have hb2:lV a cs:=hb.pop rfl;exact bd ((ha.mono h4.le).finish hv) (hcs.mono h4.le) hb2 (d9 _ _) hw' h3 rfl rfl
theorem kT (hP:bq P0 P ok){lb rb:List Frame}{FU FV:Bool}{fr fr':Frame}{cs cs':List Frame}(hf:bJ P ok ρ fr fr')(hc:eH P ok ρ cs cs')(hb:lV fr cs)(hw:aH ok str ρ V W)(hl:cs=[]->fr.mode≠.run->fr.defers≠[])
  {g2:Goroutine}{es:Array Event}(h:stepG P0 FU (G fr (cs++lb)) V=.go g2 V2 es):bD P0 P ok str ρ lb rb V W g2 V2 (stepG P FV (G fr' (cs'++rb)) W):=by
 by_cases hm:fr.mode=.run
 .rw[lX hm]at h;rw[lX (hf.mode.run_of hm)];exact zv hP hf hc hb hw hm h
 .have hm':fr'.mode≠.run:=by
   intro e;have:=hf.mode;rw[e]at this;generalize fr.mode=m at this hm;cases this;exact hm rfl
  rw[eL hm]at h;rw[eL hm'];exact uW hP hf hc hb hw hm (λe=>hl e hm) h
end
end Go.Proofs.YtlmcblcijndipabGreatDoor
namespace Go.Proofs.YtlmcblcijndipabGreatDoor
open Go Go.Conc
variable [Gl]
def re (w:World)(τ:Nat->Question->Nat)(d:Nat):World:={w with tape:=τ,drawn:=d}
def fU (t:Nat->Question->Nat)(a:Nat)(t':Nat->Question->Nat)(b n:Nat):Prop:=∀i,i<n->∀q,t (a+i) q=t' (b+i) q
omit [Gl] in
theorem fU.less {t t':Nat->Question->Nat}{a b n m:Nat}(h:fU t a t' b n)(l:m<=n):fU t a t' b m:=λi hi q=>h i (by omega) q
omit [Gl] in
theorem fU.tail {t t':Nat->Question->Nat}{a b n k:Nat}(h:fU t a t' b (k+n)):fU t (a+k) t' (b+k) n:=λi hi q=>by
 have:=h (k+i) (by omega) q;rw[show a+k+i=a+(k+i) by omega,show b+k+i=b+(k+i) by omega];exact this
def dC {α:Type}:Result α->World
 |.ok _ w=>w
 |.halt _ w=>w
def DU {α:Type}(τ:Nat->Question->Nat)(d:Nat):Result α->Result α
 |.ok a w=>.ok a (re w τ d)
 |.halt h w=>.halt h (re w τ d)
section
variable {P0 P:Program}{ok:Ctx}{str:Bool}{ρ:Ren}
theorem ab.shift {α β:Type}{A:Ren->α->β->Prop}{s:Sem α}{s':Sem β}(h:ab P0 P ok str A ρ s s'):
  ∀{V W:World} (es:Array Event) {r:Result α} {e1:Array Event},aH ok str ρ V W->s.runT P0 V es=(r,e1)->Result.stops r=true\/
   (V.drawn<=(dC r).drawn/\(dC r).tape=V.tape/\∀τ d,fU V.tape V.drawn τ d ((dC r).drawn-V.drawn)->s.runT P0 (re V τ d) es=(DU τ (d+((dC r).drawn-V.drawn)) r,e1)):=by
 induction h with
 |@pure ρ a b hA=>
  intro V W es x e1 hw hr;simp only[Sem.runT,Prod.mk.injEq]at hr;obtain⟨rfl,rfl⟩:=hr;exact .inr ⟨Gm _,rfl,λτ d _=>by simp[Sem.runT,DU,dC,re]⟩
 |@load ρ a a' k k' ra _ ih=>
  intro V W es x e1 hw hr;simp only[Sem.runT]at hr;cases hc:V.cell? a with
  |none=>
   rw[hc]at hr;obtain⟨y,hy⟩:=hw.far ra.blk (Mode.plain==Mode.atomic) P0;simp only[hy,Prod.mk.injEq]at hr;obtain⟨rfl,_⟩:=hr;exact .inl rfl
  |some v=>
   rw[hc]at hr;obtain⟨v',hv',rv⟩:=hw.load ra hc;rcases ih v v' rv _ hw hr with h|⟨h1,h2,h3⟩
   .exact .inl h
   .refine .inr ⟨h1,h2,λτ d hA=>?_⟩;have:(re V τ d).cell? a=some v:=hc;simp only[Sem.runT,this];exact h3 τ d hA
 |@store ρ a a' v v' k k' ra rv _ ih=>
  intro V W es x e1 hw hr;by_cases hn:(∃cs,v=.agg cs)\/(∃cs,v=.tuple cs)
  .rcases hn with⟨cs,rfl⟩|⟨cs,rfl⟩
   .simp only[Sem.runT,Prod.mk.injEq]at hr;obtain⟨rfl,_⟩:=hr;exact .inl rfl
   .simp only[Sem.runT,Prod.mk.injEq]at hr;obtain⟨rfl,_⟩:=hr;exact .inl rfl
  have n1:∀cs,v≠.agg cs:=λcs e=>hn (.inl ⟨cs,e⟩)
  have n2:∀cs,v≠.tuple cs:=λcs e=>hn (.inr ⟨cs,e⟩)
  have unf:∀(U:World),(Sem.store .plain a v k).runT P0 U es=(match U.cell? a with
   |some _=>if U.frozen? a then(Result.halt (.unsupported (.unsafePointer "a write to bytes that a string shares")) U,es)else k.runT P0 (U.setCell a v) (es.push ⟨.cell a,true,false⟩)
   |none=>match U.farStore P0 a v (Mode.plain==Mode.atomic)with
    |.ok (w,touched)=>k.runT P0 w (es++touched.toArray.map (⟨.cell ·,true,Mode.plain==Mode.atomic⟩))
    |.error h=>(.halt h U,es)):=by
   intro U;cases v<;>first|exact absurd rfl (n1 _)|exact absurd rfl (n2 _)|(simp only[Sem.runT];rfl)
  rw[unf]at hr;cases hc:V.cell? a with
  |none=>
   rw[hc]at hr;obtain⟨y,hy⟩:=hw.farS ra.blk v (Mode.plain==Mode.atomic) P0;simp only[hy,Prod.mk.injEq]at hr;obtain⟨rfl,_⟩:=hr;exact .inl rfl
  |some y=>
   rw[hc]at hr;simp only at hr;cases hf:V.frozen? a with
   |true=>
    rw[hf]at hr;simp only[if_true,Prod.mk.injEq]at hr;obtain⟨rfl,_⟩:=hr;exact .inl rfl
   |false=>
    rw[hf]at hr;rcases ih _ (hw.store ra rv) hr with h|⟨h1,h2,h3⟩
    .exact .inl h
    .refine .inr ⟨h1,h2,λτ d hA=>?_⟩;have e1:(re V τ d).cell? a=some y:=hc;have e2:(re V τ d).frozen? a=false:=hf;rw[unf,e1];simp only[e2,Bool.false_eq_true,if_false];exact h3 τ d hA
 |@new ρ o o' k k' ro _ ih=>
  intro V W es x e1 hw hr;simp only[Sem.runT]at hr;obtain⟨hw1,hk1⟩:=hw.new ro;rcases ih _ V.heap.size W.heap.size hw.ext_le hw.ext_at _ hw1 hr with h|⟨h1,h2,h3⟩
  .exact .inl h
  .exact .inr ⟨h1,h2,λτ d hA=>by simp only[Sem.runT];exact h3 τ d hA⟩
 |@shape ρ r r' k k' hr' _ ih=>
  intro V W es x e1 hw hr;simp only[Sem.runT]at hr⊢;exact ih _ _ hw hr
 |dead s s' h=>
  intro V W es x e1 hw hr;have h1:=Sem.runT_fst P0 s V es;rw[hr]at h1;exact .inl (by have:=h V;rw[<-h1]at this;exact this)
 |@getObj ρ r r' k k' hr' _ ih=>
  intro V W es x e1 hw hr;cases ho:V.heap[r]? with
  |none=>simp only[Sem.runT,ho,Prod.mk.injEq]at hr;obtain⟨rfl,_⟩:=hr;exact .inl rfl
  |some o=>
   obtain⟨o',ho',ro⟩:=hw.getObj hr' ho;rcases ro.kinds with⟨⟨c,e,z,rfl⟩,_⟩|⟨n1,n2⟩
   .simp only[Sem.runT,ho,Prod.mk.injEq]at hr;obtain⟨rfl,_⟩:=hr;exact .inl rfl
   .have unf:∀U:World,U.heap[r]?=some o->(Sem.getObj r k).runT P0 U es=(k o).runT P0 U (es.push ⟨.obj r,false,o.isChan⟩):=by
     intro U hU;cases o<;>first|exact absurd rfl (n1 _ _ _)|simp only[Sem.runT,hU]
    rw[unf V ho]at hr;rcases ih _ _ ro _ hw hr with h|⟨h1,h2,h3⟩
    .exact .inl h
    .exact .inr ⟨h1,h2,λτ d hA=>by rw[unf (re V τ d) ho];exact h3 τ d hA⟩
 |@setObj ρ r r' o o' k k' hr' ro _ ih=>
  intro V W es x e1 hw hr;cases hx:V.heap[r]? with
  |none=>simp only[Sem.runT,hx,Prod.mk.injEq]at hr;obtain⟨rfl,_⟩:=hr;exact .inl rfl
  |some y=>
   obtain⟨y',hy',ry⟩:=hw.getObj hr' hx;rcases ry.kinds with⟨⟨c,e,z,rfl⟩,_⟩|⟨n1,n2⟩
   .simp only[Sem.runT,hx,Prod.mk.injEq]at hr;obtain⟨rfl,_⟩:=hr;exact .inl rfl
   .have unf:∀U:World,U.heap[r]?=some y->(Sem.setObj r o k).runT P0 U es=k.runT P0 {U with heap:=U.heap.setIfInBounds r o} (es.push ⟨.obj r,true,o.isChan⟩):=by
     intro U hU;cases y<;>first|exact absurd rfl (n1 _ _ _)|simp only[Sem.runT,hU]
    rw[unf V hx]at hr;rcases ih _ (hw.setObj hr' ro) hr with h|⟨h1,h2,h3⟩
    .exact .inl h
    .exact .inr ⟨h1,h2,λτ d hA=>by rw[unf (re V τ d) hx];exact h3 τ d hA⟩
 |@choose ρ q k k' _ ih=>
  intro V W es x e1 hw hr;simp only[Sem.runT]at hr⊢;split at hr
  .rename_i hq;simp only[if_pos hq];exact ih _ _ hw hr
  .rename_i hq;have hw':aH ok str ρ {V with drawn:=V.drawn+1} {W with drawn:=W.drawn+1}:=⟨hw.heap,hw.tape,by simp only[hw.drawn],hw.gV,hw.gW⟩;rcases ih _ _ hw' hr with h|⟨h1,h2,h3⟩
   .exact .inl h
   .simp only at h1 h2 h3;refine .inr ⟨by omega,h2,λτ d hA=>?_⟩;rw[if_neg hq];have e0:τ d q=V.tape V.drawn q:=(hA 0 (by omega) q).symm;have:=h3 τ (d+1) (by
     have:fU V.tape V.drawn τ d (1+((dC x).drawn-(V.drawn+1))):=hA.less (by omega);exact this.tail)
    rw[show d+1+((dC x).drawn-(V.drawn+1))=d+((dC x).drawn-V.drawn) by omega]at this;rw[<-this];simp only[re,e0]
 |@program ρ k k' _ ih=>
  intro V W es x e1 hw hr;simp only[Sem.runT]at hr⊢;exact ih _ hw hr
 |@mark ρ m k k' hm _ ih=>
  intro V W es x e1 hw hr;simp only[Sem.runT]at hr⊢;exact ih _ hw hr
 |@panic ρ v v' hv=>
  intro V W es x e1 hw hr;simp only[Sem.runT,Prod.mk.injEq]at hr;obtain⟨rfl,rfl⟩:=hr;exact .inr ⟨Gm _,rfl,λτ d _=>by simp[Sem.runT,DU,dC,re]⟩
 |halt h s he=>
  intro V W es x e1 hw hr;simp only[Sem.runT,Prod.mk.injEq]at hr;obtain⟨rfl,_⟩:=hr;exact .inl he
end
end Go.Proofs.YtlmcblcijndipabGreatDoor
namespace Go.Proofs.YtlmcblcijndipabGreatDoor
open Go Go.Conc
variable [Gl]
def Sh (F:World->GStep)(V:World):Prop:=((∃g2 V2 es,F V=.go g2 V2 es)\/∃o w es,F V=.ended o w es)/\∀g2 V2 es,F V=.go g2 V2 es->V.drawn<=V2.drawn/\V2.tape=V.tape/\
 ∀τ d,fU V.tape V.drawn τ d (V2.drawn-V.drawn)->F (re V τ d)=.go g2 (re V2 τ (d+(V2.drawn-V.drawn))) es
omit [Gl] in
theorem bP {F:World->GStep}{V:World}(g:Goroutine)(es:Array Event)(h:∀w,F w=.go g w es):Sh F V:=by
 refine⟨.inl ⟨_,_,_,h V⟩,?_⟩;intro g2 V2 es2 e;rw[h]at e;simp only[GStep.go.injEq]at e;obtain⟨rfl,rfl,rfl⟩:=e;refine⟨Gm _,rfl,λτ d _=>?_⟩;rw[h];simp[re]
omit [Gl] in
theorem kU {F:World->GStep}{V:World}(h:∃o w es,F V=.ended o w es):Sh F V:=by
 refine⟨.inr h,?_⟩;intro g2 V2 es2 e;obtain⟨o,w,es,h⟩:=h;rw[h]at e;cases e
omit [Gl] in
theorem uX {es:Array Event}{s:GStep}(h:(∃g2 V2 es',s=.go g2 V2 es')\/∃o w es',s=.ended o w es'):(∃g2 V2 es',GStep.after es s=.go g2 V2 es')\/∃o w es',GStep.after es s=.ended o w es':=by
 rcases h with⟨_,_,_,rfl⟩|⟨_,_,_,rfl⟩
 .exact .inl ⟨_,_,_,rfl⟩
 .exact .inr ⟨_,_,_,rfl⟩
theorem np {P0 P:Program}{ok:Ctx}{str:Bool}{ρ:Ren}{α β:Type}{A:Ren->α->β->Prop}{s:Sem α}{s':Sem β}(hR:ab P0 P ok str A ρ s s'){V W:World}(hw:aH ok str ρ V W)
  {F:World->GStep}{E:Array Event->Array Event}{k:α->Goroutine}{kp:Value->Option Goroutine}(hok:∀w a w' es,s.runT P0 w #[]=(.ok a w',es)->F w=.go (k a) w' (E es))
  (hp:∀w v w' es,s.runT P0 w #[]=(.halt (.panic v) w',es)->match kp v with|some g=>F w=.go g w' (E es)|none=>∃o u es',F w=.ended o u es')(hs:∀w r es,s.runT P0 w #[]=(r,es)->Result.stops r=true->∃o u es',F w=.ended o u es'):Sh F V:=by
 generalize hr:s.runT P0 V #[]=x;obtain⟨r,e1⟩:=x;refine⟨?_,?_⟩
 .rcases hR.sound #[] #[] hw hr with hst|⟨σ,r',V',W',d',_,h5,_,_⟩
  .exact .inr (hs _ _ _ hr hst)
  .cases h5 with
   |ok _ _=>exact .inl ⟨_,_,_,hok _ _ _ _ hr⟩
   |@panic v v' V' W' _ _=>
    have h6:=hp _ _ _ _ hr;cases hk:kp v with
    |none=>rw[hk]at h6;exact .inr h6
    |some g=>rw[hk]at h6;exact .inl ⟨_,_,_,h6⟩
 intro g2 V2 es2 e;have key:Result.stops r=true->False:=by
  intro hst;obtain⟨o,u,es',h⟩:=hs _ _ _ hr hst;rw[h]at e;cases e
 rcases hR.shift #[] hw hr with hst|⟨h1,h2,h3⟩
 .exact(key hst).elim
 .rcases hR.sound #[] #[] hw hr with hst|⟨σ,r',V',W',d',_,h5,_,_⟩
  .exact(key hst).elim
  .cases h5 with
   |@ok a b V' W' _ _=>
    rw[hok _ _ _ _ hr]at e;simp only[GStep.go.injEq]at e;obtain⟨rfl,rfl,rfl⟩:=e;refine⟨h1,h2,λτ d hA=>?_⟩;exact hok _ _ _ _ (h3 τ d hA)
   |@panic v v' V' W' _ _=>
    have h6:=hp _ _ _ _ hr;cases hk:kp v with
    |none=>
     rw[hk]at h6;obtain⟨o,u,es',h⟩:=h6;rw[h]at e;cases e
    |some g=>
     rw[hk]at h6;rw[h6]at e;simp only[GStep.go.injEq]at e;obtain⟨rfl,rfl,rfl⟩:=e;refine⟨h1,h2,λτ d hA=>?_⟩;have:=hp _ _ _ _ (h3 τ d hA);rw[hk]at this;exact this
section
variable {P0 P:Program}{ok:Ctx}{str:Bool}{ρ:Ren}{V W:World}
def wv (p:Program)(fr:Frame)(cs:List Frame):Next->Goroutine
 |.value v=>G (fr.finish v) cs
 |.skip=>G (fr.finish undef) cs
 |.enter f xs=>G (Frame.enter p f xs .normal) (fr::cs)
 |.round l f xs a b=>G (Frame.round l f xs a b .normal) (fr::cs)
 |_=>G fr cs
theorem n0 {s s':Sem Next}(hR:ab P0 P ok str (λσ x y=>jb ok σ x y) ρ s s'){fr fr':Frame}{cs:List Frame}(hf:bJ P ok ρ fr fr')(hw:aH ok str ρ V W):Sh (λw=>stepG.apply P0 true fr cs none s w) V:=by
 have hke:(CallKind.normal==CallKind.early)=false:=rfl;have hno:=hf.todo.noCall;have hR':ab P0 P ok str (λσ x y=>jb ok σ x y) ρ s s':=hR;generalize hr:s.runT P0 V #[]=x;obtain⟨r,e1⟩:=x;refine⟨?_,?_⟩
 .rcases hR.sound #[] #[] hw hr with hst|⟨σ,r',V',W',d',_,h5,_,_⟩
  .cases r with
   |ok a w=>cases hst
   |halt hh w=>
    cases hh with
    |stuck y=>simp only[stepG.apply,if_true,hr,GStep.after];exact .inr ⟨_,_,_,rfl⟩
    |unsupported u=>
     cases u with
     |initOrder g=>cases hst
     |_=>simp only[stepG.apply,if_true,hr,GStep.after];exact .inr ⟨_,_,_,rfl⟩
    |_=>cases hst
  .cases h5 with
   |@ok a b V' W' hN _=>
    cases hN with
    |value hv=>simp only[stepG.apply,if_true,hr,GStep.after];exact .inl ⟨_,_,_,rfl⟩
    |skip=>simp only[stepG.apply,if_true,hr,GStep.after];exact .inl ⟨_,_,_,rfl⟩
    |enter f hok hx=>exact .inl ⟨_,_,_,gm hr hno.1 hf.kind⟩
    |round f hl hi hx ha hb=>simp only[stepG.apply,if_true,hr,GStep.after];exact .inl ⟨_,_,_,rfl⟩
   |panic _ _=>simp only[stepG.apply,if_true,hr,GStep.after];exact .inl ⟨_,_,_,rfl⟩
 intro g2 V2 es2 e;have stop:Result.stops r=true->False:=by
  intro hst;simp only at e;cases r with
  |ok a w=>cases hst
  |halt hh w=>
   cases hh with
   |stuck y=>simp only[stepG.apply,if_true,hr,GStep.after]at e;cases e
   |unsupported u=>
    cases u with
    |initOrder g=>cases hst
    |_=>simp only[stepG.apply,if_true,hr,GStep.after]at e;cases e
   |_=>cases hst
 rcases hR.shift #[] hw hr with hst|⟨h1,h2,h3⟩
 .exact(stop hst).elim
 .rcases hR'.sound #[] #[] hw hr with hst|⟨σ,r',V',W',d',_,h5,_,_⟩
  .exact(stop hst).elim
  .simp only at e⊢;cases h5 with
   |@ok a b V' W' hN _=>
    have go:∀{w w':World} {es:Array Event},s.runT P0 w #[]=(.ok a w',es)->stepG.apply P0 true fr cs none s w=.go (wv P0 fr cs a) w' (seen P0 fr.fn es):=by
     intro w w' es hh;cases hN with
     |value hv=>simp only[stepG.apply,if_true,hh,GStep.after,hf.kind,hke];simp[G,wv]
     |skip=>simp only[stepG.apply,if_true,hh,GStep.after,hf.kind,hke];simp[G,wv]
     |enter f hok hx=>exact gm hh hno.1 hf.kind
     |round f hl hi hx ha hb=>simp only[stepG.apply,if_true,hh,GStep.after,hf.kind,hke];simp[G,wv]
    rw[go hr]at e;simp only[GStep.go.injEq]at e;obtain⟨rfl,rfl,rfl⟩:=e;exact⟨h1,h2,λτ d hA=>go (h3 τ d hA)⟩
   |@panic v v' V' W' _ _=>
    have go:∀{w w':World} {es:Array Event},s.runT P0 w #[]=(.halt (.panic v) w',es)->stepG.apply P0 true fr cs none s w=.go (G (fr.raise [{v,recovered:=false}]) cs) w' (seen P0 fr.fn es):=by
     intro w w' es hh;simp only[stepG.apply,if_true,hh,GStep.after,hf.kind,hke];simp[G]
    rw[go hr]at e;simp only[GStep.go.injEq]at e;obtain⟨rfl,rfl,rfl⟩:=e;exact⟨h1,h2,λτ d hA=>go (h3 τ d hA)⟩
omit [Gl] in
theorem Sh.congr {F F':World->GStep}(h:Sh F V)(e:∀w,F' w=F w):Sh F' V:=by
 refine⟨by rw[e];exact h.1,?_⟩;intro g2 V2 es hh;rw[e]at hh;obtain⟨h1,h2,h3⟩:=h.2 g2 V2 es hh;exact⟨h1,h2,λτ d hA=>by rw[e];exact h3 τ d hA⟩
omit [Gl] in
theorem mZ {p:Program}{m:Bool}{fr c:Frame}{cs:List Frame}{v:Value}{w:World}(h:fr.kind=.normal):doReturn p m fr (c::cs) none v w=.go (G (c.finish v) cs) w:=by
 simp only[doReturn,h];rfl
theorem kV {m:Bool}{fr c:Frame}{cs:List Frame}(hk:fr.kind=.normal)(hw:aH ok str ρ V W)(jump:Option Code)(hj:∀c,jump=some c->ok.code c=true){l l':Nat}(hl:ρ l=some l'):
  Sh (λw=>let(r,es):=(Instr.endRound l jump).runT P0 w #[];GStep.after (seen P0 fr.fn es)<|match r with|.ok v w=>doReturn P0 m fr (c::cs) none v w|.halt _ w=>.ended (.stuck "range over a function: no such loop" (fr.pos P0)) w) V:=by
 refine np (P0:=P0) (P:=P0) (E:=λes=>seen P0 fr.fn es) (k:=λv=>G (c.finish v) cs) (kp:=λ_=>none) (mL hl jump hj) hw ?_ ?_ ?_
 .intro w a w' es h;simp only[h,mZ hk,GStep.after];simp
 .intro w v w' es h;simp only[h,GStep.after];exact⟨_,_,_,rfl⟩
 .intro w r es h hst;cases r with
  |ok a w=>cases hst
  |halt hh w=>simp only[h,GStep.after];exact⟨_,_,_,rfl⟩
theorem A3 (hP:bq P0 P ok){m:Bool}{fr fr' c:Frame}{cs:List Frame}(hf:bJ P ok ρ fr fr')(hw:aH ok str ρ V W)(hm:fr.mode=.run):Sh (λw=>stepG.exec P0 m true fr (c::cs) none w) V:=by
 have hev:=hf.eval;obtain⟨fn,tmps,todo,defers,mode,kind,roundOf⟩:=fr;obtain⟨fn',tmps',todo',defers',mode',kind',roundOf'⟩:=fr';have ht:=hf.todo;have hro:=hf.round;have hfn:=hf.fn;have hk:=hf.kind;have hk':=hf.kind';have hm':=hf.mode;have hi:=hf.inn;simp only at ht hro hfn hk hk' hm hm' hi;subst hm hk hk' hfn;cases hm';cases ht with
 |nil=>
  cases hro with
  |none=>exact bP _ _ λw=>rfl
  |some hl=>exact kV (fr:=⟨fn',tmps,[],defers,.run,.normal,some _⟩) rfl hw none (by simp) hl
 |@cons x x' k k' hx hk2=>
  cases hx with
  |inBlock id=>exact bP _ _ λw=>rfl
  |inScope hcode=>exact bP _ _ λw=>rfl
  |@inLoop body hcode=>exact bP _ _ λw=>rfl
  |inRangeFunc hl=>exact kU ⟨_,_,_,rfl⟩
  |@endRangeFunc l l' hl=>
   refine np (P0:=P0) (P:=P) (E:=λes=>seen P0 fn' es) (k:=λj=>G ⟨fn',tmps,(j.map Item.code).toList++k,defers,.run,.normal,roundOf⟩ (c::cs))
    (kp:=λv=>some (G (Frame.raise ⟨fn',tmps,.endRangeFunc l::k,defers,.run,.normal,roundOf⟩ [{v,recovered:=false}]) (c::cs))) (nY hP.tab hl) hw ?_ ?_ ?_
   .intro w a w' es h;simp only[stepG.exec,h,GStep.after];simp[G]
   .intro w v w' es h;simp only[stepG.exec,h,GStep.after];simp[G]
   .intro w r es h hst;cases r with
    |ok a w=>cases hst
    |halt hh w=>cases hh<;>first|cases hst;done|(simp only[stepG.exec,h,GStep.after];exact⟨_,_,_,rfl⟩)
  |beginRound=>
   refine(n0 (P:=P) (s:=do roundOf.elim (stuck "beginRound: no round") Instr.beginRound;pure .skip) (s':=do roundOf'.elim (stuck "beginRound: no round") Instr.beginRound;pure .skip) ?_ hf hw (cs:=c::cs)).congr λw=>rfl
   refine ri (A:=λ_ _ _=>True) ?_;cases hro with
   |none=>exact .halt _ _
   |some hl=>exact jW hP.tab hl
  |@inRegion ops todo ho=>
   cases todo with
   |nil=>exact bP _ _ λw=>rfl
   |cons i rest=>
    by_cases hwant:((ops[i]?).map (Region.wanted · (yielded ops tmps))).getD false=true
    .cases hoi:ops[i]? with
     |none=>rw[hoi]at hwant;cases hwant
     |some o=>
      have hop:ge P ok.fn o.op=true:=by
       rw[Array.all_eq_true]at ho;obtain⟨hlt,rfl⟩:=Gp.1 hoi;exact ho i hlt
      have nd:∀c,o.op≠.defer c:=by
       intro c e;rw[e]at hop;cases hop
      have e1:∀w:World,stepG.exec P0 m true ⟨fn',tmps,.inRegion ops (i::rest)::k,defers,.run,.normal,roundOf⟩ (c::cs) none w=
        stepG.apply P0 true ⟨fn',tmps,.inRegion ops (i::rest)::k,defers,.run,.normal,roundOf⟩ (c::cs) none (execOp (Frame.eval ⟨fn',tmps,.inRegion ops (i::rest)::k,defers,.run,.normal,roundOf⟩) o) w:=by
       intro w;show(if((ops[i]?).map (Region.wanted · (yielded ops tmps))).getD false then stepG.oper P0 true ⟨fn',tmps,.inRegion ops (i::rest)::k,defers,.run,.normal,roundOf⟩ (c::cs) none w
        else .go (G (Frame.finish ⟨fn',tmps,.inRegion ops (i::rest)::k,defers,.run,.normal,roundOf⟩ undef) (c::cs)) w)=_
       rw[if_pos hwant];simp only[stepG.oper,Frame.oper?,hoi];split
       .rename_i e;exact absurd e (nd _)
       .rfl
      exact(n0 (P:=P) (CE hP.tab hP.glob hP.toCallable o hop hev (λ_=>⟨rfl,rfl⟩) (λ_=>rfl)) hf hw).congr e1
    .refine bP (G (Frame.finish ⟨fn',tmps,.inRegion ops (i::rest)::k,defers,.run,.normal,roundOf⟩ undef) (c::cs)) #[] λw=>?_
     show(if((ops[i]?).map (Region.wanted · (yielded ops tmps))).getD false then stepG.oper P0 true ⟨fn',tmps,.inRegion ops (i::rest)::k,defers,.run,.normal,roundOf⟩ (c::cs) none w
      else .go (G (Frame.finish ⟨fn',tmps,.inRegion ops (i::rest)::k,defers,.run,.normal,roundOf⟩ undef) (c::cs)) w)=_
     rw[if_neg hwant]
  |@code cd hcode=>
   cases cd with
   |skip=>exact bP _ _ λw=>rfl
   |label l=>exact bP _ _ λw=>rfl
   |seq a b=>exact bP _ _ λw=>rfl
   |cond o a b=>
    cases he:Frame.eval ⟨fn',tmps,.code (.cond o a b)::k,defers,.run,.normal,roundOf⟩ o with
    |bool t=>exact bP (G ⟨fn',tmps,.code (if t then a else b)::k,defers,.run,.normal,roundOf⟩ (c::cs)) #[] λw=>by simp only[stepG.exec,he];rfl
    |_=>exact kU (by simp only[stepG.exec,he];exact⟨_,_,_,rfl⟩)
   |block id b=>exact bP _ _ λw=>rfl
   |loop b=>exact bP _ _ λw=>rfl
   |scope b=>exact bP _ _ λw=>rfl
   |exit id=>
    rcases hk2.exit (id:=id)with⟨n1,n2⟩|⟨q,q',s1,s2,hq⟩
    .cases hro with
     |none=>exact kU (by simp only[stepG.exec,n1,Option.elim_none];exact⟨_,_,_,rfl⟩)
     |@some l l' hl=>
      refine(kV (P0:=P0) (m:=m) (c:=c) (cs:=cs) (fr:=⟨fn',tmps,.code (.exit id)::k,defers,.run,.normal,some l⟩) rfl hw (some (.exit id)) (by simp[hP.code,aR]) hl).congr λw=>?_
      simp only[stepG.exec,n1,Option.elim_none];rfl
    .exact bP (G ⟨fn',tmps,q,defers,.run,.normal,roundOf⟩ (c::cs)) #[] λw=>by simp only[stepG.exec,s1,Option.elim_some];rfl
   |goto id=>
    rcases hk2.goto (id:=id)with⟨n1,n2⟩|⟨q,q',s1,s2,hq⟩
    .cases hro with
     |none=>exact kU (by simp only[stepG.exec,n1,Option.elim_none];exact⟨_,_,_,rfl⟩)
     |@some l l' hl=>
      refine(kV (P0:=P0) (m:=m) (c:=c) (cs:=cs) (fr:=⟨fn',tmps,.code (.goto id)::k,defers,.run,.normal,some l⟩) rfl hw (some (.goto id)) (by simp[hP.code,aR]) hl).congr λw=>?_
      simp only[stepG.exec,n1,Option.elim_none];rfl
    .exact bP (G ⟨fn',tmps,q,defers,.run,.normal,roundOf⟩ (c::cs)) #[] λw=>by simp only[stepG.exec,s1,Option.elim_some];rfl
   |ret=>
    cases hro with
    |none=>exact bP _ _ λw=>rfl
    |some hl=>exact kV (fr:=⟨fn',tmps,.code .ret::k,defers,.run,.normal,some _⟩) rfl hw (some .ret) (by simp[hP.code,aR]) hl
   |region id ops draw=>
    cases draw with
    |false=>exact bP _ _ λw=>rfl
    |true=>
     have hq:(Question.order fn' id).forced=false:=rfl;refine⟨?_,?_⟩
     .simp only[stepG.exec,choose,Sem.run,hq,Bool.not_true,Bool.false_eq_true,if_false];exact .inl ⟨_,_,_,rfl⟩
     intro g2 V2 es h;simp only[stepG.exec,choose,Sem.run,hq,Bool.not_true,Bool.false_eq_true,if_false,GStep.go.injEq]at h⊢;obtain⟨rfl,rfl,rfl⟩:=h;refine⟨Nat.le_succ _,rfl,λτ d hA=>?_⟩;have:τ d (.order fn' id)=V.tape V.drawn (.order fn' id):=(hA 0 (by simp) _).symm;simp only[re,this,true_and,and_true];simp
   |rangeFunc f params a b=>
    simp only[aR,Bool.and_eq_true]at hcode;let FA:Nat->List Deferred->World->GStep:=λl mark w=>stepG.apply P0 true ⟨fn',tmps,.inRangeFunc l::k,mark++defers,.run,.normal,roundOf⟩ (c::cs) none (do let d <-resolve (Frame.eval ⟨fn',tmps,.inRangeFunc l::k,mark++defers,.run,.normal,roundOf⟩) {callee:=.value f,args:=#[.const (.func (.yield l) #[] #[])],argTypes:=#[]} 0;invoke d.target d.args) w
    have unf:∀w,stepG.exec P0 m true ⟨fn',tmps,.code (.rangeFunc f params a b)::k,defers,.run,.normal,roundOf⟩ (c::cs) none w=
      (let(r,es):=(Instr.enterLoop fn' tmps params a b roundOf).runT P0 w #[];GStep.after (seen P0 fn' es)<|match r with
       |.ok (l,mark) w=>FA l mark w
       |.halt _ w=>.ended (.stuck "range over a function: no such loop" (Frame.pos P0 ⟨fn',tmps,.code (.rangeFunc f params a b)::k,defers,.run,.normal,roundOf⟩)) w):=λw=>rfl
    refine Sh.congr ?_ unf;generalize hrun:(Instr.enterLoop fn' tmps params a b roundOf).runT P0 V #[]=x;obtain⟨r,e1⟩:=x;have hR:=kS (P0:=P0) (P:=P) (str:=str) fn' hi hf.tmps params ((hP.code a).trans hcode.1.2) ((hP.code b).trans hcode.2) hro;have hS2:∀{σ:Ren} {l l':Nat} {mark mark':List Deferred} {V' W':World},ρ.le σ->σ l=some l'->fS σ mark mark'->aH ok str σ V' W'->Sh (FA l mark) V':=by
     intro σ l l' mark mark' V' W' h4 hl hmk hw';have hf2:bJ P ok σ ⟨fn',tmps,.inRangeFunc l::k,mark++defers,.run,.normal,roundOf⟩ ⟨fn',tmps',.inRangeFunc l'::k',mark'++defers',.run,.normal,roundOf'⟩:=
      ⟨rfl,hi,hf.tmps.mono h4,.cons (.inRangeFunc hl) (hk2.mono h4),hmk.append (hf.defers.mono h4),.run,rfl,rfl,hro.mono h4⟩
     refine n0 (P:=P) (s':=do let d <-resolve (Frame.eval ⟨fn',tmps',.inRangeFunc l'::k',mark'++defers',.run,.normal,roundOf'⟩) {callee:=.value f,args:=#[.const (.func (.yield l') #[] #[])],argTypes:=#[]} 0;invoke d.target d.args) ?_ hf2 hw';have hfv:=hf2.eval f hcode.1.1;have hy:am ok σ #[.func (.yield l) #[] #[]] #[.func (.yield l') #[] #[]]:=am.nil.push (.func (.yield hl) rfl am.nil.at_ rfl am.nil.at_);unfold resolve;dsimp only;generalize Frame.eval ⟨fn',tmps,.inRangeFunc l::k,mark++defers,.run,.normal,roundOf⟩ f=v at hfv;generalize Frame.eval ⟨fn',tmps',.inRangeFunc l'::k',mark'++defers',.run,.normal,roundOf'⟩ f=v' at hfv;cases hfv with
     |func hfn e1 g1 e2 g2=>
      refine aA ?_;exact lR hP.tab hP.toCallable (.fn hfn ⟨e2,g2⟩) (by simp) (am.append ⟨e1,g1⟩ (by simpa[Frame.eval]using hy))
     |nilFunc=>exact bU hP.tab .nilDeref rfl
     |hole _=>exact .dead _ _ λV=>jc hP.hole _ V
     |_=>exact .halt _ _
    refine⟨?_,?_⟩
    .simp only[hrun];rcases hR.sound #[] #[] hw hrun with hst|⟨σ,r',V',W',d',h1,h2,h4,h5⟩
     .cases r with
      |ok a w=>cases hst
      |halt hh w=>exact .inr ⟨_,_,_,rfl⟩
     .cases h2 with
      |panic _ _=>exact .inr ⟨_,_,_,rfl⟩
      |@ok j j' V' W' hv hw'=>
       exact uX (hS2 h4.le hv.1 hv.2 hw').1
    intro g2 V2 es h';simp only[hrun]at h';rcases hR.sound #[] #[] hw hrun with hst|⟨σ,r',V',W',d',h1,h2,h4,h5⟩
    .exfalso;cases r with
     |ok a w=>cases hst
     |halt hh w=>exact cf h'
    .rcases hR.shift #[] hw hrun with hst|⟨s1,s2,s3⟩
     .exfalso;cases r with
      |ok a w=>cases hst
      |halt hh w=>exact cf h'
     .cases h2 with
      |panic _ _=>exact(cf h').elim
      |@ok j j' V' W' hv hw'=>
       obtain⟨l,mark⟩:=j;obtain⟨l',mark'⟩:=j';obtain⟨hl,hmk⟩:=hv;obtain⟨es3,h3⟩:=fT h';have h3:FA l mark V'=.go g2 V2 es3:=h3;obtain⟨q1,q2,q3⟩:=(hS2 h4.le hl hmk hw').2 g2 V2 es3 h3;simp only[dC]at s1 s2 s3;have he:es=seen P0 fn' e1++es3:=by
        have:=h';simp only at this;rw[h3]at this;simp only[GStep.after,GStep.go.injEq,true_and]at this;exact this.symm
       refine⟨by omega,by rw[q2,s2],λτ d hA=>?_⟩;have hA1:fU V.tape V.drawn τ d (V'.drawn-V.drawn):=hA.less (by omega);have hA2:fU V'.tape V'.drawn τ (d+(V'.drawn-V.drawn)) (V2.drawn-V'.drawn):=by
        have:fU V.tape V.drawn τ d ((V'.drawn-V.drawn)+(V2.drawn-V'.drawn)):=hA.less (by omega);have:=this.tail;rw[show V.drawn+(V'.drawn-V.drawn)=V'.drawn by omega]at this;rw[s2];exact this
       have z1:=s3 τ d hA1;have z2:=q3 τ (d+(V'.drawn-V.drawn)) hA2;simp only[z1,DU];rw[z2,he,show d+(V'.drawn-V.drawn)+(V2.drawn-V'.drawn)=d+(V2.drawn-V.drawn) by omega];rfl
   |refuse w=>cases hcode
theorem xE (hP:bq P0 P ok){m:Bool}{fr fr' c:Frame}{cs:List Frame}(hf:bJ P ok ρ fr fr')(hw:aH ok str ρ V W)(hm:fr.mode≠.run):Sh (λw=>unwind P0 m fr (c::cs) none w) V:=by
 obtain⟨fn,tmps,todo,defers,mode,kind,roundOf⟩:=fr;obtain⟨fn',tmps',todo',defers',mode',kind',roundOf'⟩:=fr';have hfn:=hf.fn;have hk:=hf.kind;have hm':=hf.mode;have hi:=hf.inn;have hd:=hf.defers;simp only at hfn hk hm hm' hi hd;subst hk hfn;obtain⟨F,cd,f1,f2,f3,f4⟩:=hP.same fn' hi;cases hd with
 |@cons r0 r0' ds ds' hr hds=>
  refine np (P0:=P0) (P:=P) (E:=λes=>seen P0 fn' es) (k:=λj=>G ⟨fn',tmps,todo,j++ds,mode,.normal,roundOf⟩ (c::cs)) (kp:=λ_=>none) (wu (ok:=ok) hr) hw ?_ ?_ ?_
  .intro w a w' es h;simp only[unwind,h,GStep.after];simp[G]
  .intro w v w' es h;simp only[unwind,h,GStep.after];exact⟨_,_,_,rfl⟩
  .intro w r es h hst;cases r with
   |ok a w=>cases hst
   |halt hh w=>simp only[unwind,h,GStep.after];exact⟨_,_,_,rfl⟩
 |nil=>
  cases hm' with
  |run=>exact absurd rfl hm
  |@panicking ch ch'=>
   have c1:Frame.catches P0 ⟨fn',tmps,todo,[],.panicking ch,.normal,roundOf⟩=false:=by simp[Frame.catches,f1]
   refine bP (G (c.raise ch) cs) #[] λw=>?_
   simp only[unwind,c1,Bool.false_eq_true,if_false];rfl
  |returning=>
   refine np (P0:=P0) (P:=P) (E:=λes=>seen P0 fn' es) (k:=λv=>G (c.finish v) cs) (kp:=λ_=>none) (iy hP.tab F hf.tmps) hw ?_ ?_ ?_
   .intro w a w' es h;simp only[unwind,f1,h,GStep.after,doReturn];simp[G]
   .intro w v w' es h;simp only[unwind,f1,h,GStep.after];exact⟨_,_,_,rfl⟩
   .intro w r es h hst;cases r with
    |ok a w=>cases hst
    |halt hh w=>cases hh<;>(simp only[unwind,f1,h,GStep.after];exact⟨_,_,_,rfl⟩)
theorem ru (hP:bq P0 P ok){m:Bool}{fr fr' c:Frame}{cs:List Frame}(hf:bJ P ok ρ fr fr')(hw:aH ok str ρ V W):Sh (λw=>stepG P0 m (G fr (c::cs)) w) V:=by
 by_cases hm:fr.mode=.run
 .exact(A3 hP hf hw hm).congr λw=>lX hm
 .exact(xE hP hf hw hm).congr λw=>eL hm
end
end Go.Proofs.YtlmcblcijndipabGreatDoor
namespace Go.Proofs.YtlmcblcijndipabGreatDoor
open Go Go.Conc
variable [Gl]
structure St where
 fr:Frame
 cs:List Frame
 V:World
def St.re (s:St)(τ:Nat->Question->Nat)(d:Nat):St:=⟨s.fr,s.cs,Proofs.YtlmcblcijndipabGreatDoor.re s.V τ d⟩
section
variable (P0:Program)(c:Frame)(Q:Value->World->Prop)
def pF (s:St):Prop:=s.cs=[]/\∃v,s.fr.leaving P0 s.V (.returned v)/\Q v s.V
def cI (s s':St):Prop:=∃es,stepG P0 true (G s.fr (s.cs++[c])) s.V=.go (G s'.fr (s'.cs++[c])) s'.V es
def tx:Nat->St->Prop
 |0,s=>pF P0 Q s
 |n+1,s=>∃s',cI P0 c s s'/\tx n s'
def m8 (s' s:St):Prop:=∃τ d,cI P0 c (s.re τ d) s'
def H (s:St):Prop:=∀τ d,∃n,tx P0 c Q n (s.re τ d)
end
def cU (P0:Program)(ok:Ctx)(s:St):Prop:=∃ρ,bJ P0 ok ρ s.fr s.fr/\eH P0 ok ρ s.cs s.cs/\lV s.fr s.cs/\aH ok true ρ s.V s.V
structure ff (P0:Program)(c:Frame):Prop where
 ret:∀v w,∃o w' es,stepG P0 true (G (c.finish v) []) w=.ended o w' es
 pan:∀ch w,∃o w' es,stepG P0 true (G (c.raise ch) []) w=.ended o w' es
section
variable {P0:Program}{ok:Ctx}{c:Frame}{Q:Value->World->Prop}
theorem cU.re {s:St}(h:cU P0 ok s)(τ:Nat->Question->Nat)(d:Nat):cU P0 ok (s.re τ d):=by
 obtain⟨ρ,h1,h2,h3,h4⟩:=h;exact⟨ρ,h1,h2,h3,h4.heap,rfl,rfl,h4.gV,h4.gW⟩
def pG (s:St):Prop:=s.cs=[]/\s.fr.mode≠.run/\s.fr.defers=[]
theorem lY (hP:bq P0 P0 ok){s:St}(hs:cU P0 ok s)(he:pG s){g2:Goroutine}{V2:World}{es:Array Event}(h:stepG P0 true (G s.fr (s.cs++[c])) s.V=.go g2 V2 es):
  (∃v,g2=G (c.finish v) [])\/∃ch,g2=G (c.raise ch) []:=by
 obtain⟨ρ,h1,_,_,_⟩:=hs;obtain⟨fr,cs,V⟩:=s;obtain⟨e1,e2,e3⟩:=he;simp only at e1 e2 e3 h h1;subst e1;rw[eL e2]at h;obtain⟨F,cd,f1,_⟩:=hP.same _ h1.inn;have hm:=h1.mode;have hk:=h1.kind;obtain⟨fn,tmps,todo,defers,mode,kind,roundOf⟩:=fr;simp only at e2 e3 hm hk f1;subst e3 hk;cases mode with
 |run=>exact absurd rfl e2
 |panicking ch=>
  have c1:Frame.catches P0 ⟨fn,tmps,todo,[],.panicking ch,.normal,roundOf⟩=false:=by simp[Frame.catches,f1]
  simp only[unwind,c1,List.nil_append,Bool.false_eq_true,if_false,GStep.go.injEq]at h;exact .inr ⟨ch,h.1.symm⟩
 |returning=>
  simp only[unwind,f1,List.nil_append]at h;obtain⟨es3,h3⟩:=fT h;generalize (results F tmps).runT P0 V #[]=x at h3;obtain⟨r,e⟩:=x;cases r with
  |ok v w=>
   simp only[doReturn,GStep.go.injEq]at h3;exact .inl ⟨v,h3.1.symm⟩
  |halt hh w=>cases hh<;>cases h3
theorem cI.inside (hP:bq P0 P0 ok){s s':St}(hs:cU P0 ok s)(h:cI P0 c s s'):¬pG s:=by
 intro he;obtain⟨es,h⟩:=h;rcases lY hP hs he h with⟨v,e⟩|⟨ch,e⟩
 .have:=congrArg Goroutine.callers e;simp[G]at this
 .have:=congrArg Goroutine.callers e;simp[G]at this
theorem p8 (hP:bq P0 P0 ok)(hin:∀f,ok.fn f=true->ok.inn f=true){s:St}(hs:cU P0 ok s)(he:¬pG s){g2:Goroutine}{V2:World}{es:Array Event}(h:stepG P0 true (G s.fr (s.cs++[c])) s.V=.go g2 V2 es):
  ∃s':St,g2=G s'.fr (s'.cs++[c])/\V2=s'.V/\cU P0 ok s':=by
 obtain⟨ρ,h1,h2,h3,h4⟩:=hs;obtain⟨σ,g2',W2,es2,e,hg,hw,_,_⟩:=kT (lb:=[c]) (rb:=[c]) (FV:=true) hP h1 h2 h3 h4 (λa b=>λd=>he ⟨a,b,d⟩) h;rw[h]at e;simp only[GStep.go.injEq]at e;obtain⟨rfl,rfl,_⟩:=e;generalize hg2:g2=g2' at hg;have hg':jd P0 P0 ok σ [c] [c] g2 g2':=by rw[hg2]at*;exact hg
 clear hg;cases hg' with
 |@inside fr fr' cs cs' a1 a2 a3=>
  have e1:=congrArg Goroutine.frame hg2;have e2:=congrArg Goroutine.callers hg2;simp only[G]at e1 e2;have e2:cs=cs':=GJ e2;subst e1 e2;exact⟨⟨fr,cs,V2⟩,rfl,rfl,σ,a1,a2,a3,hw⟩
 |door a1 a2=>rw[hin _ a1]at a2;cases a2
theorem cI.self (hP:bq P0 P0 ok)(hin:∀f,ok.fn f=true->ok.inn f=true){s s':St}(hs:cU P0 ok s)(h:cI P0 c s s'):cU P0 ok s':=by
 have hi:=h.inside hP hs;obtain⟨es,h⟩:=h;obtain⟨s2,e1,e2,h2⟩:=p8 hP hin hs hi h;obtain⟨fr,cs,V⟩:=s';obtain⟨fr2,cs2,V2⟩:=s2;have e3:=congrArg Goroutine.frame e1;have e4:=congrArg Goroutine.callers e1;simp only[G]at e3 e4 e2;have e4:cs=cs2:=GJ e4;subst e3 e4 e2;exact h2
theorem cI.sh (hP:bq P0 P0 ok){s s':St}(hs:cU P0 ok s)(h:cI P0 c s s'):s.V.drawn<=s'.V.drawn/\s'.V.tape=s.V.tape/\
  ∀τ d,fU s.V.tape s.V.drawn τ d (s'.V.drawn-s.V.drawn)->cI P0 c (s.re τ d) (s'.re τ (d+(s'.V.drawn-s.V.drawn))):=by
 obtain⟨ρ,h1,h2,h3,h4⟩:=hs;obtain⟨es,h⟩:=h;cases hcs:s.cs++[c]with
 |nil=>simp at hcs
 |cons a l=>
  have:=(ru (m:=true) (c:=a) (cs:=l) hP h1 h4).2 _ _ _ (by rw[<-hcs];exact h);refine⟨this.1,this.2.1,λτ d hA=>⟨es,?_⟩⟩;have:=this.2.2 τ d hA;simp only[St.re];rw[hcs];exact this
end
