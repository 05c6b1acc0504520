import Derived.Test.YthppgbjejomdiaaGreatDoorj01
import Derived.Conc.Own
set_option linter.all false
set_option maxHeartbeats 1000000
open Array renaming getElem?_eq_none_iff->bE,foldl_toList->cv,replicate->cz,getElem?_append_left->c6,mapM_eq_mapM_toList->c8,toList_modify->da,forIn_toList->db,toList_push->dd,toList_zip->df
open Bool renaming and_eq_true->ay,false_eq_true->dc
open Go renaming Value->aa,TypeId->ac,Program->aj,Frame->ao,World->av,FuncId->az,execOp->aE,seen->aL,Operand->aV,Oper->a0,Code->a6,Item->a7,invoke->a8,Event->bb,PanicEntry->bn,tryRecover->bo,mark->br,convert->bs,underlying->bz,Question->bA,results->bB,callFunc->bO,eqGuard->bR,resolve->bS,stepG->bV,exitTo->b4,stuck->b5,Next->b6,callMethod->ce,Goroutine->cf,nilAhead->ci,doReturn->cl,Deferred->cn,liesAt->cp,GStep->cq,FrameMode->cP,CallKind->cS,Builtin->cT,yielded->cW
open Go.Builtin renaming unsafeSliceData_->ct,len_->cB,cap_->cC,max_->cF,min_->cJ,unsafeString_->c9,max2->dq,min2->dt
open Go.CallKind renaming early->b8
open Go.Conv renaming bytesToString->bW,stringToBytes->b7,runesToString->cw
open Go.Extern.BytealgIndexByte renaming indexByte->c0
open Go.Extern.Bytes renaming loadBytes->c4,bytesOf->c5,asByte->c7
open Go.Frame renaming eval->bm,enter->bX,catches->ca,finish->cb,pos->cd,raise->cM
open Go.GStep renaming after->ad,go->dF
open Go.Instr renaming findNow->bt,takeDeferred->bH,enterLoop->bK,endRound->bM,endLoop->bN,lookup->cL,next->cO,findAsking->dh,beginRound->dk,mapUpdate->dn,checkKey->dp,getLoop->dv,findKey->dz,yield->dD,range->dE
open Go.Mode renaming atomic->b0,plain->b1
open Go.Op renaming eqGuardIn->cN,maxDepth->dQ
open Go.Region renaming wanted->b9,schedule->cx,departs->cA
open Go.Region.linearise renaming go->cu
open Go.Sem renaming runT->ax,run_bind->bj,run->b2,bind->dS
open Go.Value renaming int->a9,string->b3,slice->co
open Go.stepG renaming apply->au,exec->bk,oper->bv
open Or renaming inl->aI,inr->bi
namespace Go.Proofs.YthppgbjejomdiaaGreatDoor
open Conc
variable {es iw:Array bb}{a b:Array a0}{xs xs':Array aa}{J4 T m str:Bool}{ok:Ctx}{c A fr fr2:ao}{f:az}{fn:az->Bool}{g O:cf}{cs cs' J rb:List ao}{l B:List MapEntry}{n:Nat}{t':Nat->bA->Nat}{o u:a0}{ev R:aV->aa}{P af8 p:aj}{s:Sem b6}{α:Type}{t:ac}{k k' Y v C x D y Z:aa}{V V1 N W W1 U w w':av}
section
variable [Gl]{ρ:Ren}
def aaq (r:ok.fn 1999999){a a'}(z:dG ρ a a')(E:n≠0):∀m {l B:Addr} (_:dG ρ l B) (d:ByteArray),l.block=a.block->a.off+n=l.off+(m+1)->ag af8 P ok str (ar ok) ρ (do let s <-loadBytes l d (m+1);freeze a n;pure s) (do let s <-loadBytes B d (m+1);freeze a' n;pure s):=by
 intro m;induction m with
 |zero=>
  intro l B e d j ho;exact ag.fz r z e j ho E (λx=>rfl) (λx=>rfl)
   (λv q=>by
    cases v with
    |int k x=>cases k<;>first|exact absurd rfl (q x)|exact⟨_,rfl,rfl⟩
    |_=>exact⟨_,rfl,rfl⟩) λx=>.pure (.string _)
 |succ m F=>intro l B e d j ho;refine ag.load e λv C q=>?_;cases q with|int k x=>(cases k<;>first|exact .halt _ _|skip);refine F (e.add 1) _ j ?_;show _=l.off+1+(m+1);omega|_=>exact .halt _ _
def Sg (hT:af8.toTables=P.toTables)(K:cp af8=cp P)(L:ok.fn 1999999)(q:Array ac)(t:ac)(h:aB ok ρ xs xs'):ag af8 P ok str (ar ok) ρ (c9 q t xs) (c9 q t xs'):=by let⟨l⟩:=xs;let⟨B⟩:=xs';match l,B,h.list with|[],_,.nil=>exact .halt _ _|[_],_,.cons j .nil=>cases j<;>exact .halt _ _|_::_::_::_,_,.cons j (.cons _<|.cons _ _)=>cases j<;>exact .halt _ _|[x,y],_,.cons j (.cons r .nil)=>cases j with|kX=>(refine af _ (kN r) ?_;rintro σ n _ z rfl;rcases q[0]? with _|E;exact .halt _ _;dsimp only;split;exact Tp;split;exact kY;split;exact ah<|.string _;exact im hT _ rfl)|@ptr a Q i=>(refine af _ (kN r) ?_;rintro σ n _ z rfl;have i:=i.mono z;rcases q[0]? with _|E;exact .halt _ _;dsimp only;split;exact Tp;split;exact kY;split;exact ah<|.string _;rename_i S X h3;refine af (λ_ x y=>x=y) ?_ ?_;refine af _ (ap hT E) ?_;rintro τ d _ l ⟨rfl,_⟩;(cases d<;>first|exact ah rfl|exact .halt _ _);rintro τ e _ l rfl;have i:=i.mono l;refine af (λ_ x y=>x=y) ?_ ?_;refine ag.program<|aW<|ag.shape i.blk λs=>?_;rcases s with _|s;exact ah rfl;refine ah ?_;rw[K,i.off,show af8.cellsOf s.1=P.cellsOf s.1 by unfold Program.cellsOf;rw[hT],show af8.depth=P.depth by unfold Program.depth;rw[hT]];rintro υ b _ F rfl;split;obtain⟨m,M⟩:∃m,n.toNat=m+1:=⟨n.toNat-1,by omega⟩;rw[M];exact aaq L (i.mono F) (by omega) m (i.mono F) _ rfl rfl;exact kY)|_=>exact .halt _ _
def acJ (hT:af8.toTables=P.toTables)(hN:af8.info? 1000000000=none)(q r:Array ac)(t:ac)(h:aB ok ρ xs xs'):ag af8 P ok str (ar ok) ρ (ct q 1000000000 xs) (ct r t xs'):=by let⟨l⟩:=xs;let⟨B⟩:=xs';match l,B,h.list with|[],_,.nil=>exact .halt _ _|_::_::_,_,.cons z _=>cases z<;>exact .halt _ _|[x],_,.cons z .nil=>cases z with|dj l c=>exact ah .kX|slice l c ra=>by_cases hc:c=0;subst hc;refine af _ (DG ra.blk) ?_;rintro σ _ _ _ ⟨rfl,rfl⟩;refine .dead _ _ λV=>?_;show Result.stops (b2 af8 (elemOf 1000000000 >>= _) V)=true;rw[bj,elemOf,bj];(have:(bz 1000000000).run af8 V=.halt (.stuck "no such type") V:=by simp[bz,Program.underlying,hN]);rw[this];rfl;have e:∀(q:Array ac) (t:ac) (a:Addr),ct q t #[co (some a) l c]=pure _:=λq t a=>if_pos hc;rw[e,e];exact ah (.ptr ra)|_=>exact .halt _ _
end
section
def adn {p:Prop}(x9:p:=by apply af _<|ap hT a;rintro τ d _ l ⟨rfl,_⟩;cases d with|array n e=>exact ah (.int _ _)|_=>exact .halt _ _):p:=x9
def ac2 {p:Prop}(x9:p:=by cases h with|int k a=>(cases h'<;>first|exact ah (.int _ _)|exact .halt _ _)|string a=>(cases h' with|string b=>refine af _ (xK _ _ _)<|λσ u u' _ hu=>af _ (DD hu) ?_;rintro τ b _ _ rfl;split<;>exact ah (.string _)|_=>exact .halt _ _)|_=>cases h'<;>exact .halt _ _):p:=x9
def acT {p:Prop}(x9:p:=by
 have tail:ag af8 P ok str (λ_ _ _=>True) ρ (do if<-Op.eqGuardIn Op.maxDepth t .nilIface .nilIface then unsupported (.noEntry "binop/eql: two nil values of an interface type with methods, neither of them the literal nil")else pure ())
    (do if<-Op.eqGuardIn Op.maxDepth t .nilIface .nilIface then unsupported (.noEntry "binop/eql: two nil values of an interface type with methods, neither of them the literal nil")else pure ()):=by
   refine af _ hg ?_;rintro σ _ _ _ ⟨rfl,rfl⟩;exact ah trivial
 cases x<;>cases y<;>first|exact ah trivial|exact tail):p:=x9
def YN {p:Prop}(x9:p:=by refine ag.program<|aW<|ag.program<|aW ?_;rw[hd af8 hT,hd P rfl];exact ah trivial):p:=x9
variable [Gl]
inductive oF (ok:Ctx)(ρ:Ren):b6->b6->Prop
 |value {v C:aa}:ar ok ρ v C->oF ok ρ (.value v) (.value C)
 |skip:oF ok ρ .skip .skip
 |enter (f:az) {xs xs':Array aa}:ok.fn f->aB ok ρ xs xs'->oF ok ρ (.enter f xs) (.enter f xs')
 |round {l B:Nat} (f:az) {xs xs':Array aa} {a b:a6}:ρ l=some B->ok.aP f->aB ok ρ xs xs'->ok.code a->ok.code b->oF ok ρ (.round l f xs a b) (.round B f xs' a b)
 |recover:oF ok ρ .recover .recover
def TE (x:Option Func)(e:Array aa->Sem aa):Prop:=∃fn,x=some fn/\(fn.name== "runtime.NumGoroutine")=false/\fn.body.isNone/\Extern.findNext fn=none/\Extern.find fn=some e/\(e=Extern.BytealgCount.count\/e=c0\/e=Extern.AbiNoEscape.same)
structure Callable (af8 P:aj)(ok:Ctx):Prop where
 left:∀f,ok.fn f->ok.ex f=false->∃fn,af8.funcs[f]?=some fn/\fn.body.isSome/\(fn.name== "runtime.NumGoroutine")=false
 right:∀f,ok.fn f->ok.ex f=false->∃fn,P.funcs[f]?=some fn/\fn.body.isSome/\(fn.name== "runtime.NumGoroutine")=false
 ext:∀f,ok.ex f->af8.funcs[f]?=none\/∃e,TE af8.funcs[f]? e/\TE P.funcs[f]? e
 inx:∀f,ok.aP f->ok.ex f=false
 hole:af8.info? 1000000000=none
 over:∀xs V,Result.stops ((bO Gl.ov xs).run af8 V)
 lies:cp af8=cp P
def du (fn:az->Bool):aV->Bool
 |.tmp _=>true
 |.const v=>EZ v
 |.global g=>fn (2000000+g)
 |.func f=>fn f
def Eh (P:aj)(s:ac)(f:Nat):Bool:=
 match P.underlying s with
 |some (.struct r)=>(match r[f]? with|some x=>(match P.info? x.type with|some i=>i.size !=0|none=>true)|none=>true)
 |_=>true
def nS:cT->Bool
 |.len|.cap|.max|.min|.recover=>true
 |_=>false
def mW (P:aj)(d:Array ac)(b:cT):Bool:=nS b||(b==.append&&(FJ P d||La P d))||(b==.clear&&PA P d)||(b==.copy&&PF P d)
def ovr:aV->Bool
 |.func g=>g==Gl.ov
 |_=>false
def D6 (P:aj)(ok:az->Bool)(c:Call):Bool:=
 (match c.callee with|.builtin b=>mW P c.argTypes b||(b==.unsafeString&&ok 1999999)|.value f=>du ok f||ovr f|.invoke r n=>du ok r&&Aq P ok n)&&c.args.all (du ok)
def adK (ok:az->Bool):Fn->Bool
 |.func f=>ok f
 |_=>false
def mG (P:aj)(t:ac):Bool:=
 match P.underlying t with
 |some .string=>true
 |_=>false
def Gs (P:aj)(t:ac):Bool:=
 match P.underlying t with
 |some (.int _)=>true
 |_=>false
def rA (P:aj)(t:ac):Bool:=
 match P.underlying t with
 |some (.slice e)=>(match P.underlying e with|some (.int .u8)=>true|_=>false)
 |_=>false
def kZ (P:aj)(t:ac):Bool:=
 match P.underlying t with
 |some (.map k e)=>mG P k&&OK P k&&Fz P e
 |_=>false
def O':aV->Bool
 |.const true=>false
 |_=>true
def acM:aV->Bool
 |.const (b3 _)=>true
 |_=>false
def jv (P:aj)(ok:az->Bool):Op->Bool
 |.move x|.assign x=>du ok x
 |.pick (.tmp _) a b=>du ok a&&du ok b
 |.alloc t=>Fz P t
 |.box _ x=>du ok x
 |.build t parts=>Fz P t&&parts.all (λx=>du ok x.2)
 |.buildSlice t _ parts=>Iv P t&&parts.all (λx=>du ok x.2)
 |.load _ a=>du ok a
 |.store _ a x=>du ok a&&du ok x
 |.binOp op t x y _=>O' x&&(mV P op t||xk P op t y)&&du ok x&&du ok y
 |.unOp _ _ x=>du ok x
 |.makeFunc f a b=>adK ok f&&a.all (du ok)&&b.all (du ok)
 |.makeSlice t l c=>Iv P t&&du ok l&&du ok c
 |.slice _ x a b c=>du ok x&&a.all (du ok)&&b.all (du ok)&&c.all (du ok)
 |.fieldAddr s x f=>Eh P s f&&du ok x
 |.indexAddr _ x i=>du ok x&&du ok i
 |.index _ x i=>du ok x&&du ok i
 |.extract x _=>du ok x
 |.call c=>D6 P ok c
 |.nilCheck x=>du ok x
 |.convert a b x=>(Gs P a&&Gs P b||rA P a&&mG P b||mG P a&&rA P b&&ok 1999999)&&du ok x
 |.range t x=>mG P t&&du ok x
 |.next it b=>b&&du ok it
 |.makeInterface _ x=>du ok x
 |.typeAssert x _ t c=>c&&Fz P t&&du ok x
 |.makeMap t n=>kZ P t&&n.isNone
 |.insert t m k x=>kZ P t&&acM k&&du ok m&&du ok x
 |.lookup t m k _=>kZ P t&&du ok m&&du ok k
 |_=>false
section
variable {ρ:Ren}
def iQ.length (h:iQ ok ρ l B):B.length=l.length:=by induction h with|nil=>rfl|cons s n h _ d=>grind
def aar (hT:af8.toTables=P.toTables)(j:Array ac)(t:ac)(h:aB ok ρ xs xs'):ag af8 P ok str (ar ok) ρ (cB j t xs) (cB j t xs'):=by unfold cB;rcases F:j[0]? with _|t;cases q:xs[0]?<;>exact .halt _ _;rcases q:xs[0]? with _|x;exact .halt _ _;let⟨D,z,r⟩:=h.get q;rw[z];apply af _<|ap hT t;rintro σ d _ l ⟨rfl,_⟩;have r:=r.mono l;cases d with|string=>(cases r<;>first|exact ah (.int _ _)|exact .halt _ _)|array n e=>exact ah (.int _ _)|pointer a=>exact adn|slice e=>(cases r<;>first|exact ah (.int _ _)|exact .halt _ _)|map k e=>(cases r with|map h=>(refine ag.getObj h λo u ho=>?_;cases ho with|@map es iw k E=>apply aW;have e:iw.size=es.size:=E.length;dsimp only;rw[e];exact ah (.int _ _)|_=>exact .halt _ _)|_=>exact .halt _ _)|_=>cases r<;>exact .halt _ _
def aam (hT:af8.toTables=P.toTables)(i:Array ac)(t:ac)(h:aB ok ρ xs xs'):ag af8 P ok str (ar ok) ρ (cC i t xs) (cC i t xs'):=by unfold cC;rcases z:i[0]? with _|t;cases j:xs[0]?<;>exact .halt _ _;rcases j:xs[0]? with _|x;exact .halt _ _;let⟨D,q,r⟩:=h.get j;rw[q];apply af _<|ap hT t;rintro σ d _ l ⟨rfl,_⟩;have r:=r.mono l;cases d with|array n e=>exact ah (.int _ _)|pointer a=>exact adn|slice e=>(cases r<;>first|exact ah (.int _ _)|exact .halt _ _)|_=>cases r<;>exact .halt _ _
def Wf (h:ar ok ρ x D)(h':ar ok ρ y Z):ag af8 P ok str (ar ok) ρ (dq x y) (dq D Z):=ac2
def Wh (h:ar ok ρ x D)(h':ar ok ρ y Z):ag af8 P ok str (ar ok) ρ (dt x y) (dt D Z):=ac2
def DE {f}(hf:∀{ρ:Ren} {x D y Z:aa},ar ok ρ x D->ar ok ρ y Z->ag af8 P ok str (ar ok) ρ (f x y) (f D Z)): ∀{l B:List aa} {ρ:Ren} {x D:aa},iP ok ρ l B->ar ok ρ x D->ag af8 P ok str (ar ok) ρ (l.foldlM f x) (B.foldlM f D):=by intro l;induction l with|nil=>intro B ρ x D h r;cases h;exact ah r|cons a l ih=>intro B ρ x D h r;cases h with|cons ha h=>exact af _ (hf r ha)<|λσ y Z le hy=>ih (h.mono le) hy
def aas (e:Array ac)(t:ac)(h:aB ok ρ xs xs'):ag af8 P ok str (ar ok) ρ (cF e t xs) (cF e t xs'):=by unfold cF;have d:=h.list;generalize xs.toList=l at d;generalize xs'.toList=B at d;rcases d with _|⟨i,d⟩;exact .halt _ _;exact DE (λh j=>Wf h j) d i
def aat (e:Array ac)(t:ac)(h:aB ok ρ xs xs'):ag af8 P ok str (ar ok) ρ (cJ e t xs) (cJ e t xs'):=by unfold cJ;have d:=h.list;generalize xs.toList=l at d;generalize xs'.toList=B at d;rcases d with _|⟨i,d⟩;exact .halt _ _;exact DE (λh j=>Wh h j) d i
def bD {s s'}(h:ag af8 P ok str (ar ok) ρ s s'):ag af8 P ok str (λσ x y=>oF ok σ x y) ρ (do pure (.value<|<-s)) (do pure (.value<|<-s')):=by exact af _ h<|λσ x y _ d=>ah<|.value d
def yH {s s' A}(h:ag af8 P ok str A ρ s s'):ag af8 P ok str (λσ x y=>oF ok σ x y) ρ (do s;pure .skip) (do s';pure .skip):=by exact af _ h<|λσ x y _ _=>ah .skip
def R2 (hC:Callable af8 P ok)(f:az)(r:ok.fn f)(hx:ok.ex f=false)(h:aB ok ρ xs xs'):ag af8 P ok str (λσ x y=>oF ok σ x y) ρ (bO f xs) (bO f xs'):=by
 apply ag.program;let⟨fn,h1,h2,h3⟩:=hC.left f r hx;let⟨ee,oy,MX,aG⟩:=hC.right f r hx;have e1:fn.body.isNone=false:=by cases hb:fn.body<;>simp_all
 have e2:ee.body.isNone=false:=by cases hb:ee.body<;>simp_all
 apply aW;rw[h1,oy];simp[h3,aG,e1,e2];exact ah<|.enter f r h
def R7 n:∀{ρ:Ren} {a a':Addr} (_:dG ρ a a') (s:ByteArray),ag af8 P ok str (λ_ x y=>x=y) ρ (c4 a n s) (c4 a' n s):=by induction n with|zero=>intro ρ a a' _ s;exact ah rfl|succ n d=>intro ρ a a' r s;apply af _<|Fa r;intro σ v C l e;cases e with|int k m=>(cases k<;>first|exact d ((r.mono l).add 1) _|exact .halt _ _)|_=>exact .halt _ _
def Sd {e:ByteArray->UInt8->Sem aa}(he:∀{σ:Ren} b c,ag af8 P ok str (ar ok) σ (e b c)<|e b c)(q:ar ok ρ x D)(z:ar ok ρ y Z): ag af8 P ok str (ar ok) ρ (do let b <-c5 x;let c <-c7 y;e b c) (do let b <-c5 D;let c <-c7 Z;e b c):=by
 refine af (λ_ x y=>x=y) ?_ ?_;cases q with|string s=>exact ah rfl|dj l c=>exact ah rfl|slice l c r=>exact R7 _ r _|_=>exact .halt _ _
 rintro σ b _ l rfl;refine af (λ_ x y=>x=y) ?_ ?_;cases z with|int k m=>(cases k<;>first|exact ah rfl|exact .halt _ _)|_=>exact .halt _ _
 grind
def aap {e:Array aa->Sem aa}(he:e=Extern.BytealgCount.count\/e=c0\/e=Extern.AbiNoEscape.same)(h:aB ok ρ xs xs'):ag af8 P ok str (ar ok) ρ (e xs) (e xs'):=by
 let⟨l⟩:=xs;let⟨B⟩:=xs';have r:=h.list;rcases he with rfl|rfl|rfl;match l,B,r with|[],_,.nil=>exact .halt _ _|[_],_,.cons _ .nil=>exact .halt _ _|[x,y],_,.cons q (.cons z .nil)=>exact Sd (λ_ _=>ah<|.int _ _) q z|_::_::_::_,_,.cons _ _=>exact .halt _ _
 match l,B,r with|[],_,.nil=>exact .halt _ _|[_],_,.cons _ .nil=>exact .halt _ _|[x,y],_,.cons q (.cons z .nil)=>exact Sd (λb c=>by split<;>exact ah<|.int _ _) q z|_::_::_::_,_,.cons _ _=>exact .halt _ _
 match l,B,r with|[],_,.nil=>exact .halt _ _|[x],_,.cons q .nil=>exact ah q|_::_::_,_,.cons _ _=>exact .halt _ _
def xG (hC:Callable af8 P ok)(f:az)(hf:ok.fn f)(h:aB ok ρ xs xs'):ag af8 P ok str (λσ x y=>oF ok σ x y) ρ (bO f xs) (bO f xs'):=by cases hx:ok.ex f;exact R2 hC f hf hx h;refine ag.program<|aW ?_;rcases hC.ext f hx with h0|⟨e,⟨fn,h1,h2,h3,h4,h5,h6⟩,⟨ee,oy,MX,r,aG,aZ,_⟩⟩;rw[h0];exact .halt _ _;rw[h1,oy];simp[h2,MX,h3,r,h4,aG,h5,aZ];exact ag.mark rfl<|bD (aap h6 h)
def mD {l B:Nat}(d:ρ l=some B):ag af8 P ok str (λσ r e=>FF ok σ r e) ρ (dv l) (dv B):=by refine ag.getObj d λo u ho=>?_;cases ho with|loop hr=>exact .pure hr|_=>exact .halt _ _
def Si {l B:Nat}(i:ρ l=some B)(h:aB ok ρ xs xs'):ag af8 P ok str (λσ x y=>oF ok σ x y) ρ (dD l xs) (dD B xs'):=by
 apply af _<|mD i;intro σ r M E e;have h:=h.mono E;rw[h.size,e.params];split;exact kY;rw[e.fn,e.assign,e.body];refine ah<|.round _ (E _ _ i) e.aP ?_ e.ok1 e.ok2;have j:∀(q:List Tmp) (l B:List aa) (_:iP ok σ l B) (a z:Array aa),aB ok σ a z->
   aB ok σ ((q.zip l).foldl (λd (x:Tmp×aa)=>d.setIfInBounds x.1 x.2) a) ((q.zip B).foldl (λd (x:Tmp×aa)=>d.setIfInBounds x.1 x.2) z):=by
  intro q;induction q with
  |nil=>simp_all
  |cons p q K=>
   intro l B i a z F;cases i with
   |nil=>exact F
   |cons L i=>exact K _ _ i _ _<|F.set L p
 have:=j r.params.toList _ _ h.list _ _ e.tmps;rw[<-df,<-df,cv,cv]at this;omega
def Ks (e:af8.toTables=P.toTables)(b:cT)(d:Array ac)(q:mW P d b)(t:ac)(cs:Array Bool)(h:aB ok ρ xs xs'):ag af8 P ok str (λσ x y=>oF ok σ x y) ρ (builtin b d t cs xs) (builtin b d t cs xs'):=by cases b with|len=>exact bD (aar e d t h)|cap=>exact bD (aam e d t h)|max=>exact bD (aas d t h)|min=>exact bD (aat d t h)|recover=>exact ah .recover|append=>(have i:(FJ P d||La P d)=true:=by grind [mW,nS]);cases j:FJ P d;rw[j]at i;exact bD<|Kq e d t i h;exact bD (Oe e d t j h)|copy=>exact bD (Wc e d t zc h)|clear=>exact bD (R3 e d t (by grind [mW,nS]) h)|_=>grind [mW,nS]
def ww (i:af8.toTables=P.toTables)(j:Callable af8 P ok){d d':Target}(q:Pa ok ρ d d')(h:aB ok ρ xs xs'):ag af8 P ok str (λσ x y=>oF ok σ x y) ρ (a8 d xs) (a8 d' xs'):=by cases q with|fn e r=>(cases e with|func e=>exact xG j _ e (h.append r)|yield z=>exact Si z h)|nil=>exact im i .nilDeref rfl
def Cj (r:af8.toTables=P.toTables)(hC:Callable af8 P ok)(n:String)(hm:Aq P ok.fn n)(hv:ar ok ρ v C)(h:aB ok ρ xs xs'):ag af8 P ok str (λσ x y=>oF ok σ x y) ρ (ce v n xs) (ce C n xs'):=by cases hv with|iface t hv=>refine ag.program<|aW ?_;rw[r];apply af _<|Ol r _ t n hm hv;rintro σ ⟨f,x⟩ ⟨_,y⟩ l ⟨rfl,hf,hx⟩;exact xG hC f hf ((aB.nil.push hx).append<|h.mono l)|nilIface=>exact im r .nilDeref rfl|hole _=>exact .halt _ _|_=>exact .halt _ _
def lR (ok:Ctx)(ρ:Ren)(ev R:aV->aa):Prop:=∀x,du ok.fn x->ar ok ρ (ev x) (R x)
def yj (h:lR ok ρ ev R){xs:Array aV}(j:xs.all (du ok.fn)):aB ok ρ (xs.map ev) (xs.map R):=by refine⟨aN,λi x D e d=>?_⟩;rw[Array.getElem?_map]at e d;rcases q:xs[i]? with _|o;grind;rw[q]at e d;simp at e d;subst e;subst d;rw[Array.all_eq_true]at j;obtain⟨r,rfl⟩:=agy.1 q;exact h _<|j i r
def Di (h:lR ok ρ ev R){xs:Array (Nat×Operand)}(i:xs.all (λx=>du ok.fn x.2)): (xs.map λx=>(x.1,ev x.2)).toList.map (·.1)=(xs.map λx=>(x.1,R x.2)).toList.map (·.1)/\iP ok ρ ((xs.map λx=>(x.1,ev x.2)).toList.map (·.2)) ((xs.map λx=>(x.1,R x.2)).toList.map (·.2)):=by simp;(have d:∀x∈xs.toList,du ok.fn x.2=true:=by grind [Array.all_eq_true,Array.getElem_of_mem]);generalize xs.toList=l at d;induction l with|nil=>exact .nil|cons a l e=>exact .cons (h _<|d a aN)<|e λx j=>d x cQ
def EX (h:lR ok ρ ev R){x:Option aV}(d:x.all (du ok.fn)):nL ok ρ (x.map ev) (x.map R):=by rcases x with _|o;exact .none;exact .some<|h _ zc
omit [Gl] in
def zB (d:BinOp)(t:ac)(x y:aV) a (V:av):(bR d t x y a hole).run af8 V=.ok () V/\(bR d t x y hole a).run af8 V=.ok () V:=by constructor<;>(cases d<;>first|rfl|(cases a<;>rfl))
omit [Gl] in
def Kr (e:af8.toTables=P.toTables)(d:BinOp)(t:ac)(i:mV P d t)(x y:aV)(a b:aa)(h:a=hole\/b=hole)(V:av):Result.stops ((do bR d t x y a b;binOp d t a b:Sem aa).run af8 V):=by rw[bj];rcases h with rfl|rfl;rw[(zB d t x y b V).2];exact(oH e d t i b V).2;rw[(zB d t x y a V).1];exact(oH e d t i a V).1
def Kv (hT:af8.toTables=P.toTables)(q:BinOp)(t:ac)(j:mV P q t)(x y:aV){a a' b F:aa}(h:ar ok ρ a a')(r:ar ok ρ b F)(na:a≠hole)(z:b≠hole):ag af8 P ok str (λ_ _ _=>True) ρ (bR q t x y a b) (bR q t x y a' F):=by
 unfold bR;by_cases he:FC q=true;unfold mV at j;rw[if_pos he]at j;have hd:∀(Q:aj),Q.toTables=P.toTables->Q.eqGuardType Q.depth t=false:=by intro Q L;have:Q.depth=(2*(Q.types.size+Made.depth)+1)+1:=rfl;rw[this];unfold Program.eqGuardType;rw[tS L];rcases Bool.or_eq_true_iff.1 j with j|j;grind [Ef];unfold Xl at j;rcases E:P.underlying t with _|u;grind;rw[E]at j;cases u with|struct S=>simp at j;grind [Program.eqGuardType,Ef,Array.any_eq_false,tS]|_=>grind
 have hg:∀{σ:Ren},ag af8 P ok str (λ_ x y=>x=false/\y=false) σ (cN dQ t .nilIface .nilIface) (cN dQ t .nilIface .nilIface):=by intro σ;unfold cN;apply af _<|ap hT t;rintro τ d _ _ ⟨rfl,E⟩;unfold OK Ef Xl at j;rw[E]at j;cases d with|struct S=>exact ah ⟨rfl,rfl⟩|bool=>exact ah ⟨rfl,rfl⟩|string=>exact ah ⟨rfl,rfl⟩|int k=>exact ah ⟨rfl,rfl⟩|slice e=>exact ah ⟨rfl,rfl⟩|_=>grind
 cases q with|eql=>(cases h with|hole _=>grind|nilIface=>(cases r with|hole _=>grind|nilIface=>exact acT|_=>exact ah trivial)|agg _ _=>(cases r with|hole _=>grind|agg _ _=>exact YN|_=>exact ah trivial)|_=>cases r<;>first|exact absurd rfl z|exact ah trivial)|neq=>(cases h with|hole _=>grind|nilIface=>(cases r with|hole _=>grind|nilIface=>exact acT|_=>exact ah trivial)|agg _ _=>(cases r with|hole _=>exact absurd rfl z|agg _ _=>exact YN|_=>exact ah trivial)|_=>cases r<;>first|exact absurd rfl z|exact ah trivial)|_=>cases he
 cases q<;>first|exact ah trivial|exact absurd rfl he
omit [Gl] in
def Jl {s:ac}{f:Nat}(h:Eh P s f):∀r x i,P.underlying s=some (.struct r)->r[f]?=some x->P.info? x.type=some i->i.size≠0:=by grind [Eh]
omit [Gl] in
def sN (h:af8.info? 1000000000=none)(V:av):Result.stops ((typeInfo 1000000000).run af8 V):=by simp[typeInfo,h,Result.stops,ends]
omit [Gl] in
def Cc (h:af8.info? 1000000000=none) n (V:av):Result.stops ((ci n 1000000000 (.chan none) "").run af8 V)\/(ci n 1000000000 (.chan none) "").run af8 V=.ok none V:=by cases n with|zero=>exact bi rfl|succ n=>left;unfold ci;rw[bj];exact gR (sN h V) _
omit [Gl] in
def Cd (h:af8.info? 1000000000=none)(V:av):Result.stops ((do
    if(<-ci ((<-program).types.size+Made.depth) 1000000000 (.chan none) "")!=some false then
     unsupported (.noEntry "op/nilCheck.the method's receiver behind this interface value is a nil pointer, or cannot be seen to be none, and the arguments act or may panic (ledger 612)")
    pure (.value<|.func (.method "") #[.iface 1000000000<|.chan none] #[]):Sem b6).run af8 V):=by
 rw[bj];show Result.stops (b2 af8 _ V)=true;rw[bj];rcases Cc h _ V with e|e
 .exact gR e _
 rw[e];rfl
omit [Gl] in
def qD (h:af8.info? 1000000000=none)(args:Array aa)(V:av):Result.stops ((a8 (.fn (.method "") #[])<|#[.iface 1000000000<|.chan none]++args).run af8 V):=by unfold a8;(have e:(#[Value.iface 1000000000<|.chan none]++args)[0]?=some (.iface 1000000000<|.chan none):=by rw[c6 bc];rfl);simp[e];unfold ce;rw[bj];show Result.stops (b2 af8 _ V)=true;rw[bj];refine gR ?_ _;generalize af8.types.size+Made.depth=n;cases n with|zero=>rfl|succ n=>unfold method;rw[bj];exact gR (sN h V) _
def V9 (hT:af8.toTables=P.toTables)(hC:Callable af8 P ok)(c:Call)(t:ac)(hc:D6 P ok.fn c)(h:lR ok ρ ev R)(aZ:∀g,ev (.func g)=.func (.func g) #[] #[]): ag af8 P ok str (λσ x y=>oF ok σ x y) ρ (do let d <-bS ev c t;a8 d.target d.args) (do let d <-bS R c t;a8 d.target d.args):=by
 unfold D6 at hc;rw[agZ]at hc;have ha:=yj h hc.2;unfold bS;cases b_:c.callee with
 |builtin b=>rw[b_]at hc;cases hb:mW P c.argTypes b;have h1:(mW P c.argTypes b||_)=true:=hc.1;rw[hb]at h1;simp at h1;obtain⟨rfl,h1⟩:=h1;exact bD<|Sg hT hC.lies h1 _ _ ha;exact Ks hT b _ hb _ _ ha|invoke r n=>rw[b_]at hc;simp at hc;apply aW;(have e:∀(v:aa) (xs:Array aa),a8 (.fn (.method n) #[]) (#[v]++xs)=ce v n xs:=λv xs=>by simp_all [a8,c6]);rw[e,e];exact Cj hT hC n hc.1.2 (h r hc.1.1) ha|value f=>
  rw[b_]at hc;cases aG:du ok.fn f with
  |false=>
   have Bf:ovr f=true:=by have:(du ok.fn f||ovr f)=true:=hc.1;rw[aG]at this;exact this
   cases f with
   |func g=>
    have hg:g=Gl.ov:=by grind [ovr]
    subst hg;refine .dead _ _ λV=>?_
    dsimp only;rw[aZ];exact hC.over _ V
   |_=>cases Bf
  |true=>
  have hf:=h f aG;dsimp only;generalize ev f=v at hf;generalize R f=C at hf;cases hf with|func se e1 h1 e2 h2=>exact aW<|ww hT hC (.fn se ⟨e2,h2⟩) (aB.append ⟨e1,h1⟩ ha)|nilFunc=>exact im hT .nilDeref rfl|hole _=>exact .dead _ _ λV=>qD hC.hole _ V|_=>exact .halt _ _
def H6 (q:af8.toTables=P.toTables)(hC:Callable af8 P ok)(o:a0)(x:aV)(bF:o.op=.nilCheck x)(z:ar ok ρ (ev x) (R x)):ag af8 P ok str (λσ x y=>oF ok σ x y) ρ (aE ev o) (aE R o):=by unfold aE;rw[bF];dsimp only;generalize ev x=v at z;generalize R x=C at z;cases z with|hole h=>exact .dead _ _ λV=>Cd hC.hole V|kX=>exact im q .nilDeref rfl|nilFunc=>exact im q .nilDeref rfl|nilIface=>exact im q .nilDeref rfl|map h=>exact ah (.value<|.map h)|bool b=>exact ah (.value<|.bool b)|int k n=>exact ah (.value<|.int k n)|string s=>exact ah (.value<|.string s)|ptr r=>exact ah (.value<|.ptr r)|dj l c=>exact ah (.value<|.dj l c)|slice l c r=>exact ah (.value<|.slice l c r)|iface t h=>exact ah (.value<|.iface t h)|func hf e1 h1 e2 h2=>(cases hf with|func h=>exact ah (.value<|.func (.func h) e1 h1 e2 h2)|yield h=>exact ah<|.value<|.func (.yield h) e1 h1 e2 h2)|agg e h=>exact ah (.value<|.agg e h)|tuple e h=>exact ah<|.value<|.tuple e h
def Kt (j:af8.toTables=P.toTables)(a b:ac)(h:Gs P a)(i:Gs P b)(q:ar ok ρ v C):ag af8 P ok str (ar ok) ρ (bs a b v) (bs a b C):=by
 unfold bs;refine af _ (ap j a) ?_;rintro σ d _ l ⟨rfl,r⟩;refine af _ (ap j b) ?_;rintro τ e _ B ⟨rfl,z⟩;unfold Gs at h i;rw[r]at h;rw[z]at i;cases d<;>first|cases h|skip
 cases e<;>first|cases i|skip
 cases q with|int k n=>exact ah (.int _ _)|_=>exact .halt _ _
def E8:∀{l B:List aa} {ρ:Ren} (s:ByteArray),iP ok ρ l B->ag af8 P ok str (λ_ x y=>x=y) ρ (forIn l s λc (s:ByteArray)=>match c with|a9 .u8 n=>pure (ForInStep.yield<|s.push<|UInt8.ofNat n.toNat)|_=>(b5 "bytesToString: byte expected":Sem (ForInStep ByteArray))) (forIn B s λc (s:ByteArray)=>match c with|a9 .u8 n=>pure (ForInStep.yield<|s.push<|UInt8.ofNat n.toNat)|_=>(b5 "bytesToString: byte expected":Sem (ForInStep ByteArray))):=by intro l;induction l with|nil=>intro B ρ s h;cases h;exact ah rfl|cons a l q=>intro B ρ s h;cases h with|cons e h=>cases e with|int k n=>(cases k with|u8=>grind|_=>exact .halt _ _)|_=>exact .halt _ _
def wv (e:ar ok ρ v C):ag af8 P ok str (ar ok) ρ (bW v) (bW C):=by cases e with|dj l c=>exact ah (.string _)|slice l c r=>apply af _<|pH r _;intro σ x y _ q;rw[<-db,<-db];apply af _<|E8 _ q.list;rintro τ s _ _ rfl;exact ah (.string _)|_=>exact .halt _ _
def acF (d:ac)(s:ByteArray):Sem Value:=.choose (.appendCap s.size 0 d) λn=>.new (.cells ((s.data.map λb=>a9 .u8 b.toNat)++cz (n-s.size) (a9 .u8 0)) d (((s.data.map λb=>a9 .u8 b.toNat)++cz (n-s.size) (a9 .u8 0)).size,((s.data.map λb=>a9 .u8 b.toNat)++cz (n-s.size) (a9 .u8 0)).size+1)) λr=>.pure<|co r s.size n
def VN (Q:aj)(e:ac)(c:Array aa)(k n:Nat)(V:av)(es:Array bb):(do let a <-newRow e c;markStringish a;pure (co (some a) k n):Sem aa).runT Q V es=(Sem.new (.cells c e (c.size,c.size+1)) λr=>.pure<|co r k n).runT Q V es:=by
 have q:({V with heap:=V.heap.push<|.cells c e}:av).shape? (V:Nat)=some (e,c.size):=by simp[World.shape?]
 have z:({V with heap:=V.heap.push<|.cells c e}:av).freeze ⟨V,c.size,none⟩ 1={V with heap:=V.heap.push<|.cells c e (c.size,c.size+1)}:=by unfold World.freeze;rw[if_neg ab];congr 1;grind
 show(dS (match({V with heap:=V.heap.push _}:av).shape? V with|some (_,n)=>freeze ⟨V,n,none⟩ 1|_=>pure ()) λ_=>pure _).runT Q {V with heap:=V.heap.push _} es=_;rw[q];exact congrArg (λw=>(Result.ok _ w,es)) z
def Hk (Q:aj)(d:ac)(s:ByteArray)(V:av)(es:Array bb):(b7 d s).runT Q V es=(acF d s).runT Q V es:=by have h:b7 d s=Sem.choose _ λn=>_:=rfl;rw[h];unfold acF;rw[ax,ax];split<;>exact VN _ _ _ _ _ _ _
def wC (Bc:ok.fn 1999999)(r:ac)(s:ByteArray):ag af8 P ok str (ar ok) ρ (b7 r s) (b7 r s):=by refine .eq (Hk af8 r s) (Hk P r s) λq=>?_;obtain rfl:=q Bc;refine .choose _ λn=>.new (.cells ?_<|.inl rfl) λσ b c l e=>.pure<|.slice _ _ ⟨e,rfl,rfl⟩;refine aB.append ⟨ab,λi x D h z=>?_⟩ ⟨ab,λi x D h z=>?_⟩<;>(rw[h]at z;cases z;simp[Array.getElem?_replicate]at h;first|(obtain⟨y,_,rfl⟩:=h;exact .int _ _)|(rw[<-h.2];exact .int _ _))
def Ku (i:af8.toTables=P.toTables)(a b:ac)(j:mG P a)(h:rA P b)(z:ok.fn 1999999)(q:ar ok ρ v C):ag af8 P ok str (ar ok) ρ (bs a b v) (bs a b C):=by
 unfold bs;refine af _ (ap i a) ?_;rintro σ d _ l ⟨rfl,E⟩;refine af _ (ap i b) ?_;rintro τ e _ B ⟨rfl,F⟩;unfold mG at j;unfold rA at h;rw[E]at j;rw[F]at h;cases d<;>first|cases j;done|skip
 cases e<;>first|cases h;done|skip
 rename_i r;have q:=(q.mono l).mono B;cases q with|string s=>refine af _ (ap i r) ?_;rintro υ u _ L ⟨rfl,K⟩;dsimp only at h;rw[K]at h;(cases u<;>first|cases h;done|skip);rename_i k;(cases k<;>first|cases h;done|skip);exact wC z r s|_=>exact .halt _ _
def E9 (hT:af8.toTables=P.toTables)(a b:ac)(z:rA P a)(hb:mG P b)(hx:ar ok ρ v C):ag af8 P ok str (ar ok) ρ (bs a b v) (bs a b C):=by
 apply af _<|ap hT a;rintro σ d _ l ⟨rfl,hd⟩;apply af _<|ap hT b;rintro τ e _ B ⟨rfl,he⟩;unfold rA at z;unfold mG at hb;rw[hd]at z;rw[he]at hb;cases d<;>first|cases z;done|skip
 rename_i el;cases e<;>first|cases hb;done|skip
 have q:∀{x D:aa},ar ok τ x D->ag af8 P ok str (ar ok) τ (do match<-bz el with|.int .u8=>bW x|.int .i32=>cw x|_=>b5 "Convert: a slice of what to string?")
   (do match<-bz el with|.int .u8=>bW D|.int .i32=>cw D|_=>b5 "Convert: a slice of what to string?"):=by
  intro x D h;refine af _ (ap hT el) ?_;rintro υ u _ l2 ⟨rfl,hu⟩;dsimp only at z;rw[hu]at z;cases u<;>first|cases z;done|skip
  rename_i k;cases k<;>first|cases z;done|skip
  exact wv<|h.mono l2
 cases ((hx.mono l).mono B)with|hole h=>refine .dead _ _ λV=>?_;(have aG:af8.underlying el=some (.int .u8):=by grind [tS]);(have hr:(bz el).run af8 V=.ok (.int .u8) V:=by simp[bz,aG]);show Result.stops (b2 af8 (do match<-bz el with|.int .u8=>bW hole|.int .i32=>cw hole|_=>b5 "Convert: a slice of what to string?") V)=true;rw[bj,hr];rfl|int k n=>exact ah (.string _)|string s=>exact ah (.string _)|bool b=>exact q (.bool b)|kX=>exact q .kX|ptr r=>exact q (.ptr r)|dj l c=>exact q (.dj l c)|slice l c r=>exact q (.slice l c r)|map h=>exact q (.map h)|nilFunc=>exact q .nilFunc|nilIface=>exact q .nilIface|iface t h=>exact q (.iface t h)|func hf e1 h1 e2 h2=>exact q (.func hf e1 h1 e2 h2)|agg e h=>exact q (.agg e h)|tuple e h=>exact q<|.tuple e h
def Sb (q:af8.toTables=P.toTables)(t:ac)(r:mG P t)(z:ar ok ρ v C):ag af8 P ok str (ar ok) ρ (dE t v) (dE t C):=by apply af _<|ap q t;rintro σ d _ l ⟨rfl,hd⟩;unfold mG at r;cases d with|string=>(cases z with|string s=>exact aW<|ag.new (.stringIter s 0)<|λτ b c _ e=>.pure (.ptr ⟨e,rfl,rfl⟩)|_=>exact .halt _ _)|_=>grind
def Wj (t:ac)(j:ar ok ρ v C):ag af8 P ok str (ar ok) ρ (cO v true t) (cO C true t):=by unfold cO;cases j with|@ptr a a' r=>(let⟨b,q,F⟩:=a;let⟨L,z,E⟩:=a';have e:=r.off;simp only at e;subst e;cases z with|zero=>(refine ag.getObj r.blk λo u ho=>?_;refine aW ?_;cases ho with|stringIter s p=>dsimp only;split;exact ag.setObj r.blk (.stringIter s _)<|.pure<|.tuple rfl (λi x D h d=>by match i with|0=>simp at h d;subst h d;exact .bool _|1=>simp at h d;subst h d;exact .int _ _|2=>simp at h d;subst h d;exact .int _ _|i+3=>simp at h);exact ah (.tuple rfl (λi x D h d=>by match i with|0=>simp at h d;subst h d;exact .bool _|i+1=>simp at h))|_=>exact .halt _ _)|succ n=>exact .halt _ _)|_=>exact .halt _ _
inductive t6 (ok:Ctx)(ρ:Ren):Option (Nat×aa)->Option (Nat×aa)->Prop
 |none:t6 ok ρ none none
 |some j {v C:aa}:ar ok ρ v C->t6 ok ρ (some (j,v)) (some (j,C))
def t6.mono {σ:Ren}{x y}(h:t6 ok ρ x y)(l:ρ.le σ):t6 ok σ x y:=by cases h with|none=>exact .none|some j h=>exact .some j<|h.mono l
def PS {k:ByteArray}(h:iQ ok ρ l B):∀i,∃x y,bt .string k l i=some x/\bt .string k B i=some y/\t6 ok ρ x y:=by induction h with|nil=>exact λi=>⟨_,_,rfl,rfl,.none⟩|cons s n d _ e=>intro i;simp only[bt,Instr.sameNow];cases k==s;simp_all;exact⟨_,_,rfl,rfl,.some i d⟩
omit [Gl] in
def Ie {d:TypeDesc}(e:mG P t)(h:P.underlying t=some d):d=.string:=by grind [mG]
def aak (j:af8.toTables=P.toTables)(q:P.globals.size=Gl.n)(t:ac)(r:OK P t)(h:iQ ok ρ l B):∀{σ:Ren} (_:ρ.le σ) {k k':aa} (_:ar ok σ k k') i,ag af8 P ok str (λσ x y=>t6 ok σ x y) σ (dh t k l i) (dh t k' B i):=by induction h with|nil=>exact λ_ _ _ _ _=>ah .none|cons s n z _ E=>intro σ le k k' e i;refine af _ (HJ j q t r e<|.string s) ?_;rintro υ b _ d rfl;cases b;exact E (le.trans d) (e.mono d) _;exact ah<|.some i<|z.mono<|le.trans d
def Mg (r:af8.toTables=P.toTables)(E:P.globals.size=Gl.n)(t:ac)(F:mG P t)(K:OK P t)(z:ar ok ρ k k')(h:iQ ok ρ l B): ag af8 P ok str (λσ x y=>t6 ok σ x y) ρ (dz t k l) (dz t k' B):=by refine af _ (ap r t) ?_;rintro σ d _ e ⟨rfl,L⟩;obtain rfl:=Ie F L;(have i:(bt .string k l 0=none/\bt .string k' B 0=none)\/∃x y,bt .string k l 0=some x/\bt .string k' B 0=some y/\t6 ok ρ x y:=by cases z with|string s=>exact .inr (PS h 0)|hole M=>(cases h with|nil=>exact .inr ⟨_,_,rfl,rfl,.none⟩|cons s n _ _=>exact .inl ⟨rfl,by cases k'<;>first|rfl|cases M⟩)|_=>cases h with|nil=>exact .inr ⟨_,_,rfl,rfl,.none⟩|cons s n _ _=>exact .inl ⟨rfl,rfl⟩);rcases i with⟨j,q⟩|⟨x,y,j,q,Q⟩;rw[j,q];exact aak r E t K h e (z.mono e) 0;rw[j,q];exact ah<|Q.mono e
def xH (e:af8.toTables=P.toTables)(b h:Bool) n (t:ac)(i:mG P t)(k k':aa):ag af8 P ok str (λ_ _ _=>True) ρ (dp b (n+1) t k) (dp h (n+1) t k'):=by refine af _ (ap e t) ?_;rintro σ d _ q ⟨rfl,j⟩;obtain rfl:=Ie i j;exact ah trivial
omit [Gl] in
def GJ {k e:ac}(h:kZ P t)(d:P.underlying t=some (.map k e)):mG P k/\OK P k/\Fz P e:=by unfold kZ at h;grind
def Ok (e:af8.toTables=P.toTables)(hG:P.globals.size=Gl.n)(t:ac)(ht:kZ P t){m:aa}(hm:ar ok ρ m Y)(hk:ar ok ρ k k')(c:Bool):ag af8 P ok str (ar ok) ρ (cL t m k c) (cL t Y k' c):=by unfold cL;refine af _ (ap e t) ?_;rintro σ d _ r ⟨rfl,hd⟩;cases d with|map kt et=>(let⟨h1,h2,h3⟩:=GJ ht hd;have hk:=hk.mono r;cases hm.mono r with|map h=>(refine ag.getObj h λo u ho=>?_;cases ho with|@map es iw n IB=>(refine aW<|aW ?_;refine af _ (xH e _ _ _ kt h1 k k') λυ _ _ l2 _=>?_;refine af _ (Mg e hG kt h1 h2 (hk.mono l2)<|IB.mono l2) ?_;intro υ x y l3 hr;cases hr with|none=>refine af _ (kq e et h3) λυ z z' _ hz=>aW ?_;cases c;exact ah hz;exact ah (vt hz<|.bool _)|some j hv=>refine aW ?_;cases c;exact ah hv;exact ah<|vt hv<|.bool _)|_=>exact .halt _ _)|_=>exact .halt _ _)|_=>exact .halt _ _
def iQ.push (h:iQ ok ρ l B)(s:ByteArray) n (d:ar ok ρ v C):iQ ok ρ (l++[{key:=s,val:=v,born:=n}]) (B++[{key:=s,val:=C,born:=n}]):=by induction h with|nil=>exact .cons s n d .nil|cons s n h _ e=>exact .cons s n h e
def iQ.old (h:iQ ok ρ l B)(j:Nat)(s:ByteArray):∃a,((l[j]?).map (·.key)).getD (b3 s)=b3 a/\((B[j]?).map (·.key)).getD (b3 s)=b3 a:=by induction h generalizing j with|nil=>simp_all|cons a n _ _ d=>cases j with|zero=>simp_all|succ j=>simp_all
def iQ.modify (h:iQ ok ρ l B) j (s:ByteArray)(d:ar ok ρ v C):iQ ok ρ (l.modify j λe=>{e with key:=s,val:=v}) (B.modify j λe=>{e with key:=s,val:=C}):=by induction h generalizing j with|nil=>cases j<;>exact .nil|cons a n h i q=>cases j with|zero=>exact .cons s n d i|succ j=>exact .cons a n h<|q j
def Oh (Q:af8.toTables=P.toTables)(hG:P.globals.size=Gl.n)(t:ac)(ht:kZ P t){m:aa}(hm:ar ok ρ m Y)(s:ByteArray)(F:ar ok ρ v C):ag af8 P ok str (λ_ _ _=>True) ρ (dn t m s v) (dn t Y s C):=by refine af _ (ap Q t) ?_;rintro σ d _ le ⟨rfl,hd⟩;cases d with|map kt et=>(let⟨h1,h2,h3⟩:=GJ ht hd;have F:=F.mono le;cases hm.mono le with|map h=>(refine ag.getObj h λo u ho=>?_;cases ho with|@map es iw n L=>(refine aW<|af _ (xH Q _ _ _ kt h1 _ _) λυ _ _ r _=>af _ (Mg Q hG kt h1 h2 (.string s)<|L.mono r) ?_;intro υ x y E hr;cases hr with|none=>refine ag.setObj ((r.trans E) _ _ h) (.map _ ?_)<|.pure trivial;rw[dd,dd];exact(L.mono<|r.trans E).push s n (F.mono<|r.trans E)|some j _=>let⟨a,e1,e2⟩:=L.old j s;dsimp only;rw[Array.getElem?_toList]at e1 e2;rw[e1,e2];(have z:∀{τ:Ren} (b:ByteArray),υ.le τ->ag af8 P ok str (λ_ _ _=>True) τ (setObj _<|.map (es.modify j λe=>{e with key:=.string b,val:=v}) n) (setObj _<|.map (iw.modify j λe=>{e with key:=.string b,val:=C}) n):=λ{τ} b S=>by refine ag.setObj ((r.trans<|E.trans S) _ _ h) (.map _ ?_)<|.pure trivial;rw[da,da];exact(L.mono<|r.trans<|E.trans S).modify j b<|F.mono<|r.trans<|E.trans S);unfold Instr.keyThatStays;cases Instr.sameBits 10000 (.string a) (.string s)with|true=>exact z s (Ren.le_refl _)|false=>refine ag.choose _ λq=>?_;show ag af8 P ok str _ υ (do setObj _ _) (do setObj _ _);by_cases hq:q=0;simp[hq];exact z s<|Ren.le_refl _;simp[hq];exact z a<|Ren.le_refl _)|_=>exact .halt _ _)|_=>exact .halt _ _)|_=>exact .halt _ _
def acI (hT:af8.toTables=P.toTables)(hG:P.globals.size=Gl.n)(hC:Callable af8 P ok)(o:a0)(ho:jv P ok.fn o.op)(h:lR ok ρ ev R)(aG:∀v,ev (.const v)=v/\R (.const v)=v)(aZ:∀g,ev (.func g)=.func (.func g) #[] #[]): ag af8 P ok str (λσ x y=>oF ok σ x y) ρ (aE ev o) (aE R o):=by
 unfold aE;cases bF:o.op with
 |move x=>rw[bF]at ho;exact ah (.value<|h x ho)|assign x=>rw[bF]at ho;exact ah (.value<|h x ho)|pick c a b=>rw[bF]at ho;cases c with|tmp c=>simp only[jv,ay]at ho;refine af _ (DD<|h (.tmp c) rfl) ?_;rintro σ b _ l rfl;split;exact ah<|.value<|(h _ ho.1).mono l;exact ah (.value<|(h _ ho.2).mono l)|_=>cases ho
 |alloc t=>rw[bF]at ho;exact bD (RY hT t ho)|box t x=>rw[bF]at ho;exact bD (aal t<|h x ho)|build t parts=>rw[bF]at ho;simp only[jv,ay]at ho;have:=Di h ho.2;exact bD (R1 hT t ho.1 this.1 this.2)|buildSlice t n parts=>rw[bF]at ho;simp only[jv,ay]at ho;have:=Di h ho.2;exact bD (Ci hT t n ho.1 this.1 this.2)|load t a=>rw[bF]at ho;refine bD<|af _ (vp<|h a ho) ?_;intro σ x y l r;exact tO hT t r|store t a x=>rw[bF]at ho;simp only[jv,ay]at ho;refine yH (A:=λ_ _ _=>True)<|af _ (vp<|h a ho.1) ?_;intro σ b b' l r;exact Ia hT t r ((h x ho.2).mono l)|binOp op t x y u=>
  rw[bF]at ho;simp only[jv,ay]at ho;cases qd:mV P op t with
  |false=>
   have hn:xk P op t y=true:=by have:=ho.1.1.2;grind
   have hy:=LG hn;have e1:ev y=.nilIface:=by rw[hy];grind
   have e2:R y=.nilIface:=by rw[hy];grind
   refine bD ?_;rw[e1,e2];exact R5 hT op t x y hn (h x ho.1.2)
  |true=>
  by_cases hd:ev x=hole\/ev y=hole;exact bD<|.dead _ _ λV=>Kr hT op t qd x y _ _ hd V;refine bD<|af _ (Kv hT op t qd x y (h x ho.1.2) (h y ho.2) (λe=>hd<|.inl e) λe=>hd<|.inr e) ?_;intro σ _ _ l _;exact RZ hT hG op t qd ((h x ho.1.2).mono l) ((h y ho.2).mono l)
 |unOp op t x=>rw[bF]at ho;exact bD (Se op<|h x ho)|makeFunc f a b=>rw[bF]at ho;simp only[jv,ay]at ho;cases f with|func f=>have h1:=yj h ho.1.2;have h2:=yj h ho.2;exact ah (.value<|.func (.func ho.1.1) h1.size h1.at_ h2.size h2.at_)|_=>cases ho.1.1
 |makeSlice t l c=>rw[bF]at ho;simp only[jv,ay]at ho;exact bD (Fb hT t ho.1.1 (h l ho.1.2)<|h c ho.2)|slice t x a b c=>rw[bF]at ho;simp only[jv,ay]at ho;exact bD (KC hT t (h x ho.1.1.1) (EX h ho.1.1.2) (EX h ho.1.2)<|EX h ho.2)|fieldAddr s x f=>rw[bF]at ho;simp only[jv,ay]at ho;exact bD (Ky hT s f (Jl ho.1)<|h x ho.2)|indexAddr t x i=>rw[bF]at ho;simp only[jv,ay]at ho;exact bD (Kz hT t (h x ho.1)<|h i ho.2)|index t x i=>rw[bF]at ho;simp only[jv,ay]at ho;exact bD (R6 hT t (h x ho.1)<|h i ho.2)|extract x n=>rw[bF]at ho;exact bD (Kw (h x ho) n)|call c=>rw[bF]at ho;exact V9 hT hC c _ ho h aZ|convert a b x=>rw[bF]at ho;simp only[jv,ay,Bool.or_eq_true]at ho;rcases ho.1 with(Iz|Iz)|Iz;exact bD<|Kt hT a b Iz.1 Iz.2<|h x ho.2;exact bD<|E9 hT a b Iz.1 Iz.2<|h x ho.2;exact bD (Ku hT a b Iz.1.1 Iz.1.2 Iz.2<|h x ho.2)
 |range t x=>rw[bF]at ho;simp only[jv,ay]at ho;exact bD (Sb hT t ho.1<|h x ho.2)|next it b=>rw[bF]at ho;simp only[jv,ay]at ho;obtain⟨rfl,ho⟩:=ho;exact bD (Wj o.type<|h it ho)|makeInterface t x=>rw[bF]at ho;exact bD (wA hT t<|h x ho)|typeAssert x t a c=>rw[bF]at ho;simp only[jv,ay]at ho;obtain⟨⟨rfl,hz⟩,ho⟩:=ho;exact bD (Ck hT t a hz<|h x ho)|nilCheck x=>rw[bF]at ho;have:=H6 (af8:=af8) (P:=P) (str:=str) hT hC o x bF<|h x ho;grind [aE]|makeMap t n=>rw[bF]at ho;simp only[jv,ay]at ho;rcases n with _|n;exact bD<|ag.new (.map 0 .nil) λσ b c _ e=>.pure<|.map e;grind
 |insert t m k x=>rw[bF]at ho;simp only[jv,ay]at ho;obtain⟨⟨⟨ho,hk⟩,hm⟩,hx⟩:=ho;unfold acM at hk;split at hk;rename_i s;simp only[aG];exact yH<|Oh hT hG t ho (h m hm) s<|h x hx;grind|lookup t m k c=>rw[bF]at ho;simp only[jv,ay]at ho;exact bD (Ok hT hG t ho.1.1 (h m ho.1.2) (h k ho.2) c)|_=>rw[bF]at ho;cases ho
end
end
section
variable [Gl]
def codeOk (P:aj)(fn:az->Bool):a6->Bool
 |.skip|.ret|.exit _|.refuse _=>true
 |.seq a b=>codeOk P fn a&&codeOk P fn b
 |.cond c a b=>du fn c&&codeOk P fn a&&codeOk P fn b
 |.block _ b|.loop b=>codeOk P fn b
 |.region _ ops _=>ops.all (λo=>jv P fn o.op)
 |.rangeFunc f _ a b=>du fn f&&codeOk P fn a&&codeOk P fn b
 |_=>false
def xu (k:Int)(x y:aV):Op:=if k=0 then .convert 47 87 x else if k=1 then .convert 87 47 x else if k=2 then .binOp .neq 47 x y 47 else if k=3 then .binOp .eql 47 x y 47 else .binOp .eql 51 x y 51
def dead:Op->Option Op
 |.binOp .add 0 (.const true) y 0=>some (.panic y)
 |.binOp .sub 0 (.const true) y 0=>some (.defer {callee:=.value y,args:=#[],argTypes:=#[]})
 |.binOp .mul 0 (.const true) (.const true) 0=>some (.alloc 0)
 |.pick (.const<|a9 .i64 k) x y=>some (xu k x y)
 |_=>none
def Xk:Op:=.binOp .mul 0 (.const true) (.const true) 0
def NK {o}(h:jv P fn o):dead o=none:=by unfold dead;split;cases h;cases h;cases h;cases h;rfl
def vg (fn:az->Bool):Op->Bool
 |.call {callee:=.builtin .unsafeSliceData,args,..}=>args.all (du fn)
 |_=>false
def WW (P:aj)(fn:az->Bool)(o u:a0):Prop:=(u=o/\jv P fn o.op)\/(u.op=o.op/\o.type=1000000000/\vg fn o.op)\/(o.op=.assign (.const hole)/\(u.op=.assign (.const<|.map none)\/u.op=.assign (.const hole)))
def WW.dead (h:WW P fn o u):Proofs.YthppgbjejomdiaaGreatDoor.dead o.op=none/\∀c,o.op≠.defer c/\u.op≠.defer c:=by rcases h with⟨rfl,h⟩|⟨h,_,q⟩|⟨r,q⟩;exact⟨NK h,λc=>⟨λe=>(by rw[e]at h;cases h),λe=>(by rw[e]at h;cases h)⟩⟩;rw[h];refine⟨?_,λc=>⟨λe=>(by rw[e]at q;cases q),λe=>(by rw[e]at q;cases q)⟩⟩;unfold vg at q;split at q;rename_i e;rw[e];rfl;grind;rw[r];refine⟨rfl,λc=>⟨cQ,?_⟩⟩;grind
def pW (P:aj)(fn:az->Bool)(a b:Array a0):Prop:=a.size=b.size/\∀(i:Nat) (o u:a0),a[i]?=some o->b[i]?=some u->u.dst=o.dst/\(u.guard=o.guard/\u.after=o.after)/\(WW P fn o u\/dead o.op=some u.op\/(Gl.Yr P/\u=o/\(dead o.op).isSome)\/o.op=Xk)
inductive DS (P:aj)(fn:az->Bool):a6->a6->Prop
 |same {c:a6}:codeOk P fn c->DS P fn c c
 |seq {a a' b b':a6}:DS P fn a a'->DS P fn b b'->DS P fn (.seq a b) (.seq a' b')
 |cond {x:aV} {a a' b b':a6}:du fn x->DS P fn a a'->DS P fn b b'->DS P fn (.cond x a b) (.cond x a' b')
 |block {id:Nat} {a a':a6}:DS P fn a a'->DS P fn (.block id a) (.block id a')
 |loop {a a':a6}:DS P fn a a'->DS P fn (.loop a) (.loop a')
 |region {id:Nat} {a b:Array a0} (d:Bool):pW P fn a b->DS P fn (.region id a d) (.region id b d)
inductive qk (P:aj)(ok:Ctx)(ρ:Ren):a7->a7->Prop
 |code {c c':a6}:DS P ok.fn c c'->qk P ok ρ (.code c) (.code c')
 |inBlock id:qk P ok ρ (.inBlock id) (.inBlock id)
 |inLoop {c c':a6}:DS P ok.fn c c'->qk P ok ρ (.inLoop c) (.inLoop c')
 |inRegion {a b:Array a0} (todo:List Nat):pW P ok.fn a b->qk P ok ρ (.inRegion a todo) (.inRegion b todo)
 |inRangeFunc {l B:Nat}:ρ l=some B->qk P ok ρ (.inRangeFunc l) (.inRangeFunc B)
 |endRangeFunc {l B:Nat}:ρ l=some B->qk P ok ρ (.endRangeFunc l) (.endRangeFunc B)
 |beginRound:qk P ok ρ .beginRound .beginRound
inductive lV (P:aj)(ok:Ctx)(ρ:Ren):List a7->List a7->Prop
 |nil:lV P ok ρ [] []
 |cons {x D:a7} {l B:List a7}:qk P ok ρ x D->lV P ok ρ l B->lV P ok ρ (x::l) (D::B)
inductive lW (ok:Ctx)(ρ:Ren):List bn->List bn->Prop
 |nil:lW ok ρ [] []
 |cons (r g:Bool) {v C:aa} {l B:List bn}:ar ok ρ v C->lW ok ρ l B->lW ok ρ ({v,recovered:=r,goexit:=g}::l) ({v:=C,recovered:=r,goexit:=g}::B)
inductive yP (ok:Ctx)(ρ:Ren):cP->cP->Prop
 |run:yP ok ρ .run .run
 |returning:yP ok ρ .returning .returning
 |panicking {c c':List bn}:lW ok ρ c c'->yP ok ρ (.panicking c) (.panicking c')
inductive yR (ρ:Ren):Option Nat->Option Nat->Prop
 |none:yR ρ none none
 |some {l B:Nat}:ρ l=some B->yR ρ (some l) (some B)
structure cV (P:aj)(ok:Ctx)(ρ:Ren)(fr A:ao):Prop where
 fn:A.fn=fr.fn
 aP:ok.aP fr.fn
 tmps:aB ok ρ fr.tmps A.tmps
 todo:lV P ok ρ fr.todo A.todo
 defers:jE ok ρ fr.defers A.defers
 mode:yP ok ρ fr.mode A.mode
 kind:fr.kind=.normal\/fr.kind=.deferred
 eC:A.kind=fr.kind
 round:yR ρ fr.roundOf A.roundOf
inductive je (P:aj)(ok:Ctx)(ρ:Ren):List ao->List ao->Prop
 |nil:je P ok ρ [] []
 |cons {f f':ao} {l B:List ao}:cV P ok ρ f f'->je P ok ρ l B->je P ok ρ (f::l) (f'::B)
section
variable {ρ σ:Ren}
def qk.mono {x D:a7}(h:qk P ok ρ x D)(l:ρ.le σ):qk P ok σ x D:=by cases h with|code h=>exact .code h|inBlock id=>exact .inBlock id|inLoop h=>exact .inLoop h|inRegion t h=>exact .inRegion t h|inRangeFunc h=>exact .inRangeFunc (l _ _ h)|endRangeFunc h=>exact .endRangeFunc (l _ _ h)|beginRound=>exact .beginRound
def lV.mono {x D:List a7}(h:lV P ok ρ x D)(l:ρ.le σ):lV P ok σ x D:=aaK
def lW.mono {x D:List bn}(h:lW ok ρ x D)(l:ρ.le σ):lW ok σ x D:=by induction h with|nil=>exact .nil|cons r g h _ d=>exact .cons r g (h.mono l) d
def lW.append {a a' b d:List bn}(h:lW ok ρ a a')(e:lW ok ρ b d):lW ok ρ (a++b) (a'++d):=by induction h with|nil=>exact e|cons r g h _ i=>exact .cons r g h i
def lW.drop {x D:List bn}(h:lW ok ρ x D):lW ok ρ (x.dropWhile (!·.goexit)) (D.dropWhile (!·.goexit)):=by induction h with|nil=>exact .nil|cons r g h d e=>cases g;exact e;exact .cons r true h d
def yP.mono {m Y:cP}(h:yP ok ρ m Y)(l:ρ.le σ):yP ok σ m Y:=by cases h with|run=>exact .run|returning=>exact .returning|panicking h=>exact .panicking<|h.mono l
def pW.of (h:a.all (λo=>jv P fn o.op)):pW P fn a a:=by refine⟨rfl,λi o u e d=>?_⟩;rw[e]at d;obtain rfl:=agC d;refine⟨rfl,⟨rfl,rfl⟩,aI<|aI ⟨rfl,?_⟩⟩;grind
def yR.mono {x D}(h:yR ρ x D)(l:ρ.le σ):yR σ x D:=by rcases h with _|h;exact .none;exact .some<|l _ _ h
def cV.mono {f r:ao}(h:cV P ok ρ f r)(l:ρ.le σ):cV P ok σ f r:=⟨h.fn,h.aP,h.tmps.mono l,h.todo.mono l,h.defers.mono l,h.mode.mono l,h.kind,h.eC,h.round.mono l⟩
def je.mono {f r:List ao}(h:je P ok ρ f r)(l:ρ.le σ):je P ok σ f r:=aaK
def lV.exit {id:Nat}:∀{l B:List a7},lV P ok ρ l B->(b4 id l=none/\b4 id B=none)\/∃k k',b4 id l=some k/\b4 id B=some k'/\lV P ok ρ k k':=by intro l B h;induction h with|nil=>exact aI ⟨rfl,rfl⟩|@cons x D l B d j e=>cases d with|inBlock i=>grind [b4]|_=>exact e
end
def Ei (f:ao):Option Nat×CallKind:=(f.roundOf,f.kind)
def wM (fr:ao)(cs:List ao):Prop:=∀f,(fr::cs).getLast?=some f->Ei f=(none,.normal)
inductive qj (af8 P:aj)(ok:Ctx)(σ:Ren)(J rb:List ao):cf->cf->Prop
 |inside {fr A:ao} {cs cs':List ao}:cV P ok σ fr A->je P ok σ cs cs'->wM fr cs->qj af8 P ok σ J rb (G fr<|cs++J) (G A<|cs'++rb)
 |door {f:az} {xs xs':Array aa} {cs cs':List ao}:ok.fn f->ok.aP f=false->aB ok σ xs xs'->je P ok σ cs cs'->cs≠[]->(∀f,cs.getLast?=some f->Ei f=(none,.normal))->
   qj af8 P ok σ J rb (G (bX af8 f xs .normal)<|cs++J) (G (bX P f xs' .normal)<|cs'++rb)
structure Same (af8 P:aj)(ok:Ctx):Prop where
 same:∀f,ok.aP f->∃fn c c',af8.funcs[f]?=some fn/\P.funcs[f]?=some {fn with body:=some c'}/\fn.body=some c/\DS P ok.fn c c'
 ZN:af8.follows .rangeFuncRecover/\P.follows .rangeFuncRecover
 code:∀c,ok.code c=codeOk P ok.fn c
omit [Gl] in
def kM (p:aj)(fn:az)(es:Array bb):∀e∈aL p fn es,e∈es:=by
 unfold aL;simp only;have aG:∀(l:List bb) (q:Bool) (r:Array bb) (S:bb->Prop),(∀e∈l,S e)->(∀e∈r,S e)->
   ∀e∈(l.foldl (λ(x:Bool×Array bb) (e:bb)=>match e.loc with|.mark (.extern f)=>((p.funcs[f]?).any (·.norace),x.2)|_=>(x.1,if x.1&&!e.sync then x.2 else x.2.push e)) (q,r)).2,S e:=by
  intro l;induction l with
  |nil=>grind
  |cons a l ih=>
   intro q r S hl hk e he;simp only[List.foldl_cons]at he;split at he
   .exact ih _ _ S (λx hx=>hl x f7) hk e he
   refine ih _ _ S (λx hx=>hl x f7) ?_ e he;grind
 intro e he;rw[<-cv]at he;exact aG es.toList _ #[] (λe=>e∈es) (λx hx=>f7) (λx hx=>f7) e he
section
variable {ρ σ:Ren}
def pW.dst (h:pW P fn a b)(i:Nat):(b[i]?).bind (·.dst)=(a[i]?).bind (·.dst):=by rcases e:a[i]? with _|o;rw[bE.2 (by rw[<-h.1];exact bE.1 e)];have d:b[i]?=some (b[i]'(by rw[<-h.1];exact((agy.1 e).1))):=agD _;rw[d];exact(h.2 i o _ e d).1
def cV.finish (h:cV P ok ρ fr A)(L:ar ok ρ v C):cV P ok ρ (fr.finish v) (A.finish C):=by let⟨fn,q,r,e,z,E,d⟩:=fr;let⟨S,X,gU,cZ,pT,eC,bp⟩:=A;rcases h.todo with _|⟨M,j⟩;exact h;cases M with|inRegion t F=>(rcases t with _|⟨i,K⟩;exact h;refine⟨h.fn,h.aP,?_,.cons (.inRegion _ F) j,h.defers,h.mode,h.kind,h.eC,h.round⟩;unfold cb;simp;rw[F.dst i];split;exact h.tmps.set L _;exact h.tmps)|inRangeFunc Q=>exact⟨h.fn,h.aP,h.tmps,.cons (.endRangeFunc Q) j,h.defers,h.mode,h.kind,h.eC,h.round⟩|beginRound=>exact⟨h.fn,h.aP,h.tmps,j,h.defers,h.mode,h.kind,h.eC,h.round⟩|_=>exact h
omit [Gl] in
def eF (fr:ao) v:Ei (fr.finish v)=Ei fr:=by unfold cb;split<;>rfl
omit [Gl] in
def qS (fr:ao)(c:List bn):Ei (fr.raise c)=Ei fr:=by unfold cM;split<;>rfl
omit [Gl] in
def wM.swap (h:wM fr cs)(e:Ei fr2=Ei fr):wM fr2 cs:=by intro f r;rcases cs with _|⟨c,cs⟩;simp at r;subst r;rw[e];exact h fr rfl;exact h f zc
omit [Gl] in
def wM.push (h:wM fr cs):wM fr2 (fr::cs):=zc
omit [Gl] in
def wM.pop (h:wM fr (c::cs))(e:Ei fr2=Ei c):wM fr2 cs:=by have:wM c cs:=λf r=>h f zc;exact this.swap e
def lF (hS:Same af8 P ok)(hf:ok.aP f)(h:aB ok ρ xs xs')(k:CallKind:=.normal)(hk:k=.normal\/k=.deferred:=by simp):cV P ok ρ (Frame.enter af8 f xs k) (Frame.enter P f xs' k):=by let⟨fn,c,c',h1,h2,h3,h4⟩:=hS.same f hf;unfold Frame.enter;rw[h1,h2];simp[h3];refine⟨rfl,hf,?_,.cons (.code h4) .nil,.nil,.run,hk,rfl,.none⟩;rw[<-h.size];exact h.append<|aB.replicate jY _
theorem cV.raise (h:cV P ok ρ fr A){c c':List bn}(hc:lW ok ρ c c'):cV P ok ρ (fr.raise c) (A.raise c'):=by let⟨fn,tmps,r,q,z,kind,e⟩:=fr;let⟨ee,dw,gU,cZ,pT,eC,bp⟩:=A;cases h.mode with|panicking hp=>exact⟨h.fn,h.aP,h.tmps,h.todo,h.defers,.panicking<|hc.append hp,h.kind,h.eC,h.round⟩|_=>exact⟨h.fn,h.aP,h.tmps,h.todo,h.defers,.panicking hc,h.kind,h.eC,h.round⟩
def um (c:ao):Frame:=
 match c.mode with
 |.panicking ({recovered:=true,..}::e)=>
  match e.dropWhile (!·.goexit)with
  |[]=>{c with mode:=.returning}
  |rest=>{c with mode:=.panicking rest}
 |_=>c
def kQ (k:cS)(c:ao)(v:aa):Frame:=if k=.normal then c.finish v else um c
omit [Gl] in
theorem gK (h:fr.kind=.normal\/fr.kind=.deferred):cl p m fr (c::cs) none v w=.go (G (kQ fr.kind c v) cs) w:=by rcases h with h|h<;>simp[cl,h]<;>rfl
def cV.back (h:cV P ok ρ fr A):cV P ok ρ (um fr) (um A):=by unfold um;let⟨fn,q,z,e,E,F,d⟩:=fr;let⟨M,Q,S,X,pT,eC,bp⟩:=A;cases h.mode with|panicking L=>(cases L with|nil=>omega|cons r g K i=>cases r;omega;simp;have j:=i.drop;revert j;generalize List.dropWhile _ _=a;generalize List.dropWhile _ _=b;intro j;cases j with|nil=>exact⟨h.fn,h.aP,h.tmps,h.todo,h.defers,.returning,h.kind,h.eC,h.round⟩|cons r g K i=>exact⟨h.fn,h.aP,h.tmps,h.todo,h.defers,.panicking<|.cons r g K i,h.kind,h.eC,h.round⟩)|_=>omega
def cV.Ym (k:cS)(h:cV P ok ρ fr A)(d:ar ok ρ v C):cV P ok ρ (kQ k fr v) (kQ k A C):=by unfold kQ;split;exact h.finish d;exact h.back
omit [Gl] in
def xE (k:cS)(fr:ao) v:Ei (kQ k fr v)=Ei fr:=by unfold kQ um;split;exact eF _ _;split;split<;>rfl;rfl
def cV.early (h:cV P ok ρ fr A):(fr.kind==b8)=false/\(A.kind==b8)=false:=by rw[h.eC];rcases h.kind with e|e<;>rw[e]<;>exact⟨rfl,rfl⟩
def lV.Rf {l B:List a7}(h:lV P ok ρ l B):(∀d b r s k,l≠.call d b r s::k)/\∀d b r s k,B≠.call d b r s::k:=by rcases h with _|⟨h,_⟩;grind;cases h<;>exact⟨aN,aN⟩
omit [Gl] in
def mQ (hr:s.runT p w #[]=(.ok (.enter f xs) w',es))(hn:∀d b r s k,fr.todo≠.call d b r s::k)(hk:(fr.kind==b8)=false): au p true fr cs none s w=.go (G (bX p f xs .normal)<|fr::cs) w' (aL p fr.fn es):=by let⟨fn,tmps,aG,a1,a2,kind,aZ⟩:=fr;simp only at hk hn;rcases aG with _|⟨x,l⟩;grind [au,ad,G];cases x with|call d b r s=>grind|_=>simp only[au,if_true,hr,ad,hk];simp[G]
def wi (fr:ao)(cs:List ao):Goroutine:=
 match bo fr cs with
 |some (v,cs')=>G (fr.finish v) cs'
 |none=>G (fr.finish .nilIface) cs
omit [Gl] in
def nP (e:p.follows .rangeFuncRecover)(q:s.runT p w #[]=(.ok .recover w',es))(hk:(fr.kind==b8)=false): au p true fr cs none s w=.go (wi fr cs) w' (aL p fr.fn es):=by simp only[au,q,ad,e];grind [wi,G]
def VK (hf:cV P ok ρ fr A)(hc:je P ok ρ cs cs')(hb:wM fr cs):qj af8 P ok ρ J rb (wi fr<|cs++J) (wi A<|cs'++rb):=by (have no:bo fr (cs++J)=none->bo A (cs'++rb)=none->qj af8 P ok ρ J rb (wi fr<|cs++J) (wi A<|cs'++rb):=λe e'=>by simp[wi,e,e'];exact .inside (hf.finish .nilIface) hc<|hb.swap<|eF _ _);rcases hf.kind with e|e;have e':=hf.eC.trans e;grind [bo];have e':=hf.eC.trans e;cases hc with|nil=>have:=hb fr rfl;grind [Ei]|@cons c c' cs cs' h1 h2=>let⟨fn,tmps,a1,aZ,a2,kind,aG⟩:=c;let⟨ee,dw,gU,cZ,pT,eC,bp⟩:=c';cases h1.mode with|panicking hp=>(cases hp with|nil=>grind [bo]|@cons r g v C l B hv hl=>cases r;cases g;simp[wi,bo,e,e'];refine .inside (cs:=⟨fn,tmps,a1,aZ,.panicking _,kind,aG⟩::cs) (cs':=⟨ee,dw,gU,cZ,.panicking _,eC,bp⟩::cs') (hf.finish hv) (.cons ⟨h1.fn,h1.aP,h1.tmps,h1.todo,h1.defers,.panicking<|.cons true false hv hl,h1.kind,h1.eC,h1.round⟩ h2) ?_;intro f OS;rcases cs with _|⟨d,ds⟩;simp at OS;subst OS;exact hb ⟨fn,tmps,a1,aZ,.panicking<|{v,recovered:=false}::l,kind,aG⟩ rfl;exact hb f zc;grind [bo];grind [bo])|_=>grind [bo]
def vI (hS:Same af8 P ok){s':Sem b6}(hR:ag af8 P ok str (λσ x y=>oF ok σ x y) ρ s s')(hf:cV P ok ρ fr A)(hc:je P ok ρ cs cs')(hb:wM fr cs) (hw:bw ok str ρ V W) (h:au af8 true fr (cs++J) none s V=.go O N es): ∃σ h2 U Eg,au P true A (cs'++rb) none s' W=.go h2 U Eg/\qj af8 P ok σ J rb O h2/\bw ok str σ N U/\Kept ρ V W σ N U/\∀e∈Eg,pV σ V e:=by
 let⟨Fv,Ng⟩:=hf.early;have lw:=hf.todo.Rf;generalize hr:s.runT af8 V #[]=x at h;let⟨r,e1⟩:=x;rcases hR.sound #[] #[] hw hr with dZ|⟨σ,r',V',W',d',h1,h2,h4,h5⟩;exfalso;cases r with|ok a w=>cases dZ|halt hh w=>cases hh with|stuck y=>simp only[au,if_true,hr,ad]at h;grind|unsupported u=>(cases u with|initOrder g=>cases dZ|_=>simp only[au,if_true,hr,ad]at h;grind)|_=>cases dZ
 have oA:∀e∈aL P A.fn d',pV σ V e:=λe he=>h5 e<|kM _ _ _ e he;have oy:s'.runT P W #[]=(r',d'):=by rw[h1];simp
 have OS:=hf.mono h4.le;have Fu:=hc.mono h4.le;cases h2 with|@ok a b V' W' hN aG=>(cases hN with|@value v C hv=>simp only[au,if_true,hr,Fv]at h;obtain⟨rfl,rfl,_⟩:=h;refine⟨σ,G (A.finish C)<|cs'++rb,W',_,?_,.inside (OS.finish hv) Fu<|hb.swap<|eF _ _,aG,h4,oA⟩;simp only[au,if_true,oy,ad,Ng];simp[G]|skip=>simp only[au,if_true,hr,Fv]at h;obtain⟨rfl,rfl,_⟩:=h;refine⟨σ,G (A.finish undef)<|cs'++rb,W',_,?_,.inside (OS.finish jY) Fu<|hb.swap<|eF _ _,aG,h4,oA⟩;simp only[au,if_true,oy,ad,Ng];simp[G]|@enter f xs xs' eK hx=>rw[mQ hr lw.1 Fv]at h;simp at h;obtain⟨rfl,rfl,_⟩:=h;refine⟨σ,G (bX P f xs' .normal)<|(A::cs')++rb,W',_,mQ oy lw.2 Ng,?_,aG,h4,oA⟩;cases hi:ok.aP f;exact .door eK hi hx (.cons OS Fu) aN hb;exact .inside (lF hS hi hx) (.cons OS Fu) hb.push|recover=>rw[nP hS.ZN.1 hr Fv]at h;simp at h;obtain⟨rfl,rfl,_⟩:=h;exact⟨σ,wi A<|cs'++rb,W',_,nP hS.ZN.2 oy Ng,VK OS Fu hb,aG,h4,oA⟩|@round l B f xs xs' a b hl hi hx ha dr=>simp only[au,if_true,hr,Fv]at h;obtain⟨rfl,rfl,_⟩:=h;refine⟨σ,G (Frame.round B f xs' a b .normal)<|(A::cs')++rb,W',_,?_,.inside (cs:=fr::cs) ⟨rfl,hi,hx,.cons (.code<|.same<|(hS.code _).symm.trans ha)<|.cons .beginRound<|.cons (.code<|.same<|(hS.code _).symm.trans dr) .nil,.nil,.run,aI rfl,rfl,.some hl⟩ (.cons OS Fu) hb.push,aG,h4,oA⟩;simp only[au,if_true,oy,ad,Ng];simp[G])|@panic v C V' W' hv aG=>simp only[au,if_true,hr,Fv]at h;obtain⟨rfl,rfl,_⟩:=h;refine⟨σ,G (A.raise [{v:=C,recovered:=false}])<|cs'++rb,W',_,?_,.inside (OS.raise<|.cons _ _ hv .nil) Fu<|hb.swap<|qS _ _,aG,h4,oA⟩;simp only[au,if_true,oy,ad,Ng];simp[G]
end
section
variable {af8 P:aj}{ok:Ctx}{str:Bool}{ρ σ τ:Ren}{V W V1 W1 N U:av}
def pV.shift (z:Kept ρ V W σ V1 W1)(k2:Kept σ V1 W1 τ N U){e}(h:pV τ V1 e):pV τ V e:=by (have key:∀b d,τ b=some d->Ro V b->Ro V1 b:=by intro b d hb q;let⟨c,el,hc⟩:=q;have aG:=(agy.1 hc).1;rcases k2.new _ _ hb with h1|⟨h1,_⟩;rcases z.new _ _ h1 with h2|⟨h2,_⟩;exact⟨c,el,by rw[(z.ro _ _ h2 ⟨c,el,hc⟩).1];exact hc⟩;omega;have:=z.Dy;omega);rcases h with⟨s,a,a',e1,r,w⟩|⟨s,r,r',e1,h,n⟩|h;exact .inl ⟨s,a,a',e1,r,λhw q=>w hw<|key _ _ r.blk q⟩;exact .inr<|.inl ⟨s,r,r',e1,h,λq=>n<|key _ _ h q⟩;exact .inr<|.inr h
def R9 {f f'}{l:List α}:∀{ρ:Ren},(∀a∈l,∀{σ:Ren},ρ.le σ->ag af8 P ok str (ar ok) σ (f a) (f' a))->ag af8 P ok str (λσ x y=>iP ok σ x y) ρ (l.mapM f) (l.mapM f'):=by induction l with|nil=>simp;exact ah .nil|cons a l ih=>intro ρ h;simp;exact af _ (h a aN<|Ren.le_refl _)<|λσ x D le hx=>af _ (ih λb hb _ r=>h b cQ<|le.trans r)<|λτ xs xs' r vD=>ah<|.cons (hx.mono r) vD
def pI (i:af8.toTables=P.toTables)(fn:Func)(h:aB ok ρ xs xs'):ag af8 P ok str (ar ok) ρ (bB fn xs) (bB fn xs'):=by unfold bB;rw[c8,c8];refine af (λσ x y=>aB ok σ x y) ?_ ?_;refine af _ (R9 ?_) λσ x y _ d=>ah d.array;intro a _ σ j;(cases a with|tmp t=>exact ah ((h.mono j).getD t)|cell a t=>exact af _ (ws i<|(h.mono j).getD a)<|λτ x y _ r=>tO i t r);intro σ x y _ d;by_cases e:x.size=1;rw[dif_pos e,dif_pos (d.size▸e)];exact ah<|d.at_ 0 _ _ (agD _)<|agD _;rw[dif_neg e,dif_neg (d.size▸e)];exact ah<|.tuple d.size d.at_
def xI {l B:Nat}(q:ρ l=some B)(e:Option a6)(z:∀c,e=some c->ok.code c):ag af8 P ok str (ar ok) ρ (bM l e) (bM B e):=by apply af _<|mD q;exact λσ r r' le hr=>ag.setObj (le _ _ q) (.loop ⟨rfl,rfl,hr.fn,hr.tmps,hr.params,hr.assign,hr.body,hr.defers,hr.aP,hr.ok1,hr.ok2,z⟩)<|.pure (.bool _)
def sJ (h:af8.toTables=P.toTables){l B:Nat}(e:ρ l=some B):ag af8 P ok str (λ_ _ _=>True) ρ (dk l) (dk B):=by apply af _<|mD e;refine λσ r j i d=>ag.setObj (i _ _ e) (.loop ⟨rfl,d.pending,d.fn,d.tmps,d.params,d.assign,d.body,d.defers,d.aP,d.ok1,d.ok2,d.ok3⟩) ?_;rw[d.state];cases r.state with|ready=>exact ah trivial|_=>exact im h (.error _) rfl
def AW (q:af8.toTables=P.toTables){l B:Nat}(e:ρ l=some B):ag af8 P ok str (λ_ x y=>x=y/\∀c,x=some c->ok.code c) ρ (bN l) (bN B):=by apply af _<|mD e;intro σ r r' z hr;rw[hr.state];split;exact im q (.error _) rfl;exact ag.setObj (z _ _ e) (.loop ⟨rfl,hr.pending,hr.fn,hr.tmps,hr.params,hr.assign,hr.body,hr.defers,hr.aP,hr.ok1,hr.ok2,hr.ok3⟩)<|.pure ⟨hr.pending.symm,hr.ok3⟩
def Mh {r d:Nat}(hr:ρ r=some d):ag af8 P ok str (λσ x y=>jE ok σ x y) ρ (bH r) (bH d):=by refine ag.getObj hr λo u ho=>?_;cases ho with|deferred h=>exact ag.setObj hr .taken (.pure h)|_=>exact .halt _ _
def vl (fn:az)(hi:ok.aP fn)(h:aB ok ρ xs xs')(params:Array Tmp){a b:a6}(ha:ok.code a)(hb:ok.code b){r r':Option Nat}(hr:yR ρ r r'): ag af8 P ok str (λσ x y=>σ x.1=some y.1/\jE ok σ x.2 y.2) ρ (bK fn xs params a b r) (bK fn xs' params a b r'):=by
 have fin:∀{σ:Ren} {d d':Nat} {m Y:List cn},ρ.le σ->σ d=some d'->jE ok σ m Y->
   ag af8 P ok str (λσ x y=>σ x.1=some y.1/\jE ok σ x.2 y.2) σ (do pure (<-newObj (.loop {state:=.ready,pending:=none,fn,tmps:=xs,params,assign:=a,body:=b,defers:=d}),m))
    (do pure (<-newObj (.loop {state:=.ready,pending:=none,fn,tmps:=xs',params,assign:=a,body:=b,defers:=d'}),Y)):=by
  intro σ d d' m Y le hd hm;refine ag.new (.loop ⟨rfl,rfl,rfl,h.mono le,rfl,rfl,rfl,hd,hi,ha,hb,aN⟩) ?_;intro τ x y le' e;exact .pure ⟨e,hm.mono le'⟩
 rcases hr with _|hl;exact ag.new (.deferred .nil)<|λσ x y le e=>fin le e<|.cons (.mark e) .nil;exact af _ (mD hl)<|λσ q q' le hq=>fin le hq.defers .nil
def cV.eval (h:cV P ok ρ fr A)(hg:∀g,ok.fn (2000000+g)->ρ g=some g):lR ok ρ fr.eval A.eval:=by intro x r;cases x with|tmp t=>exact h.tmps.getD t|const v=>exact tT r|global g=>exact .ptr ⟨hg g r,rfl,rfl⟩|func f=>exact .func (.func r) rfl aB.nil.at_ rfl aB.nil.at_
def tU (h:aB ok ρ xs xs'){ops e:Array a0}(q:pW P ok.fn ops e):cW e xs'=cW ops xs:=by funext j;unfold cW;rw[q.dst j];cases ((ops[j]?).bind (·.dst))with|none=>rfl|some d=>simp;rcases i:xs[d]? with _|x;rw[h.none i];let⟨D,z,r⟩:=h.get i;rw[z];cases r with|hole h=>(cases D<;>first|rfl|cases h)|_=>rfl
structure dV (af8 P:aj)(ok:Ctx):Prop extends Callable af8 P ok,Same af8 P ok where
 tab:af8.toTables=P.toTables
 Jp:P.globals.size=Gl.n
 Pm:af8.funcs.size<=1999999
def dW (af8 P:aj)(ok:Ctx)(str:Bool)(ρ:Ren)(J rb:List ao)(V W:av)(O:cf)(N:av)(s:cq):Prop:=
 ∃σ q U r,s=.go q U r/\qj af8 P ok σ J rb O q/\bw ok str σ N U/\Kept ρ V W σ N U/\∀e∈r,pV σ V e
omit [Gl] in
def gb {o:Outcome}(h:ad es (.ended o w)=.go g w' iw):False:=by grind [ad]
def vY (z:cV P ok ρ fr A)(hc:je P ok ρ cs cs')(hb:wM fr cs)(hw:bw ok str ρ V W) (q:Option a6)(hj:∀c,q=some c->ok.code c){l B:Nat}(hr:fr.roundOf=some l)(hl:ρ l=some B) (h:(let(r,es):=(bM l q).runT af8 V #[];ad (aL af8 fr.fn es)<|match r with|.ok v w=>cl af8 J4 fr (cs++J) none v w|.halt _ w=>.ended (.stuck "range over a function: no such loop"<|fr.pos af8) w)=.go O N es): dW af8 P ok str ρ J rb V W O N (let(r,es):=(bM B q).runT P W #[];ad (aL P A.fn es)<|match r with|.ok v w=>cl P T A (cs'++rb) none v w|.halt _ w=>.ended (.stuck "range over a function: no such loop"<|A.pos P) w):=by
 generalize fT:(bM l q).runT af8 V #[]=x at h;let⟨r,e1⟩:=x;rcases(xI hl q hj).sound #[] #[] hw fT with dZ|⟨σ,r',V',W',d',h1,h2,h4,h5⟩;exfalso;cases r with|ok a w=>cases dZ|halt hh w=>exact gb h
 have oy:(bM B q).runT P W #[]=(r',d'):=by rw[h1];simp
 cases h2 with|panic _ _=>exact(gb h).elim|@ok v C V' W' hv aG=>cases hc with|nil=>have:=hb fr rfl;simp[Ei,hr]at this|@cons c c' cs cs' CR aZ=>simp[gK z.kind]at h;obtain⟨rfl,rfl,_⟩:=h;refine⟨σ,G (kQ fr.kind c' C)<|cs'++rb,W',aL P A.fn d',?_,.inside ((CR.mono h4.le).Ym _ hv) (aZ.mono h4.le)<|hb.pop<|xE _ _ _,aG,h4,λe he=>h5 e<|kM _ _ _ e he⟩;rw[oy];simp[gK (z.eC▸z.kind),z.eC,ad]
end
end
section
def ac7 {p:Prop}(x9:p:=by exfalso;cases r with|ok a w=>cases dZ|halt hh w=>exact gb h'):p:=x9
variable [Gl]
section
variable {ρ σ τ:Ren}
omit [Gl] in
def rO (h:fr.mode=.run):bV p m (G fr cs) w=bk p m true fr cs none w:=by grind [G,bV]
omit [Gl] in
def gr (h:fr.mode≠.run):bV p m (G fr cs) w=unwind p m fr cs none w:=by grind [G,bV]
def dH {fr2':ao}(q:cV P ok ρ fr2 fr2')(hc:je P ok ρ cs cs')(hb:wM fr cs)(e:Ei fr2=Ei fr)(hw:bw ok str ρ V W) {s s':cq}(h:s=.go O N es)(hs:s=.go (G fr2<|cs++J) V)(r:s'=.go (G fr2'<|cs'++rb) W):dW af8 P ok str ρ J rb V W O N s':=by rw[hs]at h;obtain⟨rfl,rfl,_⟩:=h;exact⟨ρ,_,W,#[],r,.inside q hc<|hb.swap e,hw,Kept.refl _ _ _,aN⟩
def dW.yv (k:Kept ρ V W σ V1 W1){s:cq}(h:dW af8 P ok str σ J rb V1 W1 O N s)(j:∀e∈es,pV σ V e):dW af8 P ok str ρ J rb V W O N (ad es s):=by obtain⟨τ,q,U,r,rfl,z,E,i,F⟩:=h;exact⟨τ,q,U,es++r,rfl,z,E,k.trans i,λe d=>(Array.mem_append.1 d).elim (λd=>(j e d).mono i.le) λd=>(F e d).shift k i⟩
omit [Gl] in
def lY {s:cq}(h:ad es s=.go g w iw):∃e,s=.go g w e:=by cases s<;>simp[ad]at h;simp_all
def pW.get (h:pW P fn a b){i:Nat}(e:a[i]?=some o):∃u,b[i]?=some u/\(WW P fn o u\/(dead o.op).isSome):=by have d:b[i]?=some (b[i]'(by rw[<-h.1];exact((agy.1 e).1))):=agD _;refine⟨_,d,?_⟩;rcases(h.2 i o _ e d).2.2 with h|h|h|h;grind;grind;grind;exact bi (by rw[h];rfl)
theorem pW.wanted (h:pW P fn a b)(i:Nat)(y:Nat->Option Bool):(b[i]?).map (b9 · y)=(a[i]?).map (b9 · y):=by rcases e:a[i]? with _|o;rw[bE.2 (by rw[<-h.1];exact bE.1 e)];have d:b[i]?=some (b[i]'(by rw[<-h.1];exact((agy.1 e).1))):=agD _;rw[d];simp[b9,(h.2 i o _ e d).2.1]
omit [Gl] in
def PG {x:Op}(j:dead o.op=some x)(e:∀v,ev (.const v)=v)(w:av):∃q,ends q/\(aE ev o).runT p w #[]=(.halt q w,#[]):=by unfold dead at j;split at j;rename_i y d;simp only[aE,d,e];generalize ev y=v;cases v<;>exact⟨_,rfl,rfl⟩;rename_i y d;simp only[aE,d,e];generalize ev y=v;(cases v with|pointer a=>cases a<;>exact⟨_,rfl,rfl⟩|_=>exact⟨_,rfl,rfl⟩);rename_i d;simp only[aE,d,e];exact⟨_,rfl,rfl⟩;rename_i d;simp only[aE,d,e];exact⟨_,rfl,rfl⟩;grind
def pW.sched (h:pW P fn a b)(m:Bool) t:cx m b t=cx m a t:=by
 have ha:∀i:Nat,(b[i]?).map Oper.after=(a[i]?).map Oper.after:=λi=>by rcases e:a[i]? with _|o;rw[bE.2 (by rw[<-h.1];exact bE.1 e)];have e':b[i]?=some (b[i]'(by rw[<-h.1];exact((agy.1 e).1))):=agD _;rw[e'];simp[(h.2 i o _ e e').2.1]
 have hg:∀(q:Region.Mode) (f t:Nat) (l:Array Bool) (r:List Nat),cu q b f t l r=cu q a f t l r:=by intro q f;induction f with|zero=>intro t l r;rfl|succ f ih=>intro t l r;(have hp:∀i:Nat,((b[i]?).map λo:a0=>o.after.all λe=>!Region.binds q e||l.getD e.on false).getD false=((a[i]?).map λo:a0=>o.after.all λe=>!Region.binds q e||l.getD e.on false).getD false:=λi=>by grind);unfold cu;simp only[hp,h.1,ih]
 have hd:cA b=cA a:=by have hm:b.map Oper.after=a.map Oper.after:=Array.ext_getElem? λi=>cQ;have:=congrArg (·.any λx:Array Edge=>x.any λe=>!Region.binds .any e) hm;grind [Array.any_map,cA]
 unfold cx Region.linearise;simp[hd,hg,h.1]
def Sa (q:dV af8 P ok)(ho:WW P ok.fn o u)(h:lR ok ρ ev R)(d:∀v,ev (.const v)=v/\R (.const v)=v)(r:∀g,ev (.func g)=.func (.func g) #[] #[]):ag af8 P ok str (λσ x y=>oF ok σ x y) ρ (aE ev o) (aE R u):=by rcases ho with⟨rfl,ho⟩|⟨z,j,E⟩|⟨z,j⟩;exact acI q.tab q.Jp q.toCallable u ho h d r;unfold vg at E;split at E;rename_i args F e;unfold aE;rw[z,e,j];exact bD<|acJ q.tab q.hole _ _ _<|yj h E;grind;unfold aE;rw[z];rcases j with j|j<;>rw[j]<;>simp only[(d _).1,(d _).2]<;>exact bD<|ah<|.hole rfl
omit [Gl] in
def CF {x:Op}(ho:fr.oper?=some o)(q:dead o.op=some x):∃oc es,bv p true fr cs none w=.ended oc w es:=by
 let⟨hh,r,z⟩:=PG (p:=p) (ev:=fr.eval) q (λ_=>rfl) w;have nd:∀c,o.op≠.defer c:=by intro c e;rw[e]at q;cases q
 have e:bv p true fr cs none w=au p true fr cs none (aE fr.eval o) w:=by grind [bv]
 rw[e];cases hh with|stuck y=>simp only[au,if_true,z,ad];grind|unsupported u=>(cases u with|initOrder g=>cases r|_=>simp only[au,if_true,z,ad];grind)|_=>cases r
def PO (hP:dV af8 P ok)(hf:cV P ok ρ fr A)(hc:je P ok ρ cs cs')(hb:wM fr cs)(hw:bw ok str ρ V W)(hm:fr.mode=.run) (h:bk af8 J4 true fr (cs++J) none V=.go O N es):dW af8 P ok str ρ J rb V W O N (bk P T true A (cs'++rb) none W):=by
 have oA:=hf.eval hw.gl;obtain⟨fn,tmps,bx,aZ,c3,kind,aG⟩:=fr;obtain⟨ee,dw,gU,cZ,pT,eC,bp⟩:=A;have ht:=hf.todo;have bq:=hf.round;have se:=hf.fn;have hk:=hf.kind;have vU:=hf.eC;have qy:=hf.mode;have hi:=hf.aP;simp at ht bq se hk vU hm qy hi;subst hm se eC;cases qy;have be:∀{k2 cj:List a7},lV P ok ρ k2 cj->cV P ok ρ ⟨ee,tmps,k2,aZ,.run,kind,aG⟩ ⟨ee,dw,cj,cZ,.run,kind,bp⟩:=λn_=>⟨rfl,hi,hf.tmps,n_,hf.defers,.run,hk,rfl,bq⟩;have ck:cV P ok ρ ⟨ee,tmps,bx,aZ,.returning,kind,aG⟩ ⟨ee,dw,gU,cZ,.returning,kind,bp⟩:=⟨rfl,hi,hf.tmps,ht,hf.defers,.returning,hk,rfl,bq⟩;have cy:∀{c:aV} {a a' b b':a6} {k k':List a7},du ok.fn c=true->DS P ok.fn a a'->DS P ok.fn b b'->lV P ok ρ k k'->bx=.code (.cond c a b)::k->gU=.code (.cond c a' b')::k'->
   dW af8 P ok str ρ J rb V W O N (bk P T true ⟨ee,dw,gU,cZ,.run,kind,bp⟩ (cs'++rb) none W):=by
  intro c a a' b b' k k' hx ha dr mZ e1 e2;subst e1 e2;have he:=oA c hx;have h':(match bm ⟨ee,tmps,.code (.cond c a b)::k,aZ,.run,kind,aG⟩ c with
   |.bool t=>dF _ V
   |_=>.ended _ V)=.go O N es:=h
  show dW af8 P ok str ρ J rb V W O N (match bm ⟨ee,dw,.code (.cond c a' b')::k',cZ,.run,kind,bp⟩ c with
   |.bool t=>dF _ W
   |_=>.ended _ W)
  clear h;have he:=he;generalize bm ⟨ee,tmps,.code (.cond c a b)::k,aZ,.run,kind,aG⟩ c=v at he h';generalize bm ⟨ee,dw,.code (.cond c a' b')::k',cZ,.run,kind,bp⟩ c=C at he;cases he with
  |bool t=>
   refine dH (be<|.cons (.code (c:=if t then a else b) ?_) mZ) hc hb rfl hw h' rfl rfl;cases t
   .exact dr
   .exact ha
  |_=>cases h'
 have c1:∀{id:Nat} {a b:Array a0} {k k':List a7} (d:Bool),pW P ok.fn a b->lV P ok ρ k k'->bx=.code (.region id a d)::k->gU=.code (.region id b d)::k'->
   dW af8 P ok str ρ J rb V W O N (bk P T true ⟨ee,dw,gU,cZ,.run,kind,bp⟩ (cs'++rb) none W):=by
  intro id a b k k' d ho mZ e1 e2;subst e1 e2;cases d with
  |false=>
   have:=ho.1;apply dH (be<|.cons (.inRegion (List.range _) ho) mZ) hc hb rfl hw h rfl;rw[this];rfl
  |true=>
   have hq:(Question.order ee id).forced=false:=rfl;simp only[bk,choose,b2,hq,dc,if_false]at h⊢;have e:W.tape W.drawn (.order ee id)=V.tape V.drawn (.order ee id):=by rw[hw.tape,hw.drawn]
   have bJ:bw ok str ρ {V with drawn:=V.drawn+1} {W with drawn:=W.drawn+1}:=⟨hw.heap,hw.tape,by simp[hw.drawn],hw.gV,hw.gW,hw.gs⟩;rw[e,show P.follows .mixedOrders=af8.follows .mixedOrders by rw[hP.tab],ho.sched];have:=dH (af8:=af8) (rb:=rb) (be<|.cons (.inRegion _ ho) mZ) hc hb rfl bJ h rfl rfl;obtain⟨σ,h2,U,Eg,a1,a2,a3,a4,a5⟩:=this;exact⟨σ,h2,U,Eg,a1,a2,a3,⟨a4.le,a4.keep,a4.ro,a4.size,a4.Dy,a4.new,a4.tape,a4.os,a4.out⟩,a5⟩
 cases ht with
 |nil=>rcases bq with _|hl;exact dH ck hc hb rfl hw h rfl rfl;exact vY hf hc hb hw none aN rfl hl h
 |@cons x D k k' hx mZ=>
  cases hx with
  |inBlock id=>exact dH (be mZ) hc hb rfl hw h rfl rfl|inLoop fy=>exact dH (be<|.cons (.code fy)<|.cons (.inLoop fy) mZ) hc hb rfl hw h rfl rfl|inRangeFunc hl=>cases h|@endRangeFunc l B hl=>
   have h':(let(r,es):=(bN l).runT af8 V #[];ad (aL af8 ee es)<|match r with|.ok jump w=>.go (G ⟨ee,tmps,(jump.map Item.code).toList++k,aZ,.run,kind,aG⟩<|cs++J) w|.halt (.panic v) w=>.go (G (cM ⟨ee,tmps,.endRangeFunc l::k,aZ,.run,kind,aG⟩ [{v,recovered:=false}])<|cs++J) w|.halt _ w=>.ended _ w)=.go O N es:=h;show dW af8 P ok str ρ J rb V W O N (let(r,es):=(bN B).runT P W #[];ad (aL P ee es)<|match r with|.ok jump w=>.go (G ⟨ee,dw,(jump.map Item.code).toList++k',cZ,.run,kind,bp⟩<|cs'++rb) w|.halt (.panic v) w=>.go (G (cM ⟨ee,dw,.endRangeFunc B::k',cZ,.run,kind,bp⟩ [{v,recovered:=false}])<|cs'++rb) w|.halt _ w=>.ended _ w);generalize fT:(bN l).runT af8 V #[]=x at h';obtain⟨r,e1⟩:=x;rcases(AW hP.tab hl).sound #[] #[] hw fT with dZ|⟨σ,r',V',W',d',h1,h2,h4,h5⟩;(.exfalso;cases r with|ok a w=>cases dZ|halt hh w=>cases hh<;>first|cases dZ;done|exact gb h');have oy:(bN B).runT P W #[]=(r',d'):=by rw[h1];simp
   rw[oy];obtain⟨Ug,h3⟩:=lY h';refine dW.yv h4 ?_ λe he=>h5 e<|kM _ _ _ e he;cases h2 with
   |@ok j j' V' W' hv bJ=>
    obtain⟨rfl,hj⟩:=hv;refine dH (fr2:=⟨ee,tmps,(j.map Item.code).toList++k,aZ,.run,kind,aG⟩) (fr2':=⟨ee,dw,(j.map Item.code).toList++k',cZ,.run,kind,bp⟩)
     ⟨rfl,hi,hf.tmps.mono h4.le,?_,hf.defers.mono h4.le,.run,hk,rfl,bq.mono h4.le⟩ (hc.mono h4.le) hb rfl bJ h3 rfl rfl
    rcases j with _|c;exact mZ.mono h4.le;exact .cons (.code<|.same<|(hP.code c).symm.trans<|hj c rfl) (mZ.mono h4.le)
   |@panic v C V' W' hv bJ=>exact dH ((hf.mono h4.le).raise<|.cons _ _ hv .nil) (hc.mono h4.le) hb rfl bJ h3 rfl rfl
  |beginRound=>refine vI hP.toSame ?_ hf hc hb hw h;apply yH;rcases bq with _|hl;exact .halt _ _;exact sJ hP.tab hl
  |@inRegion ops fN bx ho=>
   rcases bx with _|⟨i,rest⟩;exact dH (be mZ) hc hb rfl hw h rfl rfl;have h':(if((ops[i]?).map _).getD false then bv af8 true ⟨ee,tmps,.inRegion ops (i::rest)::k,aZ,.run,kind,aG⟩ (cs++J) none V
     else .go (G (cb ⟨ee,tmps,.inRegion ops (i::rest)::k,aZ,.run,kind,aG⟩ undef)<|cs++J) V)=.go O N es:=h
   show dW af8 P ok str ρ J rb V W O N (if((fN[i]?).map (b9 ·<|yielded fN dw)).getD false then bv P true ⟨ee,dw,.inRegion fN (i::rest)::k',cZ,.run,kind,bp⟩ (cs'++rb) none W
     else .go (G (cb ⟨ee,dw,.inRegion fN (i::rest)::k',cZ,.run,kind,bp⟩ undef)<|cs'++rb) W)
   rw[tU hf.tmps ho,ho.wanted];split at h';rename_i xh;rw[if_pos xh];rcases Te:ops[i]? with _|o;rw[Te]at xh;cases xh;obtain⟨u,c2,h1⟩:=ho.get Te;have e1:∀(Q:aj) (ops:Array a0) (o:a0) (t:Array aa) (kk:List a7) (d:List cn) (ro:Option Nat) (cc:List ao) (w:av),ops[i]?=some o->(∀c,o.op≠.defer c)->bv Q true ⟨ee,t,.inRegion ops (i::rest)::kk,d,.run,kind,ro⟩ cc none w=
        au Q true ⟨ee,t,.inRegion ops (i::rest)::kk,d,.run,kind,ro⟩ cc none (aE (bm ⟨ee,t,.inRegion ops (i::rest)::kk,d,.run,kind,ro⟩) o) w:=by
       intro Q ops o t kk d ro cc w Te bF;simp[bv,Frame.oper?,Te];split
       .rename_i e;exact absurd e<|bF _
       .rfl
   rcases h1 with bF|ch;rw[e1 _ _ _ _ _ _ _ _ _ Te λc=>(bF.dead.2 c).1]at h';rw[e1 _ _ _ _ _ _ _ _ _ c2 λc=>(bF.dead.2 c).2];exact vI hP.toSame (Sa hP bF oA (λ_=>⟨rfl,rfl⟩) λ_=>rfl) hf hc hb hw h';obtain⟨x,ch⟩:=Option.isSome_iff_exists.1 ch;obtain⟨oc,iw,hd⟩:=CF (fr:=⟨ee,tmps,.inRegion ops (i::rest)::k,aZ,.run,kind,aG⟩) Te ch;rw[hd]at h';cases h';rename_i xh;rw[if_neg xh];exact dH (hf.finish jY) hc hb (eF _ _) hw h' rfl rfl
  |@code c c' fy=>
   cases fy with
   |block dr=>exact dH (be<|.cons (.code dr)<|.cons (.inBlock _) mZ) hc hb rfl hw h rfl rfl
   |loop dr=>exact dH (be<|.cons (.code dr)<|.cons (.inLoop dr) mZ) hc hb rfl hw h rfl rfl
   |seq ha dr=>exact dH (be<|.cons (.code ha)<|.cons (.code dr) mZ) hc hb rfl hw h rfl rfl
   |region d ho=>exact c1 d ho mZ rfl rfl
   |cond hx ha dr=>exact cy hx ha dr mZ rfl rfl
   |same fy=>
   cases c with
   |skip=>exact dH (be mZ) hc hb rfl hw h rfl rfl|refuse y=>cases h|seq a b=>simp[codeOk]at fy;exact dH (be<|.cons (.code<|.same fy.1)<|.cons (.code<|.same fy.2) mZ) hc hb rfl hw h rfl rfl|cond c a b=>simp[codeOk]at fy;exact cy fy.1.1 (.same fy.1.2) (.same fy.2) mZ rfl rfl|block id b=>exact dH (be<|.cons (.code<|.same (c:=b) fy)<|.cons (.inBlock id) mZ) hc hb rfl hw h rfl rfl|loop b=>exact dH (be<|.cons (.code<|.same (c:=b) fy)<|.cons (.inLoop<|.same (c:=b) fy) mZ) hc hb rfl hw h rfl rfl|exit id=>rcases mZ.exit (id:=id)with⟨n1,n2⟩|⟨q,q',s1,s2,hq⟩;simp only[bk,n1]at h;simp only[bk,n2];rcases bq with _|hl;simp at h;exact vY hf hc hb hw (some<|.exit id) (by simp[hP.code,codeOk]) rfl hl h;simp only[bk,s1]at h;simp[bk,s2];exact dH (be hq) hc hb rfl hw h rfl rfl
   |ret=>rcases bq with _|hl;exact dH ck hc hb rfl hw h rfl rfl;exact vY hf hc hb hw (some .ret) (by simp[hP.code,codeOk]) rfl hl h
   |region id ops d=>exact c1 d (pW.of fy) mZ rfl rfl|rangeFunc f bl a b=>
    simp[codeOk]at fy;have h':(let(r,es):=(bK ee tmps bl a b aG).runT af8 V #[];ad (aL af8 ee es)<|match r with|.ok (l,br) w=>au af8 true ⟨ee,tmps,.inRangeFunc l::k,br++aZ,.run,kind,aG⟩ (cs++J) none (do let d <-bS (bm ⟨ee,tmps,.inRangeFunc l::k,br++aZ,.run,kind,aG⟩) {callee:=.value f,args:=#[.const<|.func (.yield l) #[] #[]],argTypes:=#[]} 0;a8 d.target d.args) w|.halt _ w=>.ended _ w)=.go O N es:=h;show dW af8 P ok str ρ J rb V W O N (let(r,es):=(bK ee dw bl a b bp).runT P W #[];ad (aL P ee es)<|match r with|.ok (l,br) w=>au P true ⟨ee,dw,.inRangeFunc l::k',br++cZ,.run,kind,bp⟩ (cs'++rb) none (do let d <-bS (bm ⟨ee,dw,.inRangeFunc l::k',br++cZ,.run,kind,bp⟩) {callee:=.value f,args:=#[.const<|.func (.yield l) #[] #[]],argTypes:=#[]} 0;a8 d.target d.args) w|.halt _ w=>.ended _ w);generalize fT:(bK ee tmps bl a b aG).runT af8 V #[]=x at h';obtain⟨r,e1⟩:=x;rcases(vl ee hi hf.tmps bl ((hP.code a).trans fy.1.2) ((hP.code b).trans fy.2) bq).sound #[] #[] hw fT with dZ|⟨σ,r',V',W',d',h1,h2,h4,h5⟩;exfalso;(cases r with|ok a w=>cases dZ|halt hh w=>exact gb h');have oy:(bK ee dw bl a b bp).runT P W #[]=(r',d'):=by rw[h1];simp
    rw[oy];obtain⟨Ug,h3⟩:=lY h';refine dW.yv h4 ?_ λe he=>h5 e<|kM _ _ _ e he;cases h2 with
    |panic _ _=>cases h3|@ok j j' V' W' hv bJ=>
     obtain⟨l,br⟩:=j;obtain⟨B,uQ⟩:=j';obtain⟨hl,OW⟩:=hv;have XF:cV P ok σ ⟨ee,tmps,.inRangeFunc l::k,br++aZ,.run,kind,aG⟩ ⟨ee,dw,.inRangeFunc B::k',uQ++cZ,.run,kind,bp⟩:=
      ⟨rfl,hi,hf.tmps.mono h4.le,.cons (.inRangeFunc hl)<|mZ.mono h4.le,OW.append<|hf.defers.mono h4.le,.run,hk,rfl,bq.mono h4.le⟩
     refine vI hP.toSame ?_ XF (hc.mono h4.le) (hb.swap rfl) bJ h3;have h_:=XF.eval bJ.gl f fy.1.1;unfold bS;dsimp only;generalize bm ⟨ee,tmps,.inRangeFunc l::k,br++aZ,.run,kind,aG⟩ f=v at h_;generalize bm ⟨ee,dw,.inRangeFunc B::k',uQ++cZ,.run,kind,bp⟩ f=C at h_;cases h_ with|func se e1 g1 e2 O=>exact aW<|ww hP.tab hP.toCallable (.fn se ⟨e2,O⟩) (aB.append ⟨e1,g1⟩<|by simpa[bm]using(aB.nil.push<|.func (.yield hl) rfl aB.nil.at_ rfl aB.nil.at_))|nilFunc=>exact im hP.tab .nilDeref rfl|hole _=>exact .dead _ _ λV=>qD hP.hole _ V|_=>exact .halt _ _
   |_=>cases fy
omit [Gl] in
def pn {r:Array aa}{ds:List cn}(hf:∃fn,p.funcs[f]?=some fn/\fn.body.isSome/\(fn.name== "runtime.NumGoroutine")=false)(hd:fr.defers=⟨.fn (.func f) xs,r⟩::ds): unwind p m fr cs none w=.go (G (bX p f (r++xs) .deferred)<|{fr with defers:=ds}::cs) w:=by
 let⟨fn,h1,h2,h3⟩:=hf;have e1:fn.body.isNone=false:=by cases hb:fn.body<;>simp_all
 have hr:(a8 (.fn (.func f) xs) r).runT p w #[]=(.ok (.enter f<|r++xs) w,#[]):=by simp only[a8,bO,program,bind,dS,ax,h1,h3,e1,dc,if_false,pure]
 grind [unwind,callDeferred,ad,aL,G]
def KP (hP:dV af8 P ok)(hf:cV P ok ρ fr A)(hc:je P ok ρ cs cs')(hb:wM fr cs)(hw:bw ok str ρ V W)(hm:fr.mode≠.run)(hl:cs=[]->fr.defers≠[]) (h:unwind af8 J4 fr (cs++J) none V=.go O N es):dW af8 P ok str ρ J rb V W O N (unwind P T A (cs'++rb) none W):=by
 let⟨fn,tmps,aZ,bq,a1,kind,aG⟩:=fr;let⟨ee,dw,gU,cZ,pT,eC,bp⟩:=A;have se:=hf.fn;have hk:=hf.kind;have vU:=hf.eC;have qy:=hf.mode;have hi:=hf.aP;have hd:=hf.defers;simp at se hk vU hm qy hi hd hl;subst se eC;let⟨F,c,c2,f1,f2,f3,f4⟩:=hP.same ee hi;cases hd with
 |@cons d0 cc ds bx hr a4=>
  have a5:∀{σ:Ren} {x D:List cn},ρ.le σ->jE ok σ x D->cV P ok σ ⟨ee,tmps,aZ,x,a1,kind,aG⟩ ⟨ee,dw,gU,D,pT,kind,bp⟩:=λle hx=>⟨rfl,hi,hf.tmps.mono le,hf.todo.mono le,hx,qy.mono le,hk,rfl,hf.round.mono le⟩;cases hr with
  |@call f xs xs' ys vy be a2 vD bF=>
   rw[(pn (hP.left f be<|hP.inx f a2) rfl)]at h;obtain⟨rfl,rfl,_⟩:=h;exact⟨ρ,_,W,#[],(pn (hP.right f be<|hP.inx f a2) rfl),.inside (lF hP.toSame a2 (bF.append vD) .deferred) (.cons (a5 (Ren.le_refl _) a4) hc) (hb.swap (fr2:=⟨ee,tmps,aZ,ds,a1,kind,aG⟩) rfl).push,hw,Kept.refl _ _ _,aN⟩
  |@mark r0 VH hr=>
  have h':(let(r,es):=(bH r0).runT af8 V #[];ad _<|match r with|.ok calls w=>.go (G ⟨ee,tmps,aZ,calls++ds,a1,kind,aG⟩<|cs++J) w|.halt _ w=>.ended _ w)=.go O N es:=h;show dW af8 P ok str ρ J rb V W O N (let(r,es):=(bH VH).runT P W #[];ad (aL P ee es)<|match r with|.ok calls w=>.go (G ⟨ee,dw,gU,calls++bx,pT,kind,bp⟩<|cs'++rb) w|.halt _ w=>.ended _ w);generalize fT:(bH r0).runT af8 V #[]=x at h';let⟨r,e1⟩:=x;rcases(Mh hr).sound #[] #[] hw fT with dZ|⟨σ,r',V',W',d',h1,h2,h4,h5⟩;exfalso;cases r with|ok a w=>cases dZ|halt hh w=>exact gb h'
  have oy:(bH VH).runT P W #[]=(r',d'):=by rw[h1];simp
  rw[oy];let⟨Ug,h3⟩:=lY h';refine dW.yv h4 ?_ λe he=>h5 e<|kM _ _ _ e he;cases h2 with|panic _ _=>cases h3|ok hv a3=>exact dH (a5 h4.le<|hv.append<|a4.mono h4.le) (hc.mono h4.le) hb rfl a3 h3 rfl rfl
 |nil=>
  cases hc with
  |nil=>exact absurd rfl (hl rfl)|@cons a a' cs cs' ha bl=>
   cases qy with
   |run=>exact absurd rfl hm|@panicking ch bJ vR=>(have c1:ca af8 ⟨ee,tmps,aZ,[],.panicking ch,kind,aG⟩=false:=by simp[ca,f1]);(have c2:ca P ⟨ee,dw,gU,[],.panicking bJ,kind,bp⟩=false:=by simp[ca,f2]);simp[unwind,c1]at h;obtain⟨rfl,rfl,_⟩:=h;refine⟨ρ,G _<|cs'++rb,W,#[],?_,.inside (ha.raise vR) bl<|hb.pop<|qS _ _,hw,Kept.refl _ _ _,aN⟩;simp[unwind,c2];rfl|returning=>
    have h':(let(r,es):=(bB F tmps).runT af8 V #[];ad (aL af8 ee es)<|match r with
     |.ok v w=>.go (G (kQ kind a v)<|cs++J) w
     |.halt (.stuck s) w=>.ended (.stuck s<|cd af8 ⟨ee,tmps,aZ,[],.returning,kind,aG⟩) w
     |.halt _ w=>.ended (.stuck "return: the result variables cannot be read"<|cd af8 ⟨ee,tmps,aZ,[],.returning,kind,aG⟩) w)=.go O N es:=by
     rw[<-h];simp[unwind,f1,gK (fr:=⟨ee,tmps,aZ,[],.returning,kind,aG⟩) hk];rfl
    have e':unwind P T ⟨ee,dw,gU,[],.returning,kind,bp⟩ (a'::cs'++rb) none W=(let(r,es):=(bB F dw).runT P W #[];ad (aL P ee es)<|match r with
     |.ok v w=>.go (G (kQ kind a' v)<|cs'++rb) w
     |.halt (.stuck s) w=>.ended (.stuck s<|cd P ⟨ee,dw,gU,[],.returning,kind,bp⟩) w
     |.halt _ w=>.ended (.stuck "return: the result variables cannot be read"<|cd P ⟨ee,dw,gU,[],.returning,kind,bp⟩) w):=by
     simp[unwind,f2,gK (fr:=⟨ee,dw,gU,[],.returning,kind,bp⟩) hk];rfl
    rw[e'];generalize fT:(bB F tmps).runT af8 V #[]=x at h';let⟨r,e1⟩:=x;rcases(pI hP.tab F hf.tmps).sound #[] #[] hw fT with dZ|⟨σ,r',V',W',d',h1,h2,h4,h5⟩;exfalso;(cases r with|ok a w=>cases dZ|halt hh w=>cases hh<;>exact gb h');(have oy:(bB F dw).runT P W #[]=(r',d'):=by rw[h1];simp);rw[oy];let⟨Ug,h3⟩:=lY h';refine dW.yv h4 ?_ λe he=>h5 e<|kM _ _ _ e he;cases h2 with|panic _ _=>cases h3|@ok j j' V' W' hv a3=>exact dH ((ha.mono h4.le).Ym kind hv) (bl.mono h4.le) (hb.pop rfl) (xE _ _ _) a3 h3 rfl rfl
def vr (hP:dV af8 P ok)(r:cV P ok ρ fr A)(hc:je P ok ρ cs cs')(hb:wM fr cs)(hw:bw ok str ρ V W)(hl:cs=[]->fr.mode≠.run->fr.defers≠[]) (h:bV af8 J4 (G fr<|cs++J) V=.go O N es):dW af8 P ok str ρ J rb V W O N (bV P T (G A<|cs'++rb) W):=by
 by_cases q:fr.mode=.run;rw[rO q]at h;have z:A.mode=.run:=by have:=r.mode;rw[q]at this;generalize A.mode=x at this;cases this;rfl
 rw[rO z];exact PO hP r hc hb hw q h;have z:A.mode≠.run:=by intro e;have:=r.mode;rw[e]at this;generalize fr.mode=m at this q;cases this;grind
 rw[gr q]at h;rw[gr z];exact KP hP r hc hb hw q (λe=>hl e q) h
end
end
section
variable [Gl]
def re (w:av)(τ:Nat->bA->Nat)(d:Nat):World:={w with tape:=τ,drawn:=d}
def mN (t:Nat->bA->Nat)(a:Nat)(t':Nat->bA->Nat)(b n:Nat):Prop:=∀i,i<n->∀q,t (a+i) q=t' (b+i) q
omit [Gl] in
def mN.less {t:Nat->bA->Nat}{a b m:Nat}(h:mN t a t' b n)(l:m<=n):mN t a t' b m:=λi d q=>h i ab q
omit [Gl] in
def mN.tail {t:Nat->bA->Nat}{a b k:Nat}(h:mN t a t' b (k+n)):mN t (a+k) t' (b+k) n:=λi d q=>by
 have:=h (k+i) f7 q;rw[show a+k+i=a+(k+i) by omega,show b+k+i=b+(k+i) by omega];exact this
def iH:Result α->av
 |.ok _ w=>w
 |.halt _ w=>w
def reR (τ:Nat->bA->Nat)(d:Nat):Result α->Result α
 |.ok a w=>.ok a (re w τ d)
 |.halt h w=>.halt h<|re w τ d
section
variable {ρ:Ren}
def ag.shift {β:Type}{A:Ren->α->β->Prop}{s:Sem α}{s':Sem β}(h:ag af8 P ok str A ρ s s'): ∀{V W:av} (es:Array bb) {r:Result α} {e1:Array bb},bw ok str ρ V W->s.runT af8 V es=(r,e1)->Result.stops r\/(V.drawn<=(iH r).drawn/\(iH r).tape=V.tape/\∀τ d,mN V.tape V.drawn τ d ((iH r).drawn-V.drawn)->s.runT af8 (re V τ d) es=(reR τ (d+((iH r).drawn-V.drawn)) r,e1)):=by
 induction h with
 |@pure ρ a b hA=>grind [ax,Prod.mk.injEq,reR,iH,re]|@load ρ a a' k k' ra _ ih=>intro V W es x e1 hw hr;simp only[ax]at hr;rcases hc:V.cell? a with _|v;rw[hc]at hr;let⟨y,hy⟩:=hw.far ra.blk (b1==b0) af8;simp[hy]at hr;exact Oy;rw[hc]at hr;let⟨C,Gg,rv⟩:=hw.load ra hc;rcases ih v C rv _ hw hr with h|⟨h1,h2,h3⟩;grind;refine bi ⟨h1,h2,λτ d hA=>?_⟩;have:(re V τ d).cell? a=some v:=hc;grind [ax]
 |@store ρ a a' v C k k' ra rv _ ih=>
  intro V W es x e1 hw hr;by_cases hn:(∃cs,v=.agg cs)\/(∃cs,v=.tuple cs);rcases hn with⟨cs,rfl⟩|⟨cs,rfl⟩;exact WF;exact WF;have n1:∀cs,v≠.agg cs:=λcs e=>hn<|aI ⟨cs,e⟩;have n2:∀cs,v≠.tuple cs:=λcs e=>hn<|bi ⟨cs,e⟩;have TA:∀(U:av),(Sem.store .plain a v k).runT af8 U es=(match U.cell? a with
   |some _=>if U.frozen? a then(Result.halt (.unsupported<|.unsafePointer "a write to bytes that a string shares") U,es)else k.runT af8 (U.setCell a v) (es.push ⟨.cell a,true,false⟩)
   |none=>match U.farStore af8 a v (b1==b0)with
    |.ok (w,Fi)=>k.runT af8 w (es++Fi.toArray.map (⟨.cell ·,true,b1==b0⟩))
    |.error h=>(.halt h U,es)):=by
   intro U;cases v<;>first|exact absurd rfl (n1 _)|exact absurd rfl (n2 _)|(simp[ax];rfl)
  rw[TA]at hr;rcases hc:V.cell? a with _|y;rw[hc]at hr;let⟨y,hy⟩:=hw.abd ra.blk v (b1==b0) af8;simp[hy]at hr;exact Oy;rw[hc]at hr;simp only at hr;cases hf:V.frozen? a;rw[hf]at hr;rcases ih _ (hw.store ra rv hc hf) hr with h|⟨h1,h2,h3⟩;exact aI h;refine bi ⟨h1,h2,λτ d hA=>?_⟩;have e1:(re V τ d).cell? a=some y:=hc;have e2:(re V τ d).frozen? a=false:=hf;rw[TA,e1];simp only[e2];exact h3 τ d hA;rw[hf]at hr;simp at hr;exact Oy
 |@new ρ o u k k' ro _ ih=>intro V W es x e1 hw hr;simp only[ax]at hr;let⟨Gi,BH⟩:=hw.new ro;rcases ih _ V W hw.Jk hw.PP _ Gi hr with h|⟨h1,h2,h3⟩;exact aI h;exact bi ⟨h1,h2,λτ d hA=>by simp only[ax];exact h3 τ d hA⟩
 |@shape ρ r r' k k' gm _ ih=>intro V W es x e1 hw hr;simp only[ax]at hr⊢;exact ih _ _ hw hr|dead s s' h=>intro V W es x e1 hw hr;exact Yy|@getObj ρ r r' k k' gm _ ih=>intro V W es x e1 hw hr;rcases ho:V.heap[r]? with _|o;simp only[ax,ho]at hr;obtain⟨rfl,_⟩:=hr;exact aI rfl;let⟨u,JA,ro⟩:=hw.getObj gm ho;rcases ro.kinds with⟨⟨c,e,z,rfl⟩,_⟩|⟨n1,n2⟩;simp only[ax,ho]at hr;obtain⟨rfl,_⟩:=hr;exact aI rfl;(have TA:∀U:av,U.heap[r]?=some o->(Sem.getObj r k).runT af8 U es=(k o).runT af8 U (es.push ⟨.obj r,false,o.isChan⟩):=by intro U hU;cases o<;>first|exact absurd rfl (n1 _ _ _)|simp only[ax,hU]);rw[TA V ho]at hr;rcases ih _ _ ro _ hw hr with h|⟨h1,h2,h3⟩;exact aI h;exact bi ⟨h1,h2,λτ d hA=>by rw[TA (re V τ d) ho];exact h3 τ d hA⟩
 |@setObj ρ r r' o u k k' gm ro _ ih=>intro V W es x e1 hw hr;rcases hx:V.heap[r]? with _|y;simp[ax,hx]at hr;obtain⟨rfl,_⟩:=hr;exact aI rfl;let⟨Z,Tl,ry⟩:=hw.getObj gm hx;rcases ry.kinds with⟨⟨c,e,z,rfl⟩,_⟩|⟨n1,n2⟩;simp only[ax,hx]at hr;obtain⟨rfl,_⟩:=hr;exact aI rfl;(have TA:∀U:av,U.heap[r]?=some y->(Sem.setObj r o k).runT af8 U es=k.runT af8 {U with heap:=U.heap.setIfInBounds r o} (es.push ⟨.obj r,true,o.isChan⟩):=by intro U hU;cases y<;>first|exact absurd rfl (n1 _ _ _)|simp only[ax,hU]);rw[TA V hx]at hr;rcases ih _ (hw.setObj gm ro) hr with h|⟨h1,h2,h3⟩;exact aI h;exact bi ⟨h1,h2,λτ d hA=>by rw[TA (re V τ d) hx];exact h3 τ d hA⟩
 |@choose ρ q k k' _ ih=>intro V W es x e1 hw hr;simp only[ax]at hr⊢;split at hr;rename_i hq;simp only[if_pos hq];exact ih _ _ hw hr;rename_i hq;have aG:bw ok str ρ {V with drawn:=V.drawn+1} {W with drawn:=W.drawn+1}:=⟨hw.heap,hw.tape,by simp only[hw.drawn],hw.gV,hw.gW,hw.gs⟩;rcases ih _ _ aG hr with h|⟨h1,h2,h3⟩;exact aI h;simp only at h1 h2 h3;refine bi ⟨by omega,h2,λτ d hA=>?_⟩;rw[if_neg hq];have e0:τ d q=V.tape V.drawn q:=(hA 0 (by omega) q).symm;have:=h3 τ (d+1) (by have:mN V.tape V.drawn τ d (1+((iH x).drawn-(V.drawn+1))):=hA.less (by omega);exact this.tail);rw[show d+1+((iH x).drawn-(V.drawn+1))=d+((iH x).drawn-V.drawn) by omega]at this;rw[<-this];simp only[re,e0]
 |@program ρ k k' _ ih=>intro V W es x e1 hw hr;simp only[ax]at hr⊢;exact ih _ hw hr|@mark ρ m k k' hm _ ih=>intro V W es x e1 hw hr;simp only[ax]at hr⊢;exact ih _ hw hr|@panic ρ v C hv=>intro V W es x e1 hw hr;simp at hr;obtain⟨rfl,rfl⟩:=hr;exact bi ⟨agw _,rfl,λτ d _=>by simp[reR,iH,re]⟩|@eq ρ s t s' t' a b _ ih=>intro V W es x e1 hw hr;rw[a]at hr;simp only[a];exact ih hw.gs.2 _ hw hr|@fz ρ a a' l B n k k' j j' dZ ra rl hb ho hn hk vU hh _ ih=>intro V W es x e1 hw hr;obtain rfl:=hw.gs.2 dZ;simp only[ax]at hr;rcases hc:V.cell? l with _|v;rw[hc]at hr;let⟨y,hy⟩:=hw.far rl.blk (b1==b0) af8;simp only[hy]at hr;exact Oy;rw[hc]at hr;by_cases hv:∃x,v=a9 .u8 x;obtain⟨y,rfl⟩:=hv;simp only[hk]at hr;rcases ih y _ (hw.fz ra hb ho hn hc).1 hr with h|⟨h1,h2,h3⟩;exact aI h;let⟨_,w1,w2,_⟩:=Ej V a n;rw[w1,w2]at h3;rw[w2]at h1;refine bi ⟨h1,h2.trans w1,λτ d hA=>?_⟩;have e2:(re V τ d).cell? l=some (a9 .u8 y):=hc;(have e3:(re V τ d).freeze a n=re (V.freeze a n) τ d:=by unfold World.freeze;rw[if_neg hn,if_neg hn];rfl);simp only[ax,e2,hk,e3];exact h3 τ d hA;let⟨y,e2,e3⟩:=hh v λx e=>hv ⟨x,e⟩;simp only[e2]at hr;obtain⟨rfl,_⟩:=hr;exact aI e3
 |halt h s he=>intro V W es x e1 hw hr;simp at hr;obtain⟨rfl,_⟩:=hr;exact aI he
end
