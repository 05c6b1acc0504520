import Derived.Test.YtjoalkgmgmmedaaGreatDoorj01
import Derived.Conc.Own
set_option linter.unusedVariables false
set_option linter.defProp false
set_option maxHeartbeats 1000000
open Array renaming getElem?_eq_none_iff->au,foldl_toList->bM,replicate->b3,getElem?_append_left->b9,mapM_eq_mapM_toList->cb,toList_modify->cB,forIn_toList->cE,all_eq_true->cK,toList_push->cL,toList_zip->cN
open Go renaming TypeId->ad,Value->ai,Program->ao,Frame->aI,Operand->aL,FuncId->a7,World->a8,PanicEntry->bb,tryRecover->bi,execOp->bo,underlying->bt,invoke->bA,Question->bS,convert->bW,Event->b0,callFunc->b6,seen->b7,results->b8,Code->cd,Oper->cq,Item->ct,eqGuard->cv,resolve->cw,callMethod->cx,Goroutine->cI,nilAhead->cV,doReturn->c0,Deferred->c4,exitTo->db,mark->dc,stepG->dd,FrameMode->dk,liesAt->dn,stuck->dp,CallKind->dv,Builtin->dz,yielded->dC,GStep->dN,Next->dS
open Go.Builtin renaming unsafeSliceData_->br,len_->ce,cap_->cf,max_->ci,min_->cl,unsafeString_->co,max2->c6,min2->c7
open Go.CallKind renaming early->bz
open Go.Conv renaming bytesToString->a6,stringToBytes->bn,runesToString->bN
open Go.Extern.BytealgIndexByte renaming indexByte->bk
open Go.Extern.Bytes renaming loadBytes->b2,bytesOf->b5,asByte->ca
open Go.Frame renaming eval->aE,enter->bB,catches->bL,finish->bV,pos->cn,raise->cA
open Go.GStep renaming after->aa,go->dm
open Go.Instr renaming takeDeferred->ay,findNow->aV,enterLoop->a0,endRound->a9,endLoop->bj,lookup->cu,next->cF,findAsking->cP,beginRound->cS,mapUpdate->cT,checkKey->c5,getLoop->c9,findKey->da,yield->df,range->dg
open Go.Mode renaming atomic->bE,plain->bO
open Go.Op renaming eqGuardIn->cC,maxDepth->dw
open Go.Region renaming wanted->bI,schedule->b1,departs->b4
open Go.Region.linearise renaming go->bs
open Go.Sem renaming runT->av,run_bind->ax,run->cz,bind->dF
open Go.Value renaming int->bv,string->cM,slice->c8
open Go.stepG renaming apply->ac,exec->aB,oper->bm
open Or renaming inl->bR,inr->cp
namespace Go.Proofs.YtjoalkgmgmmedaaGreatDoor
open Conc
variable {es iq:Array b0}{a b:Array cq}{xs xs':Array ai}{Jw T m str:Bool}{ok:Ctx}{c A fr fr2:aI}{f:a7}{fn:a7->Bool}{g O:cI}{cs cs' J rb:List aI}{l B:List MapEntry}{n:Nat}{t':Nat->bS->Nat}{o u:cq}{ev R:aL->ai}{P afn p:ao}{s:Sem dS}{α:Type}{t:ad}{k k' Y v C x D y Z:ai}{V V1 N W W1 U w w':a8}
section
variable [Gl]{ρ:Ren}
def w_ (r:ok.fn 1999999){a a'}(z:dD ρ a a')(E:n≠0):∀m {l B:Addr} (_:dD ρ l B) (d:ByteArray),l.block=a.block->a.off+n=l.off+(m+1)->
  ag afn P ok str (aq ok) ρ (do let s <-loadBytes l d (m+1);freeze a n;pure s) (do let s <-loadBytes B d (m+1);freeze a' n;pure s):=by
 intro m;induction m with
 |zero=>
  intro l B e d j ho;exact ag.fz r z e j ho E (λx=>rfl) (λx=>rfl)
   (λv q=>by
    cases v with
    |int k x=>cases k<;>first|exact absurd rfl (q x)|exact⟨_,rfl,rfl⟩
    |_=>exact⟨_,rfl,rfl⟩) λx=>.pure (.string _)
 |succ m F=>
  intro l B e d j ho;refine ag.load e λv C q=>?_
  cases q with
  |int k x=>
   cases k<;>first|exact .halt _ _|skip
   refine F (e.add 1) _ j ?_;show _=l.off+1+(m+1);omega
  |_=>exact .halt _ _
def Rz (hT:afn.toTables=P.toTables)(K:dn afn=dn P)(L:ok.fn 1999999)(q:Array ad)(t:ad)(h:aA ok ρ xs xs'):ag afn P ok str (aq ok) ρ (co q t xs) (co q t xs'):=by
 let⟨l⟩:=xs;let⟨B⟩:=xs';match l,B,h.list with
 |[],_,.nil=>exact .halt _ _
 |[_],_,.cons j .nil=>cases j<;>exact .halt _ _
 |_::_::_::_,_,.cons j (.cons _<|.cons _ _)=>cases j<;>exact .halt _ _
 |[x,y],_,.cons j (.cons r .nil)=>
  cases j with
  |kP=>
   refine af _ (kG r) ?_;rintro σ n _ z rfl;cases q[0]? with
   |none=>exact .halt _ _
   |some E=>
    dsimp only;split
    .exact SD
    split
    .exact kQ
    split
    .exact ah (.string _)
    .exact ij hT _ rfl
  |@ptr a Q i=>
   refine af _ (kG r) ?_;rintro σ n _ z rfl;have i:=i.mono z;cases q[0]? with
   |none=>exact .halt _ _
   |some E=>
    dsimp only;split
    .exact SD
    split
    .exact kQ
    split
    .exact ah (.string _)
    rename_i S X h3;refine af (λ_ x y=>x=y) ?_ ?_
    .refine af _ (am hT E) ?_;rintro τ d _ l ⟨rfl,_⟩;cases d<;>first|exact ah rfl|exact .halt _ _
    rintro τ e _ l rfl;have i:=i.mono l;refine af (λ_ x y=>x=y) ?_ ?_
    .refine ag.program (aW<|ag.shape i.blk λs=>?_);cases s with
     |none=>exact ah rfl
     |some s=>
      refine ah ?_;rw[K,i.off,show afn.cellsOf s.1=P.cellsOf s.1 by unfold Program.cellsOf;rw[hT],show afn.depth=P.depth by unfold Program.depth;rw[hT]]
    rintro υ b _ F rfl;split
    .obtain⟨m,M⟩:∃m,n.toNat=m+1:=⟨n.toNat-1,by omega⟩;rw[M];exact w_ L (i.mono F) (by omega) m (i.mono F) _ rfl rfl
    .exact kQ
  |_=>exact .halt _ _
def abS (hT:afn.toTables=P.toTables)(hN:afn.info? 1000000000=none)(q r:Array ad)(t:ad)(h:aA ok ρ xs xs'):ag afn P ok str (aq ok) ρ (br q 1000000000 xs) (br r t xs'):=by
 let⟨l⟩:=xs;let⟨B⟩:=xs';match l,B,h.list with
 |[],_,.nil=>exact .halt _ _
 |_::_::_,_,.cons z _=>cases z<;>exact .halt _ _
 |[x],_,.cons z .nil=>
  cases z with
  |dr l c=>exact ah .kP
  |slice l c ra=>
   by_cases hc:c=0
   .subst hc;refine af _ (Df ra.blk) ?_;rintro σ _ _ _ ⟨rfl,rfl⟩;refine .dead _ _ λV=>?_
    show Result.stops (cz afn (elemOf 1000000000 >>= _) V)=true;rw[ax,elemOf,ax];have:(bt 1000000000).run afn V=.halt (.stuck "no such type") V:=by simp[bt,Program.underlying,hN]
    rw[this];rfl
   have e:∀(q:Array ad) (t:ad) (a:Addr),br q t #[c8 (some a) l c]=pure _:=λq t a=>if_pos hc
   rw[e,e];exact ah (.ptr ra)
  |_=>exact .halt _ _
end
section
variable [Gl]
inductive oy (ok:Ctx)(ρ:Ren):dS->dS->Prop
 |value {v C:ai}:aq ok ρ v C->oy ok ρ (.value v) (.value C)
 |skip:oy ok ρ .skip .skip
 |enter (f:a7) {xs xs':Array ai}:ok.fn f->aA ok ρ xs xs'->oy ok ρ (.enter f xs) (.enter f xs')
 |round {l B:Nat} (f:a7) {xs xs':Array ai} {a b:cd}:ρ l=some B->ok.aN f->aA ok ρ xs xs'->ok.code a->ok.code b->oy ok ρ (.round l f xs a b) (.round B f xs' a b)
 |recover:oy ok ρ .recover .recover
def SQ (x:Option Func)(e:Array ai->Sem ai):Prop:=∃fn,x=some fn/\(fn.name== "runtime.NumGoroutine")=false/\fn.body.isNone/\Extern.findNext fn=none/\Extern.find fn=some e/\(e=Extern.BytealgCount.count\/e=bk\/e=Extern.AbiNoEscape.same)
structure Callable (afn P:ao)(ok:Ctx):Prop where
 left:∀f,ok.fn f->ok.ex f=false->∃fn,afn.funcs[f]?=some fn/\fn.body.isSome/\(fn.name== "runtime.NumGoroutine")=false
 right:∀f,ok.fn f->ok.ex f=false->∃fn,P.funcs[f]?=some fn/\fn.body.isSome/\(fn.name== "runtime.NumGoroutine")=false
 ext:∀f,ok.ex f->afn.funcs[f]?=none\/∃e,SQ afn.funcs[f]? e/\SQ P.funcs[f]? e
 inx:∀f,ok.aN f->ok.ex f=false
 hole:afn.info? 1000000000=none
 over:∀xs V,Result.stops ((b6 Gl.ov xs).run afn V)
 lies:dn afn=dn P
def dq (fn:a7->Bool):aL->Bool
 |.tmp _=>true
 |.const v=>Ez v
 |.global g=>fn (2000000+g)
 |.func f=>fn f
def DP (P:ao)(s:ad)(f:Nat):Bool:=
 match P.underlying s with
 |some (.struct r)=>(match r[f]? with|some x=>(match P.info? x.type with|some i=>i.size !=0|none=>true)|none=>true)
 |_=>true
def nH:dz->Bool
 |.len|.cap|.max|.min|.recover=>true
 |_=>false
def mL (P:ao)(d:Array ad)(b:dz):Bool:=nH b||(b==.append&&(Fi P d||KC P d))||(b==.clear&&OV P d)||(b==.copy&&O0 P d)
def ovr:aL->Bool
 |.func g=>g==Gl.ov
 |_=>false
def DD (P:ao)(ok:a7->Bool)(c:Call):Bool:=
 (match c.callee with|.builtin b=>mL P c.argTypes b||(b==.unsafeString&&ok 1999999)|.value f=>dq ok f||ovr f|.invoke r n=>dq ok r&&zU P ok n)&&c.args.all (dq ok)
def acT (ok:a7->Bool):Fn->Bool
 |.func f=>ok f
 |_=>false
def mw (P:ao)(t:ad):Bool:=
 match P.underlying t with
 |some .string=>true
 |_=>false
def FX (P:ao)(t:ad):Bool:=
 match P.underlying t with
 |some (.int _)=>true
 |_=>false
def q9 (P:ao)(t:ad):Bool:=
 match P.underlying t with
 |some (.slice e)=>(match P.underlying e with|some (.int .u8)=>true|_=>false)
 |_=>false
def kR (P:ao)(t:ad):Bool:=
 match P.underlying t with
 |some (.map k e)=>mw P k&&N6 P k&&E9 P e
 |_=>false
def ZX:aL->Bool
 |.const true=>false
 |_=>true
def abV:aL->Bool
 |.const (cM _)=>true
 |_=>false
def jm (P:ao)(ok:a7->Bool):Op->Bool
 |.move x|.assign x=>dq ok x
 |.pick (.tmp _) a b=>dq ok a&&dq ok b
 |.alloc t=>E9 P t
 |.box _ x=>dq ok x
 |.build t parts=>E9 P t&&parts.all (λx=>dq ok x.2)
 |.buildSlice t _ parts=>Hy P t&&parts.all (λx=>dq ok x.2)
 |.load _ a=>dq ok a
 |.store _ a x=>dq ok a&&dq ok x
 |.binOp op t x y _=>ZX x&&(mK P op t||wK P op t y)&&dq ok x&&dq ok y
 |.unOp _ _ x=>dq ok x
 |.makeFunc f a b=>acT ok f&&a.all (dq ok)&&b.all (dq ok)
 |.makeSlice t l c=>Hy P t&&dq ok l&&dq ok c
 |.slice _ x a b c=>dq ok x&&a.all (dq ok)&&b.all (dq ok)&&c.all (dq ok)
 |.fieldAddr s x f=>DP P s f&&dq ok x
 |.indexAddr _ x i=>dq ok x&&dq ok i
 |.index _ x i=>dq ok x&&dq ok i
 |.extract x _=>dq ok x
 |.call c=>DD P ok c
 |.nilCheck x=>dq ok x
 |.convert a b x=>(FX P a&&FX P b||q9 P a&&mw P b||mw P a&&q9 P b&&ok 1999999)&&dq ok x
 |.range t x=>mw P t&&dq ok x
 |.next it b=>b&&dq ok it
 |.makeInterface _ x=>dq ok x
 |.typeAssert x _ t c=>c&&E9 P t&&dq ok x
 |.makeMap t n=>kR P t&&n.isNone
 |.insert t m k x=>kR P t&&abV k&&dq ok m&&dq ok x
 |.lookup t m k _=>kR P t&&dq ok m&&dq ok k
 |_=>false
section
variable {ρ:Ren}
def iL.length (h:iL ok ρ l B):B.length=l.length:=by
 induction h with
 |nil=>rfl
 |cons s n h _ d=>grind
def acy {p:Prop}(x9:p:=by
  apply af _<|am hT a;rintro τ d _ l ⟨rfl,_⟩;cases d with
  |array n e=>exact ah (.int _ _)
  |_=>exact .halt _ _):p:=x9
def x_ (hT:afn.toTables=P.toTables)(j:Array ad)(t:ad)(h:aA ok ρ xs xs'):ag afn P ok str (aq ok) ρ (ce j t xs) (ce j t xs'):=by
 unfold ce;cases F:j[0]? with
 |none=>cases q:xs[0]?<;>exact .halt _ _
 |some t=>
  cases q:xs[0]? with
  |none=>exact .halt _ _
  |some x=>
   let⟨D,z,r⟩:=h.get q;rw[z];apply af _<|am hT t;rintro σ d _ l ⟨rfl,_⟩;have r:=r.mono l;cases d with
   |string=>cases r<;>first|exact ah (.int _ _)|exact .halt _ _
   |array n e=>exact ah (.int _ _)
   |pointer a=>
    exact acy
   |slice e=>cases r<;>first|exact ah (.int _ _)|exact .halt _ _
   |map k e=>
    cases r with
    |map h=>
     refine ag.getObj h λo u ho=>?_
     cases ho with
     |@map es iq k E=>
      apply aW;have e:iq.size=es.size:=E.length;dsimp only;rw[e];exact ah (.int _ _)
     |_=>exact .halt _ _
    |_=>exact .halt _ _
   |_=>cases r<;>exact .halt _ _
def s_ (hT:afn.toTables=P.toTables)(i:Array ad)(t:ad)(h:aA ok ρ xs xs'):ag afn P ok str (aq ok) ρ (cf i t xs) (cf i t xs'):=by
 unfold cf;cases z:i[0]? with
 |none=>cases j:xs[0]?<;>exact .halt _ _
 |some t=>
  cases j:xs[0]? with
  |none=>exact .halt _ _
  |some x=>
   let⟨D,q,r⟩:=h.get j;rw[q];apply af _<|am hT t;rintro σ d _ l ⟨rfl,_⟩;have r:=r.mono l;cases d with
   |array n e=>exact ah (.int _ _)
   |pointer a=>
    exact acy
   |slice e=>cases r<;>first|exact ah (.int _ _)|exact .halt _ _
   |_=>cases r<;>exact .halt _ _
def acb {p:Prop}(x9:p:=by
  cases h with
  |int k a=>cases h'<;>first|exact ah (.int _ _)|exact .halt _ _
  |string a=>
   cases h' with
   |string b=>
    refine af _ (xp _ _ _)<|λσ u u' _ hu=>af _ (Db hu) ?_
    rintro τ b _ _ rfl;split<;>exact ah (.string _)
   |_=>exact .halt _ _
  |_=>cases h'<;>exact .halt _ _):p:=x9
def Vr (h:aq ok ρ x D)(h':aq ok ρ y Z):ag afn P ok str (aq ok) ρ (c6 x y) (c6 D Z):=by
 exact acb
def Vs (h:aq ok ρ x D)(h':aq ok ρ y Z):ag afn P ok str (aq ok) ρ (c7 x y) (c7 D Z):=by
 exact acb
def Dc {f:ai->ai->Sem ai}(hf:∀{ρ:Ren} {x D y Z:ai},aq ok ρ x D->aq ok ρ y Z->ag afn P ok str (aq ok) ρ (f x y) (f D Z)):
  ∀{l B:List ai} {ρ:Ren} {x D:ai},iK ok ρ l B->aq ok ρ x D->ag afn P ok str (aq ok) ρ (l.foldlM f x) (B.foldlM f D):=by
 intro l;induction l with
 |nil=>intro B ρ x D h r;cases h;exact ah r
 |cons a l ih=>
  intro B ρ x D h r;cases h with
  |cons ha h=>
   exact af _ (hf r ha)<|λσ y Z le hy=>ih (h.mono le) hy
def y_ (e:Array ad)(t:ad)(h:aA ok ρ xs xs'):ag afn P ok str (aq ok) ρ (ci e t xs) (ci e t xs'):=by
 unfold ci;have d:=h.list;generalize xs.toList=l at d;generalize xs'.toList=B at d;cases d with
 |nil=>exact .halt _ _
 |cons i d=>exact Dc (λh j=>Vr h j) d i
def z_ (e:Array ad)(t:ad)(h:aA ok ρ xs xs'):ag afn P ok str (aq ok) ρ (cl e t xs) (cl e t xs'):=by
 unfold cl;have d:=h.list;generalize xs.toList=l at d;generalize xs'.toList=B at d;cases d with
 |nil=>exact .halt _ _
 |cons i d=>exact Dc (λh j=>Vs h j) d i
def bD {s s':Sem ai}(h:ag afn P ok str (aq ok) ρ s s'):ag afn P ok str (λσ x y=>oy ok σ x y) ρ (do pure (.value<|<-s)) (do pure (.value<|<-s')):=by
 exact af _ h<|λσ x y _ d=>ah<|.value d
def yq {s s' A}(h:ag afn P ok str A ρ s s'):ag afn P ok str (λσ x y=>oy ok σ x y) ρ (do s;pure .skip) (do s';pure .skip):=by
 exact af _ h<|λσ x y _ _=>ah .skip
def Ri (hC:Callable afn P ok)(f:a7)(r:ok.fn f)(hx:ok.ex f=false)(h:aA ok ρ xs xs'):ag afn P ok str (λσ x y=>oy ok σ x y) ρ (b6 f xs) (b6 f xs'):=by
 apply ag.program;let⟨fn,h1,h2,h3⟩:=hC.left f r hx;let⟨d7,nv,Mf,V_⟩:=hC.right f r hx;have e1:fn.body.isNone=false:=by cases hb:fn.body<;>simp_all
 have e2:d7.body.isNone=false:=by cases hb:d7.body<;>simp_all
 apply aW;rw[h1,nv];simp[h3,V_,e1,e2];exact ah<|.enter f r h
def Rq n:∀{ρ:Ren} {a a':Addr} (_:dD ρ a a') (s:ByteArray),ag afn P ok str (λ_ x y=>x=y) ρ (b2 a n s) (b2 a' n s):=by
 induction n with
 |zero=>intro ρ a a' _ s;exact ah rfl
 |succ n d=>
  intro ρ a a' r s;apply af _<|EK r;intro σ v C l e;cases e with
  |int k m=>cases k<;>first|exact d ((r.mono l).add 1) _|exact .halt _ _
  |_=>exact .halt _ _
def Rw {e:ByteArray->UInt8->Sem ai}(he:∀{σ:Ren} b c,ag afn P ok str (aq ok) σ (e b c)<|e b c)(q:aq ok ρ x D)(z:aq ok ρ y Z):
  ag afn P ok str (aq ok) ρ (do let b <-b5 x;let c <-ca y;e b c) (do let b <-b5 D;let c <-ca Z;e b c):=by
 refine af (λ_ x y=>x=y) ?_ ?_
 .cases q with
  |string s=>exact ah rfl
  |dr l c=>exact ah rfl
  |slice l c r=>exact Rq _ r _
  |_=>exact .halt _ _
 rintro σ b _ l rfl;refine af (λ_ x y=>x=y) ?_ ?_
 .cases z with
  |int k m=>cases k<;>first|exact ah rfl|exact .halt _ _
  |_=>exact .halt _ _
 grind
def v_ {e:Array ai->Sem ai}(he:e=Extern.BytealgCount.count\/e=bk\/e=Extern.AbiNoEscape.same)(h:aA ok ρ xs xs'):ag afn P ok str (aq ok) ρ (e xs) (e xs'):=by
 let⟨l⟩:=xs;let⟨B⟩:=xs';have r:=h.list;rcases he with rfl|rfl|rfl
 .match l,B,r with
  |[],_,.nil=>exact .halt _ _
  |[_],_,.cons _ .nil=>exact .halt _ _
  |[x,y],_,.cons q (.cons z .nil)=>exact Rw (λ_ _=>ah<|.int _ _) q z
  |_::_::_::_,_,.cons _ _=>exact .halt _ _
 .match l,B,r with
  |[],_,.nil=>exact .halt _ _
  |[_],_,.cons _ .nil=>exact .halt _ _
  |[x,y],_,.cons q (.cons z .nil)=>exact Rw (λb c=>by split<;>exact ah<|.int _ _) q z
  |_::_::_::_,_,.cons _ _=>exact .halt _ _
 match l,B,r with
 |[],_,.nil=>exact .halt _ _
 |[x],_,.cons q .nil=>exact ah q
 |_::_::_,_,.cons _ _=>exact .halt _ _
def xh (hC:Callable afn P ok)(f:a7)(hf:ok.fn f)(h:aA ok ρ xs xs'):ag afn P ok str (λσ x y=>oy ok σ x y) ρ (b6 f xs) (b6 f xs'):=by
 cases hx:ok.ex f with
 |false=>exact Ri hC f hf hx h
 |true=>
  refine ag.program<|aW ?_;rcases hC.ext f hx with h0|⟨e,⟨fn,h1,h2,h3,h4,h5,h6⟩,⟨d7,nv,Mf,V_,r,aF,_⟩⟩
  .rw[h0];exact .halt _ _
  rw[h1,nv];simp[h2,Mf,h3,V_,h4,r,h5,aF];exact ag.mark rfl<|bD (v_ h6 h)
def mo {l B:Nat}(d:ρ l=some B):ag afn P ok str (λσ r e=>Fe ok σ r e) ρ (c9 l) (c9 B):=by
 refine ag.getObj d λo u ho=>?_
 cases ho with
 |loop hr=>exact .pure hr
 |_=>exact .halt _ _
def RA {l B:Nat}(i:ρ l=some B)(h:aA ok ρ xs xs'):ag afn P ok str (λσ x y=>oy ok σ x y) ρ (df l xs) (df B xs'):=by
 apply af _<|mo i;intro σ r M E e;have h:=h.mono E;rw[h.size,e.params];split
 .exact kQ
 rw[e.fn,e.assign,e.body];refine ah<|.round _ (E _ _ i) e.aN ?_ e.ok1 e.ok2;have j:∀(q:List Tmp) (l B:List ai) (_:iK ok σ l B) (a z:Array ai),aA ok σ a z->
   aA ok σ ((q.zip l).foldl (λd (x:Tmp×ai)=>d.setIfInBounds x.1 x.2) a) ((q.zip B).foldl (λd (x:Tmp×ai)=>d.setIfInBounds x.1 x.2) z):=by
  intro q;induction q with
  |nil=>simp_all
  |cons p q K=>
   intro l B i a z F;cases i with
   |nil=>exact F
   |cons L i=>exact K _ _ i _ _<|F.set L p
 have:=j r.params.toList _ _ h.list _ _ e.tmps;rw[<-cN,<-cN,bM,bM]at this;omega
def JS (e:afn.toTables=P.toTables)(b:dz)(d:Array ad)(q:mL P d b)(t:ad)(cs:Array Bool)(h:aA ok ρ xs xs'):ag afn P ok str (λσ x y=>oy ok σ x y) ρ (builtin b d t cs xs) (builtin b d t cs xs'):=by
 cases b with
 |len=>exact bD (x_ e d t h)
 |cap=>exact bD (s_ e d t h)
 |max=>exact bD (y_ d t h)
 |min=>exact bD (z_ d t h)
 |recover=>exact ah .recover
 |append=>
  have i:(Fi P d||KC P d)=true:=by grind [mL,nH]
  cases j:Fi P d with
  |true=>exact bD (Nu e d t j h)
  |false=>rw[j]at i;exact bD (JQ e d t i h)
 |copy=>exact bD (Vo e d t yO h)
 |clear=>exact bD (Rl e d t (by grind [mL,nH]) h)
 |_=>grind [mL,nH]
def vR (i:afn.toTables=P.toTables)(j:Callable afn P ok){d d':Target}(q:OA ok ρ d d')(h:aA ok ρ xs xs'):ag afn P ok str (λσ x y=>oy ok σ x y) ρ (bA d xs) (bA d' xs'):=by
 cases q with
 |fn e r=>
  cases e with
  |func e=>exact xh j _ e (h.append r)
  |yield z=>exact RA z h
 |nil=>exact ij i .nilDeref rfl
def BI (r:afn.toTables=P.toTables)(hC:Callable afn P ok)(n:String)(hm:zU P ok.fn n)(hv:aq ok ρ v C)(h:aA ok ρ xs xs'):ag afn P ok str (λσ x y=>oy ok σ x y) ρ (cx v n xs) (cx C n xs'):=by
 cases hv with
 |iface t hv=>
  refine ag.program<|aW ?_;rw[r];apply af _<|NE r _ t n hm hv;rintro σ ⟨f,x⟩ ⟨_,y⟩ l ⟨rfl,hf,hx⟩;exact xh hC f hf ((aA.nil.push hx).append<|h.mono l)
 |nilIface=>exact ij r .nilDeref rfl
 |hole _=>exact .halt _ _
 |_=>exact .halt _ _
def lH (ok:Ctx)(ρ:Ren)(ev R:aL->ai):Prop:=∀x,dq ok.fn x->aq ok ρ (ev x) (R x)
def xN (h:lH ok ρ ev R){xs:Array aL}(j:xs.all (dq ok.fn)):aA ok ρ (xs.map ev) (xs.map R):=by
 refine⟨aP,λi x D e d=>?_⟩;rw[Array.getElem?_map]at e d;cases q:xs[i]? with
 |none=>grind
 |some o=>
  rw[q]at e d;simp at e d;subst e;subst d;rw[cK]at j;obtain⟨r,rfl⟩:=afM.1 q;exact h _<|j i r
def CU (h:lH ok ρ ev R){xs:Array (Nat×aL)}(i:xs.all (λx=>dq ok.fn x.2)):
  (xs.map λx=>(x.1,ev x.2)).toList.map (·.1)=(xs.map λx=>(x.1,R x.2)).toList.map (·.1)/\iK ok ρ ((xs.map λx=>(x.1,ev x.2)).toList.map (·.2)) ((xs.map λx=>(x.1,R x.2)).toList.map (·.2)):=by
 simp;have d:∀x∈xs.toList,dq ok.fn x.2=true:=by
  grind [cK,Array.getElem_of_mem]
 generalize xs.toList=l at d;induction l with
 |nil=>exact .nil
 |cons a l e=>exact .cons (h _<|d a aP)<|e λx j=>d x cO
def Ex (h:lH ok ρ ev R){x:Option aL}(d:x.all (dq ok.fn)):nC ok ρ (x.map ev) (x.map R):=by
 cases x with
 |none=>exact .none
 |some o=>exact .some<|h _ yO
omit [Gl] in
def ze (d:BinOp)(t:ad)(x y:aL) a (V:a8):(cv d t x y a hole).run afn V=.ok () V/\(cv d t x y hole a).run afn V=.ok () V:=by
 constructor<;>(cases d<;>first|rfl|(cases a<;>rfl))
omit [Gl] in
def JR (e:afn.toTables=P.toTables)(d:BinOp)(t:ad)(i:mK P d t)(x y:aL)(a b:ai)(h:a=hole\/b=hole)(V:a8):Result.stops ((do cv d t x y a b;binOp d t a b:Sem ai).run afn V):=by
 rw[ax];rcases h with rfl|rfl
 .rw[(ze d t x y b V).2];exact(oA e d t i b V).2
 rw[(ze d t x y a V).1];exact(oA e d t i a V).1
def ab2 {p:Prop}(x9:p:=by
  have tail:ag afn P ok str (λ_ _ _=>True) ρ (do if<-Op.eqGuardIn Op.maxDepth t .nilIface .nilIface then unsupported (.noEntry "binop/eql: two nil values of an interface type with methods, neither of them the literal nil")else pure ())
    (do if<-Op.eqGuardIn Op.maxDepth t .nilIface .nilIface then unsupported (.noEntry "binop/eql: two nil values of an interface type with methods, neither of them the literal nil")else pure ()):=by
   refine af _ hg ?_;rintro σ _ _ _ ⟨rfl,rfl⟩;exact ah trivial
  cases x<;>cases y<;>first|exact ah trivial|exact tail):p:=x9
def XV {p:Prop}(x9:p:=by
  refine ag.program<|aW<|ag.program<|aW ?_;rw[hd afn hT,hd P rfl];exact ah trivial):p:=x9
def JV (hT:afn.toTables=P.toTables)(q:BinOp)(t:ad)(j:mK P q t)(x y:aL){a a' b F:ai}(h:aq ok ρ a a')(r:aq ok ρ b F)(L:a≠hole)(z:b≠hole):ag afn P ok str (λ_ _ _=>True) ρ (cv q t x y a b) (cv q t x y a' F):=by
 unfold cv;by_cases he:Fa q=true
 .unfold mK at j;rw[if_pos he]at j;have hd:∀(Q:ao),Q.toTables=P.toTables->Q.eqGuardType Q.depth t=false:=by
   intro Q S;have:Q.depth=(2*(Q.types.size+Made.depth)+1)+1:=rfl;rw[this];unfold Program.eqGuardType;rw[tG S];rcases Bool.or_eq_true_iff.1 j with j|j
   .grind [DN]
   unfold Wh at j;cases E:P.underlying t with
   |none=>grind
   |some u=>
    rw[E]at j;cases u with
    |struct fs=>
     simp at j;grind [Program.eqGuardType,DN,Array.any_eq_false,tG]
    |_=>grind
  have hg:∀{σ:Ren},ag afn P ok str (λ_ x y=>x=false/\y=false) σ (cC dw t .nilIface .nilIface) (cC dw t .nilIface .nilIface):=by
   intro σ;unfold cC;apply af _<|am hT t;rintro τ d _ _ ⟨rfl,E⟩;unfold N6 DN Wh at j;rw[E]at j;cases d with
   |struct fs=>exact ah ⟨rfl,rfl⟩
   |bool=>exact ah ⟨rfl,rfl⟩
   |string=>exact ah ⟨rfl,rfl⟩
   |int k=>exact ah ⟨rfl,rfl⟩
   |slice e=>exact ah ⟨rfl,rfl⟩
   |_=>grind
  cases q with
  |eql=>
   cases h with
   |hole _=>grind
   |nilIface=>
    cases r with
    |hole _=>grind
    |nilIface=>
     exact ab2
    |_=>exact ah trivial
   |agg _ _=>
    cases r with
    |hole _=>grind
    |agg _ _=>
     exact XV
    |_=>exact ah trivial
   |_=>cases r<;>first|exact absurd rfl z|exact ah trivial
  |neq=>
   cases h with
   |hole _=>exact absurd rfl L
   |nilIface=>
    cases r with
    |hole _=>exact absurd rfl z
    |nilIface=>
     exact ab2
    |_=>exact ah trivial
   |agg _ _=>
    cases r with
    |hole _=>exact absurd rfl z
    |agg _ _=>
     exact XV
    |_=>exact ah trivial
   |_=>cases r<;>first|exact absurd rfl z|exact ah trivial
  |_=>cases he
 cases q<;>first|exact ah trivial|exact absurd rfl he
omit [Gl] in
def IL {s:ad}{f:Nat}(h:DP P s f):∀r x i,P.underlying s=some (.struct r)->r[f]?=some x->P.info? x.type=some i->i.size≠0:=by
 grind [DP]
omit [Gl] in
def sE (h:afn.info? 1000000000=none)(V:a8):Result.stops ((typeInfo 1000000000).run afn V):=by
 simp[typeInfo,h,Result.stops,ends]
omit [Gl] in
def Bu (h:afn.info? 1000000000=none) n (V:a8):Result.stops ((cV n 1000000000 (.chan none) "").run afn V)\/(cV n 1000000000 (.chan none) "").run afn V=.ok none V:=by
 cases n with
 |zero=>exact cp rfl
 |succ n=>
  left;unfold cV;rw[ax];exact gP (sE h V) _
omit [Gl] in
def Bw (h:afn.info? 1000000000=none)(V:a8):Result.stops ((do
    if(<-cV ((<-program).types.size+Made.depth) 1000000000 (.chan none) "")!=some false then
     unsupported (.noEntry "op/nilCheck.the method's receiver behind this interface value is a nil pointer, or cannot be seen to be none, and the arguments act or may panic (ledger 612)")
    pure (.value<|.func (.method "") #[.iface 1000000000<|.chan none] #[]):Sem dS).run afn V):=by
 rw[ax];show Result.stops (cz afn _ V)=true;rw[ax];rcases Bu h _ V with e|e
 .exact gP e _
 rw[e];rfl
omit [Gl] in
def qw (h:afn.info? 1000000000=none)(args:Array ai)(V:a8):Result.stops ((bA (.fn (.method "") #[])<|#[.iface 1000000000<|.chan none]++args).run afn V):=by
 unfold bA;have e:(#[Value.iface 1000000000<|.chan none]++args)[0]?=some (.iface 1000000000<|.chan none):=by rw[b9 bh];rfl
 simp[e];unfold cx;rw[ax];show Result.stops (cz afn _ V)=true;rw[ax];refine gP ?_ _;generalize afn.types.size+Made.depth=n;cases n with
 |zero=>rfl
 |succ n=>
  unfold method;rw[ax];exact gP (sE h V) _
def Vn (hT:afn.toTables=P.toTables)(hC:Callable afn P ok)(c:Call)(t:ad)(hc:DD P ok.fn c)(h:lH ok ρ ev R)(aZ:∀g,ev (.func g)=.func (.func g) #[] #[]):
  ag afn P ok str (λσ x y=>oy ok σ x y) ρ (do let d <-cw ev c t;bA d.target d.args) (do let d <-cw R c t;bA d.target d.args):=by
 unfold DD at hc;rw[agd]at hc;have ha:=xN h hc.2;unfold cw;cases Ze:c.callee with
 |builtin b=>
  rw[Ze]at hc;cases hb:mL P c.argTypes b with
  |true=>exact JS hT b _ hb _ _ ha
  |false=>
   have h1:(mL P c.argTypes b||_)=true:=hc.1;rw[hb]at h1;simp at h1;obtain⟨rfl,h1⟩:=h1;exact bD (Rz hT hC.lies h1 _ _ ha)
 |invoke r n=>
  rw[Ze]at hc;simp at hc;apply aW;have e:∀(v:ai) (xs:Array ai),bA (.fn (.method n) #[]) (#[v]++xs)=cx v n xs:=λv xs=>by
   simp_all [bA,b9]
  rw[e,e];exact BI hT hC n hc.1.2 (h r hc.1.1) ha
 |value f=>
  rw[Ze]at hc;cases aF:dq ok.fn f with
  |false=>
   have AV:ovr f=true:=by have:(dq ok.fn f||ovr f)=true:=hc.1;rw[aF]at this;exact this
   cases f with
   |func g=>
    have hg:g=Gl.ov:=by grind [ovr]
    subst hg;refine .dead _ _ λV=>?_
    dsimp only;rw[aZ];exact hC.over _ V
   |_=>cases AV
  |true=>
  have hf:=h f aF;dsimp only;generalize ev f=v at hf;generalize R f=C at hf;cases hf with
  |func rQ e1 h1 e2 h2=>
   exact aW<|vR hT hC (.fn rQ ⟨e2,h2⟩) (aA.append ⟨e1,h1⟩ ha)
  |nilFunc=>exact ij hT .nilDeref rfl
  |hole _=>exact .dead _ _ λV=>qw hC.hole _ V
  |_=>exact .halt _ _
def Hc (q:afn.toTables=P.toTables)(hC:Callable afn P ok)(o:cq)(x:aL)(bF:o.op=.nilCheck x)(z:aq ok ρ (ev x) (R x)):ag afn P ok str (λσ x y=>oy ok σ x y) ρ (bo ev o) (bo R o):=by
 unfold bo;rw[bF];dsimp only;generalize ev x=v at z;generalize R x=C at z;cases z with
 |hole h=>exact .dead _ _ λV=>Bw hC.hole V
 |kP=>exact ij q .nilDeref rfl
 |nilFunc=>exact ij q .nilDeref rfl
 |nilIface=>exact ij q .nilDeref rfl
 |map h=>exact ah (.value<|.map h)
 |bool b=>exact ah (.value<|.bool b)
 |int k n=>exact ah (.value<|.int k n)
 |string s=>exact ah (.value<|.string s)
 |ptr r=>exact ah (.value<|.ptr r)
 |dr l c=>exact ah (.value<|.dr l c)
 |slice l c r=>exact ah (.value<|.slice l c r)
 |iface t h=>exact ah (.value<|.iface t h)
 |func hf e1 h1 e2 h2=>
  cases hf with
  |func h=>exact ah (.value<|.func (.func h) e1 h1 e2 h2)
  |yield h=>exact ah (.value<|.func (.yield h) e1 h1 e2 h2)
 |agg e h=>exact ah (.value<|.agg e h)
 |tuple e h=>exact ah<|.value<|.tuple e h
def JT (j:afn.toTables=P.toTables)(a b:ad)(h:FX P a)(i:FX P b)(q:aq ok ρ v C):ag afn P ok str (aq ok) ρ (bW a b v) (bW a b C):=by
 unfold bW;refine af _ (am j a) ?_;rintro σ d _ l ⟨rfl,r⟩;refine af _ (am j b) ?_;rintro τ e _ B ⟨rfl,z⟩;unfold FX at h i;rw[r]at h;rw[z]at i;cases d<;>first|cases h|skip
 cases e<;>first|cases i|skip
 cases q with
 |int k n=>exact ah (.int _ _)
 |_=>exact .halt _ _
def EI:∀{l B:List ai} {ρ:Ren} (s:ByteArray),iK ok ρ l B->ag afn P ok str (λ_ x y=>x=y) ρ
  (forIn l s λc (s:ByteArray)=>match c with|bv .u8 n=>pure (ForInStep.yield<|s.push<|UInt8.ofNat n.toNat)|_=>(dp "bytesToString: byte expected":Sem (ForInStep ByteArray)))
  (forIn B s λc (s:ByteArray)=>match c with|bv .u8 n=>pure (ForInStep.yield<|s.push<|UInt8.ofNat n.toNat)|_=>(dp "bytesToString: byte expected":Sem (ForInStep ByteArray))):=by
 intro l;induction l with
 |nil=>intro B ρ s h;cases h;exact ah rfl
 |cons a l q=>
  intro B ρ s h;cases h with
  |cons e h=>
   cases e with
   |int k n=>
    cases k with
    |u8=>grind
    |_=>exact .halt _ _
   |_=>exact .halt _ _
def vQ (e:aq ok ρ v C):ag afn P ok str (aq ok) ρ (a6 v) (a6 C):=by
 cases e with
 |dr l c=>exact ah (.string _)
 |slice l c r=>
  apply af _<|py r _;intro σ x y _ q;rw[<-cE,<-cE];apply af _<|EI _ q.list;rintro τ s _ _ rfl;exact ah (.string _)
 |_=>exact .halt _ _
def abO (d:ad)(s:ByteArray):Sem Value:=.choose (.appendCap s.size 0 d) λn=>.new (.cells ((s.data.map λb=>bv .u8 b.toNat)++b3 (n-s.size) (bv .u8 0)) d (((s.data.map λb=>bv .u8 b.toNat)++b3 (n-s.size) (bv .u8 0)).size,((s.data.map λb=>bv .u8 b.toNat)++b3 (n-s.size) (bv .u8 0)).size+1)) λr=>.pure<|c8 r s.size n
def U7 (Q:ao)(e:ad)(c:Array ai)(k n:Nat)(V:a8)(es:Array b0):(do let a <-newRow e c;markStringish a;pure (c8 (some a) k n):Sem ai).runT Q V es=(Sem.new (.cells c e (c.size,c.size+1)) λr=>.pure<|c8 r k n).runT Q V es:=by
 have q:({V with heap:=V.heap.push<|.cells c e}:a8).shape? V.heap.size=some (e,c.size):=by simp[World.shape?]
 have z:({V with heap:=V.heap.push<|.cells c e}:a8).freeze ⟨V.heap.size,c.size,none⟩ 1={V with heap:=V.heap.push<|.cells c e (c.size,c.size+1)}:=by
  unfold World.freeze;rw[if_neg ab];congr 1;grind
 show(dF (match({V with heap:=V.heap.push _}:a8).shape? V.heap.size with|some (_,n)=>freeze ⟨V.heap.size,n,none⟩ 1|_=>pure ()) λ_=>pure _).runT Q {V with heap:=V.heap.push _} es=_;rw[q];exact congrArg (λw=>(Result.ok _ w,es)) z
def GU (Q:ao)(d:ad)(s:ByteArray)(V:a8)(es:Array b0):(bn d s).runT Q V es=(abO d s).runT Q V es:=by
 have h:bn d s=Sem.choose _ λn=>_:=rfl
 rw[h];unfold abO;rw[av,av];split<;>exact U7 _ _ _ _ _ _ _
def vV (AQ:ok.fn 1999999)(r:ad)(s:ByteArray):ag afn P ok str (aq ok) ρ (bn r s) (bn r s):=by
 refine .eq (GU afn r s) (GU P r s) λq=>?_
 obtain rfl:=q AQ;refine .choose _ λn=>.new (.cells ?_<|.inl rfl) λσ b c l e=>.pure<|.slice _ _ ⟨e,rfl,rfl⟩
 refine aA.append ⟨ab,λi x D h z=>?_⟩ ⟨by simp,λi x D h z=>?_⟩<;>(rw[h]at z;cases z;simp[Array.getElem?_replicate]at h;first|(obtain⟨y,_,rfl⟩:=h;exact .int _ _)|(rw[<-h.2];exact .int _ _))
def JU (i:afn.toTables=P.toTables)(a b:ad)(j:mw P a)(h:q9 P b)(z:ok.fn 1999999)(q:aq ok ρ v C):ag afn P ok str (aq ok) ρ (bW a b v) (bW a b C):=by
 unfold bW;refine af _ (am i a) ?_;rintro σ d _ l ⟨rfl,E⟩;refine af _ (am i b) ?_;rintro τ e _ B ⟨rfl,F⟩;unfold mw at j;unfold q9 at h;rw[E]at j;rw[F]at h;cases d<;>first|cases j;done|skip
 cases e<;>first|cases h;done|skip
 rename_i r;have q:=(q.mono l).mono B;cases q with
 |string s=>
  refine af _ (am i r) ?_;rintro υ u _ L ⟨rfl,K⟩;dsimp only at h;rw[K]at h;cases u<;>first|cases h;done|skip
  rename_i k;cases k<;>first|cases h;done|skip
  exact vV z r s
 |_=>exact .halt _ _
def EJ (hT:afn.toTables=P.toTables)(a b:ad)(z:q9 P a)(hb:mw P b)(hx:aq ok ρ v C):ag afn P ok str (aq ok) ρ (bW a b v) (bW a b C):=by
 apply af _<|am hT a;rintro σ d _ l ⟨rfl,hd⟩;apply af _<|am hT b;rintro τ e _ B ⟨rfl,he⟩;unfold q9 at z;unfold mw at hb;rw[hd]at z;rw[he]at hb;cases d<;>first|cases z;done|skip
 rename_i el;cases e<;>first|cases hb;done|skip
 have q:∀{x D:ai},aq ok τ x D->ag afn P ok str (aq ok) τ (do match<-bt el with|.int .u8=>a6 x|.int .i32=>bN x|_=>dp "Convert: a slice of what to string?")
   (do match<-bt el with|.int .u8=>a6 D|.int .i32=>bN D|_=>dp "Convert: a slice of what to string?"):=by
  intro x D h;refine af _ (am hT el) ?_;rintro υ u _ l2 ⟨rfl,hu⟩;dsimp only at z;rw[hu]at z;cases u<;>first|cases z;done|skip
  rename_i k;cases k<;>first|cases z;done|skip
  exact vQ<|h.mono l2
 cases ((hx.mono l).mono B)with
 |hole h=>
  refine .dead _ _ λV=>?_
  have aF:afn.underlying el=some (.int .u8):=by
   grind [tG]
  have hr:(bt el).run afn V=.ok (.int .u8) V:=by simp[bt,aF]
  show Result.stops (cz afn (do match<-bt el with|.int .u8=>a6 hole|.int .i32=>bN hole|_=>dp "Convert: a slice of what to string?") V)=true;rw[ax,hr];rfl
 |int k n=>exact ah (.string _)
 |string s=>exact ah (.string _)
 |bool b=>exact q (.bool b)
 |kP=>exact q .kP
 |ptr r=>exact q (.ptr r)
 |dr l c=>exact q (.dr l c)
 |slice l c r=>exact q (.slice l c r)
 |map h=>exact q (.map h)
 |nilFunc=>exact q .nilFunc
 |nilIface=>exact q .nilIface
 |iface t h=>exact q (.iface t h)
 |func hf e1 h1 e2 h2=>exact q (.func hf e1 h1 e2 h2)
 |agg e h=>exact q (.agg e h)
 |tuple e h=>exact q<|.tuple e h
def Ru (q:afn.toTables=P.toTables)(t:ad)(r:mw P t)(z:aq ok ρ v C):ag afn P ok str (aq ok) ρ (dg t v) (dg t C):=by
 apply af _<|am q t;rintro σ d _ l ⟨rfl,hd⟩;unfold mw at r;cases d with
 |string=>
  cases z with
  |string s=>
   exact aW<|ag.new (.stringIter s 0)<|λτ b c _ e=>.pure (.ptr ⟨e,rfl,rfl⟩)
  |_=>exact .halt _ _
 |_=>grind
def Vt (t:ad)(j:aq ok ρ v C):ag afn P ok str (aq ok) ρ (cF v true t) (cF C true t):=by
 unfold cF;cases j with
 |@ptr a a' r=>
  let⟨b,q,F⟩:=a;let⟨L,z,E⟩:=a';have e:=r.off;simp only at e;subst e;cases z with
  |zero=>
   refine ag.getObj r.blk λo u ho=>?_
   refine aW ?_;cases ho with
   |stringIter s p=>
    dsimp only;split
    .exact ag.setObj r.blk (.stringIter s _) (.pure (.tuple rfl (λi x D h d=>by
      match i with
      |0=>simp at h d;subst h d;exact .bool _
      |1=>simp at h d;subst h d;exact .int _ _
      |2=>simp at h d;subst h d;exact .int _ _
      |i+3=>simp at h)))
    .exact ah (.tuple rfl (λi x D h d=>by
      match i with
      |0=>simp at h d;subst h d;exact .bool _
      |i+1=>simp at h))
   |_=>exact .halt _ _
  |succ n=>exact .halt _ _
 |_=>exact .halt _ _
inductive tO (ok:Ctx)(ρ:Ren):Option (Nat×ai)->Option (Nat×ai)->Prop
 |none:tO ok ρ none none
 |some j {v C:ai}:aq ok ρ v C->tO ok ρ (some (j,v)) (some (j,C))
def tO.mono {σ:Ren}{x y:Option (Nat×ai)}(h:tO ok ρ x y)(l:ρ.le σ):tO ok σ x y:=by
 cases h with
 |none=>exact .none
 |some j h=>exact .some j<|h.mono l
def Pd {k:ByteArray}(h:iL ok ρ l B):∀i,∃x y,aV .string k l i=some x/\aV .string k B i=some y/\tO ok ρ x y:=by
 induction h with
 |nil=>exact λi=>⟨_,_,rfl,rfl,.none⟩
 |cons s n d _ e=>
  intro i;simp only[aV,Instr.sameNow];cases k==s with
  |true=>exact⟨_,_,rfl,rfl,.some i d⟩
  |false=>simp_all
omit [Gl] in
def Hi {d:TypeDesc}(e:mw P t)(h:P.underlying t=some d):d=.string:=by
 grind [mw]
def q_ (j:afn.toTables=P.toTables)(q:P.globals.size=Gl.n)(t:ad)(r:N6 P t)(h:iL ok ρ l B):∀{σ:Ren} (_:ρ.le σ) {k k':ai} (_:aq ok σ k k') i,
  ag afn P ok str (λσ x y=>tO ok σ x y) σ (cP t k l i) (cP t k' B i):=by
 induction h with
 |nil=>exact λ_ _ _ _ _=>ah .none
 |cons s n z _ E=>
  intro σ le k k' e i;refine af _ (G8 j q t r e<|.string s) ?_;rintro υ b _ d rfl;cases b with
  |true=>exact ah (.some i<|z.mono<|le.trans d)
  |false=>exact E (le.trans d) (e.mono d) _
def LA (r:afn.toTables=P.toTables)(E:P.globals.size=Gl.n)(t:ad)(F:mw P t)(K:N6 P t)(z:aq ok ρ k k')(h:iL ok ρ l B):
  ag afn P ok str (λσ x y=>tO ok σ x y) ρ (da t k l) (da t k' B):=by
 refine af _ (am r t) ?_;rintro σ d _ e ⟨rfl,L⟩;obtain rfl:=Hi F L;have i:(aV .string k l 0=none/\aV .string k' B 0=none)\/∃x y,aV .string k l 0=some x/\aV .string k' B 0=some y/\tO ok ρ x y:=by
  cases z with
  |string s=>exact .inr (Pd h 0)
  |hole M=>
   cases h with
   |nil=>exact .inr ⟨_,_,rfl,rfl,.none⟩
   |cons s n _ _=>exact .inl ⟨rfl,by cases k'<;>first|rfl|cases M⟩
  |_=>
   cases h with
   |nil=>exact .inr ⟨_,_,rfl,rfl,.none⟩
   |cons s n _ _=>exact .inl ⟨rfl,rfl⟩
 rcases i with⟨j,q⟩|⟨x,y,j,q,Q⟩
 .rw[j,q];exact q_ r E t K h e (z.mono e) 0
 rw[j,q];exact ah<|Q.mono e
def xj (e:afn.toTables=P.toTables)(b h:Bool) n (t:ad)(i:mw P t)(k k':ai):ag afn P ok str (λ_ _ _=>True) ρ (c5 b (n+1) t k) (c5 h (n+1) t k'):=by
 refine af _ (am e t) ?_;rintro σ d _ q ⟨rfl,j⟩;obtain rfl:=Hi i j;exact ah trivial
omit [Gl] in
def Gg {k e:ad}(h:kR P t)(d:P.underlying t=some (.map k e)):mw P k/\N6 P k/\E9 P e:=by
 unfold kR at h;grind
def ND (e:afn.toTables=P.toTables)(hG:P.globals.size=Gl.n)(t:ad)(ht:kR P t){m:ai}(hm:aq ok ρ m Y)(hk:aq ok ρ k k')(c:Bool):ag afn P ok str (aq ok) ρ (cu t m k c) (cu t Y k' c):=by
 unfold cu;refine af _ (am e t) ?_;rintro σ d _ r ⟨rfl,hd⟩;cases d with
 |map kt et=>
  let⟨h1,h2,h3⟩:=Gg ht hd;have hk:=hk.mono r;cases hm.mono r with
  |map h=>
   refine ag.getObj h λo u ho=>?_
   cases ho with
   |@map es iq n Mu=>
    refine aW<|aW ?_;refine af _ (xj e _ _ _ kt h1 k k') λυ _ _ l2 _=>?_
    refine af _ (LA e hG kt h1 h2 (hk.mono l2)<|Mu.mono l2) ?_;intro υ x y l3 hr;cases hr with
    |none=>
     refine af _ (jY e et h3) λυ z z' _ hz=>aW ?_
     cases c
     .exact ah hz
     .exact ah (uZ hz<|.bool _)
    |some j hv=>
     refine aW ?_;cases c
     .exact ah hv
     .exact ah (uZ hv<|.bool _)
   |_=>exact .halt _ _
  |_=>exact .halt _ _
 |_=>exact .halt _ _
def iL.push (h:iL ok ρ l B)(s:ByteArray) n (d:aq ok ρ v C):iL ok ρ (l++[{key:=s,val:=v,born:=n}]) (B++[{key:=s,val:=C,born:=n}]):=by
 induction h with
 |nil=>exact .cons s n d .nil
 |cons s n h _ e=>exact .cons s n h e
def iL.old (h:iL ok ρ l B)(j:Nat)(s:ByteArray):∃a,((l[j]?).map (·.key)).getD (cM s)=cM a/\((B[j]?).map (·.key)).getD (cM s)=cM a:=by
 induction h generalizing j with
 |nil=>simp_all
 |cons a n _ _ d=>
  cases j with
  |zero=>simp_all
  |succ j=>simp_all
def iL.modify (h:iL ok ρ l B) j (s:ByteArray)(d:aq ok ρ v C):iL ok ρ (l.modify j λe=>{e with key:=s,val:=v}) (B.modify j λe=>{e with key:=s,val:=C}):=by
 induction h generalizing j with
 |nil=>cases j<;>exact .nil
 |cons a n h i q=>
  cases j with
  |zero=>exact .cons s n d i
  |succ j=>exact .cons a n h<|q j
def Ny (Q:afn.toTables=P.toTables)(hG:P.globals.size=Gl.n)(t:ad)(ht:kR P t){m:ai}(hm:aq ok ρ m Y)(s:ByteArray)(F:aq ok ρ v C):ag afn P ok str (λ_ _ _=>True) ρ (cT t m s v) (cT t Y s C):=by
 refine af _ (am Q t) ?_;rintro σ d _ le ⟨rfl,hd⟩;cases d with
 |map kt et=>
  let⟨h1,h2,h3⟩:=Gg ht hd;have F:=F.mono le;cases hm.mono le with
  |map h=>
   refine ag.getObj h λo u ho=>?_
   cases ho with
   |@map es iq n L=>
    refine aW<|af _ (xj Q _ _ _ kt h1 _ _) λυ _ _ r _=>af _ (LA Q hG kt h1 h2 (.string s)<|L.mono r) ?_
    intro υ x y E hr;cases hr with
    |none=>
     refine ag.setObj ((r.trans E) _ _ h) (.map _ ?_)<|.pure trivial;rw[cL,cL];exact(L.mono<|r.trans E).push s n (F.mono<|r.trans E)
    |some j _=>
     let⟨a,e1,e2⟩:=L.old j s;dsimp only;rw[Array.getElem?_toList]at e1 e2;rw[e1,e2];have z:∀{τ:Ren} (b:ByteArray),υ.le τ->ag afn P ok str (λ_ _ _=>True) τ (setObj _<|.map (es.modify j λe=>{e with key:=.string b,val:=v}) n) (setObj _<|.map (iq.modify j λe=>{e with key:=.string b,val:=C}) n):=λ{τ} b S=>by
      refine ag.setObj ((r.trans<|E.trans S) _ _ h) (.map _ ?_)<|.pure trivial;rw[cB,cB];exact(L.mono<|r.trans<|E.trans S).modify j b<|F.mono<|r.trans<|E.trans S
     unfold Instr.keyThatStays;cases Instr.sameBits 10000 (.string a) (.string s)with
     |true=>exact z s (Ren.le_refl _)
     |false=>
      refine ag.choose _ λq=>?_
      show ag afn P ok str _ υ (do setObj _ _) (do setObj _ _);by_cases hq:q=0
      .simp[hq];exact z s<|Ren.le_refl _
      simp[hq];exact z a (Ren.le_refl _)
   |_=>exact .halt _ _
  |_=>exact .halt _ _
 |_=>exact .halt _ _
def abR (hT:afn.toTables=P.toTables)(hG:P.globals.size=Gl.n)(hC:Callable afn P ok)(o:Oper)(ho:jm P ok.fn o.op)(h:lH ok ρ ev R)(hcv:∀v,ev (.const v)=v/\R (.const v)=v)(hcf:∀g,ev (.func g)=.func (.func g) #[] #[]):
  ag afn P ok str (λσ x y=>oy ok σ x y) ρ (execOp ev o) (execOp R o):=by
 unfold execOp;cases bF:o.op with
 |move x=>rw[bF]at ho;exact ah (.value (h x ho))
 |assign x=>rw[bF]at ho;exact ah (.value (h x ho))
 |pick c a b=>
  rw[bF]at ho;cases c with
  |tmp c=>
   simp only[jm,Bool.and_eq_true]at ho;refine af _ (Db (h (.tmp c) rfl)) ?_;rintro σ b _ l rfl;split
   .exact ah (.value ((h _ ho.1).mono l))
   .exact ah (.value ((h _ ho.2).mono l))
  |_=>cases ho
 |alloc t=>rw[bF]at ho;exact bD (Rf hT t ho)
 |box t x=>rw[bF]at ho;exact bD (r_ t (h x ho))
 |build t parts=>
  rw[bF]at ho;simp only[jm,Bool.and_eq_true]at ho;have:=CU h ho.2;exact bD (Rh hT t ho.1 this.1 this.2)
 |buildSlice t n parts=>
  rw[bF]at ho;simp only[jm,Bool.and_eq_true]at ho;have:=CU h ho.2;exact bD (BH hT t n ho.1 this.1 this.2)
 |load t a=>
  rw[bF]at ho;refine bD (af _ (uW (h a ho)) ?_);intro σ x y l r;exact tC hT t r
 |store t a x=>
  rw[bF]at ho;simp only[jm,Bool.and_eq_true]at ho;refine yq (A:=λ_ _ _=>True) (af _ (uW (h a ho.1)) ?_);intro σ b b' l r;exact He hT t r ((h x ho.2).mono l)
 |binOp op t x y u=>
  rw[bF]at ho;simp only[jm,Bool.and_eq_true]at ho;cases p7:mK P op t with
  |false=>
   have hn:wK P op t y=true:=by have:=ho.1.1.2;grind
   have hy:=K1 hn;have e1:ev y=.nilIface:=by rw[hy];grind
   have e2:R y=.nilIface:=by rw[hy];grind
   refine bD ?_;rw[e1,e2];exact Rn hT op t x y hn (h x ho.1.2)
  |true=>
  by_cases hd:ev x=hole\/ev y=hole
  .exact bD (.dead _ _ λV=>JR hT op t p7 x y _ _ hd V)
  refine bD (af _ (JV hT op t p7 x y (h x ho.1.2) (h y ho.2) (λe=>hd (.inl e)) (λe=>hd (.inr e))) ?_);intro σ _ _ l _;exact Rg hT hG op t p7 ((h x ho.1.2).mono l) ((h y ho.2).mono l)
 |unOp op t x=>rw[bF]at ho;exact bD (Rx op (h x ho))
 |makeFunc f a b=>
  rw[bF]at ho;simp only[jm,Bool.and_eq_true]at ho;cases f with
  |func f=>
   have h1:=xN h ho.1.2;have h2:=xN h ho.2;exact ah (.value (.func (.func ho.1.1) h1.size h1.at_ h2.size h2.at_))
  |_=>cases ho.1.1
 |makeSlice t l c=>
  rw[bF]at ho;simp only[jm,Bool.and_eq_true]at ho;exact bD (EL hT t ho.1.1 (h l ho.1.2) (h c ho.2))
 |slice t x a b c=>
  rw[bF]at ho;simp only[jm,Bool.and_eq_true]at ho;exact bD (J2 hT t (h x ho.1.1.1) (Ex h ho.1.1.2) (Ex h ho.1.2) (Ex h ho.2))
 |fieldAddr s x f=>
  rw[bF]at ho;simp only[jm,Bool.and_eq_true]at ho;exact bD (JX hT s f (IL ho.1) (h x ho.2))
 |indexAddr t x i=>
  rw[bF]at ho;simp only[jm,Bool.and_eq_true]at ho;exact bD (JY hT t (h x ho.1) (h i ho.2))
 |index t x i=>
  rw[bF]at ho;simp only[jm,Bool.and_eq_true]at ho;exact bD (Rp hT t (h x ho.1) (h i ho.2))
 |extract x n=>rw[bF]at ho;exact bD (JW (h x ho) n)
 |call c=>rw[bF]at ho;exact Vn hT hC c _ ho h hcf
 |convert a b x=>
  rw[bF]at ho;simp only[jm,Bool.and_eq_true,Bool.or_eq_true]at ho;rcases ho.1 with(HU|HU)|HU
  .exact bD (JT hT a b HU.1 HU.2 (h x ho.2))
  .exact bD (EJ hT a b HU.1 HU.2 (h x ho.2))
  .exact bD (JU hT a b HU.1.1 HU.1.2 HU.2 (h x ho.2))
 |range t x=>
  rw[bF]at ho;simp only[jm,Bool.and_eq_true]at ho;exact bD (Ru hT t ho.1 (h x ho.2))
 |next it b=>
  rw[bF]at ho;simp only[jm,Bool.and_eq_true]at ho;obtain⟨rfl,ho⟩:=ho;exact bD (Vt o.type (h it ho))
 |makeInterface t x=>rw[bF]at ho;exact bD (vU hT t (h x ho))
 |typeAssert x t a c=>
  rw[bF]at ho;simp only[jm,Bool.and_eq_true]at ho;obtain⟨⟨rfl,hz⟩,ho⟩:=ho;exact bD (BJ hT t a hz (h x ho))
 |nilCheck x=>
  rw[bF]at ho;have:=Hc (afn:=afn) (P:=P) (str:=str) hT hC o x bF (h x ho);grind [execOp]
 |makeMap t n=>
  rw[bF]at ho;simp only[jm,Bool.and_eq_true]at ho;cases n with
  |none=>exact bD (ag.new (.map 0 .nil) λσ b c _ e=>.pure (.map e))
  |some n=>grind
 |insert t m k x=>
  rw[bF]at ho;simp only[jm,Bool.and_eq_true]at ho;obtain⟨⟨⟨ho,hk⟩,hm⟩,hx⟩:=ho;unfold abV at hk;split at hk
  .rename_i s;simp only[hcv];exact yq (Ny hT hG t ho (h m hm) s (h x hx))
  grind
 |lookup t m k c=>
  rw[bF]at ho;simp only[jm,Bool.and_eq_true]at ho;exact bD (ND hT hG t ho.1.1 (h m ho.1.2) (h k ho.2) c)
 |_=>rw[bF]at ho;cases ho
end
end
section
variable [Gl]
def codeOk (P:ao)(fn:a7->Bool):cd->Bool
 |.skip|.ret|.exit _|.refuse _=>true
 |.seq a b=>codeOk P fn a&&codeOk P fn b
 |.cond c a b=>dq fn c&&codeOk P fn a&&codeOk P fn b
 |.block _ b|.loop b=>codeOk P fn b
 |.region _ ops _=>ops.all (λo=>jm P fn o.op)
 |.rangeFunc f _ a b=>dq fn f&&codeOk P fn a&&codeOk P fn b
 |_=>false
def wQ (k:Int)(x y:aL):Op:=if k=0 then .convert 38 87 x else if k=1 then .convert 87 38 x else if k=2 then .binOp .neq 38 x y 38 else if k=3 then .binOp .eql 38 x y 38 else .binOp .eql 43 x y 43
def dead:Op->Option Op
 |.binOp .add 0 (.const true) y 0=>some (.panic y)
 |.binOp .sub 0 (.const true) y 0=>some (.defer {callee:=.value y,args:=#[],argTypes:=#[]})
 |.binOp .mul 0 (.const true) (.const true) 0=>some (.alloc 0)
 |.pick (.const<|bv .i64 k) x y=>some (wQ k x y)
 |_=>none
def Wf:Op:=.binOp .mul 0 (.const true) (.const true) 0
def MZ {o}(h:jm P fn o):dead o=none:=by
 unfold dead;split
 .cases h
 .cases h
 .cases h
 .cases h
 rfl
def uQ (fn:a7->Bool):Op->Bool
 |.call {callee:=.builtin .unsafeSliceData,args,..}=>args.all (dq fn)
 |_=>false
def VU (P:ao)(fn:a7->Bool)(o u:cq):Prop:=(u=o/\jm P fn o.op)\/(u.op=o.op/\o.type=1000000000/\uQ fn o.op)\/(o.op=.assign (.const hole)/\(u.op=.assign (.const<|.map none)\/u.op=.assign (.const hole)))
def VU.dead (h:VU P fn o u):Proofs.YtjoalkgmgmmedaaGreatDoor.dead o.op=none/\∀c,o.op≠.defer c/\u.op≠.defer c:=by
 rcases h with⟨rfl,h⟩|⟨h,_,q⟩|⟨r,q⟩
 .exact⟨MZ h,λc=>⟨λe=>(by rw[e]at h;cases h),λe=>(by rw[e]at h;cases h)⟩⟩
 .rw[h];refine⟨?_,λc=>⟨λe=>(by rw[e]at q;cases q),λe=>(by rw[e]at q;cases q)⟩⟩;unfold uQ at q;split at q
  .rename_i e;rw[e];rfl
  grind
 rw[r];refine⟨rfl,λc=>⟨cO,?_⟩⟩;grind
def pM (P:ao)(fn:a7->Bool)(a b:Array cq):Prop:=a.size=b.size/\∀(i:Nat) (o u:cq),a[i]?=some o->b[i]?=some u->u.dst=o.dst/\(u.guard=o.guard/\u.after=o.after)/\(VU P fn o u\/dead o.op=some u.op\/(Gl.XA P/\u=o/\(dead o.op).isSome)\/o.op=Wf)
inductive Dv (P:ao)(fn:a7->Bool):cd->cd->Prop
 |same {c:cd}:codeOk P fn c->Dv P fn c c
 |seq {a a' b b':cd}:Dv P fn a a'->Dv P fn b b'->Dv P fn (.seq a b) (.seq a' b')
 |cond {x:aL} {a a' b b':cd}:dq fn x->Dv P fn a a'->Dv P fn b b'->Dv P fn (.cond x a b) (.cond x a' b')
 |block {id:Nat} {a a':cd}:Dv P fn a a'->Dv P fn (.block id a) (.block id a')
 |loop {a a':cd}:Dv P fn a a'->Dv P fn (.loop a) (.loop a')
 |region {id:Nat} {a b:Array cq} (d:Bool):pM P fn a b->Dv P fn (.region id a d) (.region id b d)
inductive qd (P:ao)(ok:Ctx)(ρ:Ren):ct->ct->Prop
 |code {c c':cd}:Dv P ok.fn c c'->qd P ok ρ (.code c) (.code c')
 |inBlock id:qd P ok ρ (.inBlock id) (.inBlock id)
 |inLoop {c c':cd}:Dv P ok.fn c c'->qd P ok ρ (.inLoop c) (.inLoop c')
 |inRegion {a b:Array cq} (todo:List Nat):pM P ok.fn a b->qd P ok ρ (.inRegion a todo) (.inRegion b todo)
 |inRangeFunc {l B:Nat}:ρ l=some B->qd P ok ρ (.inRangeFunc l) (.inRangeFunc B)
 |endRangeFunc {l B:Nat}:ρ l=some B->qd P ok ρ (.endRangeFunc l) (.endRangeFunc B)
 |beginRound:qd P ok ρ .beginRound .beginRound
inductive lJ (P:ao)(ok:Ctx)(ρ:Ren):List ct->List ct->Prop
 |nil:lJ P ok ρ [] []
 |cons {x D:ct} {l B:List ct}:qd P ok ρ x D->lJ P ok ρ l B->lJ P ok ρ (x::l) (D::B)
inductive lK (ok:Ctx)(ρ:Ren):List bb->List bb->Prop
 |nil:lK ok ρ [] []
 |cons (r g:Bool) {v C:ai} {l B:List bb}:aq ok ρ v C->lK ok ρ l B->lK ok ρ ({v,recovered:=r,goexit:=g}::l) ({v:=C,recovered:=r,goexit:=g}::B)
inductive yB (ok:Ctx)(ρ:Ren):dk->dk->Prop
 |run:yB ok ρ .run .run
 |returning:yB ok ρ .returning .returning
 |panicking {c c':List bb}:lK ok ρ c c'->yB ok ρ (.panicking c) (.panicking c')
inductive yD (ρ:Ren):Option Nat->Option Nat->Prop
 |none:yD ρ none none
 |some {l B:Nat}:ρ l=some B->yD ρ (some l) (some B)
structure cU (P:ao)(ok:Ctx)(ρ:Ren)(fr A:aI):Prop where
 fn:A.fn=fr.fn
 aN:ok.aN fr.fn
 tmps:aA ok ρ fr.tmps A.tmps
 todo:lJ P ok ρ fr.todo A.todo
 defers:jw ok ρ fr.defers A.defers
 mode:yB ok ρ fr.mode A.mode
 kind:fr.kind=.normal\/fr.kind=.deferred
 eu:A.kind=fr.kind
 round:yD ρ fr.roundOf A.roundOf
inductive ja (P:ao)(ok:Ctx)(ρ:Ren):List aI->List aI->Prop
 |nil:ja P ok ρ [] []
 |cons {f f':aI} {l B:List aI}:cU P ok ρ f f'->ja P ok ρ l B->ja P ok ρ (f::l) (f'::B)
section
variable {ρ σ:Ren}
def qd.mono {x D:ct}(h:qd P ok ρ x D)(l:ρ.le σ):qd P ok σ x D:=by
 cases h with
 |code h=>exact .code h
 |inBlock id=>exact .inBlock id
 |inLoop h=>exact .inLoop h
 |inRegion t h=>exact .inRegion t h
 |inRangeFunc h=>exact .inRangeFunc (l _ _ h)
 |endRangeFunc h=>exact .endRangeFunc (l _ _ h)
 |beginRound=>exact .beginRound
def lJ.mono {x D:List ct}(h:lJ P ok ρ x D)(l:ρ.le σ):lJ P ok σ x D:=by
 exact L_
def lK.mono {x D:List bb}(h:lK ok ρ x D)(l:ρ.le σ):lK ok σ x D:=by
 induction h with
 |nil=>exact .nil
 |cons r g h _ d=>exact .cons r g (h.mono l) d
def lK.append {a a' b d:List bb}(h:lK ok ρ a a')(e:lK ok ρ b d):lK ok ρ (a++b) (a'++d):=by
 induction h with
 |nil=>exact e
 |cons r g h _ i=>exact .cons r g h i
def lK.drop {x D:List bb}(h:lK ok ρ x D):lK ok ρ (x.dropWhile (!·.goexit)) (D.dropWhile (!·.goexit)):=by
 induction h with
 |nil=>exact .nil
 |cons r g h d e=>
  cases g with
  |false=>exact e
  |true=>exact .cons r true h d
def yB.mono {m Y:dk}(h:yB ok ρ m Y)(l:ρ.le σ):yB ok σ m Y:=by
 cases h with
 |run=>exact .run
 |returning=>exact .returning
 |panicking h=>exact .panicking<|h.mono l
def pM.of (h:a.all (λo=>jm P fn o.op)):pM P fn a a:=by
 refine⟨rfl,λi o u e d=>?_⟩;rw[e]at d;obtain rfl:=afQ d;refine⟨rfl,⟨rfl,rfl⟩,bR<|bR ⟨rfl,?_⟩⟩;grind
def yD.mono {x D}(h:yD ρ x D)(l:ρ.le σ):yD σ x D:=by
 cases h with
 |none=>exact .none
 |some h=>exact .some<|l _ _ h
def cU.mono {f r:aI}(h:cU P ok ρ f r)(l:ρ.le σ):cU P ok σ f r:=⟨h.fn,h.aN,h.tmps.mono l,h.todo.mono l,h.defers.mono l,h.mode.mono l,h.kind,h.eu,h.round.mono l⟩
def ja.mono {f r:List aI}(h:ja P ok ρ f r)(l:ρ.le σ):ja P ok σ f r:=by
 exact L_
def lJ.exit {id:Nat}:∀{l B:List ct},lJ P ok ρ l B->(db id l=none/\db id B=none)\/∃k k',db id l=some k/\db id B=some k'/\lJ P ok ρ k k':=by
 intro l B h;induction h with
 |nil=>exact bR ⟨rfl,rfl⟩
 |@cons x D l B d j e=>
  cases d with
  |inBlock i=>
   grind [db]
  |_=>exact e
end
def DQ (f:aI):Option Nat×CallKind:=(f.roundOf,f.kind)
def wh (fr:aI)(cs:List aI):Prop:=∀f,(fr::cs).getLast?=some f->DQ f=(none,.normal)
inductive qc (afn P:ao)(ok:Ctx)(σ:Ren)(J rb:List aI):cI->cI->Prop
 |inside {fr A:aI} {cs cs':List aI}:cU P ok σ fr A->ja P ok σ cs cs'->wh fr cs->qc afn P ok σ J rb (G fr<|cs++J) (G A<|cs'++rb)
 |door {f:a7} {xs xs':Array ai} {cs cs':List aI}:ok.fn f->ok.aN f=false->aA ok σ xs xs'->ja P ok σ cs cs'->cs≠[]->(∀f,cs.getLast?=some f->DQ f=(none,.normal))->
   qc afn P ok σ J rb (G (bB afn f xs .normal)<|cs++J) (G (bB P f xs' .normal)<|cs'++rb)
structure Same (afn P:ao)(ok:Ctx):Prop where
 same:∀f,ok.aN f->∃fn c c',afn.funcs[f]?=some fn/\P.funcs[f]?=some {fn with body:=some c'}/\fn.body=some c/\Dv P ok.fn c c'
 YT:afn.follows .rangeFuncRecover/\P.follows .rangeFuncRecover
 code:∀c,ok.code c=codeOk P ok.fn c
omit [Gl] in
def kD (p:ao)(fn:a7)(es:Array b0):∀e∈b7 p fn es,e∈es:=by
 unfold b7;simp only;have aF:∀(l:List b0) (q:Bool) (r:Array b0) (S:b0->Prop),(∀e∈l,S e)->(∀e∈r,S e)->
   ∀e∈(l.foldl (λ(x:Bool×Array b0) (e:b0)=>match e.loc with|.mark (.extern f)=>((p.funcs[f]?).any (·.norace),x.2)|_=>(x.1,if x.1&&!e.sync then x.2 else x.2.push e)) (q,r)).2,S e:=by
  intro l;induction l with
  |nil=>grind
  |cons a l ih=>
   intro q r S hl hk e he;simp only[List.foldl_cons]at he;split at he
   .exact ih _ _ S (λx hx=>hl x gC) hk e he
   refine ih _ _ S (λx hx=>hl x gC) ?_ e he;grind
 intro e he;rw[<-bM]at he;exact aF es.toList _ #[] (λe=>e∈es) (λx hx=>gC) (λx hx=>by simp at hx) e he
section
variable {ρ σ:Ren}
def pM.dst (h:pM P fn a b)(i:Nat):(b[i]?).bind (·.dst)=(a[i]?).bind (·.dst):=by
 cases e:a[i]? with
 |none=>rw[au.2 (by rw[<-h.1];exact au.1 e)]
 |some o=>
  have d:b[i]?=some (b[i]'(by rw[<-h.1];exact((afM.1 e).1))):=afR _
  rw[d];exact(h.2 i o _ e d).1
def cU.finish (h:cU P ok ρ fr A)(K:aq ok ρ v C):cU P ok ρ (fr.finish v) (A.finish C):=by
 let⟨fn,q,r,e,z,E,d⟩:=fr;let⟨Q,S,X,cX,pJ,eu,bp⟩:=A;cases h.todo with
 |nil=>exact h
 |cons L j=>
  cases L with
  |inRegion t F=>
   cases t with
   |nil=>exact h
   |cons i rest=>
    refine⟨h.fn,h.aN,?_,.cons (.inRegion _ F) j,h.defers,h.mode,h.kind,h.eu,h.round⟩;unfold bV;simp;rw[F.dst i];split
    .exact h.tmps.set K _
    exact h.tmps
  |inRangeFunc M=>exact⟨h.fn,h.aN,h.tmps,.cons (.endRangeFunc M) j,h.defers,h.mode,h.kind,h.eu,h.round⟩
  |beginRound=>exact⟨h.fn,h.aN,h.tmps,j,h.defers,h.mode,h.kind,h.eu,h.round⟩
  |_=>exact h
omit [Gl] in
def ey (fr:aI) v:DQ (fr.finish v)=DQ fr:=by
 unfold bV;split<;>rfl
omit [Gl] in
def qL (fr:aI)(c:List bb):DQ (fr.raise c)=DQ fr:=by
 unfold cA;split<;>rfl
omit [Gl] in
def wh.swap (h:wh fr cs)(e:DQ fr2=DQ fr):wh fr2 cs:=by
 intro f r;cases cs with
 |nil=>
  simp at r;subst r;rw[e];exact h fr rfl
 |cons c cs=>exact h f yO
omit [Gl] in
def wh.push (h:wh fr cs):wh fr2 (fr::cs):=yO
omit [Gl] in
def wh.pop (h:wh fr (c::cs))(e:DQ fr2=DQ c):wh fr2 cs:=by
 have:wh c cs:=λf r=>h f yO
 exact this.swap e
def lp (hS:Same afn P ok)(hf:ok.aN f)(h:aA ok ρ xs xs')(k:CallKind:=.normal)(hk:k=.normal\/k=.deferred:=by simp):cU P ok ρ (Frame.enter afn f xs k) (Frame.enter P f xs' k):=by
 let⟨fn,c,c',h1,h2,h3,h4⟩:=hS.same f hf;unfold Frame.enter;rw[h1,h2];simp[h3];refine⟨rfl,hf,?_,.cons (.code h4) .nil,.nil,.run,hk,rfl,.none⟩;rw[<-h.size];exact h.append<|aA.replicate jT _
theorem cU.raise (h:cU P ok ρ fr A){c c':List bb}(hc:lK ok ρ c c'):cU P ok ρ (fr.raise c) (A.raise c'):=by
 let⟨fn,tmps,r,q,z,kind,e⟩:=fr;let⟨d7,dt,gS,cX,pJ,eu,bp⟩:=A;cases h.mode with
 |panicking hp=>exact⟨h.fn,h.aN,h.tmps,h.todo,h.defers,.panicking<|hc.append hp,h.kind,h.eu,h.round⟩
 |_=>exact⟨h.fn,h.aN,h.tmps,h.todo,h.defers,.panicking hc,h.kind,h.eu,h.round⟩
def tY (c:aI):Frame:=
 match c.mode with
 |.panicking ({recovered:=true,..}::e)=>
  match e.dropWhile (!·.goexit)with
  |[]=>{c with mode:=.returning}
  |rest=>{c with mode:=.panicking rest}
 |_=>c
def kI (k:dv)(c:aI)(v:ai):Frame:=if k=.normal then c.finish v else tY c
omit [Gl] in
theorem gH (h:fr.kind=.normal\/fr.kind=.deferred):c0 p m fr (c::cs) none v w=.go (G (kI fr.kind c v) cs) w:=by
 rcases h with h|h<;>simp[c0,h]<;>rfl
def cU.back (h:cU P ok ρ fr A):cU P ok ρ (tY fr) (tY A):=by
 unfold tY;let⟨fn,q,z,e,E,F,d⟩:=fr;let⟨M,Q,S,X,pJ,eu,bp⟩:=A;cases h.mode with
 |panicking L=>
  cases L with
  |nil=>omega
  |cons r g K i=>
   cases r with
   |false=>omega
   |true=>
    simp;have j:=i.drop;revert j;generalize List.dropWhile _ _=a;generalize List.dropWhile _ _=b;intro j;cases j with
    |nil=>exact⟨h.fn,h.aN,h.tmps,h.todo,h.defers,.returning,h.kind,h.eu,h.round⟩
    |cons r g K i=>exact⟨h.fn,h.aN,h.tmps,h.todo,h.defers,.panicking<|.cons r g K i,h.kind,h.eu,h.round⟩
 |_=>omega
def cU.Xv (k:dv)(h:cU P ok ρ fr A)(d:aq ok ρ v C):cU P ok ρ (kI k fr v) (kI k A C):=by
 unfold kI;split
 .exact h.finish d
 exact h.back
omit [Gl] in
def xd (k:dv)(fr:aI) v:DQ (kI k fr v)=DQ fr:=by
 unfold kI tY;split
 .exact ey _ _
 split
 .split<;>rfl
 rfl
def cU.early (h:cU P ok ρ fr A):(fr.kind==bz)=false/\(A.kind==bz)=false:=by
 rw[h.eu];rcases h.kind with e|e<;>rw[e]<;>exact⟨rfl,rfl⟩
def lJ.QB {l B:List ct}(h:lJ P ok ρ l B):(∀d b r s k,l≠.call d b r s::k)/\∀d b r s k,B≠.call d b r s::k:=by
 cases h with
 |nil=>grind
 |cons h _=>cases h<;>exact⟨aP,aP⟩
omit [Gl] in
def mI (hr:s.runT p w #[]=(.ok (.enter f xs) w',es))(hn:∀d b r s k,fr.todo≠.call d b r s::k)(hk:(fr.kind==bz)=false):
  ac p true fr cs none s w=.go (G (bB p f xs .normal)<|fr::cs) w' (b7 p fr.fn es):=by
 let⟨fn,tmps,aF,a1,a2,kind,aZ⟩:=fr;simp only at hk hn;cases aF with
 |nil=>simp only[ac,hr,aa,hk];simp[G]
 |cons x l=>
  cases x with
  |call d b r s=>grind
  |_=>simp only[ac,if_true,hr,aa,hk];simp[G]
def vH (fr:aI)(cs:List aI):Goroutine:=
 match bi fr cs with
 |some (v,cs')=>G (fr.finish v) cs'
 |none=>G (fr.finish .nilIface) cs
omit [Gl] in
def nE (e:p.follows .rangeFuncRecover)(q:s.runT p w #[]=(.ok .recover w',es))(hk:(fr.kind==bz)=false):
  ac p true fr cs none s w=.go (vH fr cs) w' (b7 p fr.fn es):=by
 simp only[ac,q,aa,e];grind [vH,G]
def U4 (hf:cU P ok ρ fr A)(hc:ja P ok ρ cs cs')(hb:wh fr cs):qc afn P ok ρ J rb (vH fr<|cs++J) (vH A<|cs'++rb):=by
 have no:bi fr (cs++J)=none->bi A (cs'++rb)=none->qc afn P ok ρ J rb (vH fr<|cs++J) (vH A<|cs'++rb):=λe e'=>by
  simp[vH,e,e'];exact .inside (hf.finish .nilIface) hc<|hb.swap<|ey _ _
 rcases hf.kind with e|e
 .have e':=hf.eu.trans e;grind [bi]
 have e':=hf.eu.trans e;cases hc with
 |nil=>
  have:=hb fr rfl;grind [DQ]
 |@cons c c' cs cs' h1 h2=>
  let⟨fn,tmps,a1,aZ,a2,kind,aF⟩:=c;let⟨d7,dt,gS,cX,pJ,eu,bp⟩:=c';cases h1.mode with
  |panicking hp=>
   cases hp with
   |nil=>grind [bi]
   |@cons r g v C l B hv hl=>
    cases r with
    |true=>grind [bi]
    |false=>
     cases g with
     |true=>grind [bi]
     |false=>
      simp[vH,bi,e,e'];refine .inside (cs:=⟨fn,tmps,a1,aZ,.panicking _,kind,aF⟩::cs) (cs':=⟨d7,dt,gS,cX,.panicking _,eu,bp⟩::cs') (hf.finish hv) (.cons ⟨h1.fn,h1.aN,h1.tmps,h1.todo,h1.defers,.panicking<|.cons true false hv hl,h1.kind,h1.eu,h1.round⟩ h2) ?_;intro f Oe;cases cs with
      |nil=>
       simp at Oe;subst Oe;exact hb ⟨fn,tmps,a1,aZ,.panicking<|{v,recovered:=false}::l,kind,aF⟩ rfl
      |cons d ds=>exact hb f yO
  |_=>grind [bi]
def vl (hS:Same afn P ok){s':Sem dS}(hR:ag afn P ok str (λσ x y=>oy ok σ x y) ρ s s')(hf:cU P ok ρ fr A)(hc:ja P ok ρ cs cs')(hb:wh fr cs)
  (hw:bw ok str ρ V W)
  (h:ac afn true fr (cs++J) none s V=.go O N es):
  ∃σ h2 U DO,ac P true A (cs'++rb) none s' W=.go h2 U DO/\qc afn P ok σ J rb O h2/\bw ok str σ N U/\Kept ρ V W σ N U/\∀e∈DO,pL σ V e:=by
 let⟨E5,Mw⟩:=hf.early;have kY:=hf.todo.QB;generalize hr:s.runT afn V #[]=x at h;let⟨r,e1⟩:=x;rcases hR.sound #[] #[] hw hr with dZ|⟨σ,r',V',W',d',h1,h2,h4,h5⟩
 .exfalso;cases r with
  |ok a w=>cases dZ
  |halt hh w=>
   cases hh with
   |stuck y=>simp only[ac,if_true,hr,aa]at h;grind
   |unsupported u=>
    cases u with
    |initOrder g=>cases dZ
    |_=>simp only[ac,if_true,hr,aa]at h;grind
   |_=>cases dZ
 have oj:∀e∈b7 P A.fn d',pL σ V e:=λe he=>h5 e<|kD _ _ _ e he
 have nv:s'.runT P W #[]=(r',d'):=by rw[h1];simp
 have Oe:=hf.mono h4.le;have Cu:=hc.mono h4.le;cases h2 with
 |@ok a b V' W' hN aF=>
  cases hN with
  |@value v C hv=>
   simp only[ac,if_true,hr,E5]at h;obtain⟨rfl,rfl,_⟩:=h;refine⟨σ,G (A.finish C)<|cs'++rb,W',_,?_,.inside (Oe.finish hv) Cu<|hb.swap<|ey _ _,aF,h4,oj⟩;simp only[ac,if_true,nv,aa,Mw];simp[G]
  |skip=>
   simp only[ac,if_true,hr,E5]at h;obtain⟨rfl,rfl,_⟩:=h;refine⟨σ,G (A.finish undef)<|cs'++rb,W',_,?_,.inside (Oe.finish jT) Cu<|hb.swap<|ey _ _,aF,h4,oj⟩;simp only[ac,if_true,nv,aa,Mw];simp[G]
  |@enter f xs xs' eF hx=>
   rw[mI hr kY.1 E5]at h;simp at h;obtain⟨rfl,rfl,_⟩:=h;refine⟨σ,G (bB P f xs' .normal)<|(A::cs')++rb,W',_,mI nv kY.2 Mw,?_,aF,h4,oj⟩;cases hi:ok.aN f with
   |true=>exact .inside (cs:=fr::cs) (lp hS hi hx) (.cons Oe Cu) hb.push
   |false=>exact .door (cs:=fr::cs) eF hi hx (.cons Oe Cu) aP hb
  |recover=>
   rw[nE hS.YT.1 hr E5]at h;simp at h;obtain⟨rfl,rfl,_⟩:=h;exact⟨σ,vH A<|cs'++rb,W',_,nE hS.YT.2 nv Mw,U4 Oe Cu hb,aF,h4,oj⟩
  |@round l B f xs xs' a b hl hi hx ha dl=>
   simp only[ac,if_true,hr,E5]at h;obtain⟨rfl,rfl,_⟩:=h;refine⟨σ,G (Frame.round B f xs' a b .normal)<|(A::cs')++rb,W',_,?_,.inside (cs:=fr::cs) ⟨rfl,hi,hx,.cons (.code<|.same<|(hS.code _).symm.trans ha)<|.cons .beginRound<|.cons (.code<|.same<|(hS.code _).symm.trans dl) .nil,.nil,.run,bR rfl,rfl,.some hl⟩ (.cons Oe Cu) hb.push,aF,h4,oj⟩
   .simp only[ac,if_true,nv,aa,Mw];simp[G]
 |@panic v C V' W' hv aF=>
  simp only[ac,if_true,hr,E5]at h;obtain⟨rfl,rfl,_⟩:=h;refine⟨σ,G (A.raise [{v:=C,recovered:=false}])<|cs'++rb,W',_,?_,.inside (Oe.raise<|.cons _ _ hv .nil) Cu<|hb.swap<|qL _ _,aF,h4,oj⟩;simp only[ac,if_true,nv,aa,Mw];simp[G]
end
section
variable {afn P:ao}{ok:Ctx}{str:Bool}{ρ σ τ:Ren}{V W V1 W1 N U:a8}
def pL.shift (z:Kept ρ V W σ V1 W1)(k2:Kept σ V1 W1 τ N U){e:b0}(h:pL τ V1 e):pL τ V e:=by
 have key:∀b d,τ b=some d->Ro V b->Ro V1 b:=by
  intro b d hb q;let⟨c,el,hc⟩:=q;have aF:=(afM.1 hc).1;rcases k2.new _ _ hb with h1|⟨h1,_⟩
  .rcases z.new _ _ h1 with h2|⟨h2,_⟩
   .exact⟨c,el,by rw[(z.ro _ _ h2 ⟨c,el,hc⟩).1];exact hc⟩
   omega
  have:=z.C6;omega
 rcases h with⟨s,a,a',e1,r,w⟩|⟨s,r,r',e1,h,n⟩|h
 .exact bR ⟨s,a,a',e1,r,λhw q=>w hw<|key _ _ r.blk q⟩
 .exact cp (bR ⟨s,r,r',e1,h,λq=>n<|key _ _ h q⟩)
 exact cp<|cp h
def Rs {f f':α->Sem ai}{l:List α}:∀{ρ:Ren},(∀a∈l,∀{σ:Ren},ρ.le σ->ag afn P ok str (aq ok) σ (f a) (f' a))->ag afn P ok str (λσ x y=>iK ok σ x y) ρ (l.mapM f) (l.mapM f'):=by
 induction l with
 |nil=>simp;exact ah .nil
 |cons a l ih=>
  intro ρ h;simp;exact af _ (h a aP<|Ren.le_refl _)<|λσ x D le hx=>af _ (ih λb hb _ r=>h b cO<|le.trans r)<|λτ xs xs' r vh=>ah<|.cons (hx.mono r) vh
def pz (i:afn.toTables=P.toTables)(fn:Func)(h:aA ok ρ xs xs'):ag afn P ok str (aq ok) ρ (b8 fn xs) (b8 fn xs'):=by
 unfold b8;rw[cb,cb];refine af (λσ x y=>aA ok σ x y) ?_ ?_
 .refine af _ (Rs ?_) (λσ x y _ d=>ah d.array);intro a _ σ j;cases a with
  |tmp t=>exact ah ((h.mono j).getD t)
  |cell a t=>
   exact af _ (vO i<|(h.mono j).getD a)<|λτ x y _ r=>tC i t r
 intro σ x y _ d;by_cases e:x.size=1
 .rw[dif_pos e,dif_pos (d.size▸e)];exact ah<|d.at_ 0 _ _ (afR _)<|afR _
 rw[dif_neg e,dif_neg (d.size▸e)];exact ah<|.tuple d.size d.at_
def xk {l B:Nat}(q:ρ l=some B)(e:Option cd)(z:∀c,e=some c->ok.code c):ag afn P ok str (aq ok) ρ (a9 l e) (a9 B e):=by
 apply af _<|mo q;exact λσ r r' le hr=>ag.setObj (le _ _ q) (.loop ⟨rfl,rfl,hr.fn,hr.tmps,hr.params,hr.assign,hr.body,hr.defers,hr.aN,hr.ok1,hr.ok2,z⟩)<|.pure (.bool _)
def sA (h:afn.toTables=P.toTables){l B:Nat}(e:ρ l=some B):ag afn P ok str (λ_ _ _=>True) ρ (cS l) (cS B):=by
 apply af _<|mo e;refine λσ r j i d=>ag.setObj (i _ _ e) (.loop ⟨rfl,d.pending,d.fn,d.tmps,d.params,d.assign,d.body,d.defers,d.aN,d.ok1,d.ok2,d.ok3⟩) ?_
 rw[d.state];cases r.state with
 |ready=>exact ah trivial
 |_=>exact ij h (.error _) rfl
def AD (q:afn.toTables=P.toTables){l B:Nat}(e:ρ l=some B):ag afn P ok str (λ_ x y=>x=y/\∀c,x=some c->ok.code c) ρ (bj l) (bj B):=by
 apply af _<|mo e;intro σ r r' z hr;rw[hr.state];split
 .exact ij q (.error _) rfl
 exact ag.setObj (z _ _ e) (.loop ⟨rfl,hr.pending,hr.fn,hr.tmps,hr.params,hr.assign,hr.body,hr.defers,hr.aN,hr.ok1,hr.ok2,hr.ok3⟩)<|.pure ⟨hr.pending.symm,hr.ok3⟩
def LC {r d:Nat}(hr:ρ r=some d):ag afn P ok str (λσ x y=>jw ok σ x y) ρ (ay r) (ay d):=by
 refine ag.getObj hr λo u ho=>?_
 cases ho with
 |deferred h=>exact ag.setObj hr .taken (.pure h)
 |_=>exact .halt _ _
def uU (fn:a7)(hi:ok.aN fn)(h:aA ok ρ xs xs')(params:Array Tmp){a b:cd}(ha:ok.code a)(hb:ok.code b){r r':Option Nat}(hr:yD ρ r r'):
  ag afn P ok str (λσ x y=>σ x.1=some y.1/\jw ok σ x.2 y.2) ρ (a0 fn xs params a b r) (a0 fn xs' params a b r'):=by
 have fin:∀{σ:Ren} {d d':Nat} {m Y:List c4},ρ.le σ->σ d=some d'->jw ok σ m Y->
   ag afn P ok str (λσ x y=>σ x.1=some y.1/\jw ok σ x.2 y.2) σ (do pure (<-newObj (.loop {state:=.ready,pending:=none,fn,tmps:=xs,params,assign:=a,body:=b,defers:=d}),m))
    (do pure (<-newObj (.loop {state:=.ready,pending:=none,fn,tmps:=xs',params,assign:=a,body:=b,defers:=d'}),Y)):=by
  intro σ d d' m Y le hd hm;refine ag.new (.loop ⟨rfl,rfl,rfl,h.mono le,rfl,rfl,rfl,hd,hi,ha,hb,aP⟩) ?_;intro τ x y le' e;exact .pure ⟨e,hm.mono le'⟩
 cases hr with
 |none=>
  exact ag.new (.deferred .nil)<|λσ x y le e=>fin le e (.cons (.mark e) .nil)
 |some hl=>
  exact af _ (mo hl)<|λσ q q' le hq=>fin le hq.defers .nil
def cU.eval (h:cU P ok ρ fr A)(hg:∀g,ok.fn (2000000+g)->ρ g=some g):lH ok ρ fr.eval A.eval:=by
 intro x r;cases x with
 |tmp t=>exact h.tmps.getD t
 |const v=>exact tH r
 |global g=>exact .ptr ⟨hg g r,rfl,rfl⟩
 |func f=>exact .func (.func r) rfl aA.nil.at_ rfl aA.nil.at_
def tI (h:aA ok ρ xs xs'){ops e:Array cq}(q:pM P ok.fn ops e):dC e xs'=dC ops xs:=by
 funext j;unfold dC;rw[q.dst j];cases ((ops[j]?).bind (·.dst))with
 |none=>rfl
 |some d=>
  simp;cases i:xs[d]? with
  |none=>rw[h.none i]
  |some x=>
   let⟨D,z,r⟩:=h.get i;rw[z];cases r with
   |hole h=>cases D<;>first|rfl|cases h
   |_=>rfl
structure dQ (afn P:ao)(ok:Ctx):Prop extends Callable afn P ok,Same afn P ok where
 tab:afn.toTables=P.toTables
 IP:P.globals.size=Gl.n
 OK:afn.funcs.size<=1999999
def dR (afn P:ao)(ok:Ctx)(str:Bool)(ρ:Ren)(J rb:List aI)(V W:a8)(O:cI)(N:a8)(s:dN):Prop:=
 ∃σ q U r,s=.go q U r/\qc afn P ok σ J rb O q/\bw ok str σ N U/\Kept ρ V W σ N U/\∀e∈r,pL σ V e
omit [Gl] in
def fY {o:Outcome}(h:aa es (.ended o w)=.go g w' iq):False:=by
 grind [aa]
def vC (z:cU P ok ρ fr A)(hc:ja P ok ρ cs cs')(hb:wh fr cs)(hw:bw ok str ρ V W)
  (q:Option cd)(hj:∀c,q=some c->ok.code c){l B:Nat}(hr:fr.roundOf=some l)(hl:ρ l=some B)
  (h:(let(r,es):=(a9 l q).runT afn V #[];aa (b7 afn fr.fn es)<|match r with|.ok v w=>c0 afn Jw fr (cs++J) none v w|.halt _ w=>.ended (.stuck "range over a function: no such loop"<|fr.pos afn) w)=.go O N es):
  dR afn P ok str ρ J rb V W O N (let(r,es):=(a9 B q).runT P W #[];aa (b7 P A.fn es)<|match r with|.ok v w=>c0 P T A (cs'++rb) none v w|.halt _ w=>.ended (.stuck "range over a function: no such loop"<|A.pos P) w):=by
 generalize fO:(a9 l q).runT afn V #[]=x at h;let⟨r,e1⟩:=x;rcases(xk hl q hj).sound #[] #[] hw fO with dZ|⟨σ,r',V',W',d',h1,h2,h4,h5⟩
 .exfalso;cases r with
  |ok a w=>cases dZ
  |halt hh w=>exact fY h
 have nv:(a9 B q).runT P W #[]=(r',d'):=by rw[h1];simp
 cases h2 with
 |panic _ _=>exact(fY h).elim
 |@ok v C V' W' hv aF=>
  cases hc with
  |nil=>
   have:=hb fr rfl;simp[DQ,hr]at this
  |@cons c c' cs cs' Cv aZ=>
   simp[gH z.kind]at h;obtain⟨rfl,rfl,_⟩:=h;refine⟨σ,G (kI fr.kind c' C)<|cs'++rb,W',b7 P A.fn d',?_,.inside ((Cv.mono h4.le).Xv _ hv) (aZ.mono h4.le)<|hb.pop<|xd _ _ _,aF,h4,λe he=>h5 e<|kD _ _ _ e he⟩;rw[nv];simp[gH (z.eu▸z.kind),z.eu,aa]
end
section
variable {ρ σ τ:Ren}
omit [Gl] in
def rE (h:fr.mode=.run):dd p m (G fr cs) w=aB p m true fr cs none w:=by
 grind [G,dd]
omit [Gl] in
def gn (h:fr.mode≠.run):dd p m (G fr cs) w=unwind p m fr cs none w:=by
 grind [G,dd]
def dE {fr2':aI}(q:cU P ok ρ fr2 fr2')(hc:ja P ok ρ cs cs')(hb:wh fr cs)(e:DQ fr2=DQ fr)(hw:bw ok str ρ V W)
  {s s':dN}(h:s=.go O N es)(hs:s=.go (G fr2<|cs++J) V)(r:s'=.go (G fr2'<|cs'++rb) W):dR afn P ok str ρ J rb V W O N s':=by
 rw[hs]at h;obtain⟨rfl,rfl,_⟩:=h;exact⟨ρ,_,W,#[],r,.inside q hc<|hb.swap e,hw,Kept.refl _ _ _,aP⟩
def dR.xX (k:Kept ρ V W σ V1 W1){s:dN}(h:dR afn P ok str σ J rb V1 W1 O N s)(j:∀e∈es,pL σ V e):dR afn P ok str ρ J rb V W O N (aa es s):=by
 obtain⟨τ,q,U,r,rfl,z,E,i,F⟩:=h;exact⟨τ,q,U,es++r,rfl,z,E,k.trans i,λe d=>(Array.mem_append.1 d).elim (λd=>(j e d).mono i.le) λd=>(F e d).shift k i⟩
omit [Gl] in
def lL {s:dN}(h:aa es s=.go g w iq):∃e,s=.go g w e:=by
 cases s<;>simp[aa]at h
 simp_all
def pM.get (h:pM P fn a b){i:Nat}(e:a[i]?=some o):∃u,b[i]?=some u/\(VU P fn o u\/(dead o.op).isSome):=by
 have d:b[i]?=some (b[i]'(by rw[<-h.1];exact((afM.1 e).1))):=afR _
 refine⟨_,d,?_⟩;rcases(h.2 i o _ e d).2.2 with h|h|h|h
 .grind
 .grind
 .grind
 exact cp (by rw[h];rfl)
theorem pM.wanted (h:pM P fn a b)(i:Nat)(y:Nat->Option Bool):(b[i]?).map (bI · y)=(a[i]?).map (bI · y):=by
 cases e:a[i]? with
 |none=>rw[au.2 (by rw[<-h.1];exact au.1 e)]
 |some o=>
  have d:b[i]?=some (b[i]'(by rw[<-h.1];exact((afM.1 e).1))):=afR _
  rw[d];simp[bI,(h.2 i o _ e d).2.1]
omit [Gl] in
def O1 {x:Op}(j:dead o.op=some x)(e:∀v,ev (.const v)=v)(w:a8):∃q,ends q/\(bo ev o).runT p w #[]=(.halt q w,#[]):=by
 unfold dead at j;split at j
 .rename_i y d;simp only[bo,d,e];generalize ev y=v;cases v<;>exact⟨_,rfl,rfl⟩
 .rename_i y d;simp only[bo,d,e];generalize ev y=v;cases v with
  |pointer a=>cases a<;>exact⟨_,rfl,rfl⟩
  |_=>exact⟨_,rfl,rfl⟩
 .rename_i d;simp only[bo,d,e];exact⟨_,rfl,rfl⟩
 .rename_i d;simp only[bo,d,e];exact⟨_,rfl,rfl⟩
 grind
def pM.sched (h:pM P fn a b)(m:Bool) t:b1 m b t=b1 m a t:=by
 have ha:∀i:Nat,(b[i]?).map Oper.after=(a[i]?).map Oper.after:=λi=>by
  cases e:a[i]? with
  |none=>rw[au.2 (by rw[<-h.1];exact au.1 e)]
  |some o=>
   have e':b[i]?=some (b[i]'(by rw[<-h.1];exact((afM.1 e).1))):=afR _
   rw[e'];simp[(h.2 i o _ e e').2.1]
 have hg:∀(q:Region.Mode) (f t:Nat) (l:Array Bool) (r:List Nat),bs q b f t l r=bs q a f t l r:=by
  intro q f;induction f with
  |zero=>intro t l r;rfl
  |succ f ih=>
   intro t l r;have hp:∀i:Nat,((b[i]?).map λo:cq=>o.after.all λe=>!Region.binds q e||l.getD e.on false).getD false=((a[i]?).map λo:cq=>o.after.all λe=>!Region.binds q e||l.getD e.on false).getD false:=λi=>by
    grind
   unfold bs;simp only[hp,h.1,ih]
 have hd:b4 b=b4 a:=by
  have hm:b.map Oper.after=a.map Oper.after:=Array.ext_getElem? λi=>cO
  have:=congrArg (·.any λx:Array Edge=>x.any λe=>!Region.binds .any e) hm;grind [Array.any_map,b4]
 unfold b1 Region.linearise;simp[hd,hg,h.1]
def Rt (q:dQ afn P ok)(ho:VU P ok.fn o u)(h:lH ok ρ ev R)(d:∀v,ev (.const v)=v/\R (.const v)=v)(r:∀g,ev (.func g)=.func (.func g) #[] #[]):ag afn P ok str (λσ x y=>oy ok σ x y) ρ (bo ev o) (bo R u):=by
 rcases ho with⟨rfl,ho⟩|⟨z,j,E⟩|⟨z,j⟩
 .exact abR q.tab q.IP q.toCallable u ho h d r
 .unfold uQ at E;split at E
  .rename_i args F e;unfold bo;rw[z,e,j];exact bD<|abS q.tab q.hole _ _ _<|xN h E
  grind
 .unfold bo;rw[z];rcases j with j|j<;>rw[j]<;>simp only[(d _).1,(d _).2]<;>exact bD<|ah<|.hole rfl
omit [Gl] in
def Ci {x:Op}(ho:fr.oper?=some o)(q:dead o.op=some x):∃oc es,bm p true fr cs none w=.ended oc w es:=by
 let⟨hh,r,z⟩:=O1 (p:=p) (ev:=fr.eval) q (λ_=>rfl) w;have nd:∀c,o.op≠.defer c:=by
  intro c e;rw[e]at q;cases q
 have e:bm p true fr cs none w=ac p true fr cs none (bo fr.eval o) w:=by
  grind [bm]
 rw[e];cases hh with
 |stuck y=>simp only[ac,if_true,z,aa];grind
 |unsupported u=>
  cases u with
  |initOrder g=>cases r
  |_=>simp only[ac,if_true,z,aa];grind
 |_=>cases r
def ach {p:Prop}(x9:p:=by
  exfalso;cases r with
  |ok a w=>cases dZ
  |halt hh w=>exact fY h'):p:=x9
def O9 (hP:dQ afn P ok)(hf:cU P ok ρ fr A)(hc:ja P ok ρ cs cs')(hb:wh fr cs)(hw:bw ok str ρ V W)(hm:fr.mode=.run)
  (h:aB afn Jw true fr (cs++J) none V=.go O N es):dR afn P ok str ρ J rb V W O N (aB P T true A (cs'++rb) none W):=by
 have oj:=hf.eval hw.gl;obtain⟨fn,tmps,bx,aZ,dr,kind,aF⟩:=fr;obtain⟨d7,dt,gS,cX,pJ,eu,bp⟩:=A;have ht:=hf.todo;have bq:=hf.round;have rQ:=hf.fn;have hk:=hf.kind;have wD:=hf.eu;have qr:=hf.mode;have hi:=hf.aN;simp at ht bq rQ hk wD hm qr hi;subst hm rQ eu;cases qr;have be:∀{k2 ck:List ct},lJ P ok ρ k2 ck->cU P ok ρ ⟨d7,tmps,k2,aZ,.run,kind,aF⟩ ⟨d7,dt,ck,cX,.run,kind,bp⟩:=λZr=>⟨rfl,hi,hf.tmps,Zr,hf.defers,.run,hk,rfl,bq⟩
 have cy:cU P ok ρ ⟨d7,tmps,bx,aZ,.returning,kind,aF⟩ ⟨d7,dt,gS,cX,.returning,kind,bp⟩:=⟨rfl,hi,hf.tmps,ht,hf.defers,.returning,hk,rfl,bq⟩;have c1:∀{c:aL} {a a' b b':cd} {k k':List ct},dq ok.fn c=true->Dv P ok.fn a a'->Dv P ok.fn b b'->lJ P ok ρ k k'->bx=.code (.cond c a b)::k->gS=.code (.cond c a' b')::k'->
   dR afn P ok str ρ J rb V W O N (aB P T true ⟨d7,dt,gS,cX,.run,kind,bp⟩ (cs'++rb) none W):=by
  intro c a a' b b' k k' hx ha dl mE e1 e2;subst e1 e2;have he:=oj c hx;have h':(match aE ⟨d7,tmps,.code (.cond c a b)::k,aZ,.run,kind,aF⟩ c with
   |.bool t=>dm _ V
   |_=>.ended _ V)=.go O N es:=h
  show dR afn P ok str ρ J rb V W O N (match aE ⟨d7,dt,.code (.cond c a' b')::k',cX,.run,kind,bp⟩ c with
   |.bool t=>dm _ W
   |_=>.ended _ W)
  clear h;have he:=he;generalize aE ⟨d7,tmps,.code (.cond c a b)::k,aZ,.run,kind,aF⟩ c=v at he h';generalize aE ⟨d7,dt,.code (.cond c a' b')::k',cX,.run,kind,bp⟩ c=C at he;cases he with
  |bool t=>
   refine dE (be<|.cons (.code (c:=if t then a else b) ?_) mE) hc hb rfl hw h' rfl rfl;cases t
   .exact dl
   .exact ha
  |_=>cases h'
 have c2:∀{id:Nat} {a b:Array cq} {k k':List ct} (d:Bool),pM P ok.fn a b->lJ P ok ρ k k'->bx=.code (.region id a d)::k->gS=.code (.region id b d)::k'->
   dR afn P ok str ρ J rb V W O N (aB P T true ⟨d7,dt,gS,cX,.run,kind,bp⟩ (cs'++rb) none W):=by
  intro id a b k k' d ho mE e1 e2;subst e1 e2;cases d with
  |false=>
   have:=ho.1;apply dE (be<|.cons (.inRegion (List.range _) ho) mE) hc hb rfl hw h rfl;rw[this];rfl
  |true=>
   have hq:(Question.order d7 id).forced=false:=rfl;simp only[aB,choose,cz,hq,Bool.false_eq_true,if_false]at h⊢;have e:W.tape W.drawn (.order d7 id)=V.tape V.drawn (.order d7 id):=by rw[hw.tape,hw.drawn]
   have bH:bw ok str ρ {V with drawn:=V.drawn+1} {W with drawn:=W.drawn+1}:=⟨hw.heap,hw.tape,by simp[hw.drawn],hw.gV,hw.gW,hw.gs⟩;rw[e,show P.follows .mixedOrders=afn.follows .mixedOrders by rw[hP.tab],ho.sched];have:=dE (afn:=afn) (rb:=rb) (be<|.cons (.inRegion _ ho) mE) hc hb rfl bH h rfl rfl;obtain⟨σ,h2,U,DO,a1,a2,a3,a4,a5⟩:=this;exact⟨σ,h2,U,DO,a1,a2,a3,⟨a4.le,a4.keep,a4.ro,a4.size,a4.C6,a4.new,a4.tape,a4.os,a4.out⟩,a5⟩
 cases ht with
 |nil=>
  cases bq with
  |none=>exact dE cy hc hb rfl hw h rfl rfl
  |some hl=>exact vC hf hc hb hw none aP rfl hl h
 |@cons x D k k' hx mE=>
  cases hx with
  |inBlock id=>exact dE (be mE) hc hb rfl hw h rfl rfl
  |inLoop fq=>exact dE (be<|.cons (.code fq)<|.cons (.inLoop fq) mE) hc hb rfl hw h rfl rfl
  |inRangeFunc hl=>cases h
  |@endRangeFunc l B hl=>
   have h':(let(r,es):=(bj l).runT afn V #[];aa (b7 afn d7 es)<|match r with
    |.ok jump w=>.go (G ⟨d7,tmps,(jump.map Item.code).toList++k,aZ,.run,kind,aF⟩<|cs++J) w
    |.halt (.panic v) w=>.go (G (cA ⟨d7,tmps,.endRangeFunc l::k,aZ,.run,kind,aF⟩ [{v,recovered:=false}])<|cs++J) w
    |.halt _ w=>.ended _ w)=.go O N es:=h
   show dR afn P ok str ρ J rb V W O N (let(r,es):=(bj B).runT P W #[];aa (b7 P d7 es)<|match r with
    |.ok jump w=>.go (G ⟨d7,dt,(jump.map Item.code).toList++k',cX,.run,kind,bp⟩<|cs'++rb) w
    |.halt (.panic v) w=>.go (G (cA ⟨d7,dt,.endRangeFunc B::k',cX,.run,kind,bp⟩ [{v,recovered:=false}])<|cs'++rb) w
    |.halt _ w=>.ended _ w)
   generalize fO:(bj l).runT afn V #[]=x at h';obtain⟨r,e1⟩:=x;rcases(AD hP.tab hl).sound #[] #[] hw fO with dZ|⟨σ,r',V',W',d',h1,h2,h4,h5⟩
   .exfalso;cases r with
    |ok a w=>cases dZ
    |halt hh w=>cases hh<;>first|cases dZ;done|exact fY h'
   have nv:(bj B).runT P W #[]=(r',d'):=by rw[h1];simp
   rw[nv];obtain⟨TA,h3⟩:=lL h';refine dR.xX h4 ?_ λe he=>h5 e<|kD _ _ _ e he;cases h2 with
   |@ok j j' V' W' hv bH=>
    obtain⟨rfl,hj⟩:=hv;refine dE (fr2:=⟨d7,tmps,(j.map Item.code).toList++k,aZ,.run,kind,aF⟩) (fr2':=⟨d7,dt,(j.map Item.code).toList++k',cX,.run,kind,bp⟩)
     ⟨rfl,hi,hf.tmps.mono h4.le,?_,hf.defers.mono h4.le,.run,hk,rfl,bq.mono h4.le⟩ (hc.mono h4.le) hb rfl bH h3 rfl rfl
    cases j with
    |none=>exact mE.mono h4.le
    |some c=>exact .cons (.code<|.same<|(hP.code c).symm.trans<|hj c rfl) (mE.mono h4.le)
   |@panic v C V' W' hv bH=>exact dE ((hf.mono h4.le).raise<|.cons _ _ hv .nil) (hc.mono h4.le) hb rfl bH h3 rfl rfl
  |beginRound=>
   refine vl hP.toSame ?_ hf hc hb hw h;apply yq;cases bq with
   |none=>exact .halt _ _
   |some hl=>exact sA hP.tab hl
  |@inRegion ops fI bx ho=>
   cases bx with
   |nil=>exact dE (be mE) hc hb rfl hw h rfl rfl
   |cons i rest=>
    have h':(if((ops[i]?).map _).getD false then bm afn true ⟨d7,tmps,.inRegion ops (i::rest)::k,aZ,.run,kind,aF⟩ (cs++J) none V
     else .go (G (bV ⟨d7,tmps,.inRegion ops (i::rest)::k,aZ,.run,kind,aF⟩ undef)<|cs++J) V)=.go O N es:=h
    show dR afn P ok str ρ J rb V W O N (if((fI[i]?).map (bI ·<|yielded fI dt)).getD false then bm P true ⟨d7,dt,.inRegion fI (i::rest)::k',cX,.run,kind,bp⟩ (cs'++rb) none W
     else .go (G (bV ⟨d7,dt,.inRegion fI (i::rest)::k',cX,.run,kind,bp⟩ undef)<|cs'++rb) W)
    rw[tI hf.tmps ho,ho.wanted];split at h'
    .rename_i wI;rw[if_pos wI];cases Su:ops[i]? with
     |none=>rw[Su]at wI;cases wI
     |some o=>
      obtain⟨u,c3,h1⟩:=ho.get Su;have e1:∀(Q:ao) (ops:Array cq) (o:cq) (t:Array ai) (kk:List ct) (d:List c4) (ro:Option Nat) (cc:List aI) (w:a8),ops[i]?=some o->(∀c,o.op≠.defer c)->bm Q true ⟨d7,t,.inRegion ops (i::rest)::kk,d,.run,kind,ro⟩ cc none w=
        ac Q true ⟨d7,t,.inRegion ops (i::rest)::kk,d,.run,kind,ro⟩ cc none (bo (aE ⟨d7,t,.inRegion ops (i::rest)::kk,d,.run,kind,ro⟩) o) w:=by
       intro Q ops o t kk d ro cc w Su bF;simp[bm,Frame.oper?,Su];split
       .rename_i e;exact absurd e<|bF _
       .rfl
      rcases h1 with bF|ch
      .rw[e1 _ _ _ _ _ _ _ _ _ Su λc=>(bF.dead.2 c).1]at h';rw[e1 _ _ _ _ _ _ _ _ _ c3 λc=>(bF.dead.2 c).2];exact vl hP.toSame (Rt hP bF oj (λ_=>⟨rfl,rfl⟩) λ_=>rfl) hf hc hb hw h'
      obtain⟨x,ch⟩:=Option.isSome_iff_exists.1 ch;obtain⟨oc,iq,hd⟩:=Ci (fr:=⟨d7,tmps,.inRegion ops (i::rest)::k,aZ,.run,kind,aF⟩) Su ch;rw[hd]at h';cases h'
    rename_i wI;rw[if_neg wI];exact dE (hf.finish jT) hc hb (ey _ _) hw h' rfl rfl
  |@code c c' fq=>
   cases fq with
   |block dl=>exact dE (be<|.cons (.code dl)<|.cons (.inBlock _) mE) hc hb rfl hw h rfl rfl
   |loop dl=>exact dE (be<|.cons (.code dl)<|.cons (.inLoop dl) mE) hc hb rfl hw h rfl rfl
   |seq ha dl=>exact dE (be<|.cons (.code ha)<|.cons (.code dl) mE) hc hb rfl hw h rfl rfl
   |region d ho=>exact c2 d ho mE rfl rfl
   |cond hx ha dl=>exact c1 hx ha dl mE rfl rfl
   |same fq=>
   cases c with
   |skip=>exact dE (be mE) hc hb rfl hw h rfl rfl
   |refuse y=>cases h
   |seq a b=>
    simp[codeOk]at fq;exact dE (be<|.cons (.code<|.same fq.1)<|.cons (.code<|.same fq.2) mE) hc hb rfl hw h rfl rfl
   |cond c a b=>
    simp[codeOk]at fq;exact c1 fq.1.1 (.same fq.1.2) (.same fq.2) mE rfl rfl
   |block id b=>exact dE (be<|.cons (.code<|.same (c:=b) fq)<|.cons (.inBlock id) mE) hc hb rfl hw h rfl rfl
   |loop b=>exact dE (be<|.cons (.code<|.same (c:=b) fq)<|.cons (.inLoop<|.same (c:=b) fq) mE) hc hb rfl hw h rfl rfl
   |exit id=>
    rcases mE.exit (id:=id)with⟨n1,n2⟩|⟨q,q',s1,s2,hq⟩
    .simp only[aB,n1]at h;simp only[aB,n2];cases bq with
     |none=>simp at h
     |some hl=>exact vC hf hc hb hw (some<|.exit id) (by simp[hP.code,codeOk]) rfl hl h
    simp only[aB,s1]at h;simp[aB,s2];exact dE (be hq) hc hb rfl hw h rfl rfl
   |ret=>
    cases bq with
    |none=>exact dE cy hc hb rfl hw h rfl rfl
    |some hl=>exact vC hf hc hb hw (some .ret) (by simp[hP.code,codeOk]) rfl hl h
   |region id ops d=>exact c2 d (pM.of fq) mE rfl rfl
   |rangeFunc f bl a b=>
    simp[codeOk]at fq;have h':(let(r,es):=(a0 d7 tmps bl a b aF).runT afn V #[];aa (b7 afn d7 es)<|match r with
     |.ok (l,dc) w=>ac afn true ⟨d7,tmps,.inRangeFunc l::k,dc++aZ,.run,kind,aF⟩ (cs++J) none (do let d <-cw (aE ⟨d7,tmps,.inRangeFunc l::k,dc++aZ,.run,kind,aF⟩) {callee:=.value f,args:=#[.const<|.func (.yield l) #[] #[]],argTypes:=#[]} 0;bA d.target d.args) w
     |.halt _ w=>.ended _ w)=.go O N es:=h
    show dR afn P ok str ρ J rb V W O N (let(r,es):=(a0 d7 dt bl a b bp).runT P W #[];aa (b7 P d7 es)<|match r with
     |.ok (l,dc) w=>ac P true ⟨d7,dt,.inRangeFunc l::k',dc++cX,.run,kind,bp⟩ (cs'++rb) none (do let d <-cw (aE ⟨d7,dt,.inRangeFunc l::k',dc++cX,.run,kind,bp⟩) {callee:=.value f,args:=#[.const<|.func (.yield l) #[] #[]],argTypes:=#[]} 0;bA d.target d.args) w
     |.halt _ w=>.ended _ w)
    generalize fO:(a0 d7 tmps bl a b aF).runT afn V #[]=x at h';obtain⟨r,e1⟩:=x;rcases(uU d7 hi hf.tmps bl ((hP.code a).trans fq.1.2) ((hP.code b).trans fq.2) bq).sound #[] #[] hw fO with dZ|⟨σ,r',V',W',d',h1,h2,h4,h5⟩
    .exfalso;cases r with
     |ok a w=>cases dZ
     |halt hh w=>exact fY h'
    have nv:(a0 d7 dt bl a b bp).runT P W #[]=(r',d'):=by rw[h1];simp
    rw[nv];obtain⟨TA,h3⟩:=lL h';refine dR.xX h4 ?_ λe he=>h5 e<|kD _ _ _ e he;cases h2 with
    |panic _ _=>cases h3
    |@ok j j' V' W' hv bH=>
     obtain⟨l,dc⟩:=j;obtain⟨B,uB⟩:=j';obtain⟨hl,Oi⟩:=hv;have WG:cU P ok σ ⟨d7,tmps,.inRangeFunc l::k,dc++aZ,.run,kind,aF⟩ ⟨d7,dt,.inRangeFunc B::k',uB++cX,.run,kind,bp⟩:=
      ⟨rfl,hi,hf.tmps.mono h4.le,.cons (.inRangeFunc hl)<|mE.mono h4.le,Oi.append<|hf.defers.mono h4.le,.run,hk,rfl,bq.mono h4.le⟩
     refine vl hP.toSame ?_ WG (hc.mono h4.le) (hb.swap rfl) bH h3;have Zl:=WG.eval bH.gl f fq.1.1;unfold cw;dsimp only;generalize aE ⟨d7,tmps,.inRangeFunc l::k,dc++aZ,.run,kind,aF⟩ f=v at Zl;generalize aE ⟨d7,dt,.inRangeFunc B::k',uB++cX,.run,kind,bp⟩ f=C at Zl;cases Zl with
     |func rQ e1 g1 e2 O=>
      exact aW<|vR hP.tab hP.toCallable (.fn rQ ⟨e2,O⟩) (aA.append ⟨e1,g1⟩<|by simpa[aE]using(aA.nil.push<|.func (.yield hl) rfl aA.nil.at_ rfl aA.nil.at_))
     |nilFunc=>exact ij hP.tab .nilDeref rfl
     |hole _=>exact .dead _ _ λV=>qw hP.hole _ V
     |_=>exact .halt _ _
   |_=>cases fq
omit [Gl] in
def o0 {r:Array ai}{ds:List c4}(hf:∃fn,p.funcs[f]?=some fn/\fn.body.isSome/\(fn.name== "runtime.NumGoroutine")=false)(hd:fr.defers=⟨.fn (.func f) xs,r⟩::ds):
  unwind p m fr cs none w=.go (G (bB p f (r++xs) .deferred)<|{fr with defers:=ds}::cs) w:=by
 let⟨fn,h1,h2,h3⟩:=hf;have e1:fn.body.isNone=false:=by cases hb:fn.body<;>simp_all
 have hr:(bA (.fn (.func f) xs) r).runT p w #[]=(.ok (.enter f<|r++xs) w,#[]):=by
  simp only[bA,b6,program,bind,dF,av,h1,h3,e1,Bool.false_eq_true,if_false,pure]
 grind [unwind,callDeferred,aa,b7,G]
def Kf (hP:dQ afn P ok)(hf:cU P ok ρ fr A)(hc:ja P ok ρ cs cs')(hb:wh fr cs)(hw:bw ok str ρ V W)(hm:fr.mode≠.run)(hl:cs=[]->fr.defers≠[])
  (h:unwind afn Jw fr (cs++J) none V=.go O N es):dR afn P ok str ρ J rb V W O N (unwind P T A (cs'++rb) none W):=by
 let⟨fn,tmps,aZ,bq,a1,kind,aF⟩:=fr;let⟨d7,dt,gS,cX,pJ,eu,bp⟩:=A;have rQ:=hf.fn;have hk:=hf.kind;have wD:=hf.eu;have qr:=hf.mode;have hi:=hf.aN;have hd:=hf.defers;simp at rQ hk wD hm qr hi hd hl;subst rQ eu;let⟨F,c,c2,f1,f2,f3,f4⟩:=hP.same d7 hi;cases hd with
 |@cons d0 cc ds bx hr a4=>
  have a5:∀{σ:Ren} {x D:List c4},ρ.le σ->jw ok σ x D->cU P ok σ ⟨d7,tmps,aZ,x,a1,kind,aF⟩ ⟨d7,dt,gS,D,pJ,kind,bp⟩:=λle hx=>⟨rfl,hi,hf.tmps.mono le,hf.todo.mono le,hx,qr.mono le,hk,rfl,hf.round.mono le⟩
  cases hr with
  |@call f xs xs' ys vc be a2 vh bF=>
   rw[(o0 (hP.left f be<|hP.inx f a2) rfl)]at h;obtain⟨rfl,rfl,_⟩:=h;exact⟨ρ,_,W,#[],(o0 (hP.right f be<|hP.inx f a2) rfl),.inside (lp hP.toSame a2 (bF.append vh) .deferred) (.cons (a5 (Ren.le_refl _) a4) hc) (hb.swap (fr2:=⟨d7,tmps,aZ,ds,a1,kind,aF⟩) rfl).push,hw,Kept.refl _ _ _,aP⟩
  |@mark r0 U2 hr=>
  have h':(let(r,es):=(ay r0).runT afn V #[];aa _<|match r with
   |.ok calls w=>.go (G ⟨d7,tmps,aZ,calls++ds,a1,kind,aF⟩<|cs++J) w
   |.halt _ w=>.ended _ w)=.go O N es:=h
  show dR afn P ok str ρ J rb V W O N (let(r,es):=(ay U2).runT P W #[];aa (b7 P d7 es)<|match r with
   |.ok calls w=>.go (G ⟨d7,dt,gS,calls++bx,pJ,kind,bp⟩<|cs'++rb) w
   |.halt _ w=>.ended _ w)
  generalize fO:(ay r0).runT afn V #[]=x at h';let⟨r,e1⟩:=x;rcases(LC hr).sound #[] #[] hw fO with dZ|⟨σ,r',V',W',d',h1,h2,h4,h5⟩
  .exfalso;cases r with
   |ok a w=>cases dZ
   |halt hh w=>exact fY h'
  have nv:(ay U2).runT P W #[]=(r',d'):=by rw[h1];simp
  rw[nv];let⟨TA,h3⟩:=lL h';refine dR.xX h4 ?_ λe he=>h5 e<|kD _ _ _ e he;cases h2 with
  |panic _ _=>cases h3
  |ok hv a3=>exact dE (a5 h4.le<|hv.append<|a4.mono h4.le) (hc.mono h4.le) hb rfl a3 h3 rfl rfl
 |nil=>
  cases hc with
  |nil=>exact absurd rfl (hl rfl)
  |@cons a a' cs cs' ha bl=>
   cases qr with
   |run=>exact absurd rfl hm
   |@panicking ch bH vw=>
    have c1:bL afn ⟨d7,tmps,aZ,[],.panicking ch,kind,aF⟩=false:=by simp[bL,f1]
    have c2:bL P ⟨d7,dt,gS,[],.panicking bH,kind,bp⟩=false:=by simp[bL,f2]
    simp[unwind,c1]at h;obtain⟨rfl,rfl,_⟩:=h;refine⟨ρ,G _<|cs'++rb,W,#[],?_,.inside (ha.raise vw) bl<|hb.pop<|qL _ _,hw,Kept.refl _ _ _,aP⟩;simp[unwind,c2];rfl
   |returning=>
    have h':(let(r,es):=(b8 F tmps).runT afn V #[];aa (b7 afn d7 es)<|match r with
     |.ok v w=>.go (G (kI kind a v)<|cs++J) w
     |.halt (.stuck s) w=>.ended (.stuck s<|cn afn ⟨d7,tmps,aZ,[],.returning,kind,aF⟩) w
     |.halt _ w=>.ended (.stuck "return: the result variables cannot be read"<|cn afn ⟨d7,tmps,aZ,[],.returning,kind,aF⟩) w)=.go O N es:=by
     rw[<-h];simp[unwind,f1,gH (fr:=⟨d7,tmps,aZ,[],.returning,kind,aF⟩) hk];rfl
    have e':unwind P T ⟨d7,dt,gS,[],.returning,kind,bp⟩ (a'::cs'++rb) none W=(let(r,es):=(b8 F dt).runT P W #[];aa (b7 P d7 es)<|match r with
     |.ok v w=>.go (G (kI kind a' v)<|cs'++rb) w
     |.halt (.stuck s) w=>.ended (.stuck s<|cn P ⟨d7,dt,gS,[],.returning,kind,bp⟩) w
     |.halt _ w=>.ended (.stuck "return: the result variables cannot be read"<|cn P ⟨d7,dt,gS,[],.returning,kind,bp⟩) w):=by
     simp[unwind,f2,gH (fr:=⟨d7,dt,gS,[],.returning,kind,bp⟩) hk];rfl
    rw[e'];generalize fO:(b8 F tmps).runT afn V #[]=x at h';let⟨r,e1⟩:=x;rcases(pz hP.tab F hf.tmps).sound #[] #[] hw fO with dZ|⟨σ,r',V',W',d',h1,h2,h4,h5⟩
    .exfalso;cases r with
     |ok a w=>cases dZ
     |halt hh w=>cases hh<;>exact fY h'
    have nv:(b8 F dt).runT P W #[]=(r',d'):=by rw[h1];simp
    rw[nv];let⟨TA,h3⟩:=lL h';refine dR.xX h4 ?_ λe he=>h5 e<|kD _ _ _ e he;cases h2 with
    |panic _ _=>cases h3
    |@ok j j' V' W' hv a3=>
     exact dE ((ha.mono h4.le).Xv kind hv) (bl.mono h4.le) (hb.pop rfl) (xd _ _ _) a3 h3 rfl rfl
def uY (hP:dQ afn P ok)(r:cU P ok ρ fr A)(hc:ja P ok ρ cs cs')(hb:wh fr cs)(hw:bw ok str ρ V W)(hl:cs=[]->fr.mode≠.run->fr.defers≠[])
  (h:dd afn Jw (G fr<|cs++J) V=.go O N es):dR afn P ok str ρ J rb V W O N (dd P T (G A<|cs'++rb) W):=by
 by_cases q:fr.mode=.run
 .rw[rE q]at h;have z:A.mode=.run:=by have:=r.mode;rw[q]at this;generalize A.mode=x at this;cases this;rfl
  rw[rE z];exact O9 hP r hc hb hw q h
 have z:A.mode≠.run:=by
  intro e;have:=r.mode;rw[e]at this;generalize fr.mode=m at this q;cases this;grind
 rw[gn q]at h;rw[gn z];exact Kf hP r hc hb hw q (λe=>hl e q) h
end
def re (w:a8)(τ:Nat->bS->Nat)(d:Nat):World:={w with tape:=τ,drawn:=d}
def mG (t:Nat->bS->Nat)(a:Nat)(t':Nat->bS->Nat)(b n:Nat):Prop:=∀i,i<n->∀q,t (a+i) q=t' (b+i) q
omit [Gl] in
def mG.less {t:Nat->bS->Nat}{a b m:Nat}(h:mG t a t' b n)(l:m<=n):mG t a t' b m:=λi d q=>h i ab q
omit [Gl] in
def mG.tail {t:Nat->bS->Nat}{a b k:Nat}(h:mG t a t' b (k+n)):mG t (a+k) t' (b+k) n:=λi d q=>by
 have:=h (k+i) gC q;rw[show a+k+i=a+(k+i) by omega,show b+k+i=b+(k+i) by omega];exact this
def iD:Result α->a8
 |.ok _ w=>w
 |.halt _ w=>w
def reR (τ:Nat->bS->Nat)(d:Nat):Result α->Result α
 |.ok a w=>.ok a (re w τ d)
 |.halt h w=>.halt h<|re w τ d
section
variable {ρ:Ren}
def ag.shift {β:Type}{A:Ren->α->β->Prop}{s:Sem α}{s':Sem β}(h:ag afn P ok str A ρ s s'):
  ∀{V W:a8} (es:Array b0) {r:Result α} {e1:Array b0},bw ok str ρ V W->s.runT afn V es=(r,e1)->Result.stops r\/
   (V.drawn<=(iD r).drawn/\(iD r).tape=V.tape/\∀τ d,mG V.tape V.drawn τ d ((iD r).drawn-V.drawn)->s.runT afn (re V τ d) es=(reR τ (d+((iD r).drawn-V.drawn)) r,e1)):=by
 induction h with
 |@pure ρ a b hA=>
  grind [av,Prod.mk.injEq,reR,iD,re]
 |@load ρ a a' k k' ra _ ih=>
  intro V W es x e1 hw hr;simp only[av]at hr;cases hc:V.cell? a with
  |none=>
   rw[hc]at hr;let⟨y,hy⟩:=hw.far ra.blk (bO==bE) afn;simp[hy]at hr;exact NO
  |some v=>
   rw[hc]at hr;let⟨C,FN,rv⟩:=hw.load ra hc;rcases ih v C rv _ hw hr with h|⟨h1,h2,h3⟩
   .grind
   refine cp ⟨h1,h2,λτ d hA=>?_⟩;have:(re V τ d).cell? a=some v:=hc;grind [av]
 |@store ρ a a' v C k k' ra rv _ ih=>
  intro V W es x e1 hw hr;by_cases hn:(∃cs,v=.agg cs)\/(∃cs,v=.tuple cs)
  .rcases hn with⟨cs,rfl⟩|⟨cs,rfl⟩
   .exact VI
   .exact VI
  have n1:∀cs,v≠.agg cs:=λcs e=>hn<|bR ⟨cs,e⟩
  have n2:∀cs,v≠.tuple cs:=λcs e=>hn<|cp ⟨cs,e⟩
  have SM:∀(U:a8),(Sem.store .plain a v k).runT afn U es=(match U.cell? a with
   |some _=>if U.frozen? a then(Result.halt (.unsupported<|.unsafePointer "a write to bytes that a string shares") U,es)else k.runT afn (U.setCell a v) (es.push ⟨.cell a,true,false⟩)
   |none=>match U.farStore afn a v (bO==bE)with
    |.ok (w,ES)=>k.runT afn w (es++ES.toArray.map (⟨.cell ·,true,bO==bE⟩))
    |.error h=>(.halt h U,es)):=by
   intro U;cases v<;>first|exact absurd rfl (n1 _)|exact absurd rfl (n2 _)|(simp[av];rfl)
  rw[SM]at hr;cases hc:V.cell? a with
  |none=>
   rw[hc]at hr;let⟨y,hy⟩:=hw.aav ra.blk v (bO==bE) afn;simp[hy]at hr;exact NO
  |some y=>
   rw[hc]at hr;simp only at hr;cases hf:V.frozen? a with
   |true=>
    rw[hf]at hr;simp at hr;exact NO
   |false=>
    rw[hf]at hr;rcases ih _ (hw.store ra rv hc hf) hr with h|⟨h1,h2,h3⟩
    .exact bR h
    refine cp ⟨h1,h2,λτ d hA=>?_⟩;have e1:(re V τ d).cell? a=some y:=hc;have e2:(re V τ d).frozen? a=false:=hf;rw[SM,e1];simp only[e2];exact h3 τ d hA
 |@new ρ o u k k' ro _ ih=>
  intro V W es x e1 hw hr;simp only[av]at hr;let⟨FO,A3⟩:=hw.new ro;rcases ih _ V.heap.size W.heap.size hw.IK hw.Pa _ FO hr with h|⟨h1,h2,h3⟩
  .exact bR h
  .exact cp ⟨h1,h2,λτ d hA=>by simp only[av];exact h3 τ d hA⟩
 |@shape ρ r r' k k' gh _ ih=>
  intro V W es x e1 hw hr;simp only[av]at hr⊢;exact ih _ _ hw hr
 |dead s s' h=>
  intro V W es x e1 hw hr;exact XG
 |@getObj ρ r r' k k' gh _ ih=>
  intro V W es x e1 hw hr;cases ho:V.heap[r]? with
  |none=>simp only[av,ho]at hr;obtain⟨rfl,_⟩:=hr;exact bR rfl
  |some o=>
   let⟨u,I0,ro⟩:=hw.getObj gh ho;rcases ro.kinds with⟨⟨c,e,z,rfl⟩,_⟩|⟨n1,n2⟩
   .simp only[av,ho]at hr;obtain⟨rfl,_⟩:=hr;exact bR rfl
   have SM:∀U:a8,U.heap[r]?=some o->(Sem.getObj r k).runT afn U es=(k o).runT afn U (es.push ⟨.obj r,false,o.isChan⟩):=by
    intro U hU;cases o<;>first|exact absurd rfl (n1 _ _ _)|simp only[av,hU]
   rw[SM V ho]at hr;rcases ih _ _ ro _ hw hr with h|⟨h1,h2,h3⟩
   .exact bR h
   .exact cp ⟨h1,h2,λτ d hA=>by rw[SM (re V τ d) ho];exact h3 τ d hA⟩
 |@setObj ρ r r' o u k k' gh ro _ ih=>
  intro V W es x e1 hw hr;cases hx:V.heap[r]? with
  |none=>simp[av,hx]at hr;obtain⟨rfl,_⟩:=hr;exact bR rfl
  |some y=>
   let⟨Z,Sz,ry⟩:=hw.getObj gh hx;rcases ry.kinds with⟨⟨c,e,z,rfl⟩,_⟩|⟨n1,n2⟩
   .simp only[av,hx]at hr;obtain⟨rfl,_⟩:=hr;exact bR rfl
   have SM:∀U:a8,U.heap[r]?=some y->(Sem.setObj r o k).runT afn U es=k.runT afn {U with heap:=U.heap.setIfInBounds r o} (es.push ⟨.obj r,true,o.isChan⟩):=by
    intro U hU;cases y<;>first|exact absurd rfl (n1 _ _ _)|simp only[av,hU]
   rw[SM V hx]at hr;rcases ih _ (hw.setObj gh ro) hr with h|⟨h1,h2,h3⟩
   .exact bR h
   .exact cp ⟨h1,h2,λτ d hA=>by rw[SM (re V τ d) hx];exact h3 τ d hA⟩
 |@choose ρ q k k' _ ih=>
  intro V W es x e1 hw hr;simp only[av]at hr⊢;split at hr
  .rename_i hq;simp only[if_pos hq];exact ih _ _ hw hr
  rename_i hq;have aF:bw ok str ρ {V with drawn:=V.drawn+1} {W with drawn:=W.drawn+1}:=⟨hw.heap,hw.tape,by simp only[hw.drawn],hw.gV,hw.gW,hw.gs⟩;rcases ih _ _ aF hr with h|⟨h1,h2,h3⟩
  .exact bR h
  simp only at h1 h2 h3;refine cp ⟨by omega,h2,λτ d hA=>?_⟩;rw[if_neg hq];have e0:τ d q=V.tape V.drawn q:=(hA 0 (by omega) q).symm;have:=h3 τ (d+1) (by
   have:mG V.tape V.drawn τ d (1+((iD x).drawn-(V.drawn+1))):=hA.less (by omega);exact this.tail)
  rw[show d+1+((iD x).drawn-(V.drawn+1))=d+((iD x).drawn-V.drawn) by omega]at this;rw[<-this];simp only[re,e0]
 |@program ρ k k' _ ih=>
  intro V W es x e1 hw hr;simp only[av]at hr⊢;exact ih _ hw hr
 |@mark ρ m k k' hm _ ih=>
  intro V W es x e1 hw hr;simp only[av]at hr⊢;exact ih _ hw hr
 |@panic ρ v C hv=>
  intro V W es x e1 hw hr;simp at hr;obtain⟨rfl,rfl⟩:=hr;exact cp ⟨afK _,rfl,λτ d _=>by simp[reR,iD,re]⟩
 |@eq ρ s t s' t' a b _ ih=>
  intro V W es x e1 hw hr;rw[a]at hr;simp only[a];exact ih hw.gs.2 _ hw hr
 |@fz ρ a a' l B n k k' j j' dZ ra rl hb ho hn hk wD hh _ ih=>
  intro V W es x e1 hw hr;obtain rfl:=hw.gs.2 dZ;simp only[av]at hr;cases hc:V.cell? l with
  |none=>
   rw[hc]at hr;let⟨y,hy⟩:=hw.far rl.blk (bO==bE) afn;simp only[hy]at hr;exact NO
  |some v=>
   rw[hc]at hr;by_cases hv:∃x,v=bv .u8 x
   .obtain⟨y,rfl⟩:=hv;simp only[hk]at hr;rcases ih y _ (hw.fz ra hb ho hn hc).1 hr with h|⟨h1,h2,h3⟩
    .exact bR h
    let⟨_,w1,w2,_⟩:=DR V a n;rw[w1,w2]at h3;rw[w2]at h1;refine cp ⟨h1,h2.trans w1,λτ d hA=>?_⟩;have e2:(re V τ d).cell? l=some (bv .u8 y):=hc;have e3:(re V τ d).freeze a n=re (V.freeze a n) τ d:=by unfold World.freeze;rw[if_neg hn,if_neg hn];rfl
    simp only[av,e2,hk,e3];exact h3 τ d hA
   let⟨y,e2,e3⟩:=hh v λx e=>hv ⟨x,e⟩
   simp only[e2]at hr;obtain⟨rfl,_⟩:=hr;exact bR e3
 |halt h s he=>
  intro V W es x e1 hw hr;simp at hr;obtain⟨rfl,_⟩:=hr;exact bR he
end
end
