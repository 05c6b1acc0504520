import Derived.Test.YtlmcblcijndipaaGreatDoora02
import Derived.Conc.Beside
import Derived.Conc.CrowdInv
import Derived.Conc.CrowdStepW
import Derived.Conc.CrowdRun
set_option linter.unusedVariables false
set_option linter.defProp false
namespace Go.Proofs.YtlmcblcijndipaaGreatDoor
open Conc
variable {Anch:(Nat->Prop)->(Nat->Prop)->Goroutine->World->Prop}{Stop:(Nat->Prop)->Goroutine->World->Prop}{es:Array Event}{m:Bool}{e:Event}{X:Event->Prop}{fn:FuncId}{a' g g':Goroutine}{Dg Dh sm st:Int}{vs:List Value}{l:Loc}{am:Loc->Prop}{B C K b c c' cD d f i j k s x':Nat}{FQ Tm:Nat->Loc->Prop}{M Mr R S S':Nat->Prop}{P:Program}{pos:String}{x:Touch}{t u:Trace}{V V' W W' ah w w':World}
inductive Rk:Type
 |leaf
 |node (f:World->Rk)
def Rk.lt (r:Rk):Rk->Prop
 |.leaf=>False
 |.node f=>∃w,r=f w
def Rk.wf:WellFounded Rk.lt:=⟨λr=>by
 induction r with
 |leaf=>exact⟨_,λy h=>h.elim⟩
 |node f ih=>exact⟨_,λy ⟨w,e⟩=>e▸ih w⟩⟩
structure aK (S:Nat->Prop)(W ah:World):Prop where
 block:∀b,S b->ah.heap[b]?=W.heap[b]?
 size:W.heap.size<=ah
 os:ah.os=W.os
 out:ah.output=W.output
def aK.refl (S:Nat->Prop)(W:World):aK S W W:=⟨λ_ _=>rfl,ac5 _,rfl,rfl⟩
def aK.trans {dx:World}(h:aK S W ah)(h':aK S ah dx):aK S W dx:=⟨λb hb=>(h'.block b hb).trans<|h.block b hb,ac8 h.size h'.size,h'.os.trans h.os,h'.out.trans h.out⟩
def aK.mono (h:aK S W ah)(l:∀b,S' b->S b):aK S' W ah:=⟨λb hb=>h.block b<|l b hb,h.size,h.os,h.out⟩
def grow (M:Nat->Prop)(W W':World):Nat->Prop:=λb=>M b\/(W.heap.size<=b/\b<W')
def Fr (X:Event->Prop)(M Ro:Nat->Prop)(e:Event):Prop:=
 (e.sync=false/\∃a,e.loc=.cell a/\(M a.block\/(Ro a.block/\e.write=false)))\/(e.sync=false/\∃r,e.loc=.obj r/\(M r\/(Ro r/\e.write=false)))\/(∃m,Ls m=true/\e=⟨.mark m,false,true⟩)\/X e
structure eP (X:Event->Prop)(M Ro:Nat->Prop)(W W':World)(es:Array Event):Prop where
 keep:∀b,b<W.heap.size->¬M b->W'.heap[b]?=W.heap[b]?
 size:W.heap.size<=W'
 tape:W'.tape=W.tape
 os:W'.os=W.os
 out:W'.output=W.output
 ev:∀e∈es,Fr X (grow M W W') Ro e
section
variable (P:Program)(m:Bool)(I:World->Prop)(X:Event->Prop)(Ro:Nat->Prop)
def PT (Stop:(Nat->Prop)->Goroutine->World->Prop):Rk->(Nat->Prop)->Goroutine->World->Prop
 |.leaf,M,g,W=>∀ah,aK (λb=>M b\/Ro b) W ah->I ah->Stop M g ah
 |.node f,M,g,W=>(∀ah,aK (λb=>M b\/Ro b) W ah->I ah->Stop M g ah)\/
   (g.status=.running/\∀ah,aK (λb=>M b\/Ro b) W ah->I ah->∃g' W' es,stepG P m g ah=.go g' W' es/\eP X M Ro ah W' es/\PT Stop (f ah) (grow M ah W') g' W')
def ET (Stop:(Nat->Prop)->Goroutine->World->Prop)(M:Nat->Prop)(g:Goroutine)(W:World):Prop:=∃r,PT P m I X Ro Stop r M g W
end
section
variable {I:World->Prop}{Ro:Nat->Prop}{abK:(Nat->Prop)->Goroutine->World->Prop}
def PT.rely {r:Rk}(h:PT P m I X Ro Stop r M g W)(k:aK (λb=>M b\/Ro b) W ah):PT P m I X Ro Stop r M g ah:=by
 cases r with
 |leaf=>exact λdx acQ i=>h dx (k.trans acQ) i
 |node f=>
  rcases h with h|⟨hs,h⟩
  .exact .inl λdx acQ i=>h dx (k.trans acQ) i
  .exact .inr ⟨hs,λdx acQ i=>h dx (k.trans acQ) i⟩
def ET.rely (h:ET P m I X Ro Stop M g W)(k:aK (λb=>M b\/Ro b) W ah):ET P m I X Ro Stop M g ah:=let⟨r,hr⟩:=h;⟨r,hr.rely k⟩
def ET.stop (h:∀ah,aK (λb=>M b\/Ro b) W ah->I ah->Stop M g ah):ET P m I X Ro Stop M g W:=⟨.leaf,h⟩
def ET.step (hs:g.status=.running)(h:∀ah,aK (λb=>M b\/Ro b) W ah->I ah->∃g' W' es,stepG P m g ah=.go g' W' es/\eP X M Ro ah W' es/\ET P m I X Ro Stop (grow M ah W') g' W'):ET P m I X Ro Stop M g W:=by
 classical
 have:∀ah,∃r,aK (λb=>M b\/Ro b) W ah->I ah->∃g' W' es,stepG P m g ah=.go g' W' es/\eP X M Ro ah W' es/\PT P m I X Ro Stop r (grow M ah W') g' W':=by
  intro ah;by_cases k:aK (λb=>M b\/Ro b) W ah
  .by_cases i:I ah
   .let⟨g',W',es,a,b,r,hr⟩:=h ah k i;exact⟨r,λ_ _=>⟨g',W',es,a,b,hr⟩⟩
   .exact⟨.leaf,λ_ x=>absurd x i⟩
  .exact⟨.leaf,λx=>absurd x k⟩
 exact⟨.node λah=>(this ah).choose,.inr ⟨hs,λah k i=>(this ah).choose_spec k i⟩⟩
structure yT (Sp M:Nat->Prop)(W:World):Prop where
 own:∀b,Sp b->¬M b
 lt:∀b,Sp b->b<W
def yT.grow {Sp:Nat->Prop}(h:yT Sp M W)(hs:W.heap.size<=W'):yT Sp (grow M W W') W':=
 ⟨λb hb hg=>hg.elim (h.own b hb) λx=>by have:=h.lt b hb;omega,λb hb=>by have:=h.lt b hb;omega⟩
def yT.rely {Sp:Nat->Prop}(h:yT Sp M W)(hs:W.heap.size<=ah):yT Sp M ah:=⟨h.own,λb hb=>by have:=h.lt b hb;omega⟩
def H0 (Sp:Nat->Prop)(I:World->Prop):Prop:=∀W W':World,(∀b,Sp b->W'.heap[b]?=W.heap[b]?)->I W->I W'
section
variable [Gl]{ok:Ctx}{c r0:Frame}{rest:List Frame}{Q:Value->World->Prop}
def sB (ρ:Ren)(V:World)(M Ro:Nat->Prop):Prop:=∀b d,ρ b=some d->M d\/(Ro d/\Proofs.YtlmcblcijndipaaGreatDoor.Ro V b)
def PZ {ρ σ:Ren}(hh:sB ρ V M Ro)(hk:iY ρ V W σ V' W')(aB:∀b d,σ b=some d->d<W')(he:oN σ V e):Fr X (grow M W W') Ro e:=by
 have LW:∀b d,σ b=some d->grow M W W' d\/(Ro d/\Proofs.YtlmcblcijndipaaGreatDoor.Ro V b):=by
  intro b d hb;rcases hk.new b d hb with h|⟨_,h⟩
  .rcases hh b d h with h|h
   .exact .inl (.inl h)
   .exact .inr h
  .exact .inl (.inr ⟨h,aB b d hb⟩)
 rcases he with⟨s,a,a',e1,r,w⟩|⟨s,r,r',e1,h,n⟩|h
 .refine .inl ⟨s,a',e1,?_⟩;rcases LW _ _ r.blk with x|⟨x,y⟩
  .exact .inl x
  .refine .inr ⟨x,?_⟩;cases hw:e.write with
   |false=>rfl
   |true=>exact absurd y<|w hw
 .refine .inr (.inl ⟨s,r',e1,?_⟩);rcases LW _ _ h with x|⟨x,y⟩
  .exact .inl x
  .exact absurd y n
 .exact .inr (.inr<|.inl h)
def sB.step {ρ σ:Ren}(hh:sB ρ V M Ro)(hk:iY ρ V W σ V' W')(aB:∀b d,σ b=some d->d<W'):sB σ V' (grow M W W') Ro:=by
 intro b d hb;rcases hk.new b d hb with h|⟨_,h⟩
 .rcases hh b d h with x|⟨x,y⟩
  .exact .inl (.inl x)
  .let⟨cs,e,z⟩:=y;exact .inr ⟨x,cs,e,by rw[(hk.ro b d h ⟨cs,e,z⟩).1];exact z⟩
 .exact .inl (.inr ⟨h,aB b d hb⟩)
def sB.Vr {ρ σ:Ren}(hh:sB ρ V M Ro)(hk:iY ρ V W σ V' W')(aB:∀b d,σ b=some d->d<W'.heap.size)(he:∀e∈es,oN σ V e):eP X M Ro W W' es:=by
 refine⟨λb hb hn=>?_,hk.size,hk.tape,hk.os,hk.out,λe hx=>PZ hh hk aB<|he e hx⟩;by_cases h:∃x,ρ x=some b
 .let⟨x,hx⟩:=h;rcases hh x b hx with y|⟨_,y⟩
  .exact absurd y hn
  .exact(hk.ro x b hx y).2
 .exact hk.keep b hb λx hx=>h ⟨x,hx⟩
def ET.call {P0:Program}(eG:dM P0 P0 ok)(hP:dM P0 P ok)(iv:∀f,ok.fn f=true->ok.bh f=true)(hQ:∀v w τ d,Q v w->Q v (re w τ d)){ρ:Ren}{s:St}
  (Kb:∀{σ:Ren} {v v':Value} {V' W':World} {M':Nat->Prop},ar ok σ v v'->Q v V'->bO ok false σ V' W'->sB σ V' M' Ro->(∀b,M b->M' b)->aK Ro W W'->aK (λb=>M b/\∀x,ρ x≠some b) W W'->(∀b d,ρ b=some d->σ b=some d)->(∀b d,σ b=some d->ρ b=some d\/W.heap.size<=d)->I W'->(∀b,M' b->b<W'.heap.size)->(∀b,M' b->M b\/W.heap.size<=b)->ET P m I X Ro Stop M' (G (r0.finish v') rest) W')
  {Sp:Nat->Prop}(hI:H0 Sp I)(tS:∀b,Ro b->Sp b)(hN:yT Sp M W)(Ug:∀b,M b->b<W.heap.size)(hi:I W)
  (h:jV P0 P ok false c (r0::rest) Q ρ s g W)(hh:sB ρ (re s.V W.tape W.drawn) M Ro):ET P m I X Ro Stop M g W:=by
 have main:∀(s:St) (_:Acc (vo P0 c) s) {ρ':Ren} {g:Goroutine} {W2:World} {M':Nat->Prop},jV P0 P ok false c (r0::rest) Q ρ' s g W2->sB ρ' (re s.V W2.tape W2.drawn) M' Ro->yT Sp M' W2->I W2->
   (∀b,M b->M' b)->aK Ro W W2->aK (λb=>M b/\∀x,ρ x≠some b) W W2->(∀b d,ρ b=some d->ρ' b=some d)->(∀b d,ρ' b=some d->ρ b=some d\/W.heap.size<=d)->(∀b,M' b->b<W2.heap.size)->(∀b,M' b->M b\/W.heap.size<=b)->ET P m I X Ro Stop M' g W2:=by
  intro s aaF;induction aaF with
  |intro s _ ih=>
   intro ρ' g W2 M' h hh hN hi hM k1 k2 le new QD nw;refine ET.step h.running λah k pL=>?_
   have acM:jV P0 P ok false c (r0::rest) Q ρ' s g ah:=h.rely (λb d hb=>k.block d<|(hh b d hb).imp id And.left)<|ac8 h.w.gW k.size;have ID:sB ρ' (re s.V ah.tape ah.drawn) M' Ro:=hh;have qK:=hN.rely k.size;have kr:aK Ro W ah:=k1.trans<|k.mono λb hb=>.inr hb;have km:aK (λb=>M b/\∀x,ρ x≠some b) W ah:=k2.trans<|k.mono λb hb=>.inl<|hM b hb.1;have SN:∀{W':World},ah.heap.size<=W'.heap.size->∀b,grow M' ah W' b->b<W'.heap.size:=λhz b hb=>hb.elim (λx=>ac6 (ac6 (QD b x) k.size) hz) And.right
   have SO:∀{W':World},∀b,grow M' ah W' b->M b\/W.heap.size<=b:=λb hb=>hb.elim (nw b) λx=>.inr<|ac8 kr.size x.1
   have NH:∀b,b<W.heap.size->(∀x,ρ x≠some b)->∀x,ρ' x≠some b:=by
    intro b hb hx x dG;rcases new x b dG with e|e
    .exact hx x e
    .omega
   rcases acM.step eG hP iv hQ m rfl with⟨σ,v,v',V',W',es,e1,hv,hq,hw,hk,mH⟩|⟨σ,s',g',W',es,e1,zf,h2,hk,mH⟩
   .have aB:∀b d,σ b=some d->d<W'.heap.size:=λb d hb=>(hw.lt hb).2
    have hp:=ID.Vr (X:=X) hk aB mH;have hN':=qK.grow hk.size;have kr':aK Ro ah W':=⟨λb hb=>hp.keep b (qK.lt b<|tS b hb)<|qK.own b<|tS b hb,hk.size,hk.os,hk.out⟩;have km':aK (λb=>M b/\∀x,ρ x≠some b) ah W':=⟨λb hb=>hk.keep b (ac6 (Ug b hb.1) kr.size)<|NH b (Ug b hb.1) hb.2,hk.size,hk.os,hk.out⟩;refine⟨_,W',es,e1,hp,Kb hv hq hw (ID.step hk aB) (λb hb=>.inl<|hM b hb) (kr.trans kr') (km.trans km') (λb d hb=>hk.le _ _<|le _ _ hb) (λb d hb=>?_) (hI ah W' (λx hx=>hp.keep x (qK.lt x hx)<|qK.own x hx) pL) (SN hk.size) SO⟩;rcases hk.new b d hb with x|⟨_,x⟩
    .exact new b d x
    .exact .inr (ac8 kr.size x)
   .have aB:∀b d,σ b=some d->d<W'.heap.size:=λb d hb=>(h2.w.lt hb).2
    have hp:=ID.Vr (X:=X) hk aB mH;have kr':aK Ro ah W':=⟨λb hb=>hp.keep b (qK.lt b<|tS b hb)<|qK.own b<|tS b hb,hk.size,hk.os,hk.out⟩;have km':aK (λb=>M b/\∀x,ρ x≠some b) ah W':=⟨λb hb=>hk.keep b (ac6 (Ug b hb.1) kr.size)<|NH b (Ug b hb.1) hb.2,hk.size,hk.os,hk.out⟩;refine⟨g',W',es,e1,hp,ih s' zf h2 (show sB σ s'.V (grow M' ah W') Ro from ID.step hk aB) (qK.grow hk.size) (hI ah W' (λx hx=>hp.keep x (qK.lt x hx)<|qK.own x hx) pL) (λb hb=>.inl<|hM b hb) (kr.trans kr') (km.trans km') (λb d hb=>hk.le _ _<|le _ _ hb) (λb d hb=>?_) (SN hk.size) SO⟩;rcases hk.new b d hb with x|⟨_,x⟩
    .exact new b d x
    .exact .inr (ac8 kr.size x)
 exact main s h.acc h hh hN hi (λ_ h=>h) (aK.refl _ _) (aK.refl _ _) (λ_ _ h=>h) (λ_ _ h=>.inl h) Ug λ_ h=>.inl h
end
end
section
open ConcN (CT Apart Ok0 OkW RelBy PermW sumTo upd)
open ConcR (stA)
def VX (n:Nat)(f g:Nat->Rk):Prop:=∃i,i<n/\Rk.lt (f i) (g i)/\∀j,j≠i->f j=g j
def VX.wf (n:Nat):WellFounded (VX n):=by
 induction n with
 |zero=>exact⟨λg=>⟨_,λf ⟨i,h,_⟩=>absurd h aa⟩⟩
 |succ n ih=>
  have key:∀r:Rk,Acc Rk.lt r->∀g:Nat->Rk,Acc (VX n) g->g n=r->Acc (VX<|n+1) g:=by
   intro r hr;induction hr with
   |intro r _ ihr=>
    intro g hg;induction hg with
    |intro g _ ihg=>
     intro e;refine⟨_,λf ⟨i,hi,aB,hs⟩=>?_⟩;by_cases h:i=n
     .subst h;rw[e]at aB;exact ihr _ aB f (ih.apply f) rfl
     .have hn:f n=g n:=hs n aa;exact ihg f ⟨i,aa,aB,hs⟩<|hn.trans e
  exact⟨λg=>key _ (Rk.wf.apply _) g (ih.apply g) rfl⟩
def Rk.nat:Nat->Rk
 |0=>.leaf
 |n+1=>.node λ_=>Rk.nat n
def Rk.NA (n:Nat)(w:World):Rk.lt (Rk.nat n) (Rk.nat<|n+1):=⟨w,rfl⟩
section
variable {Sh:Loc->Prop}{Own Rd:Nat->Loc->Prop}
def qg (t:Trace)(l:Loc):Prop:=∀i a,touchAt t i=some a->a.loc≠l
def CT.grow (h:CT Sh Own Rd t j)(ho:∀k l,1<=k->k<=j->FQ k l->Own k l\/qg t l)(hr:∀k l,1<=k->k<=j->Tm k l->Rd k l\/qg t l)(lo:∀k l,1<=k->k<=j->Own k l->FQ k l)(lr:∀k l,1<=k->k<=j->Rd k l->Tm k l):CT Sh FQ Tm t j:=
 ⟨h.quiet,λk k1 kj l hl=>(ho k l k1 kj hl).elim (h.own k k1 kj l) λx i a ha e=>absurd e<|x i a ha,λk k1 kj l hl=>(hr k l k1 kj hl).elim (h.rd k k1 kj l) λx i a ha e=>absurd e<|x i a ha,
  λl hs hl=>h.free l hs λk k1 kj=>⟨λx=>(hl k k1 kj).1<|lo k l k1 kj x,λx=>(hl k k1 kj).2<|lr k l k1 kj x⟩,λl hs hl=>h.mine l hs λk k1 kj x=>hl k k1 kj<|lo k l k1 kj x,h.nr,h.gs⟩
def me (h:∀i a,touchAt t i=some a->a.loc.low B)(hl:¬l.low B):qg t l:=λi a ha e=>hl<|e▸h i a ha
variable (am:Loc->Prop)(Sh:Loc->Prop)(Own Rd:Nat->Loc->Prop)(Wg J iE K B:Nat)
structure Tr (t:Trace):Prop where
 ct:CT Sh Own Rd t K
 old:∀(i:Nat) (op:MemOp),t[i]?=some op->op.g<J->∀a,op.act.touch?=some a->Knows t 0 i\/(am a.loc/\a.kind=.atomic)
 over:∀i g,t.g? i=some g->g≠0->g<J->t.counts i->∃q,t.g? q=some 0/\HappensBefore t i q
 mem:∀i a,touchAt t i=some a->a.loc.isMemory=true
 seen:∀i a,touchAt t i=some a->a.loc.low B
 t0:iE<=t.size
 En:∀i,iE<=i->t.act? i≠some (.mark<|.release<|stA Wg)
 born:∀(i:Nat) (op:MemOp),t[i]?=some op->J<=op.g->iE<=i
 atom:∀(i:Nat) (op:MemOp),t[i]?=some op->J<=op.g->∀a,op.act.touch?=some a->a.kind=.atomic->Sh a.loc
structure Du (op:MemOp):Prop where
 mem:∀a,op.act.touch?=some a->a.loc.isMemory=true
 low:∀a,op.act.touch?=some a->a.loc.low B
 En:op.act≠.mark (.release<|stA Wg)
 atom:J<=op.g->∀a,op.act.touch?=some a->a.kind=.atomic->Sh a.loc
end
section
variable {Sh:Loc->Prop}{Own Rd:Nat->Loc->Prop}{Wg J iE:Nat}
def Tr.mono {B':Nat}(h:Tr am Sh Own Rd Wg J iE K B t)(hB:B<=B'):Tr am Sh Own Rd Wg J iE K B' t:=
 ⟨h.ct,h.old,h.over,h.mem,λi a ha=>Loc.low_mono hB<|h.seen i a ha,h.t0,h.En,h.born,h.atom⟩
def Tr.PH {K':Nat}(h:Tr am Sh Own Rd Wg J iE K B t)(hc:CT Sh Own Rd (t++u) K')(hu:∀op∈u,Du Sh Wg J B op)(ho:∀op∈u,op.g<J->op.g=0\/op.act.touch?=none):Tr am Sh Own Rd Wg J iE K' B (t++u):=by
 refine⟨hc,λi op hi hg a ha=>?_,λi g hg h0 hJ hcn=>?_,λi a ha=>?_,λi a ha=>?_,by have:=h.t0;simp;omega,λi hi e=>?_,λi op hi hg=>?_,λi op hi hg a ha hk=>?_⟩
 .rcases getElem?_append_cases hi with⟨_,oH⟩|⟨_,YH⟩
  .exact(h.old i op oH hg a ha).imp (·.app u) id
  .rcases ho op YH hg with e|e
   .have:=knows_own hi;rw[e]at this;exact .inl this
   .rw[e]at ha;cases ha
 .let⟨op,bz,hog⟩:=adp.1 hg;rcases getElem?_append_cases bz with⟨aB,rC⟩|⟨_,xp⟩
  .let⟨q,hq,hb⟩:=h.over i g (by rw[<-g?_old (u:=u) aB];exact hg) h0 hJ<|(counts_old aB).1 hcn;have hql:q<t.size:=by
    let⟨z,hz,_⟩:=adp.1 hq;exact lt_size_of_getElem? hz
   exact⟨q,by rw[g?_old hql];exact hq,hb_app u hb⟩
  .rcases ho op xp (by rw[hog];exact hJ)with e|e
   .exact absurd (hog.symm.trans e) h0
   .let⟨x,hx,_⟩:=hcn;simp[Trace.act?,bz,e]at hx
 .let⟨op,bz,De⟩:=touch_of ha;rcases getElem?_append_cases bz with⟨_,rC⟩|⟨_,xp⟩
  .exact h.mem i a (by rw[touchAt_of rC];exact De)
  .exact(hu op xp).mem a De
 .let⟨op,bz,De⟩:=touch_of ha;rcases getElem?_append_cases bz with⟨_,rC⟩|⟨_,xp⟩
  .exact h.seen i a (by rw[touchAt_of rC];exact De)
  .exact(hu op xp).low a De
 .let⟨op,bz,De⟩:=adp.1 e;rcases getElem?_append_cases bz with⟨_,rC⟩|⟨_,xp⟩
  .exact h.En i hi (by rw[act?_of rC,De])
  .exact(hu op xp).En De
 .rcases getElem?_append_cases hi with⟨_,oH⟩|⟨tC,_⟩
  .exact h.born i op oH hg
  .exact ac8 h.t0 tC
 .rcases getElem?_append_cases hi with⟨_,oH⟩|⟨_,YH⟩
  .exact h.atom i op oH hg a ha hk
  .exact(hu op YH).atom hg a ha hk
def Tr.grow (h:Tr am Sh Own Rd Wg J iE K B t)(ho:∀k l,1<=k->k<=K->FQ k l->Own k l\/¬l.low B)(hr:∀k l,1<=k->k<=K->Tm k l->Rd k l\/¬l.low B)(lo:∀k l,1<=k->k<=K->Own k l->FQ k l)(lr:∀k l,1<=k->k<=K->Rd k l->Tm k l):Tr am Sh FQ Tm Wg J iE K B t:=
 ⟨CT.grow h.ct (λk l k1 k2 x=>(ho k l k1 k2 x).imp id<|me h.seen) (λk l k1 k2 x=>(hr k l k1 k2 x).imp id<|me h.seen) lo lr,h.old,h.over,h.mem,h.seen,h.t0,h.En,h.born,h.atom⟩
def Tr.app0 (A:Apart Sh Own Rd)(h:Tr am Sh Own Rd Wg J iE K B t)(hk:∀op∈u,Ok0 Sh Own Rd K op)(hu:∀op∈u,Du Sh Wg J B op):Tr am Sh Own Rd Wg J iE K B (t++u):=
 h.PH (h.ct.app0 A hk) hu λop bz _=>.inl (hk op bz).1
def Tr.appW (A:Apart Sh Own Rd)(h:Tr am Sh Own Rd Wg J iE K B t)(k1:J<=k)(kK:k<=K)(hJ:1<=J)(hk:∀op∈u,OkW Sh Own Rd k op)(hu:∀op∈u,Du Sh Wg J B op):Tr am Sh Own Rd Wg J iE K B (t++u):=
 h.PH (h.ct.appW A aa kK hk) hu λop bz hg=>by have:=(hk op bz).1;omega
def Tr.LJ (A:Apart Sh Own Rd)(h:Tr am Sh Own Rd Wg J iE K B t)(k1:1<=k)(kK:k<=K)(hk:∀op∈u,op.g=k)(hn:∀op∈u,op.act.touch?=none)(hu:∀op∈u,op.act≠.mark (.release<|stA Wg)):Tr am Sh Own Rd Wg J iE K B (t++u):=
 h.PH (h.ct.appW A k1 kK λop bz=>⟨hk op bz,λx hx=>by rw[hn op bz]at hx;cases hx⟩) (λop bz=>⟨λa ha=>(by rw[hn op bz]at ha;cases ha),λa ha=>(by rw[hn op bz]at ha;cases ha),hu op bz,λ_ a ha=>(by rw[hn op bz]at ha;cases ha)⟩) λop bz _=>.inr<|hn op bz
def Tr.fork (A:Apart Sh Own Rd)(h:Tr am Sh Own Rd Wg J iE K B t){x y:MemOp}(hx:x.g=0/\x.act=.go (K+1))(hy:y.g=K+1/\y.act=.start)(h0:Deaf t 0=0):Tr am Sh Own Rd Wg J iE (K+1) B (t++#[x,y]):=by
 have hm:∀op∈#[x,y],op=x\/op=y:=λop bz=>by simpa using bz
 refine h.PH (h.ct.fork A hx hy h0) (λop bz=>?_) λop bz hg=>?_
 .rcases hm op bz with rfl|rfl
  .exact⟨λa ha=>(by rw[hx.2]at ha;cases ha),λa ha=>(by rw[hx.2]at ha;cases ha),(by rw[hx.2];simp),λ_ a ha=>(by rw[hx.2]at ha;cases ha)⟩
  .exact⟨λa ha=>(by rw[hy.2]at ha;cases ha),λa ha=>(by rw[hy.2]at ha;cases ha),(by rw[hy.2];simp),λ_ a ha=>(by rw[hy.2]at ha;cases ha)⟩
 .rcases hm op bz with rfl|rfl
  .exact .inl hx.1
  .exact .inr (by rw[hy.2];rfl)
structure lL (am:Loc->Prop)(B:Nat)(t:Trace):Prop where
 clean:∀said,¬Race said t
 known:∀i a,touchAt t i=some a->Knows t 0 i\/(am a.loc/\a.kind=.atomic)
 over:t.HandedOver
 hears:Deaf t 0=0
 seen:∀i a,touchAt t i=some a->a.loc.low B
 quiet:Quiet am t
 mem:∀i a,touchAt t i=some a->a.loc.isMemory=true
def lL.tr (h:lL am B t)(hs:∀l,Sh l->am l\/qg t l)(ls:∀l,am l->Sh l)(hgs:∀(i:Nat) (op:MemOp),t[i]?=some op->op.g<J)(hJ:K+1=J)(hO:∀k l,k<J->¬Own k l/\¬Rd k l):Tr am Sh Own Rd Wg J t.size K B t:=by
 have kn:∀l,¬Sh l->Perm t 0 l:=λl hl i a ha e=>(h.known i a ha).resolve_right λx=>hl<|ls l<|e▸x.1
 refine⟨⟨λi op x hi hx hsx=>?_,λk _ kK l hl=>absurd hl (hO k l aa).1,λk _ kK l hl=>absurd hl (hO k l aa).2,λl hl _=>kn l hl,λl hl _=>.of<|kn l hl,h.clean,λi op hi=>by have:=hgs i op hi;omega⟩,
  λi op hi _ a ha=>h.known i a (by rw[touchAt_of hi];exact ha),λi g hg h0 _ hc=>h.over i g hg h0 hc,h.mem,h.seen,ac5 _,λi hi e=>?_,λi op hi hg=>absurd (hgs i op hi) aa,λi op hi hg=>absurd (hgs i op hi) aa⟩
 .rcases hs _ hsx with e|e
  .exact h.quiet i op x hi hx e
  .exact absurd rfl (e i x<|by rw[touchAt_of hi];exact hx)
 .have:=lt_of_act? e;omega
def Tr.past (h:Tr am Sh Own Rd Wg J iE K B t)(ls:∀l,am l->Sh l){q:Nat}(hq:t.act? q=some (.mark<|.acquire<|stA Wg))(hg:t.g? q=some 0)(hh:t.heard q)(all:∀k,J<=k->k<=K->∃r,RelBy (stA Wg) t k r/\r<q)(hd:Deaf t 0=0):lL Sh B t:=by
 have XH:∀i k,J<=k->t.g? i=some k->t.counts i->∃q,t.g? q=some 0/\HappensBefore t i q:=by
  intro i k hJ hk hc;let⟨op,ho,hog⟩:=adp.1 hk;let⟨r,hr,hrq⟩:=all k hJ<|hog▸h.ct.gs i op ho;let⟨or,Y1,aa7⟩:=adp.1 hr.g;have ig:iE<=r:=h.born r or Y1 (by rw[aa7];exact hJ);have ed:HappensBefore t r q:=.single<|.inr ⟨.marked hrq (.inr hr.act) hq λk hk _=>h.En k aa,hr.heard,hh⟩;have hle:i<=r:=Nat.le_of_not_lt λaB=>hr.after i aB hk hc
  rcases ade i r with aB|tC
  .exact⟨q,hg,.trans (.single<|.inl ⟨aB,k,hk,hr.g⟩) ed⟩
  .obtain rfl:i=r:=by omega
   exact⟨q,hg,ed⟩
 refine⟨h.ct.nr,λi a ha=>?_,λi g Z' h0 hc=>?_,hd,h.seen,h.ct.quiet,h.mem⟩
 .let⟨op,ho,De⟩:=touch_of ha;rcases ade op.g J with aB|tC
  .exact(h.old i op ho aB a De).imp id λx=>⟨ls _ x.1,x.2⟩
  .have hk:t.g? i=some op.g:=by simp[Trace.g?,ho]
   by_cases hc:t.counts i
   .let⟨p,hp,hb⟩:=XH i op.g tC hk hc;let⟨z,hz,hzg⟩:=adp.1 hp;exact .inl ⟨p,z,hz,hzg,.inr hb⟩
   .have hka:a.kind=.atomic:=adu λhne=>hc ⟨a,ha,h.mem i a ha,.inl hne⟩
    exact .inr ⟨h.atom i op ho tC a De hka,hka⟩
 .rcases ade g J with aB|tC
  .exact h.over i g Z' h0 aB hc
  .exact XH i g tC Z' hc
end
end
section
open ConcN (CT Apart Ok0 OkW RelBy PermW sumTo upd WgLive RW DWs AtR0 WSit CTag WD Mode Vc pend phi PayAt Has)
open ConcR (stA smA WgAt KK rd wr mk)
structure Ph where
 P:Program
 ty:TypeId
 Wg:Nat
 tk:Addr
 Bs:Nat
 Xz:TypeId
 wd:Nat
 n:Nat
 L:Nat
 J:Nat
 iE:Nat
 Tn:List Nat->List Value->(Nat->Prop)->World->Prop
 pl:Go.ConcR.Payload
namespace Ph
variable (p:Ph)
def Sp (b:Nat):Prop:=b=p.Wg\/b=p.tk.block\/b=p.Bs
def jH (w:World)(x:Nat):Prop:=w.cell? p.tk=some (.int .i64 x)/\w.frozen? p.tk=false
def qz (cs:Array Value)(w:World):Prop:=w.heap[p.Bs]?=some (.cells cs p.Xz)/\cs.size=p.n*p.wd
def I (w:World):Prop:=WgLive p.ty p.Wg w/\(∃x,p.jH w x)/\∃cs,p.qz cs w
def QB:H0 p.Sp p.I:=by
 rintro w w' h ⟨⟨st,sm,hw⟩,⟨x,IR,hx2⟩,cs,hc,hn⟩;have h1:=h p.Wg<|.inl rfl;have h2:=h p.tk.block<|.inr<|.inl rfl;have h3:=h p.Bs<|.inr<|.inr rfl;exact⟨⟨st,sm,h1.trans hw⟩,⟨x,by simpa[World.cell?,h2]using IR,by simpa[World.frozen?,h2]using hx2⟩,cs,h3.trans hc,hn⟩
structure Xn (k:Nat)(vs:List Value)(w w':World):Prop where
 size:w'.heap.size=w.heap.size
 tape:w'.tape=w.tape
 os:w'.os=w.os
 out:w'.output=w.output
 block:∀b,b≠p.Bs->w'.heap[b]?=w.heap[b]?
 len:vs.length=p.wd
 put:∀cs,p.qz cs w->∃cs',p.qz cs' w'/\∀o,cs'[o]?=if k*p.wd<=o/\o<(k+1)*p.wd then vs[o-k*p.wd]? else cs[o]?
def Slot (k:Nat)(vs:List Value)(w:World):Prop:=vs.length=p.wd/\∀cs,p.qz cs w->∀o,o<p.wd->cs[k*p.wd+o]?=vs[o]?
def nE (_:Event):Prop:=False
def dE (e:Event):Prop:=∃a:Addr,a.block=p.Wg/\(e=⟨.mark<|.read a,false,true⟩\/e=⟨.mark<|.write a,false,true⟩)
section
variable (k:Nat)(Ro:Nat->Prop)
def zO (seq:List Nat)(M:Nat->Prop)(g:Goroutine)(W:World):Prop:=
 g.status=.running/\((∃cs,p.qz cs W)->∃g' W' es vs,stepG p.P false g W=.go g' W' es/\p.Xn k vs W W'/\(∀e∈es,e.sync=false/\∃a:Addr,e.loc=.cell a/\a.block=p.Bs/\k*p.wd<=a.off/\a.off<(k+1)*p.wd)/\
  ∃Mr C c v m,p.Tn seq vs Mr W'/\(∀b,Mr b->M b)/\M C/\¬Mr C/\@Goes p.P false (@RW p.pl p.ty p.Wg C c 0 0) (@DWs p.pl p.Wg (λ_ _=>False) (λ_ _=>False) C c 1) (@AtR0 p.pl p.P p.ty p.Wg C c 0 1 v) m g' W')
def j9:Nat->Nat->List Nat->(Nat->Prop)->Goroutine->World->Prop
 |0,lo,seq=>λM g W=>g.status=.running/\∀x:Nat,lo<=x->x<4611686018427387904->p.jH W x->p.L<=x/\
   ∃g',stepG p.P false g W=.go g' (W.setCell p.tk<|.int .i64<|x+1) #[rd p.tk,wr p.tk]/\ET p.P false p.I nE Ro (zO p k seq) M g' (W.setCell p.tk<|.int .i64<|x+1)
 |f+1,lo,seq=>λM g W=>g.status=.running/\∀x:Nat,lo<=x->x<4611686018427387904->p.jH W x->
   ∃g',stepG p.P false g W=.go g' (W.setCell p.tk<|.int .i64<|x+1) #[rd p.tk,wr p.tk]/\
    (p.L<=x->ET p.P false p.I nE Ro (zO p k seq) M g' (W.setCell p.tk<|.int .i64<|x+1))/\(x<p.L->ET p.P false p.I nE Ro (j9 f (x+1)<|seq++[x]) M g' (W.setCell p.tk<|.int .i64<|x+1))
end
section
variable (Fin:(Nat->Prop)->(Nat->Prop)->Goroutine->World->Prop)(Anch:(Nat->Prop)->(Nat->Prop)->Goroutine->World->Prop)(Ro:Nat->Prop)
def AtAcq (M:Nat->Prop)(g:Goroutine)(W:World):Prop:=g.status=.running/\∃g',stepG p.P true g W=.go g' W #[Go.ConcR.mk<|.acquire<|stA p.Wg]/\Fin Ro M g' W
def AtKe (M:Nat->Prop)(g:Goroutine)(W:World):Prop:=g.status=.running/\∃g',stepG p.P true g W=.go g' W #[Go.ConcR.mk .enable]/\ET p.P true p.I p.dE Ro (p.AtAcq Fin Ro) M g' W
def AtW4 (M:Nat->Prop)(g:Goroutine)(W:World):Prop:=g.status=.running/\(WgAt p.ty p.Wg W 0 0->∃g',stepG p.P true g W=.go g' W #[rd<|stA p.Wg]/\ET p.P true p.I p.dE Ro (p.AtKe Fin Ro) M g' W)
def AtW3 (M:Nat->Prop)(g:Goroutine)(W:World):Prop:=
 g.status=.running/\g.offers=none/\((∃st,WgAt p.ty p.Wg W st 0)->stepG p.P true g W=.go {g with status:=.blocked} W #[])/\
  (WgAt p.ty p.Wg W 0 1->∃g',stepG p.P true g W=.go g' (W.setCell (smA p.Wg)<|.int .u32 0) (semEvents<|smA p.Wg)/\ET p.P true p.I p.dE Ro (p.AtW4 Fin Ro) M g' (W.setCell (smA p.Wg)<|.int .u32 0))
def AtW2 (vs:Nat)(M:Nat->Prop)(g:Goroutine)(W:World):Prop:=
 g.status=.running/\∀v:Nat,v<2147483648->WgAt p.ty p.Wg W (v*KK) 0->
  (v=vs->∃g',stepG p.P true g W=.go g' (W.setCell (stA p.Wg)<|.int .u64<|v*KK+1) #[rd<|stA p.Wg,wr<|stA p.Wg]/\ET p.P true p.I p.dE Ro (p.AtW3 Fin Ro) M g' (W.setCell (stA p.Wg)<|.int .u64<|v*KK+1))/\
  (v≠vs->∃g',stepG p.P true g W=.go g' W #[rd<|stA p.Wg]/\ET p.P true p.I p.dE Ro (Anch Ro) M g' W)
def AtW1 (M:Nat->Prop)(g:Goroutine)(W:World):Prop:=
 g.status=.running/\∀v:Nat,v<2147483648->WgAt p.ty p.Wg W (v*KK) 0->∃g',stepG p.P true g W=.go g' W #[rd<|stA p.Wg]/\
  (v=0->ET p.P true p.I p.dE Ro (p.AtKe Fin Ro) M g' W)/\(v≠0->ET p.P true p.I p.dE Ro (p.AtW2 Fin Anch Ro v) M g' W)
def AtKd (M:Nat->Prop)(g:Goroutine)(W:World):Prop:=g.status=.running/\∃g',stepG p.P true g W=.go g' W #[Go.ConcR.mk .disable]/\ET p.P true p.I p.dE Ro (Anch Ro) M g' W
variable (k:Nat)(Next:(Nat->Prop)->(Nat->Prop)->Goroutine->World->Prop)
def AtGo (M:Nat->Prop)(g:Goroutine)(W:World):Prop:=
 g.status=.running/\∃g' child qH,stepG p.P true g W=.spawn g' child W #[]/\child.status=.running/\(∀b,Ro b->qH b)/\(∀b,qH b->Ro b\/M b)/\
  ET p.P false p.I nE qH (p.j9 k qH p.L 0 []) (λ_=>False) child W/\Next qH (λb=>M b/\¬qH b) g' W
def AtKeS (M:Nat->Prop)(g:Goroutine)(W:World):Prop:=g.status=.running/\∃g',stepG p.P true g W=.go g' W #[Go.ConcR.mk .enable]/\ET p.P true p.I p.dE Ro (p.AtGo Ro k Next) M g' W
def AtA1 (M:Nat->Prop)(g:Goroutine)(W:World):Prop:=
 g.status=.running/\∀v:Nat,v<2147483647->WgAt p.ty p.Wg W (v*KK) 0->
  ∃g',stepG p.P true g W=.go g' (W.setCell (stA p.Wg)<|.int .u64<|(v+1)*KK) #[rd<|stA p.Wg,wr<|stA p.Wg]/\ET p.P true p.I p.dE Ro (p.AtKeS Ro k Next) M g' (W.setCell (stA p.Wg)<|.int .u64<|(v+1)*KK)
def AtKdS (M:Nat->Prop)(g:Goroutine)(W:World):Prop:=g.status=.running/\∃g',stepG p.P true g W=.go g' W #[Go.ConcR.mk .disable]/\ET p.P true p.I p.dE Ro (p.AtA1 Ro k Next) M g' W
end
section
variable (Fin:(Nat->Prop)->(Nat->Prop)->Goroutine->World->Prop)(Anch:(Nat->Prop)->(Nat->Prop)->Goroutine->World->Prop)
def Spawns:Nat->(Nat->Prop)->(Nat->Prop)->Goroutine->World->Prop
 |0,Ro=>λM g W=>ET p.P true p.I p.dE Ro (p.AtKd Anch Ro) M g W
 |r+1,Ro=>λM g W=>ET p.P true p.I p.dE Ro (p.AtKdS Ro (p.n-(r+1))<|Spawns r) M g W
inductive fV:CTag->Nat->Rk->Nat->Nat->(Nat->Prop)->(Nat->Prop)->Goroutine->World->Prop
 |skd {r:Nat} {ρ:Rk} {Ro M:Nat->Prop} {g:Goroutine} {w:World}:r<p.n->PT p.P true p.I p.dE Ro (p.AtKdS Ro (p.n-(r+1))<|p.Spawns Anch r) ρ M g w->fV (.sp r 5) (p.n-(r+1)) ρ 0 0 Ro M g w
 |sa1 {r:Nat} {ρ:Rk} {Ro M:Nat->Prop} {g:Goroutine} {w:World}:r<p.n->PT p.P true p.I p.dE Ro (p.AtA1 Ro (p.n-(r+1))<|p.Spawns Anch r) ρ M g w->fV (.sp r 4) (p.n-(r+1)) ρ 0 1 Ro M g w
 |ske {r:Nat} {ρ:Rk} {Ro M:Nat->Prop} {g:Goroutine} {w:World}:r<p.n->PT p.P true p.I p.dE Ro (p.AtKeS Ro (p.n-(r+1))<|p.Spawns Anch r) ρ M g w->fV (.sp r 3) (p.n-(r+1)) ρ 0 1 Ro M g w
 |sgo {r:Nat} {ρ:Rk} {Ro M:Nat->Prop} {g:Goroutine} {w:World}:r<p.n->PT p.P true p.I p.dE Ro (p.AtGo Ro (p.n-(r+1))<|p.Spawns Anch r) ρ M g w->fV (.sp r 2) (p.n-(r+1)) ρ 0 0 Ro M g w
 |kd {ρ:Rk} {Ro M:Nat->Prop} {g:Goroutine} {w:World}:PT p.P true p.I p.dE Ro (p.AtKd Anch Ro) ρ M g w->fV .kd p.n ρ 0 0 Ro M g w
 |anch {ρ:Rk} {Ro M:Nat->Prop} {g:Goroutine} {w:World}:PT p.P true p.I p.dE Ro (Anch Ro) ρ M g w->fV .anch p.n ρ 0 1 Ro M g w
 |w1 {ρ:Rk} {Ro M:Nat->Prop} {g:Goroutine} {w:World}:PT p.P true p.I p.dE Ro (p.AtW1 Fin Anch Ro) ρ M g w->fV .w1 p.n ρ 0 1 Ro M g w
 |w2 {vs:Nat} {ρ:Rk} {Ro M:Nat->Prop} {g:Goroutine} {w:World}:PT p.P true p.I p.dE Ro (p.AtW2 Fin Anch Ro vs) ρ M g w->fV (.w2 vs) p.n ρ 0 1 Ro M g w
 |w3 {ρ:Rk} {Ro M:Nat->Prop} {g:Goroutine} {w:World}:PT p.P true p.I p.dE Ro (p.AtW3 Fin Ro) ρ M g w->fV .w3 p.n ρ 1 1 Ro M g w
 |blk {ρ:Rk} {Ro M:Nat->Prop} {g:Goroutine} {w:World}:g.status=.running->g.offers=none->PT p.P true p.I p.dE Ro (p.AtW3 Fin Ro) ρ M g w->(∀acV,aK (λb=>M b\/Ro b) w acV->p.I acV->p.AtW3 Fin Ro M g acV)->fV .blk p.n ρ 0 1 Ro M {g with status:=.blocked} w
 |w4 {ρ:Rk} {Ro M:Nat->Prop} {g:Goroutine} {w:World}:PT p.P true p.I p.dE Ro (p.AtW4 Fin Ro) ρ M g w->fV .w4 p.n ρ 0 1 Ro M g w
 |ke {ρ:Rk} {Ro M:Nat->Prop} {g:Goroutine} {w:World}:PT p.P true p.I p.dE Ro (p.AtKe Fin Ro) ρ M g w->fV .ke p.n ρ 0 1 Ro M g w
 |acq {ρ:Rk} {Ro M:Nat->Prop} {g:Goroutine} {w:World}:PT p.P true p.I p.dE Ro (p.AtAcq Fin Ro) ρ M g w->fV .acq p.n ρ 0 0 Ro M g w
inductive nC where
 |jg (f lo:Nat) (seq:List Nat)
 |put (seq:List Nat)
 |lib (s:Nat) (seq:List Nat) (vs:List Value) (Mr:Nat->Prop)
def nC.stage:nC->Nat
 |.lib s _ _ _=>s
 |_=>7
def nC.cost:nC->Nat
 |.jg f _ _=>9+f
 |.put _=>8
 |.lib s _ _ _=>s
def nC.seq:nC->List Nat
 |.jg _ _ s=>s
 |.put s=>s
 |.lib _ s _ _=>s
inductive WS (k:Nat)(Ro:Nat->Prop):nC->Rk->Nat->(Nat->Prop)->Goroutine->World->Prop
 |jg {f lo:Nat} {seq:List Nat} {ρ:Rk} {M:Nat->Prop} {g:Goroutine} {w:World}:PT p.P false p.I nE Ro (p.j9 k Ro f lo seq) ρ M g w->WS k Ro (.jg f lo seq) ρ 0 M g w
 |put {seq:List Nat} {ρ:Rk} {M:Nat->Prop} {g:Goroutine} {w:World}:PT p.P false p.I nE Ro (p.zO k seq) ρ M g w->WS k Ro (.put seq) ρ 0 M g w
 |lib {s m d C c:Nat} {v:Value} {seq:List Nat} {vs:List Value} {Mr M:Nat->Prop} {g:Goroutine} {w:World}:M C->¬Mr C->@WSit p.pl p.P p.ty p.Wg C c (λ_ _=>False) (λ_ _=>False) 0 1 v s m d g w->WS k Ro (.lib s seq vs Mr) (Rk.nat m) d M g w
end
end Ph
end
section
open ConcN (CT Apart Ok0 OkW RelBy PermW sumTo upd WgLive RW DWs AtR0 WSit CTag WD Mode Vc pend phi PayAt Has upd_same upd_ne)
open ConcR (stA smA WgAt KK rd wr)
def fC (S:Nat->Prop):Loc->Prop
 |.cell a=>S a.block
 |.obj r=>S r
 |_=>False
def fC.mono (h:∀b,S b->S' b):∀{l:Loc},fC S l->fC S' l
 |.cell _,x|.obj _,x=>h _ x
def fC.some:∀{l:Loc},fC S l->∃b,S b/\fC (·=b) l
 |.cell _,x|.obj _,x=>⟨_,x,rfl⟩
def fC.eq {b':Nat}:∀{l:Loc},fC (·=b) l->fC (·=b') l->b=b'
 |.cell _,x,y|.obj _,x,y=>x.symm.trans y
def fC.low (h:∀b,S b->b<B):∀{l:Loc},fC S l->l.low B
 |.cell _,x|.obj _,x=>h _ x
def fC.QI (h:B<=b):∀{l:Loc},fC (·=b) l->¬l.low B
 |.cell _,x,y|.obj _,x,y=>by cases x;exact absurd y<|Nat.not_lt.2 h
namespace Ph
variable (p:Ph)(am:Loc->Prop)
def rP (k:Nat)(l:Loc):Prop:=∃a:Addr,l=.cell a/\a.block=p.Bs/\k*p.wd<=a.off/\a.off<(k+1)*p.wd
def Own (M:Nat->Nat->Prop)(k:Nat)(l:Loc):Prop:=p.J<=k/\(fC (M<|k-p.J+1) l\/p.rP (k-p.J) l)
def Rd (Ro:Nat->Nat->Prop)(k:Nat)(l:Loc):Prop:=p.J<=k/\fC (Ro<|k-p.J+1) l
def Sh (l:Loc):Prop:=am l\/∃a:Addr,l=.cell a/\(a.block=p.Wg\/a.block=p.tk.block)
structure Geo:Prop where
 wt:p.Wg≠p.tk.block
 wb:p.Wg≠p.Bs
 tb:p.tk.block≠p.Bs
 abC:∀a:Addr,a.block=p.Bs->¬am (.cell a)
 J1:1<=p.J
structure Ie (cD:Nat)(M Ro:Nat->Nat->Prop)(w:World):Prop where
 BF:∀i k,i≠k->∀b,M i b->¬M k b
 ro:∀i k b,M i b->¬Ro k b
 sp:∀i b,p.Sp b->¬M i b/\¬Ro i b
 lt:∀i b,M i b\/Ro i b->b<w
 o0:∀b,p.Sp b->b<w
 ky:∀i b,M i b\/Ro i b->∀l,fC (·=b) l->¬am l
 base:cD<=w
variable {p}{am}{M Ro:Nat->Nat->Prop}
def rP.eq {k':Nat}(h:p.rP k l)(h':p.rP k' l):k=k':=by
 obtain⟨a,rfl,_,h1,h2⟩:=h;let⟨a',e,_,h3,h4⟩:=h';cases e;have:∀x y:Nat,x*p.wd<=a.off->a.off<(y+1)*p.wd->x<=y:=λx y hx hy=>adt (Nat.lt_of_mul_lt_mul_right (a:=p.wd)<|by rw[Nat.succ_eq_add_one];omega)
 have a1:=this k k' h1 h4;have a2:=this k' k h3 h2;omega
def rP.fC (h:p.rP k l):fC (·=p.Bs) l:=by obtain⟨a,rfl,h,_⟩:=h;exact h
def Ji (h:p.Sh am l):am l\/fC (λb=>b=p.Wg\/b=p.tk.block) l:=h.imp id λ⟨_,e,h⟩=>e▸h
def Ie.apart (h:Ie p am cD M Ro w)(G:Geo p am):Apart (p.Sh am) (p.Own M) (p.Rd Ro):=by
 refine⟨λk k' l ⟨hk,h1⟩ ⟨pc,h2⟩=>?_,λk k' l ⟨hk,h1⟩ ⟨pc,h2⟩=>?_,λk l ⟨hk,h1⟩ hs=>?_,λk l ⟨hk,h1⟩ hs=>?_⟩
 .rcases h1 with h1|h1<;>rcases h2 with h2|h2
  .let⟨b,hb,hl⟩:=h1.some;let⟨b',dw,mI⟩:=h2.some;obtain rfl:=hl.eq mI;rcases Nat.decEq (k-p.J+1) (k'-p.J+1)with hne|he
   .exact absurd dw (h.BF _ _ hne b hb)
   .omega
  .let⟨b,hb,hl⟩:=h1.some;obtain rfl:=hl.eq h2.fC;exact absurd hb (h.sp _ _<|.inr<|.inr rfl).1
  .let⟨b,hb,hl⟩:=h2.some;obtain rfl:=hl.eq h1.fC;exact absurd hb (h.sp _ _<|.inr<|.inr rfl).1
  .have:=h1.eq h2;omega
 .let⟨b',dw,mI⟩:=h2.some;rcases h1 with h1|h1
  .let⟨b,hb,hl⟩:=h1.some;obtain rfl:=hl.eq mI;exact h.ro _ _ b hb dw
  .obtain rfl:=mI.eq h1.fC;exact(h.sp _ _<|.inr<|.inr rfl).2 dw
 .rcases h1 with h1|h1
  .let⟨b,hb,hl⟩:=h1.some;rcases Ji hs with x|x
   .exact h.ky _ b (.inl hb) l hl x
   .let⟨b',dw,mI⟩:=x.some;obtain rfl:=hl.eq mI;exact(h.sp _ b<|dw.imp id .inl).1 hb
  .rcases Ji hs with x|x
   .obtain⟨a,rfl,ha,_⟩:=h1;exact G.abC a ha x
   .let⟨b',dw,mI⟩:=x.some;obtain rfl:=h1.fC.eq mI;exact dw.elim (λe=>G.wb e.symm) λe=>G.tb e.symm
 .let⟨b,hb,hl⟩:=h1.some;rcases Ji hs with x|x
  .exact h.ky _ b (.inr hb) l hl x
  .let⟨b',dw,mI⟩:=x.some;obtain rfl:=hl.eq mI;exact(h.sp _ b<|dw.imp id .inl).2 hb
def Ie.grow (h:Ie p am cD M Ro w)(hS:∀l,am l->l.low cD)(i:Nat)(hs:w.heap.size<=w'):Ie p am cD (upd M i<|grow (M i) w w') Ro w':=by
 have key:∀k b,upd M i (Proofs.YtlmcblcijndipaaGreatDoor.grow (M i) w w') k b->M k b\/(k=i/\w.heap.size<=b/\b<w'):=by
  intro k b hb;by_cases e:k=i
  .subst e;rw[upd_same]at hb;exact hb.imp id λx=>⟨rfl,x⟩
  .rw[upd_ne _ _ e]at hb;exact .inl hb
 refine⟨λk k' hne b hb dw=>?_,λk k' b hb dw=>?_,λk b hb=>⟨λhk=>?_,(h.sp k b hb).2⟩,λk b hb=>?_,λb hb=>ac6 (h.o0 b hb) hs,λk b hb l hl hx=>?_,ac8 h.base hs⟩
 .rcases key _ _ hb with x|⟨x,y,z⟩<;>rcases key _ _ dw with x'|⟨x',y',z'⟩
  .exact h.BF k k' hne b x x'
  .have:=h.lt k b<|.inl x;omega
  .have:=h.lt k' b<|.inl x';omega
  .exact hne (x.trans x'.symm)
 .rcases key _ _ hb with x|⟨x,y,z⟩
  .exact h.ro k k' b x dw
  .have:=h.lt k' b<|.inr dw;omega
 .rcases key _ _ hk with x|⟨x,y,z⟩
  .exact(h.sp k b hb).1 x
  .have:=h.o0 b hb;omega
 .rcases hb with hb|hb
  .rcases key _ _ hb with x|⟨x,y,z⟩
   .exact ac6 (h.lt k b<|.inl x) hs
   .exact z
  .exact ac6 (h.lt k b<|.inr hb) hs
 .rcases hb with hb|hb
  .rcases key _ _ hb with x|⟨x,y,z⟩
   .exact h.ky k b (.inl x) l hl hx
   .exact hl.QI (ac8 h.base y) (hS l hx)
  .exact h.ky k b (.inr hb) l hl hx
def Ie.at (h:Ie p am cD M Ro w)(hs:w.heap.size<=w'):Ie p am cD M Ro w':=
 ⟨h.BF,h.ro,h.sp,λi b hb=>ac6 (h.lt i b hb) hs,λb hb=>ac6 (h.o0 b hb) hs,h.ky,ac8 h.base hs⟩
def Jo (h:Tr am (p.Sh am) (p.Own M) (p.Rd Ro) p.Wg p.J p.iE K w.heap.size t)(i:Nat)(hs:w.heap.size<=w'):Tr am (p.Sh am) (p.Own<|upd M i<|grow (M i) w w') (p.Rd Ro) p.Wg p.J p.iE K w'.heap.size t:=by
 refine(h.grow (λk l _ _ ⟨hk,hx⟩=>?_) (λk l _ _ hx=>.inl hx) (λk l _ _ ⟨hk,hx⟩=>⟨hk,hx.imp (fC.mono λb hb=>?_) id⟩) λk l _ _ hx=>hx).mono hs
 .rcases hx with hx|hx
  .by_cases e:k-p.J+1=i
   .rw[e,upd_same]at hx;let⟨b,hb,hl⟩:=hx.some;rcases hb with hb|⟨hb,_⟩
    .exact .inl ⟨hk,.inl<|by rw[e];exact fC.mono (λ_ (y:_=b)=>y▸hb) hl⟩
    .exact .inr (hl.QI hb)
   .rw[upd_ne _ _ e]at hx;exact .inl ⟨hk,.inl hx⟩
  .exact .inl ⟨hk,.inr hx⟩
 .by_cases e:k-p.J+1=i
  .rw[e,upd_same];rw[e]at hb;exact .inl hb
  .rw[upd_ne _ _ e];exact hb
def jC (h:Fr X S R e)(hX:X e->(MemAct.ofEvent e).touch?=none)(hx:(MemAct.ofEvent e).touch?=some x):x.kind=.plain/\x.loc.isMemory=true/\(fC S x.loc\/(fC R x.loc/\x.write=false)):=by
 let⟨loc,wr,sy⟩:=e;rcases h with⟨e1,a,e2,h⟩|⟨e1,r,e2,h⟩|h|h
 .simp only at e1 e2;subst e1 e2;simp[MemAct.ofEvent,MemAct.touch?]at hx;subst hx;exact⟨rfl,rfl,h.imp id λy=>⟨y.1,y.2⟩⟩
 .simp only at e1 e2;subst e1 e2;simp[MemAct.ofEvent,MemAct.touch?]at hx;subst hx;exact⟨rfl,rfl,h.imp id λy=>⟨y.1,y.2⟩⟩
 .let⟨m,h1,h2⟩:=h;cases h2;cases m<;>first|(cases h1;done)|(cases hx;done)
 .rw[hX h]at hx;cases hx
def gq {m:Mark}(h:Fr X S R e)(hX:X e->e.loc≠.mark m)(hm:Ls m=false):e.loc≠.mark m:=by
 rcases h with⟨_,a,e2,_⟩|⟨_,r,e2,_⟩|h|h
 .rw[e2];simp
 .rw[e2];simp
 .obtain⟨m',h1,rfl⟩:=h;intro e;simp only[Loc.mark.injEq]at e;rw[e,hm]at h1;cases h1
 .exact hX h
end Ph
section
variable {I:World->Prop}{Ro:Nat->Prop}{r:Rk}
def PT.cases (h:PT P m I X Ro Stop r M g W):(∀ah,aK (λb=>M b\/Ro b) W ah->I ah->Stop M g ah)\/
  ∃f,r=.node f/\g.status=.running/\∀ah,aK (λb=>M b\/Ro b) W ah->I ah->∃g' W' es,stepG P m g ah=.go g' W' es/\eP X M Ro ah W' es/\PT P m I X Ro Stop (f ah) (grow M ah W') g' W':=by
 cases r with
 |leaf=>exact .inl h
 |node f=>exact Or.imp id (λx=>⟨f,rfl,x⟩) h
def PT.running (dz:∀M g W,Stop M g W->g.status=.running)(h:PT P m I X Ro Stop r M g W)(i:I W):g.status=.running:=by
 rcases h.cases with h|⟨_,_,h,_⟩
 .exact dz _ _ _ (h W (aK.refl _ _) i)
 .exact h
end
namespace Ph
variable {p:Ph}{Fin:(Nat->Prop)->(Nat->Prop)->Goroutine->World->Prop}{tag:CTag}{x:Nat}{ρ:Rk}{Ro:Nat->Prop}{a:Goroutine}{acV:World}{pl:nC}
def fV.rely (h:p.fV Fin Anch tag j ρ x d Ro M a w)(hk:aK (λb=>M b\/Ro b) w acV):p.fV Fin Anch tag j ρ x d Ro M a acV:=by
 cases h with
 |skd h1 h=>exact .skd h1 (h.rely hk)
 |sa1 h1 h=>exact .sa1 h1 (h.rely hk)
 |ske h1 h=>exact .ske h1 (h.rely hk)
 |sgo h1 h=>exact .sgo h1 (h.rely hk)
 |kd h=>exact .kd (h.rely hk)
 |anch h=>exact .anch (h.rely hk)
 |w1 h=>exact .w1 (h.rely hk)
 |w2 h=>exact .w2 (h.rely hk)
 |w3 h=>exact .w3 (h.rely hk)
 |blk h1 h2 h3 h=>exact .blk h1 h2 (h3.rely hk) λFm acQ i=>h Fm (hk.trans acQ) i
 |w4 h=>exact .w4 (h.rely hk)
 |ke h=>exact .ke (h.rely hk)
 |acq h=>exact .acq<|h.rely hk
def fV.status (nP:∀Ro M g W,Anch Ro M g W->g.status=.running)(h:p.fV Fin Anch tag j ρ x d Ro M a w)(i:p.I w):(a.status=.running/\tag≠.blk)\/(a.status=.blocked/\tag=.blk):=by
 cases h with
 |skd _ h=>exact .inl ⟨h.running (λ_ _ _ x=>x.1) i,aF⟩
 |sa1 _ h=>exact .inl ⟨h.running (λ_ _ _ x=>x.1) i,aF⟩
 |ske _ h=>exact .inl ⟨h.running (λ_ _ _ x=>x.1) i,aF⟩
 |sgo _ h=>exact .inl ⟨h.running (λ_ _ _ x=>x.1) i,aF⟩
 |kd h=>exact .inl ⟨h.running (λ_ _ _ x=>x.1) i,aF⟩
 |anch h=>exact .inl ⟨h.running (λ_ _ _ x=>nP _ _ _ _ x) i,aF⟩
 |w1 h=>exact .inl ⟨h.running (λ_ _ _ x=>x.1) i,aF⟩
 |w2 h=>exact .inl ⟨h.running (λ_ _ _ x=>x.1) i,aF⟩
 |w3 h=>exact .inl ⟨h.running (λ_ _ _ x=>x.1) i,aF⟩
 |blk _ _ _ _=>exact .inr ⟨rfl,rfl⟩
 |w4 h=>exact .inl ⟨h.running (λ_ _ _ x=>x.1) i,aF⟩
 |ke h=>exact .inl ⟨h.running (λ_ _ _ x=>x.1) i,aF⟩
 |acq h=>exact .inl ⟨h.running (λ_ _ _ x=>x.1) i,aF⟩
def fV.wokenBy (nP:∀Ro M g W,Anch Ro M g W->g.status=.running)(h:p.fV Fin Anch tag j ρ x d Ro M a w)(i:p.I w)(g g':Goroutine):
  ∃tag' x',p.fV Fin Anch tag' j ρ x' d Ro M (woken p.P g g' w a) w/\(tag'=tag\/(tag=.blk/\tag'=.w3))/\(mayWake p.P g=true->g'.status=.running->tag'≠.blk):=by
 unfold Go.Conc.woken;split
 .rcases h.status nP i with⟨hs,hne⟩|⟨_,rfl⟩
  .exact⟨tag,x,by rw[again_running _ (.inl hs)];exact h,.inl rfl,λ_ _=>hne⟩
  .cases h with
   |blk h1 h2 h3 hb=>exact⟨.w3,1,by rw[Go.ConcR.again_blocked h1 h2];exact .w3 h3,.inr ⟨rfl,rfl⟩,λ_ _=>aF⟩
 .rename_i hc;exact⟨tag,x,h,.inl rfl,λh1 h2=>absurd (by simp[h1,h2]) hc⟩
def Q8 (hC:M C)(hk:aK (λb=>M b\/Ro b) w acV)(i:p.I acV):@RW p.pl p.ty p.Wg C c 0 0 w acV:=
 letI:=p.pl;⟨λb h=>absurd h<|ac9 b,λ_=>i.1,λ⟨cs,h,hn⟩=>⟨cs,(hk.block C<|.inl hC).trans h,hn⟩,Go.ConcN.cell_of_block (hk.block C<|.inl hC) 0⟩
def WS.rely (h:p.WS k Ro pl ρ d M g w)(hk:aK (λb=>M b\/Ro b) w acV)(i:p.I acV):p.WS k Ro pl ρ d M g acV:=by
 cases h with
 |jg h=>exact .jg (h.rely hk)
 |put h=>exact .put (h.rely hk)
 |lib hC hr h=>exact .lib hC hr<|@WSit.rely p.pl _ _ _ _ _ _ _ _ _ _ _ _ _ _ _ _ h<|Q8 hC hk i
def j9.running {lo:Nat}{seq:List Nat}(h:p.j9 k Ro f lo seq M g W):g.status=.running:=by
 cases f<;>exact h.1
def WS.status (h:p.WS k Ro pl ρ d M g w)(i:p.I w):g.status=.running\/(g.status=.finished/\pl.stage=1):=by
 cases h with
 |jg h=>exact .inl (h.running (λ_ _ _ x=>x.running) i)
 |put h=>exact .inl (h.running (λ_ _ _ x=>x.1) i)
 |lib hC hr h=>
  rename_i s _ _ _ _ _ _ _;by_cases hs:s=1
  .exact(@WSit.status p.pl _ _ _ _ _ _ _ _ _ _ _ _ _ _ _ h).imp id λx=>⟨x,hs⟩
  .exact .inl (@Go.ConcN.WSit.running_of p.pl _ _ _ _ _ _ _ _ _ _ _ _ _ _ _ h hs)
def WS.woken (h:p.WS k Ro pl ρ d M g w)(i:p.I w)(a a':Goroutine)(w':World):woken p.P a a' w' g=g:=by
 unfold Go.Conc.woken;split
 .exact again_running _ ((h.status i).imp id And.left)
 .rfl
end Ph
end
section
open ConcN (CT Apart Ok0 OkW RelBy PermW sumTo sumTo_upd sumTo_congr upd WgLive RW DWs AtR0 WSit CTag WD Vc cnt pend phi phi_mono phi_retag PayAt Has upd_same upd_ne get_map_set get_map_set_same)
open ConcR (stA smA WgAt KK rd wr g_of_ofEvents)
namespace Ph
structure Gh where
 gs:Array Goroutine
 w:World
 sl:Option (Nat×Nat)
 j:Nat
 D:Nat->nC
 tag:CTag
 ρ:Rk
 x:Nat
 a:Goroutine
 M:Nat->Nat->Prop
 Ro:Nat->Nat->Prop
 R:Nat->Rk
 c:Nat
 st:Int
 sm:Int
def bN (D:Nat->nC)(i:Nat):WD:=⟨(D i).stage,0,0⟩
def nC.di:nC->Nat
 |.jg _ _ _=>0
 |_=>1
def nC.lo:nC->Nat->Prop
 |.jg _ lo _,c=>lo<=c
 |_,_=>True
def Gh.μ (p:Ph)(G:Gh):Nat×(Nat->Rk)×Rk×Nat:=(phi p.n (Vc G.j<|bN G.D) G.tag+(p.L+20)*(p.n-G.j)+sumTo G.j (λi=>(G.D i).cost),G.R,G.ρ,G.x)
def Lt4 (p:Ph):Nat×(Nat->Rk)×Rk×Nat->Nat×(Nat->Rk)×Rk×Nat->Prop:=Prod.Lex (·<·) (Prod.Lex (VX<|p.J+p.n) (Prod.Lex Rk.lt (·<·)))
def Lt4.wf (p:Ph):WellFounded (Lt4 p):=(Prod.lex Nat.lt_wfRel<|Prod.lex ⟨_,VX.wf _⟩<|Prod.lex ⟨_,Rk.wf⟩ Nat.lt_wfRel).wf
variable (p:Ph)(am:Loc->Prop)(cD:Nat)(Fin Anch:(Nat->Prop)->(Nat->Prop)->Goroutine->World->Prop)
structure Fact (i:Nat)(pl:nC)(Mi:Nat->Prop)(c:Nat)(w:World)(t:Trace):Prop where
 seq:∀x∈pl.seq,x<p.L
 lo:pl.lo c
 out:pl.di=1->p.L<c
 lib:∀s seq vs Mr,pl=.lib s seq vs Mr->p.Slot i vs w/\(p.Tn seq vs Mr w/\∀b,Mr b->Mi b)/\(s<=6->∃r,RelBy (stA p.Wg) t (p.J+i) r)
structure Inv (G:Gh)(t:Trace):Prop where
 size:G.gs.size=p.J+G.j
 jn:G.j<=p.n
 main:G.gs[0]?=some G.a
 VC:p.fV Fin Anch G.tag G.j G.ρ G.x (Deaf t 0) (G.Ro 0) (G.M 0) G.a G.w
 wk:∀i,i<G.j->∃g,G.gs[p.J+i]?=some g/\p.WS i (G.Ro<|i+1) (G.D i) (G.R<|p.J+i) (Deaf t<|p.J+i) (G.M<|i+1) g G.w
 old:∀i,0<i->i<p.J->∃g q,G.gs[i]?=some g/\QuitsD p.P q (Deaf t i) g/\G.R i=Rk.nat q
 above:∀k,p.J+G.j<=k->Deaf t k=0
 iH:Ie p am cD G.M G.Ro G.w
 tr:Tr am (p.Sh am) (p.Own G.M) (p.Rd G.Ro) p.Wg p.J p.iE (p.J-1+G.j) G.w.heap.size t
 wg:WgAt p.ty p.Wg G.w G.st G.sm
 tk:p.jH G.w G.c
 bs:∃cs,p.qz cs G.w
 mode:Go.ConcN.Mode G.j (bN G.D) G.tag G.st G.sm
 fact:∀i,i<G.j->p.Fact i (G.D i) (G.M<|i+1) G.c G.w t
 TO:∀x,x<p.L->x<G.c->∃i,i<G.j/\x∈(G.D i).seq
 bound:G.c<=p.L+sumTo G.j λi=>(G.D i).di
def Pw (μ:Nat×(Nat->Rk)×Rk×Nat)(m:Machine)(t:Trace):Prop:=∃G:Gh,m=crowd G.gs G.w G.sl/\μ=G.μ p/\p.Inv am cD Fin Anch G t
def jG:Prop:=∀seq vs M w w',p.Tn seq vs M w->aK M w w'->p.Tn seq vs M w'
abbrev Nx (G:Gh)(t:Trace)(i:Nat):Prop:=∃acR ops μ',runT p.P (crowd G.gs G.w G.sl) i=(.next acR,ops)/\Lt4 p μ' (G.μ p)/\p.Pw am cD Fin Anch μ' acR (t++ops)
variable {p}{am}{cD}{Fin Anch}{G:Gh}
def Inv.I (h:p.Inv am cD Fin Anch G t):p.I G.w:=⟨⟨_,_,h.wg⟩,⟨_,h.tk⟩,h.bs⟩
def Inv.at (hR:p.jG)(h:p.Inv am cD Fin Anch G t)(d:Nat)(sl:Option (Nat×Nat)):p.Inv am cD Fin Anch {G with w:=G.w.at d,sl:=sl} t:=by
 have k:∀S,aK S G.w (G.w.at d):=λS=>⟨λ_ _=>rfl,ac5 _,rfl,rfl⟩
 have i:p.I (G.w.at d):=h.I;exact⟨h.size,h.jn,h.main,h.VC.rely<|k _,λi' hi=>let⟨g,h1,h2⟩:=h.wk i' hi;⟨g,h1,h2.rely (k _) i⟩,h.old,h.above,h.iH.at<|ac5 _,h.tr,h.wg,h.tk,h.bs,h.mode,
  λi' hi=>let f:=h.fact i' hi;⟨f.seq,f.lo,f.out,λs seq vs Mr e=>let⟨a,b,c⟩:=f.lib s seq vs Mr e;⟨a,⟨hR _ _ _ _ _ b.1<|k _,b.2⟩,c⟩⟩,h.TO,h.bound⟩
def Inv.keep (h:p.Inv am cD Fin Anch G t)(jQ:G.w.heap.size<=w')(uF:∀b,b<G.w.heap.size->¬G.M i b->¬p.Sp b->w'.heap[b]?=G.w.heap[b]?)(hne:k≠i)(Qu:w'.os=G.w.os/\w'.output=G.w.output):aK (λb=>G.M k b\/G.Ro k b) G.w w':=
 ⟨λb hb=>uF b (h.iH.lt k b hb) (λhi=>hb.elim (h.iH.BF i k (Ne.symm hne) b hi)<|h.iH.ro i k b hi) λhs=>hb.elim (h.iH.sp k b hs).1 (h.iH.sp k b hs).2,jQ,Qu.1,Qu.2⟩
def Fh (D:Nat->nC)(i:Nat)(pl:nC):bN (upd D i pl)=upd (bN D) i ⟨pl.stage,0,0⟩:=by
 funext a;by_cases e:a=i
 .subst e;simp[bN,upd_same]
 .simp[bN,upd_ne _ _ e]
def Fact.other {pl:nC}{Mi:Nat->Prop}(hR:p.jG)(f:p.Fact i pl Mi c w t)(hc:c<=c')(hk:aK Mi w w')(hs:∀vs,p.Slot i vs w->p.Slot i vs w')(hu:∀op∈u,op.g=k)(hne:k≠p.J+i):p.Fact i pl Mi c' w' (t++u):=
 ⟨f.seq,by have:=f.lo;cases pl<;>simp only[nC.lo]at this⊢<;>first|trivial|omega,λe=>ac6 (f.out e) hc,λs seq vs Mr e=>let⟨a,b,d⟩:=f.lib s seq vs Mr e;⟨hs vs a,⟨hR _ _ _ _ _ b.1<|hk.mono b.2,b.2⟩,λh6=>let⟨r,hr⟩:=d h6;⟨r,hr.appOther hu hne⟩⟩⟩
def Inv.stepW (hR:p.jG)(cH:Geo p am)(hS:∀l,am l->l.low cD)(nP:∀Ro M g W,Anch Ro M g W->g.status=.running)(h:p.Inv am cD Fin Anch G t)(hi:i<G.j){pl':nC}{ρ':Rk}
  (hg:G.gs[p.J+i]?=some g)(hgo:stepG p.P false g G.w=.go g' w' es)(jQ:G.w.heap.size<=w')(uF:∀b,b<G.w.heap.size->¬G.M (i+1) b->¬p.Sp b->w'.heap[b]?=G.w.heap[b]?)
  (mJ:p.WS i (G.Ro<|i+1) pl' ρ' (deafBehind (Deaf t<|p.J+i) es) (grow (G.M<|i+1) G.w w') g' w')
  (ez:∀op∈MemOp.ofEvents (p.J+i) g.frame.fn g.frame.place es,OkW (p.Sh am) (p.Own<|upd G.M (i+1)<|grow (G.M<|i+1) G.w w') (p.Rd G.Ro) (p.J+i) op)(bz:∀op∈MemOp.ofEvents (p.J+i) g.frame.fn g.frame.place es,Du (p.Sh am) p.Wg p.J w'.heap.size op)
  (jX:WgAt p.ty p.Wg w' Dh Dg)(Cc:p.jH w' c')(bH:∃cs,p.qz cs w')
  (sM:∀tag',(tag'=G.tag\/(G.tag=.blk/\tag'=.w3))->(mayWake p.P g=true->g'.status=.running->tag'≠.blk)->Go.ConcN.Mode G.j (upd (bN G.D) i ⟨pl'.stage,0,0⟩) tag' Dh Dg)
  (hfi:p.Fact i pl' (grow (G.M<|i+1) G.w w') c' w' (t++MemOp.ofEvents (p.J+i) g.frame.fn g.frame.place es))(hfo:∀k,k≠i->∀vs,p.Slot k vs G.w->p.Slot k vs w')(MJ:G.c<=c')
  (Ux:∀x,x<p.L->G.c<=x->x<c'->x∈pl'.seq)(abd:∀x∈(G.D i).seq,x∈pl'.seq)(hb:c'<=p.L+sumTo G.j λk=>(upd G.D i pl' k).di)
  (aB:(pl'.cost<(G.D i).cost/\cnt ⟨pl'.stage,0,0⟩<=cnt ⟨(G.D i).stage,0,0⟩)\/(pl'.cost=(G.D i).cost/\pl'.stage=(G.D i).stage/\Rk.lt ρ' (G.R<|p.J+i)))(Qu:w'.os=G.w.os/\w'.output=G.w.output:=by first|exact⟨rfl,rfl⟩|exact⟨hp.os,hp.out⟩|exact⟨sO.os,sO.out⟩|exact⟨hA.os,hA.output⟩|exact⟨J3.os,J3.output⟩|exact⟨hk.os,hk.out⟩):
  p.Nx am cD Fin Anch G t (p.J+i):=by
 have i':p.I w':=⟨⟨_,_,jX⟩,⟨_,Cc⟩,bH⟩;have hJ:=cH.J1;let⟨tag',x',Nc,gn,SH⟩:=(h.VC.rely<|h.keep (i:=i+1) (k:=0) jQ uF aa Qu).wokenBy nP i' g g';have d6:=runT_crowd_go (P:=p.P) (sl:=G.sl) (i:=p.J+i) hg (by rw[show((p.J+i)==0)=false by simp;omega];exact hgo);have DO:∀k,k≠p.J+i->Deaf (t++MemOp.ofEvents (p.J+i) g.frame.fn g.frame.place es) k=Deaf t k:=λk hk=>Deaf_other t (Ne.symm hk) _ g_of_ofEvents
 have BR:upd G.M (i+1) (grow (G.M<|i+1) G.w w') 0=G.M 0:=upd_ne _ _ aa;have rE:G.gs.size=p.J+G.j:=h.size;let G':Gh:={gs:=(G.gs.map<|Go.Conc.woken p.P g g' w').setIfInBounds (p.J+i) g',w:=w',sl:=G.sl,j:=G.j,D:=upd G.D i pl',tag:=tag',ρ:=G.ρ,x:=x',a:=Go.Conc.woken p.P g g' w' G.a,M:=upd G.M (i+1)<|grow (G.M<|i+1) G.w w',Ro:=G.Ro,R:=upd G.R (p.J+i) ρ',c:=c',st:=Dh,sm:=Dg}
 have hI:p.Inv am cD Fin Anch G' (t++MemOp.ofEvents (p.J+i) g.frame.fn g.frame.place es):=by
  refine⟨by simpa[G']using rE,h.jn,?_,?_,λk hk=>?_,λk h0 hk=>?_,λk hk=>?_,h.iH.grow hS (i+1) jQ,?_,jX,Cc,bH,?_,λk hk=>?_,λx hx hxc=>?_,hb⟩
  .show((G.gs.map _).setIfInBounds _ _)[0]?=_;rw[get_map_set _ _ _ _ aa,h.main];rfl
  .show p.fV Fin Anch tag' G.j G.ρ x' (Deaf (t++MemOp.ofEvents (p.J+i) g.frame.fn g.frame.place es) 0) (G.Ro 0) (upd G.M (i+1) (grow (G.M<|i+1) G.w w') 0) (Go.Conc.woken p.P g g' w' G.a) w';rw[BR,DO 0 aa];exact Nc
  .by_cases e:k=i
   .subst e;refine⟨g',get_map_set_same _ _ _ aa,?_⟩;simp only[G',upd_same];rw[Deaf_own];exact mJ
   .let⟨gk,h1,h2⟩:=h.wk k hk;have h3:=h2.rely (h.keep (i:=i+1) (k:=k+1) jQ uF aa Qu) i';refine⟨gk,?_,?_⟩
    .show((G.gs.map _).setIfInBounds _ _)[p.J+k]?=_;rw[get_map_set _ _ _ _ aa,h1,Option.map_some,h3.woken i']
    .simp only[G',upd_ne G.D _ e,upd_ne G.R ρ' (show p.J+k≠p.J+i by omega),upd_ne G.M _ (show k+1≠i+1 by omega)];rw[DO _ aa];exact h3
  .let⟨gk,q,h1,h2,h3⟩:=h.old k h0 hk;refine⟨gk,q,?_,?_,?_⟩
   .show((G.gs.map _).setIfInBounds _ _)[k]?=_;rw[get_map_set _ _ _ _ aa,h1,Option.map_some,woken_quitsD h2]
   .rw[DO _ aa];exact h2
   .simp only[G',upd_ne G.R ρ' (show k≠p.J+i by omega)];exact h3
  .have pc:p.J+G.j<=k:=hk;rw[DO _ aa];exact h.above k hk
  .exact(Jo h.tr (i+1) jQ).appW ((h.iH.grow hS (i+1) jQ).apart cH) aa (by show p.J+i<=p.J-1+G.j;omega) hJ ez bz
  .show Go.ConcN.Mode G.j (bN<|upd G.D i pl') tag' Dh Dg;rw[Fh];exact sM tag' gn SH
  .by_cases e:k=i
   .subst e;simp only[G',upd_same];exact hfi
   .simp only[G',upd_ne G.D _ e,upd_ne G.M _ (show k+1≠i+1 by omega)];exact(h.fact k hk).other hR MJ ((h.keep (i:=i+1) (k:=k+1) jQ uF aa Qu).mono λb hb=>.inl hb) (hfo k e) g_of_ofEvents aa
  .rcases ade x G.c with dr|tC
   .let⟨k,hk,hxk⟩:=h.TO x hx dr;refine⟨k,hk,?_⟩;by_cases e:k=i
    .subst e;simp only[G',upd_same];exact abd x hxk
    .simp only[G',upd_ne G.D _ e];exact hxk
   .exact⟨i,hi,by simp only[G',upd_same];exact Ux x hx tC hxc⟩
 refine⟨_,_,G'.μ p,d6,?_,G',rfl,rfl,hI⟩;have e1:=sumTo_upd (bN G.D) (⟨pl'.stage,0,0⟩:WD) cnt hi;have e2:sumTo G.j (λk=>(upd G.D i pl' k).cost)+(G.D i).cost=sumTo G.j (λk=>(G.D k).cost)+pl'.cost:=sumTo_upd G.D pl' nC.cost hi;have ev:Vc G.j (bN<|upd G.D i pl')+cnt (bN G.D i)=Vc G.j (bN G.D)+cnt ⟨pl'.stage,0,0⟩:=by rw[Fh];exact e1
 show Lt4 p (phi p.n (Vc G.j<|bN<|upd G.D i pl') tag'+(p.L+20)*(p.n-G.j)+sumTo G.j (λk=>(upd G.D i pl' k).cost),upd G.R (p.J+i) ρ',G.ρ,x') (phi p.n (Vc G.j<|bN G.D) G.tag+(p.L+20)*(p.n-G.j)+sumTo G.j (λi=>(G.D i).cost),G.R,G.ρ,G.x);rw[phi_retag p.n _ gn];rcases aB with⟨h1,h2⟩|⟨h1,h2,h3⟩
 .refine Prod.Lex.left _ _ ?_;have hv:Vc G.j (bN<|upd G.D i pl')<=Vc G.j (bN G.D):=by simp only[bN]at ev h2⊢;omega
  have:=phi_mono p.n hv G.tag;omega
 .have hv:Vc G.j (bN<|upd G.D i pl')=Vc G.j (bN G.D):=by
   have:cnt (⟨pl'.stage,0,0⟩:WD)=cnt (bN G.D i):=by show(if 5<=pl'.stage then 1 else 0)=(if 5<=(G.D i).stage then 1 else 0);rw[h2]
   omega
  have hc:sumTo G.j (λk=>(upd G.D i pl' k).cost)=sumTo G.j (λk=>(G.D k).cost):=aa;rw[hv,hc];refine Prod.Lex.right _<|Prod.Lex.left _ _ ⟨p.J+i,?_,by rw[upd_same];exact h3,λk hk=>upd_ne _ _ hk⟩;have:=h.jn;omega
end Ph
namespace Ph
variable {p:Ph}{Fin:(Nat->Prop)->(Nat->Prop)->Goroutine->World->Prop}{G:Gh}
def Inv.b_ (hR:p.jG)(cH:Geo p am)(nP:∀Ro M g W,Anch Ro M g W->g.status=.running)(h:p.Inv am cD Fin Anch G t)(h0:0<i)(hi:i<p.J)(hg:G.gs[i]?=some g)(SC:g.status=.running):
  p.Nx am cD Fin Anch G t i:=by
 let⟨acL,q,DQ,hq,hRi⟩:=h.old i h0 hi;obtain rfl:g=acL:=by rw[hg]at DQ;exact adb DQ
 cases q with
 |zero=>rw[hq.1]at SC;cases SC
 |succ q=>
  rcases hq with⟨hf,_⟩|⟨_,g',es,hm,dz,US⟩
  .rw[hf]at SC;cases SC
  have hgo:=dz G.w;have i':=h.I;have rE:G.gs.size=p.J+G.j:=h.size;let⟨tag',x',Nc,gn,SH⟩:=h.VC.wokenBy nP i' g g';have d6:=runT_crowd_go (P:=p.P) (sl:=G.sl) (i:=i) hg (by rw[show(i==0)=false by simp;omega];exact hgo);have DO:∀k,k≠i->Deaf (t++MemOp.ofEvents i g.frame.fn g.frame.place es) k=Deaf t k:=λk hk=>Deaf_other t (Ne.symm hk) _ g_of_ofEvents
  let G':Gh:={G with gs:=(G.gs.map<|Go.Conc.woken p.P g g' G.w).setIfInBounds i g',tag:=tag',x:=x',a:=Go.Conc.woken p.P g g' G.w G.a,R:=upd G.R i<|Rk.nat q}
  have hI:p.Inv am cD Fin Anch G' (t++MemOp.ofEvents i g.frame.fn g.frame.place es):=by
   refine⟨by simpa[G']using rE,h.jn,?_,?_,λk hk=>?_,λk h0 hk=>?_,λk hk=>?_,h.iH,?_,h.wg,h.tk,h.bs,?_,λk hk=>?_,h.TO,h.bound⟩
   .show((G.gs.map _).setIfInBounds _ _)[0]?=_;rw[get_map_set _ _ _ _ aa,h.main];rfl
   .show p.fV Fin Anch tag' G.j G.ρ x' (Deaf (t++MemOp.ofEvents i g.frame.fn g.frame.place es) 0) (G.Ro 0) (G.M 0) (Go.Conc.woken p.P g g' G.w G.a) G.w;rw[DO 0 aa];exact Nc
   .let⟨gk,h1,h2⟩:=h.wk k hk;refine⟨gk,?_,?_⟩
    .show((G.gs.map _).setIfInBounds _ _)[p.J+k]?=_;rw[get_map_set _ _ _ _ aa,h1,Option.map_some,h2.woken i']
    .simp only[G',upd_ne G.R (Rk.nat q) (show p.J+k≠i by omega)];rw[DO _ aa];exact h2
   .by_cases e:k=i
    .subst e;exact⟨g',q,get_map_set_same _ _ _ aa,by rw[Deaf_own];exact US,by simp only[G',upd_same]⟩
    .let⟨gk,q',h1,h2,h3⟩:=h.old k h0 hk;refine⟨gk,q',?_,?_,?_⟩
     .show((G.gs.map _).setIfInBounds _ _)[k]?=_;rw[get_map_set _ _ _ _ (Ne.symm e),h1,Option.map_some,woken_quitsD h2]
     .rw[DO _ e];exact h2
     .simp only[G',upd_ne G.R _ e];exact h3
   .have pc:p.J+G.j<=k:=hk;rw[DO _ aa];exact h.above k hk
   .refine h.tr.LJ (h.iH.apart cH) (k:=i) aa (by show i<=p.J-1+G.j;omega) g_of_ofEvents (λop bz=>?_) (λop bz=>?_)
    .obtain⟨e,he,rfl⟩:=Go.Conc.mem_ofEvents bz;exact touch_mute<|hm e he
    .obtain⟨e,he,rfl⟩:=Go.Conc.mem_ofEvents bz;intro hx;have hl:=Go.ConcR.loc_of_ofEvent hx;have hme:=hm e he;let⟨loc,_,_⟩:=e;simp only at hl;subst hl;cases hme
   .exact h.mode.retag gn
   .exact(h.fact k hk).other hR (ac5 _) (aK.refl _ _) (λ_ x=>x) g_of_ofEvents aa
  refine⟨_,_,G'.μ p,d6,?_,G',rfl,rfl,hI⟩;show Lt4 p (phi p.n (Vc G.j<|bN G.D) tag'+(p.L+20)*(p.n-G.j)+sumTo G.j (λk=>(G.D k).cost),upd G.R i<|Rk.nat q,G.ρ,x') (phi p.n (Vc G.j<|bN G.D) G.tag+(p.L+20)*(p.n-G.j)+sumTo G.j (λi=>(G.D i).cost),G.R,G.ρ,G.x);rw[phi_retag p.n _ gn];exact Prod.Lex.right _<|Prod.Lex.left _ _ ⟨i,aa,by rw[upd_same,hRi];exact Rk.NA q G.w,λk hk=>upd_ne _ _ hk⟩
def Inv.step0 (hR:p.jG)(cH:Geo p am)(hS:∀l,am l->l.low cD)(h:p.Inv am cD Fin Anch G t){tag':CTag}{ρ':Rk}
  (hgo:stepG p.P true G.a G.w=.go a' w' es)(jQ:G.w.heap.size<=w')(uF:∀b,b<G.w.heap.size->¬G.M 0 b->¬p.Sp b->w'.heap[b]?=G.w.heap[b]?)
  (mJ:p.fV Fin Anch tag' G.j ρ' x' (deafBehind (Deaf t 0) es) (G.Ro 0) (grow (G.M 0) G.w w') a' w')
  (ez:∀op∈MemOp.ofEvents 0 G.a.frame.fn G.a.frame.place es,Ok0 (p.Sh am) (p.Own<|upd G.M 0<|grow (G.M 0) G.w w') (p.Rd G.Ro) (p.J-1+G.j) op)(bz:∀op∈MemOp.ofEvents 0 G.a.frame.fn G.a.frame.place es,Du (p.Sh am) p.Wg p.J w'.heap.size op)
  (jX:WgAt p.ty p.Wg w' Dh Dg)(Cc:p.jH w' G.c)(bH:∃cs,p.qz cs w')(sM:Go.ConcN.Mode G.j (bN G.D) tag' Dh Dg)(hfo:∀k vs,p.Slot k vs G.w->p.Slot k vs w')
  (aB:phi p.n (Vc G.j<|bN G.D) tag'<phi p.n (Vc G.j<|bN G.D) G.tag\/(phi p.n (Vc G.j<|bN G.D) tag'=phi p.n (Vc G.j<|bN G.D) G.tag/\(Rk.lt ρ' G.ρ\/(ρ'=G.ρ/\x'<G.x))))(Qu:w'.os=G.w.os/\w'.output=G.w.output:=by first|exact⟨rfl,rfl⟩|exact⟨hp.os,hp.out⟩|exact⟨sO.os,sO.out⟩|exact⟨hA.os,hA.output⟩|exact⟨J3.os,J3.output⟩|exact⟨hk.os,hk.out⟩):
  p.Nx am cD Fin Anch G t 0:=by
 have i':p.I w':=⟨⟨_,_,jX⟩,⟨_,Cc⟩,bH⟩;have hJ:=cH.J1;have rE:G.gs.size=p.J+G.j:=h.size;have d6:=runT_crowd_go (P:=p.P) (sl:=G.sl) (i:=0) h.main (show stepG p.P (0==0) G.a G.w=_ from hgo);have DO:∀k,k≠0->Deaf (t++MemOp.ofEvents 0 G.a.frame.fn G.a.frame.place es) k=Deaf t k:=λk hk=>Deaf_other t (Ne.symm hk) _ g_of_ofEvents
 let G':Gh:={G with gs:=(G.gs.map<|Go.Conc.woken p.P G.a a' w').setIfInBounds 0 a',w:=w',tag:=tag',ρ:=ρ',x:=x',a:=a',M:=upd G.M 0<|grow (G.M 0) G.w w',st:=Dh,sm:=Dg}
 have hI:p.Inv am cD Fin Anch G' (t++MemOp.ofEvents 0 G.a.frame.fn G.a.frame.place es):=by
  refine⟨by simpa[G']using rE,h.jn,get_map_set_same _ _ _ aa,?_,λk hk=>?_,λk h0 hk=>?_,λk hk=>?_,h.iH.grow hS 0 jQ,?_,jX,Cc,bH,sM,λk hk=>?_,h.TO,h.bound⟩
  .show p.fV Fin Anch tag' G.j ρ' x' (Deaf (t++MemOp.ofEvents 0 G.a.frame.fn G.a.frame.place es) 0) (G.Ro 0) (upd G.M 0 (grow (G.M 0) G.w w') 0) a' w';rw[Deaf_own,upd_same];exact mJ
  .let⟨gk,h1,h2⟩:=h.wk k hk;have h3:=h2.rely (h.keep (i:=0) (k:=k+1) jQ uF aa Qu) i';refine⟨gk,?_,?_⟩
   .show((G.gs.map _).setIfInBounds _ _)[p.J+k]?=_;rw[get_map_set _ _ _ _ aa,h1,Option.map_some,h3.woken i']
   .simp only[G',upd_ne G.M _ (show k+1≠0 by omega)];rw[DO _ aa];exact h3
  .let⟨gk,q,h1,h2,h3⟩:=h.old k h0 hk;refine⟨gk,q,?_,?_,h3⟩
   .show((G.gs.map _).setIfInBounds _ _)[k]?=_;rw[get_map_set _ _ _ _ aa,h1,Option.map_some,woken_quitsD h2]
   .rw[DO _ aa];exact h2
  .have pc:p.J+G.j<=k:=hk;rw[DO _ aa];exact h.above k hk
  .exact(Jo h.tr 0 jQ).app0 ((h.iH.grow hS 0 jQ).apart cH) ez bz
  .simp only[G',upd_ne G.M _ (show k+1≠0 by omega)];exact(h.fact k hk).other hR (ac5 _) ((h.keep (i:=0) (k:=k+1) jQ uF aa Qu).mono λb hb=>.inl hb) (hfo k) g_of_ofEvents aa
 refine⟨_,_,G'.μ p,d6,?_,G',rfl,rfl,hI⟩;show Lt4 p (phi p.n (Vc G.j<|bN G.D) tag'+(p.L+20)*(p.n-G.j)+sumTo G.j (λk=>(G.D k).cost),G.R,ρ',x') (phi p.n (Vc G.j<|bN G.D) G.tag+(p.L+20)*(p.n-G.j)+sumTo G.j (λi=>(G.D i).cost),G.R,G.ρ,G.x);rcases aB with h1|⟨h1,h2⟩
 .exact Prod.Lex.left _ _ aa
 .rw[h1];refine Prod.Lex.right _<|Prod.Lex.right _ ?_;rcases h2 with h2|⟨rfl,h2⟩
  .exact Prod.Lex.left _ _ h2
  .exact Prod.Lex.right _ h2
end Ph
end
section
open ConcN (CT Apart Ok0 OkW RelBy PermW sumTo sumTo_upd sumTo_upd_out sumTo_congr upd WgLive RW DWs AtR0 WSit CTag WD Vc cnt pend phi phi_mono phi_retag PayAt Has upd_same upd_ne get_map_set get_map_set_same)
open ConcR (stA smA WgAt KK rd wr g_of_ofEvents)
namespace Ph
variable {p:Ph}{Fin:(Nat->Prop)->(Nat->Prop)->Goroutine->World->Prop}{G:Gh}
def Inv.spawn (cH:Geo p am)(h:p.Inv am cD Fin Anch G t){r:Nat}(hr:r<p.n)(gn:G.tag=.sp r 2)(hj:G.j=p.n-(r+1))(hd:Deaf t 0=0)
  (du:p.AtGo (G.Ro 0) (p.n-(r+1)) (p.Spawns Anch r) (G.M 0) G.a G.w):
  p.Nx am cD Fin Anch G t 0:=by
 let⟨_,g',child,qH,hgo,hcs,hle,oU,⟨rc,Db⟩,xj⟩:=du;have rE:G.gs.size=p.J+G.j:=h.size;have hJ:=cH.J1;have d6:=runT_crowd_spawn (P:=p.P) (sl:=G.sl) (i:=0) h.main (show stepG p.P (0==0) G.a G.w=_ from hgo);rw[<-hj]at Db;obtain⟨tag',ρ',Nc,rC,Y4,GG,aa8⟩:∃tag' ρ',p.fV Fin Anch tag' (G.j+1) ρ' 0 0 qH (λb=>G.M 0 b/\¬qH b) g' G.w/\Go.ConcN.isOpen tag'/\pend tag'=0/\(∀vs,tag'≠.w2 vs)/\∀v v',phi p.n v' tag'<phi p.n v (.sp r 2):=by
  cases r with
  |zero=>
   let⟨ρ',hn⟩:=xj;have e:G.j+1=p.n:=aa;exact⟨.kd,ρ',e▸.kd hn,trivial,rfl,aF,λv v'=>by simp only[phi];omega⟩
  |succ r=>
   let⟨ρ',hn⟩:=xj;have e:G.j+1=p.n-(r+1):=aa;exact⟨.sp r 5,ρ',e▸.skd aa hn,trivial,rfl,aF,λv v'=>by simp only[phi];omega⟩
 let M':Nat->Nat->Prop:=upd (upd G.M 0 λb=>G.M 0 b/\¬qH b) (G.j+1) λ_=>False
 let R':Nat->Nat->Prop:=upd (upd G.Ro 0 qH) (G.j+1) qH
 have M0:M' 0=λb=>G.M 0 b/\¬qH b:=by simp only[M'];rw[upd_ne _ _ aa,upd_same]
 have R0:R' 0=qH:=by simp only[R'];rw[upd_ne _ _ aa,upd_same]
 have Mj:M' (G.j+1)=λ_=>False:=by simp only[M'];rw[upd_same]
 have Rj:R' (G.j+1)=qH:=by simp only[R'];rw[upd_same]
 have Mk:∀k,k≠0->k≠G.j+1->M' k=G.M k:=λk h0 h1=>by simp only[M'];rw[upd_ne _ _ h1,upd_ne _ _ h0]
 have x_:∀k,k≠0->k≠G.j+1->R' k=G.Ro k:=λk h0 h1=>by simp only[R'];rw[upd_ne _ _ h1,upd_ne _ _ h0]
 have mM:∀k b,M' k b->G.M k b/\(k=0->¬qH b):=λk b hb=>by
  by_cases e1:k=G.j+1
  .subst e1;rw[Mj]at hb;exact hb.elim
  .by_cases e0:k=0
   .subst e0;rw[M0]at hb;exact⟨hb.1,λ_=>hb.2⟩
   .rw[Mk k e0 e1]at hb;exact⟨hb,λe=>absurd e e0⟩
 have mR:∀k b,R' k b->G.Ro k b\/qH b:=λk b hb=>by
  by_cases e1:k=G.j+1
  .subst e1;rw[Rj]at hb;exact .inr hb
  .by_cases e0:k=0
   .subst e0;rw[R0]at hb;exact .inr hb
   .rw[x_ k e0 e1]at hb;exact .inl hb
 have roB:∀b,qH b->G.M 0 b\/G.Ro 0 b:=λb hb=>(oU b hb).symm
 have Yw:Ie p am cD M' R' G.w:=by
  refine⟨λi k hne b hi hk=>h.iH.BF i k hne b (mM i b hi).1 (mM k b hk).1,λi k b hi hk=>?_,λi b hs=>⟨λhi=>(h.iH.sp i b hs).1 (mM i b hi).1,λhi=>?_⟩,λi b hb=>?_,h.iH.o0,λi b hb l hl=>?_,h.iH.base⟩
  .rcases mR k b hk with x|x
   .exact h.iH.ro i k b (mM i b hi).1 x
   .by_cases e:i=0
    .exact(mM i b hi).2 e x
    .rcases roB b x with y|y
     .exact h.iH.BF i 0 e b (mM i b hi).1 y
     .exact h.iH.ro i 0 b (mM i b hi).1 y
  .rcases mR i b hi with x|x
   .exact(h.iH.sp i b hs).2 x
   .exact(roB b x).elim (h.iH.sp 0 b hs).1 (h.iH.sp 0 b hs).2
  .rcases hb with hb|hb
   .exact h.iH.lt i b (.inl (mM i b hb).1)
   .exact(mR i b hb).elim (λx=>h.iH.lt i b<|.inr x) λx=>h.iH.lt 0 b<|roB b x
  .rcases hb with hb|hb
   .exact h.iH.ky i b (.inl (mM i b hb).1) l hl
   .exact(mR i b hb).elim (λx=>h.iH.ky i b (.inr x) l hl) λx=>h.iH.ky 0 b (roB b x) l hl
 let X:MemOp:={g:=0,fn:=G.a.frame.fn,pos:=G.a.frame.place,act:=.go G.gs.size}
 let Y:MemOp:={g:=G.gs.size,fn:=child.frame.fn,pos:=G.a.frame.place,act:=.start}
 have UR:((MemOp.ofEvents 0 G.a.frame.fn G.a.frame.place #[]).push X).push Y=#[X,Y]:=by rw[ofEvents_eq,Array.map_empty];rfl
 have hXY:∀op∈#[X,Y],op=X\/op=Y:=λop bz=>by simpa using bz
 have Qn:∀k,Deaf (t++#[X,Y]) k=Deaf t k:=λk=>Go.ConcN.Deaf_still t k _ λop bz=>by rcases hXY op bz with rfl|rfl<;>simp[X,Y]
 have htr:Tr am (p.Sh am) (p.Own M') (p.Rd R') p.Wg p.J p.iE (p.J-1+G.j+1) G.w.heap.size (t++#[X,Y]):=by
  have h1:Tr am (p.Sh am) (p.Own M') (p.Rd R') p.Wg p.J p.iE (p.J-1+G.j) G.w.heap.size t:=by
   refine h.tr.grow (λk l _ hk ⟨hx,hy⟩=>.inl ⟨hx,?_⟩) (λk l _ hk ⟨hx,hy⟩=>.inl ⟨hx,?_⟩) (λk l _ hk ⟨hx,hy⟩=>⟨hx,?_⟩) λk l _ hk ⟨hx,hy⟩=>⟨hx,?_⟩
   .rwa [Mk _ aa aa]at hy
   .rwa [x_ _ aa aa]at hy
   .rwa [Mk _ aa aa]
   .rwa [x_ _ aa aa]
  exact h1.fork (Yw.apart cH) ⟨rfl,by show MemAct.go G.gs.size=_;rw[rE];congr 1;omega⟩ ⟨by show G.gs.size=_;rw[rE];omega,rfl⟩ hd
 let D':Nat->nC:=upd G.D G.j<|.jg p.L 0 []
 have Dk:∀k,k<G.j->D' k=G.D k:=λk hk=>upd_ne _ _ aa
 have Dj:D' G.j=.jg p.L 0 []:=upd_same _ _ _;have hrel:∀i r,i<G.j->RelBy (stA p.Wg) t (p.J+i) r->RelBy (stA p.Wg) (t++#[X,Y]) (p.J+i) r:=λi r hi hb=>by
  have e:t++#[X,Y]=(t++#[X])++#[Y]:=by apply Array.ext';simp
  rw[e];exact(hb.appOther (g:=0) (by simp[X]) aa).appOther (g:=G.gs.size) (by simp[Y]) aa
 let G':Gh:={gs:=(G.gs.setIfInBounds 0 g').push child,w:=G.w,sl:=G.sl,j:=G.j+1,D:=D',tag:=tag',ρ:=ρ',x:=0,a:=g',M:=M',Ro:=R',R:=upd G.R (p.J+G.j) rc,c:=G.c,st:=G.st,sm:=G.sm}
 have YD:∀k,k≠0->k<p.J+G.j->((G.gs.setIfInBounds 0 g').push child)[k]?=G.gs[k]?:=λk h0 hk=>by
  rw[Array.getElem?_push,if_neg cU,Array.getElem?_setIfInBounds_ne aa]
 have hVc:Vc (G.j+1) (bN D')=Vc G.j (bN G.D)+1:=by
  show sumTo G.j (λi=>cnt<|bN D' i)+cnt (bN D' G.j)=_;have:cnt (bN D' G.j)=1:=by simp only[bN,Dj];rfl
  rw[this,sumTo_congr (g:=λi=>cnt<|bN G.D i) λi hi=>by simp only[bN,Dk i hi]];rfl
 have hI:p.Inv am cD Fin Anch G' (t++#[X,Y]):=by
  refine⟨by simp[G',rE];omega,by show G.j+1<=p.n;omega,?_,?_,λk hk=>?_,λk h0 hk=>?_,λk hk=>?_,Yw,htr,h.wg,h.tk,h.bs,?_,λk hk=>?_,λx hx hxc=>?_,?_⟩
  .show((G.gs.setIfInBounds 0 g').push child)[0]?=some g';rw[Array.getElem?_push,if_neg cU];exact Array.getElem?_setIfInBounds_self_of_lt aa
  .show p.fV Fin Anch tag' (G.j+1) ρ' 0 (Deaf (t++#[X,Y]) 0) (R' 0) (M' 0) g' G.w;rw[Qn,hd,R0,M0];exact Nc
  .have pc:k<G.j+1:=hk;by_cases e:k=G.j
   .subst e;refine⟨child,?_,?_⟩
    .show((G.gs.setIfInBounds 0 g').push child)[p.J+G.j]?=_;rw[Array.getElem?_push,if_pos (by simp[rE])]
    .simp only[G',Dj,upd_same,Mj,Rj];rw[Qn,h.above _ (ac5 _)];exact .jg Db
   .let⟨gk,h1,h2⟩:=h.wk k aa;refine⟨gk,?_,?_⟩
    .rw[<-h1];exact YD _ aa aa
    .simp only[G',Dk k aa,upd_ne G.R rc (show p.J+k≠p.J+G.j by omega),Mk (k+1) aa aa,x_ (k+1) aa aa];rw[Qn];exact h2
  .let⟨gk,q,h1,h2,h3⟩:=h.old k h0 hk;refine⟨gk,q,?_,by rw[Qn];exact h2,?_⟩
   .rw[<-h1];exact YD _ aa aa
   .simp only[G',upd_ne G.R rc (show k≠p.J+G.j by omega)];exact h3
  .have pc:p.J+(G.j+1)<=k:=hk;rw[Qn];exact h.above k aa
  .have hm:=h.mode;rw[gn]at hm;show Go.ConcN.Mode (G.j+1) (bN D') tag' G.st G.sm;generalize dz:G.st=st at hm;generalize hsm:G.sm=sm at hm;cases hm with
   |opn h1 h2 h3=>
    have:=Go.ConcN.Mode.opn (j:=G.j+1) (D:=bN D') (tag:=tag') rC (λi hi=>by
     by_cases e:i=G.j
     .subst e;left;simp only[bN,Dj];rfl
     .have:=h2 i aa;simpa only[bN,Dk i aa]using this) (λvs e=>absurd e<|GG vs)
    rw[hVc,Y4]at this;exact this
   |reg h1=>exact h1.elim
   |last _ h1=>exact h1.elim
   |fin h1=>exact h1.elim
  .have pc:k<G.j+1:=hk;by_cases e:k=G.j
   .subst e;simp only[G',Dj];exact⟨λx hx=>absurd hx<|by simp[nC.seq],ada _,λe=>by simp[nC.di]at e,λs seq vs Mr e=>by cases e⟩
   .have f:=h.fact k aa;simp only[G',Dk k aa,Mk (k+1) aa aa];exact⟨f.seq,f.lo,f.out,λs seq vs Mr e=>let⟨a,b,c⟩:=f.lib s seq vs Mr e;⟨a,b,λh6=>let⟨r,hr⟩:=c h6;⟨r,hrel k r aa hr⟩⟩⟩
  .let⟨i,hi,WP⟩:=h.TO x hx hxc;exact⟨i,by show i<G.j+1;omega,by simp only[G',Dk i hi];exact WP⟩
  .show G.c<=p.L+(sumTo G.j (λi=>(D' i).di)+(D' G.j).di);have:=h.bound;rw[sumTo_congr (g:=λi=>(G.D i).di) λi hi=>by rw[Dk i hi]];omega
 refine⟨_,_,G'.μ p,d6,?_,G',rfl,rfl,?_⟩
 .show Lt4 p (phi p.n (Vc (G.j+1)<|bN D') tag'+(p.L+20)*(p.n-(G.j+1))+(sumTo G.j (λk=>(D' k).cost)+(D' G.j).cost),upd G.R (p.J+G.j) rc,ρ',0) (phi p.n (Vc G.j<|bN G.D) G.tag+(p.L+20)*(p.n-G.j)+sumTo G.j (λi=>(G.D i).cost),G.R,G.ρ,G.x);refine Prod.Lex.left _ _ ?_;have h1:=aa8 (Vc G.j<|bN G.D)<|Vc (G.j+1)<|bN D';rw[sumTo_congr (g:=λi=>(G.D i).cost) λi hi=>by rw[Dk i hi],Dj,gn];have e1:p.n-G.j=p.n-(G.j+1)+1:=aa;rw[e1,Nat.mul_add,Nat.mul_one];simp only[nC.cost];omega
 .rw[UR];exact hI
end Ph
end
section
open ConcN (CT Apart Ok0 OkW RelBy PermW sumTo sumTo_upd sumTo_upd_out sumTo_congr sumTo_le upd WgLive RW DWs AtR0 WSit CTag WD Vc cnt pend phi phi_mono phi_retag PayAt Has upd_same upd_ne get_map_set get_map_set_same)
open ConcR (stA smA WgAt KK rd wr g_of_ofEvents)
def cJ (h:w'.heap.size=w.heap.size):grow M w w'=M:=by
 funext b;simp only[grow,eq_iff_iff];exact⟨λx=>x.elim id λy=>absurd y.2 aa,.inl⟩
namespace Ph
variable {p:Ph}{Fin:(Nat->Prop)->(Nat->Prop)->Goroutine->World->Prop}{G:Gh}{M Ro:Nat->Nat->Prop}
def EvS (p:Ph)(e:Event):Prop:=(∃m,e.loc=.mark m/\(m=.disable\/m=.enable\/(∃a,m=.releaseMerge a)\/∃a,m=.acquire a))\/∃a wr,e=⟨.cell a,wr,true⟩/\(a.block=p.Wg\/a.block=p.tk.block)
def EvS.touch (h:p.EvS e)(hx:(MemAct.ofEvent e).touch?=some x):x.kind=.atomic/\∃a:Addr,x.loc=.cell a/\(a.block=p.Wg\/a.block=p.tk.block):=by
 rcases h with⟨m,hm,h⟩|⟨a,wr,rfl,h⟩
 .rw[Go.ConcR.ofEvent_loc_mark hm]at hx;rcases h with rfl|rfl|⟨a,rfl⟩|⟨a,rfl⟩<;>cases hx
 .rw[Go.ConcR.ofEvent_cell]at hx;cases hx;exact⟨rfl,a,rfl,h⟩
def EvS.En (h:p.EvS e):MemAct.ofEvent e≠.mark (.release<|stA p.Wg):=by
 intro hx;have hl:=Go.ConcR.loc_of_ofEvent hx;rcases h with⟨m,hm,h⟩|⟨a,wr,rfl,h⟩
 .rw[hm]at hl;cases hl;rcases h with h|h|⟨a,h⟩|⟨a,h⟩<;>cases h
 .cases hl
def qo (hw:p.Wg<w)(ht:p.tk.block<w)(h:∀e∈es,p.EvS e){g:Nat}:∀op∈MemOp.ofEvents g fn pos es,Du (p.Sh am) p.Wg p.J w.heap.size op:=by
 intro op bz;obtain⟨e,he,rfl⟩:=Go.Conc.mem_ofEvents bz;refine⟨λa ha=>?_,λa ha=>?_,(h e he).En,λ_ a ha _=>?_⟩
 .let⟨_,b,e1,_⟩:=(h e he).touch ha;rw[e1];rfl
 .let⟨_,b,e1,e2⟩:=(h e he).touch ha;rw[e1];show b.block<_;rcases e2 with e2|e2<;>rw[e2]<;>assumption
 .let⟨_,b,e1,e2⟩:=(h e he).touch ha;exact .inr ⟨b,e1,e2⟩
def Er {Own Rd:Nat->Loc->Prop}(h:∀e∈es,p.EvS e){g:Nat}:∀op∈MemOp.ofEvents g fn pos es,OkW (p.Sh am) Own Rd g op:=by
 intro op bz;obtain⟨e,he,rfl⟩:=Go.Conc.mem_ofEvents bz;refine⟨rfl,λx hx=>?_⟩;let⟨hk,b,e1,e2⟩:=(h e he).touch hx;exact .inl ⟨.inr ⟨b,e1,e2⟩,by rw[hk];simp,by rw[hk];simp⟩
def Ep {Own Rd:Nat->Loc->Prop}(h:∀e∈es,p.EvS e):∀op∈MemOp.ofEvents 0 fn pos es,Ok0 (p.Sh am) Own Rd K op:=by
 intro op bz;obtain⟨e,he,rfl⟩:=Go.Conc.mem_ofEvents bz;refine⟨rfl,λx hx=>?_⟩;let⟨hk,b,e1,e2⟩:=(h e he).touch hx;exact .inl ⟨.inr ⟨b,e1,e2⟩,by rw[hk];simp⟩
def Eq (hf:Ie p am cD (upd M (i+1)<|grow (M<|i+1) w w') Ro w')(hp:eP nE (M<|i+1) (Ro<|i+1) w w' es):∀op∈MemOp.ofEvents (p.J+i) fn pos es,OkW (p.Sh am) (p.Own<|upd M (i+1)<|grow (M<|i+1) w w') (p.Rd Ro) (p.J+i) op/\Du (p.Sh am) p.Wg p.J w'.heap.size op:=by
 intro op bz;obtain⟨e,he,rfl⟩:=Go.Conc.mem_ofEvents bz;have ht:=λx hx=>jC (hp.ev e he) (λy=>y.elim) (x:=x) hx
 have ei:p.J+i-p.J+1=i+1:=aa;refine⟨⟨rfl,λx hx=>?_⟩,λx hx=>(ht x hx).2.1,λx hx=>?_,λhx=>?_,λ_ x hx hk=>?_⟩
 .rcases(ht x hx).2.2 with h|⟨h,h'⟩
  .exact .inr (.inl ⟨Nat.le_add_right _ _,.inl<|by rw[ei,upd_same];exact h⟩)
  .exact .inr (.inr ⟨⟨Nat.le_add_right _ _,by rw[ei];exact h⟩,h'⟩)
 .rcases(ht x hx).2.2 with h|⟨h,h'⟩
  .exact h.low λb hb=>hf.lt (i+1) b (.inl<|by rw[upd_same];exact hb)
  .exact h.low λb hb=>hf.lt (i+1) b<|.inr hb
 .exact gq (hp.ev e he) (λy=>y.elim) rfl (Go.ConcR.loc_of_ofEvent hx)
 .rw[(ht x hx).1]at hk;cases hk
def jH.set {x:Nat}(h:p.jH w x)(y:Nat):p.jH (w.setCell p.tk<|.int .i64 y) y:=by
 let⟨h1,h2⟩:=h;unfold World.cell? at h1;unfold World.frozen? at h2;cases hb:w.heap[p.tk.block]? with
 |none=>rw[hb]at h1;cases h1
 |some o=>
  cases o with
  |cells c el fz=>
   rw[hb]at h1 h2;simp only at h1 h2;by_cases hs:p.tk.spot.isSome
   .rw[if_pos hs]at h1;cases h1
   .rw[if_neg hs]at h1;have aB:p.tk.off<c.size:=by
     rcases ade p.tk.off c.size with h|h
     .exact h
     .rw[Array.getElem?_eq_none h]at h1;cases h1
    have dw:(w.setCell p.tk<|.int .i64 y).heap[p.tk.block]?=some (.cells (c.setIfInBounds p.tk.off<|.int .i64 y) el fz):=by
     simp[World.setCell,Array.getElem?_modify,hb,hs]
    refine⟨?_,?_⟩
    .unfold World.cell?;rw[dw];simp[hs,aB]
    .unfold World.frozen?;rw[dw];exact h2
  |_=>rw[hb]at h1;cases h1
def jH.of_block {x:Nat}(h:p.jH w x)(e:w'.heap[p.tk.block]?=w.heap[p.tk.block]?):p.jH w' x:=⟨by simpa[World.cell?,e]using h.1,by simpa[World.frozen?,e]using h.2⟩
def Slot.of_block (h:p.Slot k vs w)(e:w'.heap[p.Bs]?=w.heap[p.Bs]?):p.Slot k vs w':=⟨h.1,λcs hc=>h.2 cs ⟨e▸hc.1,hc.2⟩⟩
def qz.of_block {cs:Array Value}(h:p.qz cs w)(e:w'.heap[p.Bs]?=w.heap[p.Bs]?):p.qz cs w':=⟨e.trans h.1,h.2⟩
def JU (D:Nat->nC)(j:Nat):sumTo j (λi=>(D i).di)<=j:=by
 have:=sumTo_le (f:=λi=>(D i).di) (c:=1) (j:=j) λi _=>by cases hD:D i<;>simp[nC.di]
 omega
def kM {D:Nat->WD}{tag tag':CTag}(h:Go.ConcN.Mode j D tag st sm)(ht:tag'=tag\/(tag=.blk/\tag'=.w3))(hs:(D i).stage=s):Go.ConcN.Mode j (upd D i ⟨s,0,0⟩) tag' st sm:=by
 have:=(h.same (i:=i) 0 0).retag ht;rwa [hs]at this
def Inv.SR (hR:p.jG)(cH:Geo p am)(hS:∀l,am l->l.low cD)(nP:∀Ro M g W,Anch Ro M g W->g.status=.running)(h:p.Inv am cD Fin Anch G t)(hi:i<G.j){ρ':Rk}
  (hg:G.gs[p.J+i]?=some g)(hgo:stepG p.P false g G.w=.go g' w' es)(hp:eP nE (G.M<|i+1) (G.Ro<|i+1) G.w w' es)(hd:Deaf t (p.J+i)=0)
  (mJ:p.WS i (G.Ro<|i+1) (G.D i) ρ' 0 (grow (G.M<|i+1) G.w w') g' w')(MS:∀s seq vs Mr,G.D i≠.lib s seq vs Mr)(aB:Rk.lt ρ' (G.R<|p.J+i)):
  p.Nx am cD Fin Anch G t (p.J+i):=by
 have hf:=h.iH.grow hS (i+1) hp.size;have ks:∀b,p.Sp b->w'.heap[b]?=G.w.heap[b]?:=λb hb=>hp.keep b (h.iH.o0 b hb) (h.iH.sp (i+1) b hb).1
 have f:=h.fact i hi;have MN:deafBehind (Deaf t<|p.J+i) es=0:=by rw[hd];exact deafBehind_still (λe he=>⟨gq (hp.ev e he) (λy=>y.elim) rfl,gq (hp.ev e he) (λy=>y.elim) rfl⟩) 0
 let⟨cs,hcs⟩:=h.bs;refine h.stepW hR cH hS nP hi (pl':=G.D i) hg hgo hp.size (λb hb hn _=>hp.keep b hb hn) (by rw[MN];exact mJ) (λop bz=>(Eq hf hp op bz).1) (λop bz=>(Eq hf hp op bz).2) (h.wg.of_block<|ks _<|.inl rfl) (h.tk.of_block<|ks _<|.inr<|.inl rfl) ⟨cs,hcs.of_block<|ks _<|.inr<|.inr rfl⟩
  (λtag' ht _=>kM h.mode ht rfl) ⟨f.seq,f.lo,f.out,λs seq vs Mr e=>absurd e<|MS s seq vs Mr⟩ (λk _ vs hs=>hs.of_block<|ks _<|.inr<|.inr rfl) (ac5 _) (λx _ h1 h2=>aa) (λx hx=>hx) ?_ (.inr ⟨rfl,rfl,aB⟩)
 have e:(λk=>(upd G.D i (G.D i) k).di)=λk=>(G.D k).di:=by
  funext k;by_cases e:k=i
  .subst e;rw[upd_same]
  .rw[upd_ne _ _ e]
 rw[e];exact h.bound
end Ph
namespace Ph
variable {p:Ph}{Fin:(Nat->Prop)->(Nat->Prop)->Goroutine->World->Prop}{G:Gh}
def Inv.Mc (hR:p.jG)(cH:Geo p am)(hS:∀l,am l->l.low cD)(nP:∀Ro M g W,Anch Ro M g W->g.status=.running)(h:p.Inv am cD Fin Anch G t)(hi:i<G.j){ρ':Rk}{lo:Nat}{seq:List Nat}{pl':nC}(hD:G.D i=.jg f lo seq)
  (hg:G.gs[p.J+i]?=some g)(hgo:stepG p.P false g G.w=.go g' (G.w.setCell p.tk<|.int .i64<|G.c+1) #[rd p.tk,wr p.tk])(hd:Deaf t (p.J+i)=0)
  (mJ:p.WS i (G.Ro<|i+1) pl' ρ' 0 (G.M<|i+1) g' (G.w.setCell p.tk<|.int .i64<|G.c+1))(Yo:pl'.cost<9+f)(dz:pl'.stage=7)(MS:∀s seq vs Mr,pl'≠.lib s seq vs Mr)
  (Zj:∀x∈pl'.seq,x<p.L)(UV:∀x∈seq,x∈pl'.seq)(WA:pl'.lo (G.c+1))(Ux:G.c<p.L->G.c∈pl'.seq)(Ca:pl'.di=1->p.L<G.c+1)(hb:G.c<p.L\/pl'.di=1):
  p.Nx am cD Fin Anch G t (p.J+i):=by
 have ha:=aside_setCell G.w p.tk<|.int .i64<|G.c+1;have Li:grow (G.M<|i+1) G.w (G.w.setCell p.tk<|.int .i64<|G.c+1)=G.M (i+1):=cJ ha.size;have mH:∀e∈#[rd p.tk,wr p.tk],p.EvS e:=by
  intro e he;simp at he;rcases he with rfl|rfl<;>exact .inr ⟨_,_,rfl,.inr rfl⟩
 have MN:deafBehind (Deaf t<|p.J+i) #[rd p.tk,wr p.tk]=0:=by rw[hd];rfl
 have hW:p.Wg<(G.w.setCell p.tk<|.int .i64<|G.c+1).heap.size:=by rw[ha.size];exact h.iH.o0 _<|.inl rfl
 have hT:p.tk.block<(G.w.setCell p.tk<|.int .i64<|G.c+1).heap.size:=by rw[ha.size];exact h.iH.o0 _<|.inr<|.inl rfl
 let⟨cs,hcs⟩:=h.bs;have xz:(bN G.D i).stage=7:=by simp only[bN,hD];rfl
 refine h.stepW hR cH hS nP hi (pl':=pl') (c':=G.c+1) hg hgo (by rw[ha.size];exact ac5 _) (λb _ _ hn=>ha.block b λe=>hn<|.inr<|.inl e) (by rw[MN,Li];exact mJ) (Er mH) (qo hW hT mH) (h.wg.of_block<|ha.block _ cH.wt) (h.tk.set _) ⟨cs,hcs.of_block<|ha.block _<|Ne.symm cH.tb⟩
  (λtag' ht _=>by rw[dz];exact kM h.mode ht xz) ⟨Zj,WA,Ca,λs seq vs Mr e=>absurd e<|MS s seq vs Mr⟩ (λk _ vs hs=>hs.of_block<|ha.block _<|Ne.symm cH.tb) (Nat.le_succ _) (λx hx h1 h2=>?_) (λx hx=>UV x<|by rw[hD]at hx;exact hx) ?_ (.inl ⟨by rw[hD];exact Yo,by rw[dz,hD];exact ac5 _⟩)
 .obtain rfl:x=G.c:=by omega
  exact Ux hx
 .have e:sumTo G.j (λk=>(upd G.D i pl' k).di)+(G.D i).di=sumTo G.j (λk=>(G.D k).di)+pl'.di:=sumTo_upd G.D pl' nC.di hi;have e0:(G.D i).di=0:=by rw[hD];rfl
  have:=h.bound;rcases hb with hb|hb<;>omega
def Inv.T5 (hR:p.jG)(cH:Geo p am)(hS:∀l,am l->l.low cD)(nP:∀Ro M g W,Anch Ro M g W->g.status=.running)(hL:p.L+p.n<4611686018427387904)(h:p.Inv am cD Fin Anch G t)(hi:i<G.j){lo:Nat}{seq:List Nat}(hD:G.D i=.jg f lo seq)
  (hg:G.gs[p.J+i]?=some g)(hd:Deaf t (p.J+i)=0)(hs:PT p.P false p.I nE (G.Ro<|i+1) (p.j9 i (G.Ro<|i+1) f lo seq) (G.R<|p.J+i) (G.M<|i+1) g G.w):
  p.Nx am cD Fin Anch G t (p.J+i):=by
 have fa:=h.fact i hi;rw[hD]at fa;have WA:lo<=G.c:=fa.lo;have Zj:∀x∈seq,x<p.L:=fa.seq;have hc:G.c<4611686018427387904:=by have:=h.bound;have:=JU G.D G.j;have:=h.jn;omega
 rcases hs.cases with du|⟨fr,hr,SC,df⟩
 .have dz:=du G.w (aK.refl _ _) h.I;cases f with
  |zero=>
   let⟨tC,g',hgo,ρ',sO⟩:=dz.2 G.c WA hc h.tk;exact h.Mc hR cH hS nP hi hD hg hgo hd (.put sO) (by simp only[nC.cost];omega) rfl aF Zj (λx hx=>hx) trivial (λhx=>aa) (λ_=>aa) (.inr rfl)
  |succ f=>
   let⟨g',hgo,sO,xj⟩:=dz.2 G.c WA hc h.tk;rcases ade G.c p.L with aB|tC
   .let⟨ρ',hn⟩:=xj aB;refine h.Mc hR cH hS nP hi hD hg hgo hd (.jg hn) (by simp only[nC.cost];omega) rfl aF (λx hx=>?_) (λx hx=>List.mem_append_left _ hx) (ac5 _) (λ_=>by simp[nC.seq]) (λe=>by cases e)<|.inl aB;rcases adx.1 hx with hx|hx
    .exact Zj x hx
    .simp at hx;omega
   .let⟨ρ',hp⟩:=sO tC;exact h.Mc hR cH hS nP hi hD hg hgo hd (.put hp) (by simp only[nC.cost];omega) rfl aF Zj (λx hx=>hx) trivial (λhx=>aa) (λ_=>aa) (.inr rfl)
 .let⟨g',w',es,hgo,hp,hn⟩:=df G.w (aK.refl _ _) h.I;exact h.SR hR cH hS nP hi hg hgo hp hd (by rw[hD];exact .jg hn) (by rw[hD];simp) (by rw[hr];exact⟨_,rfl⟩)
def Inv.abv (hR:p.jG)(cH:Geo p am)(hS:∀l,am l->l.low cD)(nP:∀Ro M g W,Anch Ro M g W->g.status=.running)(h:p.Inv am cD Fin Anch G t)(hi:i<G.j){seq:List Nat}(hD:G.D i=.put seq)
  (hg:G.gs[p.J+i]?=some g)(hd:Deaf t (p.J+i)=0)(hs:PT p.P false p.I nE (G.Ro<|i+1) (p.zO i seq) (G.R<|p.J+i) (G.M<|i+1) g G.w):
  p.Nx am cD Fin Anch G t (p.J+i):=by
 have fa:=h.fact i hi;rw[hD]at fa;rcases hs.cases with du|⟨fr,hr,SC,df⟩
 .let⟨_,dz⟩:=du G.w (aK.refl _ _) h.I;let⟨g',w',es,vs,hgo,sO,mH,Mr,C,c,v,m,vz,hMr,hC,Uc,hGo⟩:=dz h.bs;have Li:grow (G.M<|i+1) G.w w'=G.M (i+1):=cJ sO.size;have UL:∀e∈es,MemAct.ofEvent e=.access e/\∃a:Addr,e.loc=.cell a/\e.sync=false:=λe he=>by
   let⟨h1,a,h2,_⟩:=mH e he;let⟨loc,wr,sy⟩:=e;simp only at h1 h2;subst h1 h2;exact⟨rfl,a,rfl,rfl⟩
  have Cd:∀e∈es,∀x,(MemAct.ofEvent e).touch?=some x->x.kind=.plain/\p.rP i x.loc:=λe he x hx=>by
   let⟨h1,a,h2,h3,h4,h5⟩:=mH e he;rw[(UL e he).1]at hx;simp only[MemAct.touch?,h1,Option.some.injEq]at hx;subst hx;exact⟨rfl,a,h2,h3,h4,h5⟩
  have MN:deafBehind (Deaf t<|p.J+i) es=0:=by
   rw[hd];refine deafBehind_still (λe he=>?_) 0;let⟨_,a,h2,_⟩:=UL e he;rw[h2];exact⟨aF,aF⟩
  have ks:∀b,b≠p.Bs->w'.heap[b]?=G.w.heap[b]?:=sO.block;let⟨cs,hcs⟩:=h.bs;let⟨cs',Gu,hcell⟩:=sO.put cs hcs;have uniq:∀{w:World} {a b:Array Value},p.qz a w->p.qz b w->a=b:=λh1 h2=>by
   have:=h1.1.symm.trans h2.1;simpa using this
  have Zg:p.Slot i vs w':=by
   refine⟨sO.len,λd hd o ho=>?_⟩;obtain rfl:=uniq hd Gu;rw[hcell,if_pos (by
    constructor;· omega
    .rw[Nat.add_mul];omega)]
   congr 1;omega
  have WK:∀k,k≠i->∀vs,p.Slot k vs G.w->p.Slot k vs w':=by
   intro k hk vs hs;refine⟨hs.1,λd hd o ho=>?_⟩;obtain rfl:=uniq hd Gu;rw[hcell,if_neg,hs.2 cs hcs o ho];intro ⟨h1,h2⟩;have a1:i*p.wd<(k+1)*p.wd:=by rw[Nat.add_mul k];omega
   have a2:k*p.wd<(i+1)*p.wd:=aa;have b1:=Nat.lt_of_mul_lt_mul_right a1;have b2:=Nat.lt_of_mul_lt_mul_right a2;omega
  have xz:(bN G.D i).stage=7:=by simp only[bN,hD];rfl
  have ei:p.J+i-p.J=i:=aa;refine h.stepW hR cH hS nP hi (pl':=.lib 7 seq vs Mr) (ρ':=Rk.nat m) hg hgo (by rw[sO.size];exact ac5 _) (λb _ _ hn=>ks b λe=>hn<|.inr<|.inr e) ?_ (λop bz=>?_) (λop bz=>?_) (h.wg.of_block<|ks _ cH.wb) (h.tk.of_block<|ks _ cH.tb) ⟨cs',Gu⟩
   (λtag' ht _=>kM h.mode ht xz) ⟨fa.seq,trivial,λ_=>fa.out rfl,λs sq v' Mr' e=>?_⟩ WK (ac5 _) (λx _ h1 h2=>aa) (λx hx=>by rw[hD]at hx;exact hx) ?_ (.inl ⟨by rw[hD];simp[nC.cost],by rw[hD];exact ac5 _⟩)
  .rw[MN,Li];exact .lib hC Uc<|@WSit.r0 p.pl _ _ _ _ _ _ _ _ _ _ _ _ _ hGo
  .obtain⟨e,he,rfl⟩:=Go.Conc.mem_ofEvents bz;refine⟨rfl,λx hx=>.inr<|.inl ⟨Nat.le_add_right _ _,.inr ?_⟩⟩;rw[ei];exact(Cd e he x hx).2
  .obtain⟨e,he,rfl⟩:=Go.Conc.mem_ofEvents bz;refine⟨λx hx=>?_,λx hx=>?_,λhx=>?_,λ_ x hx hk=>?_⟩
   .let⟨_,a,e1,_⟩:=Cd e he x hx;rw[e1];rfl
   .let⟨_,a,e1,e2,_⟩:=Cd e he x hx;rw[e1];show a.block<_;rw[e2,sO.size];exact h.iH.o0 _<|.inr<|.inr rfl
   .have:=Go.ConcR.loc_of_ofEvent hx;let⟨_,a,h2,_⟩:=UL e he;rw[h2]at this;cases this
   .rw[(Cd e he x hx).1]at hk;cases hk
  .cases e;exact⟨Zg,⟨vz,by rw[Li];exact hMr⟩,λh6=>absurd h6 aa⟩
  .have e:sumTo G.j (λk=>(upd G.D i (.lib 7 seq vs Mr) k).di)+(G.D i).di=sumTo G.j (λk=>(G.D k).di)+1:=sumTo_upd G.D (.lib 7 seq vs Mr) nC.di hi;have e0:(G.D i).di=1:=by rw[hD];rfl
   have:=h.bound;omega
 .let⟨g',w',es,hgo,hp,hn⟩:=df G.w (aK.refl _ _) h.I;exact h.SR hR cH hS nP hi hg hgo hp hd (by rw[hD];exact .put hn) (by rw[hD];simp) (by rw[hr];exact⟨_,rfl⟩)
end Ph
end
section
open ConcN (CT Apart Ok0 OkW RelBy PermW sumTo sumTo_upd sumTo_upd_out sumTo_congr sumTo_le le_sumTo upd WgLive RW DWs AtR0 WSit CTag WD Vc Vc_le Vc_upd cnt pend phi phi_mono phi_retag PayAt Has upd_same upd_ne get_map_set get_map_set_same OpenSt others_uncounted)
open ConcR (stA smA WgAt KK rd wr g_of_ofEvents Bk bk_of_mute)
namespace Ph
variable {p:Ph}{Fin:(Nat->Prop)->(Nat->Prop)->Goroutine->World->Prop}{G:Gh}
def EvS.ZP (h:Bk p.Wg e):p.EvS e:=by
 rcases h with h|h|⟨a,wr,rfl,h⟩
 .exact .inl ⟨_,h,.inl rfl⟩
 .exact .inl ⟨_,h,.inr<|.inl rfl⟩
 .exact .inr ⟨a,wr,rfl,.inl h⟩
def TN {a:Nat}(h:a<=b):cnt ⟨a,0,0⟩<=cnt ⟨b,0,0⟩:=by
 unfold cnt;split<;>split<;>simp_all
 omega
def Inv.LP (hR:p.jG)(cH:Geo p am)(hS:∀l,am l->l.low cD)(nP:∀Ro M g W,Anch Ro M g W->g.status=.running)(h:p.Inv am cD Fin Anch G t)(hi:i<G.j){s':Nat}{seq:List Nat}{ρ':Rk}(hD:G.D i=.lib s seq vs Mr)
  (hg:G.gs[p.J+i]?=some g)(hgo:stepG p.P false g G.w=.go g' w' es)(hA:Aside p.Wg G.w w')(jX:WgAt p.ty p.Wg w' Dh Dg)(mH:∀e∈es,p.EvS e)(hrel:s'<=6->∃r,RelBy (stA p.Wg) (t++MemOp.ofEvents (p.J+i) g.frame.fn g.frame.place es) (p.J+i) r)
  (mJ:p.WS i (G.Ro<|i+1) (.lib s' seq vs Mr) ρ' (deafBehind (Deaf t<|p.J+i) es) (G.M<|i+1) g' w')
  (sM:∀tag',(tag'=G.tag\/(G.tag=.blk/\tag'=.w3))->(mayWake p.P g=true->g'.status=.running->tag'≠.blk)->Go.ConcN.Mode G.j (upd (bN G.D) i ⟨s',0,0⟩) tag' Dh Dg)
  (aB:s'<s\/(s'=s/\Rk.lt ρ' (G.R<|p.J+i))):
  p.Nx am cD Fin Anch G t (p.J+i):=by
 have fa:=h.fact i hi;rw[hD]at fa;let⟨f1,f2,_⟩:=fa.lib s seq vs Mr rfl;have Li:grow (G.M<|i+1) G.w w'=G.M (i+1):=cJ hA.size;let⟨cs,hcs⟩:=h.bs;have hB:=hA.block _<|Ne.symm cH.wb;refine h.stepW hR cH hS nP hi (pl':=.lib s' seq vs Mr) hg hgo (by rw[hA.size];exact ac5 _) (λb _ _ hn=>hA.block b λe=>hn<|.inl e) (by rw[Li];exact mJ) (Er mH) (qo (by rw[hA.size];exact h.iH.o0 _<|.inl rfl) (by rw[hA.size];exact h.iH.o0 _<|.inr<|.inl rfl) mH) jX (h.tk.of_block<|hA.block _<|Ne.symm cH.wt) ⟨cs,hcs.of_block hB⟩
  sM ⟨fa.seq,trivial,λ_=>fa.out rfl,λabD sq acT ga e=>?_⟩ (λk _ vs hs=>hs.of_block hB) (ac5 _) (λx _ h1 h2=>aa) (λx hx=>by rw[hD]at hx;exact hx) ?_ ?_
 .cases e;exact⟨f1.of_block hB,⟨hR _ _ _ _ _ f2.1 ⟨λb hb=>hA.block b λe=>(h.iH.sp (i+1) b<|.inl e).1<|f2.2 b hb,by rw[hA.size];exact ac5 _,hA.os,hA.output⟩,by rw[Li];exact f2.2⟩,hrel⟩
 .have e:sumTo G.j (λk=>(upd G.D i (.lib s' seq vs Mr) k).di)+(G.D i).di=sumTo G.j (λk=>(G.D k).di)+1:=sumTo_upd G.D (.lib s' seq vs Mr) nC.di hi;have e0:(G.D i).di=1:=by rw[hD];rfl
  have:=h.bound;omega
 .rw[hD];rcases aB with h1|⟨h1,h2⟩
  .exact .inl ⟨h1,TN<|ado h1⟩
  .exact .inr ⟨h1,h1,h2⟩
def Inv.abm (hR:p.jG)(cH:Geo p am)(hS:∀l,am l->l.low cD)(nP:∀Ro M g W,Anch Ro M g W->g.status=.running)(hn:p.n<2147483647)(h:p.Inv am cD Fin Anch G t)(hi:i<G.j){m:Nat}{v:Value}{seq:List Nat}(hD:G.D i=.lib s seq vs Mr)
  (hg:G.gs[p.J+i]?=some g)(d6:g.status=.running)(hd:Deaf t (p.J+i)=d)(hC:G.M (i+1) C)(Uc:¬Mr C)(hRm:G.R (p.J+i)=Rk.nat m)(hpd:G.j+pend G.tag<=p.n)(hs:@WSit p.pl p.P p.ty p.Wg C c (λ_ _=>False) (λ_ _=>False) 0 1 v s m d g G.w):
  p.Nx am cD Fin Anch G t (p.J+i):=by
 letI:=p.pl;have fa:=h.fact i hi;rw[hD]at fa;let⟨f1,f2,f3⟩:=fa.lib s seq vs Mr rfl;have xz:(bN G.D i).stage=s:=by simp only[bN,hD];rfl
 have UO:∀m',m'+1=m->Rk.lt (Rk.nat m') (G.R<|p.J+i):=λm' e=>by rw[hRm,<-e];exact Rk.NA m' G.w
 have SB:∀{es:Array Event},s<=6->(∀e∈es,Bk p.Wg e)->(∀jx e,es[jx]?=some e->(MemAct.ofEvent e).touch?=none\/0<deafBehind d (es.extract 0 jx))->∃r,RelBy (stA p.Wg) (t++MemOp.ofEvents (p.J+i) g.frame.fn g.frame.place es) (p.J+i) r:=
  λh6 hb hx=>let⟨r,hr⟩:=f3 h6;⟨r,hr.book hd _ _ hb hx⟩
 have hVj:=Vc_le G.j<|bN G.D;have idle:∀{g':Goroutine} {m':Nat},stepG p.P false g G.w=.go g' G.w #[]->@WSit p.pl p.P p.ty p.Wg C c (λ_ _=>False) (λ_ _=>False) 0 1 v s m' d g' G.w->m'+1=m->s<=6->
   p.Nx am cD Fin Anch G t (p.J+i):=by
  intro g' m' hgo mJ hm h6;exact h.LP hR cH hS nP hi hD hg hgo (.refl _ _) h.wg aF (λ_=>SB h6 aF aF) (ρ':=Rk.nat m') (by rw[hd];exact .lib hC Uc mJ) (λtag' ht _=>kM h.mode ht xz)<|.inr ⟨rfl,UO m' hm⟩
 have book:∀{g':Goroutine} {w':World} {es:Array Event} {s' m' dd':Nat} {Dh Dg:Int},stepG p.P false g G.w=.go g' w' es->Aside p.Wg G.w w'->WgAt p.ty p.Wg w' Dh Dg->(∀e∈es,Bk p.Wg e)->
   (∀jx e,es[jx]?=some e->(MemAct.ofEvent e).touch?=none\/0<deafBehind d (es.extract 0 jx))->@WSit p.pl p.P p.ty p.Wg C c (λ_ _=>False) (λ_ _=>False) 0 1 v s' m' dd' g' w'->deafBehind d es=dd'->s<=6->
   (∀tag',(tag'=G.tag\/(G.tag=.blk/\tag'=.w3))->(mayWake p.P g=true->g'.status=.running->tag'≠.blk)->Go.ConcN.Mode G.j (upd (bN G.D) i ⟨s',0,0⟩) tag' Dh Dg)->(s'<s\/(s'=s/\m'+1=m))->
   p.Nx am cD Fin Anch G t (p.J+i):=by
  intro g' w' es s' m' dd' Dh Dg hgo hA jX mG Qn mJ hdd h6 sM aB;exact h.LP hR cH hS nP hi hD hg hgo hA jX (λe he=>.ZP<|mG e he) (λ_=>SB h6 mG Qn) (ρ':=Rk.nat m') (by rw[hd,hdd];exact .lib hC Uc mJ) sM<|aB.imp id λx=>⟨x.1,UO m' x.2⟩
 have WY:∀{x:WD} {a:Nat},a≠i->(upd (bN G.D) i x a)=bN G.D a:=λe=>upd_ne _ _ e
 cases hs with
 |r0 hw=>
  rcases Goes.cases hw with du|⟨m',rfl,df⟩
  .let⟨_,ab9,g',hgo,acS,hk⟩:=du G.w<|RW.refl G.w;exact h.LP hR cH hS nP hi hD hg hgo (.refl _ _) h.wg (by intro e he;simp at he;subst he;exact .inl ⟨_,rfl,.inr<|.inr<|.inl ⟨_,rfl⟩⟩) (λ_=>⟨t.size,RelBy.new hd _ _⟩) (ρ':=Rk.nat acS) (by rw[hd];exact .lib (v:=v) hC Uc<|.k1 hk) (λtag' ht _=>(h.mode.counted hi aa (.inl rfl) 0 0).retag ht)<|.inl aa
  .let⟨g',w',es,hgo,⟨J3,mH⟩,qE⟩:=df G.w<|RW.refl G.w;have hCs:∀b,p.Sp b->b≠C:=λb hb e=>(h.iH.sp (i+1) b hb).1 (e▸hC)
   have ks:∀b,p.Sp b->w'.heap[b]?=G.w.heap[b]?:=λb hb=>J3.block b<|hCs b hb
   have Li:grow (G.M<|i+1) G.w w'=G.M (i+1):=cJ J3.size;have MN:deafBehind (Deaf t<|p.J+i) es=0:=by rw[hd];exact deafBehind_still (λe he=>⟨(mH e he).2.1,(mH e he).2.2.1⟩) 0
   have ht:∀e∈es,∀x,(MemAct.ofEvent e).touch?=some x->Go.ConcN.ShN p.Wg x.loc/\x.kind≠.plain/\x.kind≠.said:=λe he x hx=>by
    rcases((mH e he).1 0 "").2 x hx with h1|h1|h1
    .exact h1
    .exact h1.elim
    .exact h1.1.elim
   let⟨cs,hcs⟩:=h.bs;have hB:=ks p.Bs<|.inr<|.inr rfl;refine h.stepW hR cH hS nP hi (pl':=.lib 7 seq vs Mr) (ρ':=Rk.nat m') hg hgo (by rw[J3.size];exact ac5 _) (λb _ hb _=>J3.block b λe=>hb<|e▸hC) (by rw[Li,MN];exact .lib hC Uc<|.r0 qE) (λop bz=>?_) (λop bz=>?_) (h.wg.of_block<|ks _<|.inl rfl) (h.tk.of_block<|ks _<|.inr<|.inl rfl) ⟨cs,hcs.of_block hB⟩
    (λtag' ht _=>kM h.mode ht xz) ⟨fa.seq,trivial,λ_=>fa.out rfl,λabD sq acT ga e=>?_⟩ (λk _ vs hs=>hs.of_block hB) (ac5 _) (λx _ h1 h2=>aa) (λx hx=>by rw[hD]at hx;exact hx) ?_ (.inr ⟨by rw[hD],by rw[hD],UO m' rfl⟩)
   .obtain⟨e,he,rfl⟩:=Go.Conc.mem_ofEvents bz;exact⟨rfl,λx hx=>let⟨⟨a,h1,h2⟩,h3⟩:=ht e he x hx;.inl ⟨.inr ⟨a,h1,.inl h2⟩,h3⟩⟩
   .obtain⟨e,he,rfl⟩:=Go.Conc.mem_ofEvents bz;refine⟨λx hx=>?_,λx hx=>?_,λhx=>(mH e he).2.2.2<|Go.ConcR.loc_of_ofEvent hx,λ_ x hx _=>?_⟩
    .let⟨⟨a,h1,h2⟩,_⟩:=ht e he x hx;rw[h1];rfl
    .let⟨⟨a,h1,h2⟩,_⟩:=ht e he x hx;rw[h1];show a.block<_;rw[h2,J3.size];exact h.iH.o0 _<|.inl rfl
    .let⟨⟨a,h1,h2⟩,_⟩:=ht e he x hx;exact .inr ⟨a,h1,.inl h2⟩
   .cases e;exact⟨f1.of_block hB,⟨hR _ _ _ _ _ f2.1 ⟨λb hb=>J3.block b λe=>Uc<|e▸hb,by rw[J3.size];exact ac5 _,J3.os,J3.output⟩,by rw[Li];exact f2.2⟩,λh6=>absurd h6 aa⟩
   .have e:sumTo G.j (λk=>(upd G.D i (.lib 7 seq vs Mr) k).di)+(G.D i).di=sumTo G.j (λk=>(G.D k).di)+1:=sumTo_upd G.D (.lib 7 seq vs Mr) nC.di hi;have e0:(G.D i).di=1:=by rw[hD];rfl
    have:=h.bound;omega
 |k1 hw=>
  rcases Goes.cases hw with du|⟨m',rfl,df⟩
  .let⟨_,g',hgo,acS,hk⟩:=du G.w<|RW.refl G.w;exact book hgo (.refl _ _) h.wg (by intro e he;simp at he;subst he;exact .inl rfl) (by intro jx e he;exact .inl (by have:=Array.mem_of_getElem? he;simp at this;subst this;rfl)) (.d1 hk) rfl aa (λtag' ht _=>(h.mode.counted hi aa (.inr rfl) 0 0).retag ht)<|.inl aa
  .obtain⟨g',w',es,hgo,⟨rfl,rfl⟩,qE⟩:=df G.w<|RW.refl G.w;exact idle hgo (.k1 qE) rfl aa
 |d1 hw=>
  rcases Goes.cases hw with du|⟨m',rfl,df⟩
  .let⟨_,cE⟩:=du G.w<|RW.refl G.w;have kq:cnt (bN G.D i)=1:=by simp[cnt,xz]
   have X8:1<=Vc G.j (bN G.D):=by have:=le_sumTo (f:=λx=>cnt<|bN G.D x) hi;simp only[Vc];omega
   have bk2:∀e∈#[rd<|stA p.Wg,wr<|stA p.Wg],Bk p.Wg e:=by intro e he;simp at he;rcases he with rfl|rfl<;>exact Go.ConcN.bk_cell _ _ rfl
   have df2:∀jx e,(#[rd<|stA p.Wg,wr<|stA p.Wg]:Array Event)[jx]?=some e->(MemAct.ofEvent e).touch?=none\/0<deafBehind 1 ((#[rd<|stA p.Wg,wr<|stA p.Wg]:Array Event).extract 0 jx):=by
    intro jx e he;match jx,he with
    |0,_=>exact .inr (by simp[deafBehind])
    |1,_=>exact .inr (by simp[deafBehind,rd])
    |jx+2,he=>simp at he
   have hVu:∀x:WD,cnt x=0->Vc G.j (upd (bN G.D) i x)+1=Vc G.j (bN G.D):=λx hx=>by have:=Vc_upd (bN G.D) x hi;omega
   have opq:OpenSt G.j (bN G.D)->OpenSt G.j (upd (bN G.D) i ⟨1,0,0⟩):=λh a ha=>by
    by_cases e:a=i
    .subst e;rw[upd_same];simp
    .rw[upd_ne _ _ e];exact h a ha
   have hm:=h.mode;have hw:=h.wg;generalize htg:G.tag=tg at hm hpd;generalize dz:G.st=st at hm hw;generalize hsm:G.sm=sm at hm hw;cases hm with
   |opn h1 h2 h3=>
    obtain⟨v,hv⟩:∃v,Vc G.j (bN G.D)+pend tg=v+1:=⟨Vc G.j (bN G.D)+pend tg-1,aa⟩;rw[hv]at hw;have FE:WgAt p.ty p.Wg G.w (((v:Nat)+1)*KK+((0:Nat):Int)) 0:=by simpa using hw
    let⟨g',hgo,_,hq⟩:=cE v 0 aa aa FE;let⟨q,hq⟩:=hq aa;have Ay:Vc G.j (upd (bN G.D) i ⟨1,0,0⟩)+pend tg=v:=by have:=hVu ⟨1,0,0⟩ rfl;omega
    refine book hgo (aside_setCell G.w (stA p.Wg) _) (hw.setSt _) bk2 df2 (.quit hq) rfl aa (λtag' ht _=>Go.ConcN.Mode.retag ?_ ht)<|.inl aa;have e:((v:Nat):Int)*KK+((0:Nat):Int)=((Vc G.j (upd (bN G.D) i ⟨1,0,0⟩)+pend tg:Nat):Int)*KK:=by rw[Ay];simp
    rw[htg,e];exact .opn h1 (opq h2) (λvs ev=>by have:=h3 vs ev;have:=hVu ⟨1,0,0⟩ rfl;omega)
   |reg h1 h2 h3=>
    obtain⟨v,hv⟩:∃v,Vc G.j (bN G.D)=v+1:=⟨Vc G.j (bN G.D)-1,aa⟩;rw[hv]at hw;have FE:WgAt p.ty p.Wg G.w (((v:Nat)+1)*KK+((1:Nat):Int)) 0:=by simpa using hw
    let⟨g',hgo,hl,hq⟩:=cE v 1 aa aa FE;by_cases hv0:v=0
    .subst hv0;let⟨acS,hk⟩:=hl ⟨rfl,rfl⟩;refine book hgo (aside_setCell G.w (stA p.Wg) _) (hw.setSt _) bk2 df2 (.d2 hk) rfl aa (λtag' ht _=>Go.ConcN.Mode.retag ?_ ht)<|.inl aa;have GA:∀a,a<G.j->a≠i->(bN G.D a).stage=1:=λa ha e=>by
      have c0:=others_uncounted hi hv kq a ha e;have:=h2 a ha;simp only[cnt]at c0;split at c0<;>omega
     have:=Go.ConcN.Mode.last (j:=G.j) (D:=upd (bN G.D) i ⟨4,0,0⟩) (tag:=tg) i h1 hi (by rw[upd_same];simp) (λa ha e=>by rw[upd_ne _ _ e];exact GA a ha e);rw[upd_same]at this;rw[htg];simpa using this
    .let⟨q,hq⟩:=hq aa;have Ay:Vc G.j (upd (bN G.D) i ⟨1,0,0⟩)=v:=by have:=hVu ⟨1,0,0⟩ rfl;omega
     refine book hgo (aside_setCell G.w (stA p.Wg) _) (hw.setSt _) bk2 df2 (.quit hq) rfl aa (λtag' ht _=>Go.ConcN.Mode.retag ?_ ht)<|.inl aa;have e:((v:Nat):Int)*KK+((1:Nat):Int)=((Vc G.j (upd (bN G.D) i ⟨1,0,0⟩):Nat):Int)*KK+1:=by rw[Ay];simp
     rw[htg,e];exact .reg h1 (opq h2) aa
   |last L _ h2 h3 h4=>
    by_cases e:i=L
    .subst e;omega
    .have:=h4 i hi e;omega
   |sema h2=>have:=h2 i hi;omega
   |fin _ h2=>have:=h2 i hi;omega
  .obtain⟨g',w',es,hgo,⟨rfl,rfl⟩,qE⟩:=df G.w<|RW.refl G.w;exact idle hgo (.d1 qE) rfl aa
 |d2 hw=>
  rcases Goes.cases hw with du|⟨m',rfl,df⟩
  .let⟨_,hx⟩:=du G.w<|RW.refl G.w;let⟨BU,GA,e1,e2⟩:=h.mode.isLast hi aa;have jX:=h.wg;rw[e1,e2,xz]at jX;let⟨g',hgo,acS,hk⟩:=hx (by simpa using jX);refine book hgo (.refl _ _) jX (by intro e he;simp at he;subst he;exact Go.ConcN.bk_cell _ _ rfl) (by intro jx e he;match jx,he with|0,_=>exact .inr (by simp[deafBehind])|jx+1,he=>simp at he) (.d3 hk) rfl aa (λtag' ht _=>Go.ConcN.Mode.retag ?_ ht)<|.inl aa;have:=Go.ConcN.Mode.last (j:=G.j) (D:=upd (bN G.D) i ⟨3,0,0⟩) (tag:=G.tag) i BU hi (by rw[upd_same];simp) (λa ha e=>by rw[upd_ne _ _ e];exact GA a ha e);rw[upd_same]at this;simpa using this
  .obtain⟨g',w',es,hgo,⟨rfl,rfl⟩,qE⟩:=df G.w<|RW.refl G.w;exact idle hgo (.d2 qE) rfl aa
 |d3 hw=>
  rcases Goes.cases hw with du|⟨m',rfl,df⟩
  .let⟨_,hx⟩:=du G.w<|RW.refl G.w;let⟨BU,GA,e1,e2⟩:=h.mode.isLast hi aa;have jX:=h.wg;rw[e1,e2,xz]at jX;let⟨g',hgo,acS,hk⟩:=hx (by simpa using jX);refine book hgo (aside_setCell G.w (stA p.Wg) _) (jX.setSt 0) (by intro e he;simp at he;subst he;exact Go.ConcN.bk_cell _ _ rfl) (by intro jx e he;match jx,he with|0,_=>exact .inr (by simp[deafBehind])|jx+1,he=>simp at he) (.d4 hk) rfl aa (λtag' ht _=>Go.ConcN.Mode.retag ?_ ht)<|.inl aa;have:=Go.ConcN.Mode.last (j:=G.j) (D:=upd (bN G.D) i ⟨2,0,0⟩) (tag:=G.tag) i BU hi (by rw[upd_same];simp) (λa ha e=>by rw[upd_ne _ _ e];exact GA a ha e);rw[upd_same]at this;simpa using this
  .obtain⟨g',w',es,hgo,⟨rfl,rfl⟩,qE⟩:=df G.w<|RW.refl G.w;exact idle hgo (.d3 qE) rfl aa
 |d4 hw=>
  rcases Goes.cases hw with du|⟨m',rfl,df⟩
  .let⟨_,hmw,hx⟩:=du G.w<|RW.refl G.w;let⟨BU,GA,e1,e2⟩:=h.mode.isLast hi aa;have jX:=h.wg;rw[e1,e2,xz]at jX;let⟨g',hgo,q,hq⟩:=hx (by simpa using jX);have Zf:g'.status=.running:=by
    cases q with
    |zero=>exact absurd hq.2 bF
    |succ q=>exact hq.elim (λx=>absurd x.2 bF) λx=>x.1
   refine book hgo (aside_setCell G.w (smA p.Wg) _) (jX.setSm 1) (es:=semEvents<|smA p.Wg) ?_ ?_ (.quit hq) (by simp[deafBehind,semEvents]) aa (λtag' ht SH=>?_)<|.inl aa
   .intro e he;simp[semEvents]at he;rcases he with rfl|rfl|rfl|rfl
    .exact .inl rfl
    .exact Go.ConcN.bk_cell _ _ rfl
    .exact Go.ConcN.bk_cell _ _ rfl
    .exact .inr (.inl rfl)
   .intro jx e he;match jx,he with
    |0,he=>simp[semEvents]at he;subst he;exact .inl rfl
    |1,_=>exact .inr (by simp[deafBehind,semEvents])
    |2,_=>exact .inr (by simp[deafBehind,semEvents])
    |3,he=>simp[semEvents]at he;subst he;exact .inl rfl
    |jx+4,he=>simp[semEvents]at he
   .have Dc:=SH hmw Zf;have e3:tag'=.w3:=by
     rcases ht with ht|⟨_,ht⟩
     .rw[<-ht]at BU;cases tag'<;>first|rfl|exact BU.elim|exact absurd rfl Dc
     .exact ht
    subst e3;simp only[if_true];exact .sema λa ha=>by
     by_cases e:a=i
     .subst e;rw[upd_same]
     .rw[upd_ne _ _ e];exact GA a ha e
  .obtain⟨g',w',es,hgo,⟨rfl,rfl⟩,qE⟩:=df G.w<|RW.refl G.w;exact idle hgo (.d4 qE) rfl aa
 |quit hq=>
  cases m with
  |zero=>rw[hq.1]at d6;cases d6
  |succ q=>
   rcases hq with⟨hf,_⟩|⟨_,g',es,Ss,df,hq⟩
   .rw[hf]at d6;cases d6
   .refine book (df G.w) (.refl _ _) h.wg (λe he=>bk_of_mute<|Ss e he) (λjx e he=>.inl<|touch_mute<|Ss e<|Array.mem_of_getElem? he) (.quit hq) rfl aa (λtag' ht _=>kM h.mode ht xz) (.inr ⟨rfl,rfl⟩)
end Ph
end
section
open ConcN (CT Apart Ok0 OkW RelBy PermW sumTo sumTo_upd sumTo_upd_out sumTo_congr sumTo_le le_sumTo upd WgLive RW DWs AtR0 WSit CTag WD Vc Vc_le Vc_upd cnt pend phi phi_mono phi_retag PayAt Has upd_same upd_ne get_map_set get_map_set_same OpenSt AllQuit isOpen isFin isW3)
open ConcR (stA smA WgAt KK rd wr g_of_ofEvents Bk bk_of_mute)
namespace Ph
variable {p:Ph}{Fin:(Nat->Prop)->(Nat->Prop)->Goroutine->World->Prop}{G:Gh}{M Ro:Nat->Nat->Prop}
def Hs (h:Fr p.dE S R e)(hx:(MemAct.ofEvent e).touch?=some x):(x.kind=.said/\∃a:Addr,x.loc=.cell a/\a.block=p.Wg)\/(x.kind=.plain/\x.loc.isMemory=true/\(fC S x.loc\/(fC R x.loc/\x.write=false))):=by
 by_cases hX:p.dE e
 .obtain⟨a,ha,rfl|rfl⟩:=hX
  .simp[MemAct.ofEvent,MemAct.touch?]at hx;subst hx;exact .inl ⟨rfl,a,rfl,ha⟩
  .simp[MemAct.ofEvent,MemAct.touch?]at hx;subst hx;exact .inl ⟨rfl,a,rfl,ha⟩
 .exact .inr (jC h (λy=>absurd y hX) hx)
def tX {m:Mark}(h:Fr p.dE S R e)(h0:Ls m=false)(h1:∀a,m≠.read a)(h2:∀a,m≠.write a):e.loc≠.mark m:=by
 refine gq h (λhX=>?_) h0;obtain⟨a,_,rfl|rfl⟩:=hX
 .simpa usingλe=>h1 a e.symm
 .simpa usingλe=>h2 a e.symm
def Ie.mine (h:Ie p am cD M Ro w)(hl:fC (M 0) l\/fC (Ro 0) l):¬p.Sh am l/\(∀k,¬p.Own M k l)/\(fC (M 0) l->∀k,¬p.Rd Ro k l):=by
 obtain⟨b,hb,oG⟩:∃b,(M 0 b\/Ro 0 b)/\fC (·=b) l:=by
  rcases hl with x|x
  .let⟨b,h1,h2⟩:=x.some;exact⟨b,.inl h1,h2⟩
  .let⟨b,h1,h2⟩:=x.some;exact⟨b,.inr h1,h2⟩
 have nsp:¬p.Sp b:=λhs=>hb.elim (h.sp 0 b hs).1 (h.sp 0 b hs).2
 refine⟨λhs=>?_,λk ⟨hk,hx⟩=>?_,λhm k ⟨hk,hx⟩=>?_⟩
 .rcases Ji hs with x|x
  .exact h.ky 0 b hb l oG x
  .let⟨b',dw,mI⟩:=x.some;obtain rfl:=oG.eq mI;exact nsp<|dw.imp id .inl
 .rcases hx with hx|hx
  .let⟨b',dw,mI⟩:=hx.some;obtain rfl:=oG.eq mI;exact hb.elim (h.BF _ 0 aa b dw)<|h.ro _ 0 b dw
  .obtain rfl:=oG.eq hx.fC;exact nsp<|.inr<|.inr rfl
 .let⟨b',dw,mI⟩:=hx.some;let⟨b2,cP,O5⟩:=hm.some;obtain rfl:=O5.eq mI;exact h.ro 0 _ b2 cP dw
def Eo (hf:Ie p am cD (upd M 0<|grow (M 0) w w') Ro w')(hp:eP p.dE (M 0) (Ro 0) w w' es):∀op∈MemOp.ofEvents 0 fn pos es,Ok0 (p.Sh am) (p.Own<|upd M 0<|grow (M 0) w w') (p.Rd Ro) K op/\(1<=p.J->Du (p.Sh am) p.Wg p.J w'.heap.size op):=by
 intro op bz;obtain⟨e,he,rfl⟩:=Go.Conc.mem_ofEvents bz;have ht:=λx hx=>Hs (hp.ev e he) (x:=x) hx
 have e0:upd M 0 (grow (M 0) w w') 0=grow (M 0) w w':=upd_same _ _ _;refine⟨⟨rfl,λx hx=>?_⟩,λhJ=>⟨λx hx=>?_,λx hx=>?_,λhx=>?_,λhx=>absurd hx (by show¬p.J<=0;omega)⟩⟩
 .rcases ht x hx with⟨hk,a,e1,e2⟩|⟨hk,_,h⟩
  .exact .inl ⟨.inr ⟨a,e1,.inl e2⟩,by rw[hk];simp⟩
  .let⟨m1,m2,m3⟩:=hf.mine (l:=x.loc) (by rw[e0];exact h.imp id And.left);refine .inr ⟨m1,λk _ _=>m2 k,λhw k _ _=>?_⟩;rcases h with h|⟨_,h⟩
   .exact m3 (by rw[e0];exact h) k
   .rw[h]at hw;cases hw
 .rcases ht x hx with⟨hk,a,e1,e2⟩|⟨_,h,_⟩
  .rw[e1];rfl
  .exact h
 .rcases ht x hx with⟨hk,a,e1,e2⟩|⟨_,_,h|⟨h,_⟩⟩
  .rw[e1];show a.block<_;rw[e2];exact hf.o0 _<|.inl rfl
  .exact h.low λb hb=>hf.lt 0 b (.inl<|by rw[e0];exact hb)
  .exact h.low λb hb=>hf.lt 0 b<|.inr hb
 .exact tX (hp.ev e he) rfl aF aF (Go.ConcR.loc_of_ofEvent hx)
def Inv.oK (hR:p.jG)(cH:Geo p am)(hS:∀l,am l->l.low cD)(h:p.Inv am cD Fin Anch G t){ρ':Rk}
  (hgo:stepG p.P true G.a G.w=.go a' w' es)(hp:eP p.dE (G.M 0) (G.Ro 0) G.w w' es)(hd:Deaf t 0=d)
  (mJ:p.fV Fin Anch G.tag G.j ρ' G.x d (G.Ro 0) (grow (G.M 0) G.w w') a' w')(aB:Rk.lt ρ' G.ρ):
  p.Nx am cD Fin Anch G t 0:=by
 have hf:=h.iH.grow hS 0 hp.size;have ks:∀b,p.Sp b->w'.heap[b]?=G.w.heap[b]?:=λb hb=>hp.keep b (h.iH.o0 b hb) (h.iH.sp 0 b hb).1
 have MN:deafBehind (Deaf t 0) es=d:=by rw[hd];exact deafBehind_still (λe he=>⟨tX (hp.ev e he) rfl aF aF,tX (hp.ev e he) rfl aF aF⟩) d
 let⟨cs,hcs⟩:=h.bs;exact h.step0 hR cH hS hgo hp.size (λb hb hn _=>hp.keep b hb hn) (by rw[MN];exact mJ) (λop bz=>(Eo hf hp op bz).1) (λop bz=>(Eo hf hp (K:=0) op bz).2 cH.J1) (h.wg.of_block<|ks _<|.inl rfl) (h.tk.of_block<|ks _<|.inr<|.inl rfl) ⟨cs,hcs.of_block<|ks _<|.inr<|.inr rfl⟩ h.mode (λk vs hs=>hs.of_block<|ks _<|.inr<|.inr rfl)<|.inr ⟨rfl,.inl aB⟩
def Inv.oF (hR:p.jG)(cH:Geo p am)(hS:∀l,am l->l.low cD)(h:p.Inv am cD Fin Anch G t){tag':CTag}{ρ':Rk}{d':Nat}
  (hgo:stepG p.P true G.a G.w=.go a' w' es)(hA:Aside p.Wg G.w w')(jX:WgAt p.ty p.Wg w' Dh Dg)(mH:∀e∈es,p.EvS e)(hd:Deaf t 0=d)(hdd:deafBehind d es=d')
  (mJ:p.fV Fin Anch tag' G.j ρ' x' d' (G.Ro 0) (G.M 0) a' w')(sM:Go.ConcN.Mode G.j (bN G.D) tag' Dh Dg)
  (aB:phi p.n (Vc G.j<|bN G.D) tag'<phi p.n (Vc G.j<|bN G.D) G.tag\/(phi p.n (Vc G.j<|bN G.D) tag'=phi p.n (Vc G.j<|bN G.D) G.tag/\ρ'=G.ρ/\x'<G.x)):
  p.Nx am cD Fin Anch G t 0:=by
 have hB:=hA.block _<|Ne.symm cH.wb;let⟨cs,hcs⟩:=h.bs;have Li:grow (G.M 0) G.w w'=G.M 0:=cJ hA.size;exact h.step0 hR cH hS hgo (by rw[hA.size];exact ac5 _) (λb _ _ hn=>hA.block b λe=>hn<|.inl e) (by rw[hd,hdd,Li];exact mJ) (Ep mH) (qo (by rw[hA.size];exact h.iH.o0 _<|.inl rfl) (by rw[hA.size];exact h.iH.o0 _<|.inr<|.inl rfl) mH) jX (h.tk.of_block<|hA.block _<|Ne.symm cH.wt) ⟨cs,hcs.of_block hB⟩ sM (λk vs hs=>hs.of_block hB)<|aB.imp id λx=>⟨x.1,.inr x.2⟩
def kJ {D:Nat->WD}{tag tag':CTag}(h:Go.ConcN.Mode j D tag st sm)(h1:isOpen tag)(h2:isOpen tag')(hp:pend tag'=pend tag)(h3:∀vs,tag'=.w2 vs->Vc j D<=vs/\1<=vs):Go.ConcN.Mode j D tag' st sm:=by
 cases h with
 |opn _ ho _=>rw[<-hp];exact .opn h2 ho h3
 |reg x=>cases tag<;>first|exact x.elim|exact h1.elim
 |last _ x=>cases tag<;>first|exact x.elim|exact h1.elim
 |sema _=>exact h1.elim
 |fin x=>cases tag<;>first|exact x.elim|exact h1.elim
def n8 {D:Nat->WD}{tag:CTag}(h:Go.ConcN.Mode j D tag st sm)(h1:isOpen tag):OpenSt j D/\st=((Vc j D+pend tag:Nat):Int)*KK/\sm=0/\∀vs,tag=.w2 vs->Vc j D<=vs/\1<=vs:=by
 cases h with
 |opn _ ho h=>exact⟨ho,rfl,rfl,h⟩
 |reg x=>cases tag<;>first|exact x.elim|exact h1.elim
 |last _ x=>cases tag<;>first|exact x.elim|exact h1.elim
 |sema _=>exact h1.elim
 |fin x=>cases tag<;>first|exact x.elim|exact h1.elim
def pQ {D:Nat->WD}{tag:CTag}(h:Go.ConcN.Mode j D tag st sm)(h1:isFin tag):AllQuit j D/\st=0/\sm=0:=by
 cases h with
 |opn x=>cases tag<;>first|exact x.elim|exact h1.elim
 |reg x=>cases tag<;>first|exact x.elim|exact h1.elim
 |last _ x=>cases tag<;>first|exact x.elim|exact h1.elim
 |sema _=>exact h1.elim
 |fin _ h=>exact⟨h,rfl,rfl⟩
def CG {D:Nat->WD}(h:OpenSt j D)(hv:Vc j D=0):AllQuit j D:=by
 intro i hi;have h1:=le_sumTo (f:=λx=>cnt<|D x) hi;have h2:=h i hi;have h3:cnt (D i)=0:=by simp only[Vc]at hv;omega
 simp only[cnt]at h3;split at h3<;>omega
end Ph
namespace Ph
variable (p:Ph)(am:Loc->Prop)(cD:Nat)(Fin Anch:(Nat->Prop)->(Nat->Prop)->Goroutine->World->Prop)
structure Out (gs:Array Goroutine)(w:World)(t:Trace)(a:Goroutine)(Ro M:Nat->Prop)(seq:Nat->List Nat)(vs:Nat->List Value)(Mr:Nat->Nat->Prop):Prop where
 size:gs.size=p.J+p.n
 main:gs[0]?=some a
 fin:Fin Ro M a w
 past:lL (p.Sh am) w.heap.size t
 quit:∃q,Leavers p.P t gs q
 who:∀(i:Nat) (op:MemOp),t[i]?=some op->op.g<p.J+p.n
 abz:∀i,i<p.n->∀x∈seq i,x<p.L
 all:∀x,x<p.L->∃i,i<p.n/\x∈seq i
 slot:∀i,i<p.n->p.Slot i (vs i) w
 res:∀i,i<p.n->p.Tn (seq i) (vs i) (Mr i) w
 bs:∃cs,p.qz cs w
 apart:∀i k,i<p.n->k<p.n->i≠k->∀b,Mr i b->¬Mr k b
 own:∀i,i<p.n->∀b,Mr i b->b<w/\¬M b/\¬Ro b/\¬p.Sp b
 mine:∀b,M b\/Ro b->b<w/\¬p.Sp b
 sp:∀b,p.Sp b->b<w
 mro:∀b,M b->¬Ro b
 ky:∀i,i<p.n->∀b,Mr i b->∀l,fC (·=b) l->¬am l
variable {p}{am}{cD}{Fin Anch}{G:Gh}
def Inv.over (cH:Geo p am)(MT:1<=p.n)(h:p.Inv am cD Fin Anch G t)(gn:G.tag=.acq)(hj:G.j=p.n)(hd:Deaf t 0=0)(hgo:stepG p.P true G.a G.w=.go a' G.w #[Go.ConcR.mk<|.acquire<|stA p.Wg])(gD:Fin (G.Ro 0) (G.M 0) a' G.w):
  ∃gs seq vs Mr,runT p.P (crowd G.gs G.w G.sl) 0=(.next<|crowd gs G.w G.sl,MemOp.ofEvents 0 G.a.frame.fn G.a.frame.place #[Go.ConcR.mk<|.acquire<|stA p.Wg])/\p.Out am Fin gs G.w (t++MemOp.ofEvents 0 G.a.frame.fn G.a.frame.place #[Go.ConcR.mk<|.acquire<|stA p.Wg]) a' (G.Ro 0) (G.M 0) seq vs Mr:=by
 have rE:G.gs.size=p.J+G.j:=h.size;have hJ:=cH.J1;have d6:=runT_crowd_go (P:=p.P) (sl:=G.sl) (i:=0) h.main (show stepG p.P (0==0) G.a G.w=_ from hgo);let⟨cE,_,_⟩:=pQ h.mode (by rw[gn];trivial);have MS:∀i,i<p.n->∃seq vs Mr,G.D i=.lib 1 seq vs Mr:=λi hi=>by
  have:=cE i aa;cases hD:G.D i with
  |jg f lo seq=>simp[bN,hD,nC.stage]at this
  |put seq=>simp[bN,hD,nC.stage]at this
  |lib s seq vs Mr=>simp only[bN,hD,nC.stage]at this;subst this;exact⟨seq,vs,Mr,rfl⟩
 have hex:∀i,∃x:List Nat×List Value×(Nat->Prop),i<p.n->G.D i=.lib 1 x.1 x.2.1 x.2.2:=λi=>by
  by_cases hi:i<p.n
  .let⟨a,b,c,e⟩:=MS i hi;exact⟨(a,b,c),λ_=>e⟩
  .exact⟨([],[],λ_=>False),λx=>absurd x hi⟩
 let X:=λi=>(hex i).choose
 have hX:∀i,i<p.n->G.D i=.lib 1 (X i).1 (X i).2.1 (X i).2.2:=λi hi=>(hex i).choose_spec hi
 have hF:∀i,i<p.n->p.Fact i (.lib 1 (X i).1 (X i).2.1 (X i).2.2) (G.M<|i+1) G.c G.w t:=λi hi=>hX i hi▸h.fact i aa
 have hEv:∀e∈#[Go.ConcR.mk<|.acquire<|stA p.Wg],p.EvS e:=by
  intro e he;simp at he;subst he;exact .inl ⟨_,rfl,.inr<|.inr<|.inr ⟨_,rfl⟩⟩
 have MN:Deaf (t++MemOp.ofEvents 0 G.a.frame.fn G.a.frame.place #[Go.ConcR.mk<|.acquire<|stA p.Wg]) 0=0:=by rw[Deaf_own,hd];rfl
 have DO:∀k,k≠0->Deaf (t++MemOp.ofEvents 0 G.a.frame.fn G.a.frame.place #[Go.ConcR.mk<|.acquire<|stA p.Wg]) k=Deaf t k:=λk hk=>Deaf_other t (Ne.symm hk) _ g_of_ofEvents
 have htr:=h.tr.app0 (h.iH.apart cH) (Ep (fn:=G.a.frame.fn) (pos:=G.a.frame.place) hEv)<|qo (h.iH.o0 _<|.inl rfl) (h.iH.o0 _<|.inr<|.inl rfl) hEv;have UR:MemOp.ofEvents 0 G.a.frame.fn G.a.frame.place #[Go.ConcR.mk<|.acquire<|stA p.Wg]=#[{g:=0,fn:=G.a.frame.fn,pos:=G.a.frame.place,act:=.mark<|.acquire<|stA p.Wg}]:=by rw[ofEvents_eq];simp[Go.ConcR.ofEvent_mk]
 have hq:(t++MemOp.ofEvents 0 G.a.frame.fn G.a.frame.place #[Go.ConcR.mk<|.acquire<|stA p.Wg])[t.size]?=some {g:=0,fn:=G.a.frame.fn,pos:=G.a.frame.place,act:=.mark<|.acquire<|stA p.Wg}:=by
  rw[UR,Array.getElem?_append_right (ac5 _)];simp
 have Y3:=htr.past (λl hl=>.inl hl) (q:=t.size) (by rw[act?_of hq]) (by simp[Trace.g?,hq]) ⟨0,by simp[Trace.g?,hq],by rw[deaf_old (ac5 _)];exact hd⟩ (λk Fx mY=>by
  have hi:k-p.J<p.n:=aa;let⟨r,hr⟩:=((hF _ hi).lib _ _ _ _ rfl).2.2 aa;rw[show p.J+(k-p.J)=k by omega]at hr;exact⟨r,hr.appOther g_of_ofEvents aa,lt_of_act? hr.act⟩) MN
 have hc:p.L<G.c:=(hF 0 aa).out rfl;refine⟨_,λi=>(X i).1,λi=>(X i).2.1,λi=>(X i).2.2,d6,?_⟩;refine⟨by simpa[hj]using rE,get_map_set_same _ _ _ aa,gD,Y3,?_,λi op hi=>?_,λi hi x hx=>(hF i hi).seq x hx,λx hx=>?_,λi hi=>((hF i hi).lib _ _ _ _ rfl).1,λi hi=>((hF i hi).lib _ _ _ _ rfl).2.1.1,h.bs,λi k hi hk hne b h1 h2=>?_,λi hi b hb=>?_,λb hb=>⟨h.iH.lt 0 b hb,λhs=>hb.elim (h.iH.sp 0 b hs).1 (h.iH.sp 0 b hs).2⟩,h.iH.o0,λb hb=>h.iH.ro 0 0 b hb,λi hi b hb=>h.iH.ky (i+1) b<|.inl<|((hF i hi).lib _ _ _ _ rfl).2.1.2 b hb⟩
 ·
  have hL:∀i,∃q,∀g,0<i->((G.gs.map<|Go.Conc.woken p.P G.a a' G.w).setIfInBounds 0 a')[i]?=some g->QuitsD p.P q (Deaf (t++MemOp.ofEvents 0 G.a.frame.fn G.a.frame.place #[Go.ConcR.mk<|.acquire<|stA p.Wg]) i) g:=λi=>by
   rcases adj i with rfl|gF
   .exact⟨0,λg h0=>absurd h0 aa⟩
   .rcases ade i p.J with aB|tC
    .let⟨g,q,h1,h2,_⟩:=h.old i gF aB;refine⟨q,λg' _ qE=>?_⟩;rw[get_map_set _ _ _ _ aa,h1,Option.map_some,woken_quitsD h2]at qE;cases qE;rw[DO i aa];exact h2
    .by_cases hi:i-p.J<p.n
     .let⟨g,h1,h2⟩:=h.wk (i-p.J) aa;rw[show p.J+(i-p.J)=i by omega]at h1 h2;rw[hX _ hi]at h2;generalize zh:G.R i=ρ at h2;generalize Qn:Deaf t i=dd at h2;have SH:=h2.woken h.I G.a a' G.w;cases h2 with
      |lib hC hr hw=>
       rename_i m _ _ _;refine⟨m,λg' _ qE=>?_⟩;rw[get_map_set _ _ _ _ aa,h1,Option.map_some,SH]at qE;cases qE;rw[DO i aa,Qn];cases hw with
       |quit hq=>exact hq
     .refine⟨0,λg' _ qE=>?_⟩;have:i<G.gs.size:=by simpa using(ac7.1 qE).1
      omega
  refine⟨λi=>(hL i).choose,λi g h0 hg=>(hL i).choose_spec g h0 hg,λk hk=>?_⟩;have pc:G.gs.size<=k:=by simpa using hk
  rw[DO k aa];exact h.above k aa
 .have:=htr.ct.gs i op hi;omega
 .let⟨i,hi,WP⟩:=h.TO x hx aa;refine⟨i,aa,?_⟩;rw[hX i aa]at WP;exact WP
 .exact h.iH.BF (i+1) (k+1) aa b (((hF i hi).lib _ _ _ _ rfl).2.1.2 b h1) (((hF k hk).lib _ _ _ _ rfl).2.1.2 b h2)
 .have dw:=((hF i hi).lib _ _ _ _ rfl).2.1.2 b hb;exact⟨h.iH.lt (i+1) b<|.inl dw,h.iH.BF (i+1) 0 aa b dw,h.iH.ro (i+1) 0 b dw,λhs=>(h.iH.sp (i+1) b hs).1 dw⟩
end Ph
end
