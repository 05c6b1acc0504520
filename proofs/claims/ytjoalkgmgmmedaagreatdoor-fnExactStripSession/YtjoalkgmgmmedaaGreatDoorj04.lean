import Derived.Test.YtjoalkgmgmmedaaGreatDoorj03
import Derived.Conc.WgGenN3
import Derived.Conc.CompanyDraw
set_option linter.unusedVariables false
set_option linter.defProp false
open Array renaming getElem?_setIfInBounds_ne->aI,getElem?_map->a4,mem_of_getElem?->bv,replicate->bL
open Go renaming Goroutine->aa,deafBehind->au,World->aE,stepG->a9,runNT->bi,Value->bm,Item->bE,Event->bM,Trace->bV,Oper->b4,Program->b5,Operand->b6,MemOp->b7
open Go.Conc renaming aside_setCell->av,mem_ofEvents->ax,semEvents->a3,Deaf_other->a5,Deaf->bb,crowd->be,runT_crowd_go->bj,woken_quitsD->bn,deafBehind_still->br,awake_of->bz,crowd_pick->bA,touchAt_of->bB,touchAt->bH,getElem?_append_cases->bI,touch_of->bO,awake->bW,Deaf_own->b0,handedOver_app->b1,noRace_append->b3,ofEvents_eq->b8,woken->cc,touch_mute->ce,stepG_cond->cf
open Go.Conc.Goes renaming cases->a7
open Go.ConcN renaming Mode->a0,bk_cell->a2,ShN->ca,exists_counted->cb
open Go.ConcN.Mode renaming retag->aL,last->a6,opn->bp
open Go.ConcR renaming mk->aV,loc_of_ofEvent->bo,ofEvent_mk->b9
open Go.MemAct renaming ofEvent->a1
open Go.MemOp renaming ofEvents->ao
open Go.Region renaming ready->aB,wanted->bR,Mode->bS
open List renaming range->a8
open Ne renaming symm->bt
open Option renaming map_some->bk
open Or renaming inl->ac,inr->ad
namespace Go.Proofs.YtjoalkgmgmmedaaGreatDoor
open Conc RowKit
variable {Anch:(Nat->Prop)->(Nat->Prop)->aa->aE->Prop}{Stop:(Nat->Prop)->aa->aE->Prop}{a:Act}{l:Array Bool}{es:Array bM}{gs:Array aa}{ops:Array b4}{xs:Array bm}{m:Bool}{x y:Code}{ok:Ctx}{e:bM}{X:bM->Prop}{b:Frame}{f:FuncId}{a' g g':aa}{G3 Hf st:Int}{cs:List Frame}{rest seq:List Nat}{vs:List bm}{ay:Loc->Prop}{cI d i j s:Nat}{q:Nat->Nat}{F M M' A R S V:Nat->Prop}{sl:Option (Nat×Nat)}{P afn:b5}{ρ':Rk}{t u:bV}{W w w':aE}
section
open ConcN (CT Apart Ok0 OkW RelBy PermW sumTo sumTo_upd sumTo_upd_out sumTo_congr sumTo_le le_sumTo upd WgLive RW DWs AtR0 WSit CTag WD Vc Vc_le Vc_upd cnt pend phi phi_mono phi_retag PayAt Has upd_same upd_ne get_map_set get_map_set_same OpenSt others_uncounted)
open ConcR (stA smA WgAt KK rd wr g_of_ofEvents Bk bk_of_mute)
namespace Ph
variable {p:Ph}{Fin:(Nat->Prop)->(Nat->Prop)->aa->aE->Prop}{G:Gh}
def EvS.abC (h:Bk p.Wg e):p.EvS e:=by
 rcases h with h|h|⟨a,wr,rfl,h⟩
 .exact ac ⟨_,h,ac rfl⟩
 .exact ac ⟨_,h,ad<|ac rfl⟩
 exact ad ⟨a,wr,rfl,ac h⟩
def YE {a b}(h:a<=b):cnt ⟨a,0,0⟩<=cnt ⟨b,0,0⟩:=by
 grind [cnt]
def Inv.ON (hR:p.kh)(cK:Geo p ay)(hS:∀l,ay l->l.low cI)(oL:∀Ro M g W,Anch Ro M g W->g.status=.running)(h:p.Inv ay cI Fin Anch G t)(hi:i<G.j){s':Nat}(v:G.D i=.lib s seq vs A)
  (hg:G.gs[p.J+i]?=some g)(hgo:a9 p.P false g G.w=.go g' w' es)(hA:Aside p.Wg G.w w')(kL:WgAt p.ty p.Wg w' Hf G3)(T:∀e∈es,p.EvS e)(hrel:s'<=6->∃r,RelBy (stA p.Wg) (t++ao (p.J+i) g.frame.fn g.frame.place es) (p.J+i) r)
  (nQ:p.WS i (G.Ro<|i+1) (.lib s' seq vs A) ρ' (au (bb t<|p.J+i) es) (G.M<|i+1) g' w')
  (uh:∀tag',(tag'=G.tag\/(G.tag=.blk/\tag'=.w3))->(mayWake p.P g->g'.status=.running->tag'≠.blk)->a0 G.j (upd (bY G.D) i ⟨s',0,0⟩) tag' Hf G3)
  (aF:s'<s\/(s'=s/\Rk.lt ρ' (G.R<|p.J+i))):
  p.Nx ay cI Fin Anch G t (p.J+i):=by
 have z:=h.fact i hi;rw[v]at z;let⟨Y,f2,_⟩:=z.lib s seq vs A rfl;have Z:grow _ G.w w'=G.M (i+1):=cR hA.size;let⟨cs,N⟩:=h.bs;have O:=hA.block _<|bt cK.wb;refine h.stepW hR cK hS oL hi (pl':=.lib s' seq vs A) hg hgo (by rw[hA.size];exact afK _) (λb _ _ hn=>hA.block b λe=>hn<|ac e) (by rw[Z];exact nQ) (Gy T) (rz (by rw[hA.size];exact h.jg.pX _<|ac rfl) (by rw[hA.size];exact h.jg.pX _<|ad<|ac rfl) T) kL (h.tk.of_block<|hA.block _<|bt cK.wt) ⟨cs,N.of_block O⟩
  uh ⟨z.seq,trivial,λ_=>z.out rfl,λaZ sq bl gF e=>?_⟩ (λk _ vs hs=>hs.of_block O) (afK _) (λx _ C h2=>ab) (λx U=>by rw[v]at U;exact U) ?_ ?_
 .cases e;exact⟨Y.of_block O,⟨hR _ _ _ _ _ f2.1 ⟨λb hb=>hA.block b λe=>(h.jg.sp (i+1) b<|ac e).1<|f2.2 b hb,by rw[hA.size];exact afK _,hA.os,hA.output⟩,cO⟩,hrel⟩
 .have e:sumTo G.j (λk=>(upd G.D i _ k).dO)+(G.D i).dO=sumTo G.j (λk=>(G.D k).dO)+1:=sumTo_upd G.D (.lib s' seq vs A) ob.dO hi;have e0:(G.D i).dO=1:=by rw[v];rfl
  have:=h.bound;omega
 rw[v];rcases aF with C|⟨C,h2⟩
 .exact ac ⟨C,YE<|af2 C⟩
 grind
def Inv.adT (hR:p.kh)(cK:Geo p ay)(hS:∀l,ay l->l.low cI)(oL:∀Ro M g W,Anch Ro M g W->g.status=.running)(hn:p.n<2147483647)(h:p.Inv ay cI Fin Anch G t)(hi:i<G.j){m C c:Nat}{v:bm}(hD:G.D i=.lib s seq vs A)
  (hg:G.gs[p.J+i]?=some g)(fO:g.status=.running)(hd:bb t (p.J+i)=d)(hC:G.M (i+1) C)(YY:¬A C)(ck:G.R (p.J+i)=Rk.nat m)(cl:G.j+pend G.tag<=p.n)(hs:@WSit p.pl p.P p.ty p.Wg C c (λ_ _=>False) (λ_ _=>False) 0 1 v s m d g G.w):
  p.Nx ay cI Fin Anch G t (p.J+i):=by
 letI:=p.pl;have fa:=h.fact i hi;rw[hD]at fa;let⟨f1,f2,f3⟩:=fa.lib s seq vs A rfl;have zy:(bY G.D i).stage=s:=by simp only[bY,hD];rfl
 have ZA:∀T,T+1=m->Rk.lt (Rk.nat T) (G.R<|p.J+i):=λT e=>by rw[ck,<-e];exact Rk.nat_lt T G.w
 have WY:∀{es:Array bM},s<=6->(∀e∈es,Bk p.Wg e)->(∀Y e,es[Y]?=some e->(a1 e).touch?=none\/0<au d (es.extract 0 Y))->∃r,RelBy (stA p.Wg) (t++ao (p.J+i) g.frame.fn g.frame.place es) (p.J+i) r:=
  λh6 hb U=>let⟨r,hr⟩:=f3 h6;⟨r,hr.book hd _ _ hb U⟩
 have cw:=Vc_le G.j<|bY G.D;have Z:∀{g':aa} {T:Nat},a9 p.P false g G.w=.go g' G.w #[]->@WSit p.pl p.P p.ty p.Wg C c (λ_ _=>False) (λ_ _=>False) 0 1 v s T d g' G.w->T+1=m->s<=6->
   p.Nx ay cI Fin Anch G t (p.J+i):=by
  intro g' T hgo nQ hm h6;exact h.ON hR cK hS oL hi hD hg hgo (.refl _ _) h.wg aP (λ_=>WY h6 aP aP) (ρ':=Rk.nat T) (by rw[hd];exact .lib hC YY nQ) (λtag' N _=>ly h.mode N zy)<|ad ⟨rfl,ZA T hm⟩
 have O:∀{g':aa} {w':aE} {es:Array bM} {s' T bl:Nat} {Hf G3:Int},a9 p.P false g G.w=.go g' w' es->Aside p.Wg G.w w'->WgAt p.ty p.Wg w' Hf G3->(∀e∈es,Bk p.Wg e)->
   (∀Y e,es[Y]?=some e->(a1 e).touch?=none\/0<au d (es.extract 0 Y))->@WSit p.pl p.P p.ty p.Wg C c (λ_ _=>False) (λ_ _=>False) 0 1 v s' T bl g' w'->au d es=bl->s<=6->
   (∀tag',(tag'=G.tag\/(G.tag=.blk/\tag'=.w3))->(mayWake p.P g=true->g'.status=.running->tag'≠.blk)->a0 G.j (upd (bY G.D) i ⟨s',0,0⟩) tag' Hf G3)->(s'<s\/(s'=s/\T+1=m))->
   p.Nx ay cI Fin Anch G t (p.J+i):=by
  intro g' w' es s' T bl Hf G3 hgo hA kL p7 Ud nQ cn h6 uh aF;exact h.ON hR cK hS oL hi hD hg hgo hA kL (λe he=>.abC<|p7 e he) (λ_=>WY h6 p7 Ud) (ρ':=Rk.nat T) (by rw[hd,cn];exact .lib hC YY nQ) uh<|aF.imp id λx=>⟨x.1,ZA T x.2⟩
 have cx:∀{x:WD} {a:Nat},a≠i->(upd (bY G.D) i x a)=bY G.D a:=λe=>upd_ne _ _ e
 cases hs with
 |r0 hw=>
  rcases a7 hw with dC|⟨T,rfl,dm⟩
  .let⟨_,cy,g',hgo,aZ,hk⟩:=dC G.w<|RW.refl G.w;exact h.ON hR cK hS oL hi hD hg hgo (.refl _ _) h.wg (by intro e he;simp at he;subst he;exact ac ⟨_,rfl,ad<|ad<|ac ⟨_,rfl⟩⟩) (λ_=>⟨t.size,RelBy.new hd _ _⟩) (ρ':=Rk.nat aZ) (by rw[hd];exact .lib (v:=v) hC YY<|.k1 hk) (λtag' N _=>(h.mode.counted hi ab (ac rfl) 0 0).retag N)<|ac ab
  .let⟨g',w',es,hgo,⟨Mq,oj⟩,qp⟩:=dm G.w<|RW.refl G.w;have co:∀b,p.Sp b->b≠C:=λb hb e=>(h.jg.sp (i+1) b hb).1 (e▸hC)
   have ks:∀b,p.Sp b->w'.heap[b]?=G.w.heap[b]?:=λb hb=>Mq.block b<|co b hb
   have WH:grow (G.M<|i+1) G.w w'=G.M (i+1):=cR Mq.size;have PF:au (bb t<|p.J+i) es=0:=by rw[hd];exact br (λe he=>⟨(oj e he).2.1,(oj e he).2.2.1⟩) 0
   have N:∀e∈es,∀x,(a1 e).touch?=some x->ca p.Wg x.loc/\x.kind≠.plain/\x.kind≠.said:=λe he x U=>by
    rcases((oj e he).1 0 "").2 x U with h1|h1|h1
    .exact h1
    .exact h1.elim
    .exact h1.1.elim
   let⟨cs,cp⟩:=h.bs;have hB:=ks p.Bs<|ad<|ad rfl;refine h.stepW hR cK hS oL hi (pl':=.lib 7 seq vs A) (ρ':=Rk.nat T) hg hgo (by rw[Mq.size];exact afK _) (λb _ hb _=>Mq.block b λe=>hb<|e▸hC) (by rw[WH,PF];exact .lib hC YY<|.r0 qp) (λop bF=>?_) (λop bF=>?_) (h.wg.of_block<|ks _<|ac rfl) (h.tk.of_block<|ks _<|ad<|ac rfl) ⟨cs,cp.of_block hB⟩
    (λtag' N _=>ly h.mode N zy) ⟨fa.seq,trivial,λ_=>fa.out rfl,λcz sq cA gF e=>?_⟩ (λk _ vs hs=>hs.of_block hB) (afK _) (λx _ h1 h2=>ab) (λx U=>by rw[hD]at U;exact U) ?_ (ad ⟨by rw[hD],by rw[hD],ZA T rfl⟩)
   .obtain⟨e,he,rfl⟩:=ax bF;exact⟨rfl,λx U=>let⟨⟨a,h1,h2⟩,h3⟩:=N e he x U;.inl ⟨ad ⟨a,h1,ac h2⟩,h3⟩⟩
   .obtain⟨e,he,rfl⟩:=ax bF;refine⟨λx U=>?_,λx U=>?_,λU=>(oj e he).2.2.2<|bo U,λ_ x U _=>?_⟩
    .let⟨⟨a,h1,h2⟩,_⟩:=N e he x U;rw[h1];rfl
    .let⟨⟨a,h1,h2⟩,_⟩:=N e he x U;rw[h1];show a.block<_;rw[h2,Mq.size];exact h.jg.pX _<|ac rfl
    .let⟨⟨a,h1,h2⟩,_⟩:=N e he x U;exact ad ⟨a,h1,ac h2⟩
   .cases e;exact⟨f1.of_block hB,⟨hR _ _ _ _ _ f2.1 ⟨λb hb=>Mq.block b λe=>YY<|e▸hb,by rw[Mq.size];exact afK _,Mq.os,Mq.output⟩,by rw[WH];exact f2.2⟩,λh6=>absurd h6 ab⟩
   .have e:sumTo G.j (λk=>(upd G.D i (.lib 7 seq vs A) k).dO)+(G.D i).dO=sumTo G.j (λk=>(G.D k).dO)+1:=sumTo_upd G.D (.lib 7 seq vs A) ob.dO hi;have e0:(G.D i).dO=1:=by rw[hD];rfl
    have:=h.bound;omega
 |k1 hw=>
  rcases a7 hw with dC|⟨T,rfl,dm⟩
  .let⟨_,g',hgo,aZ,hk⟩:=dC G.w<|RW.refl G.w;exact O hgo (.refl _ _) h.wg (by intro e he;simp at he;subst he;exact ac rfl) (by intro Y e he;exact ac (by have:=bv he;simp at this;subst this;rfl)) (.d1 hk) rfl ab (λtag' N _=>(h.mode.counted hi ab (ad rfl) 0 0).retag N)<|ac ab
  .obtain⟨g',w',es,hgo,⟨rfl,rfl⟩,qp⟩:=dm G.w<|RW.refl G.w;exact Z hgo (.k1 qp) rfl ab
 |d1 hw=>
  rcases a7 hw with dC|⟨T,rfl,dm⟩
  .let⟨_,dw⟩:=dC G.w<|RW.refl G.w;have ng:cnt (bY G.D i)=1:=by simp[cnt,zy]
   have cB:1<=Vc G.j (bY G.D):=by have:=le_sumTo (f:=λx=>cnt<|bY G.D x) hi;simp only[Vc];omega
   have bq:∀e∈#[rd<|stA p.Wg,wr<|stA p.Wg],Bk p.Wg e:=by intro e he;simp at he;rcases he with rfl|rfl<;>exact a2 _ _ rfl
   have bx:∀Y e,(#[rd<|stA p.Wg,wr<|stA p.Wg]:Array bM)[Y]?=some e->(a1 e).touch?=none\/0<au 1 ((#[rd<|stA p.Wg,wr<|stA p.Wg]:Array bM).extract 0 Y):=by
    intro Y e he;match Y,he with
    |0,_=>exact ad (by simp[au])
    |1,_=>exact ad (by simp[au,rd])
    |Y+2,he=>simp at he
   have b2:∀x:WD,cnt x=0->Vc G.j (upd (bY G.D) i x)+1=Vc G.j (bY G.D):=λx U=>by have:=Vc_upd (bY G.D) x hi;omega
   have ci:OpenSt G.j (bY G.D)->OpenSt G.j (upd (bY G.D) i ⟨1,0,0⟩):=λh a ha=>by
    by_cases e:a=i
    .subst e;rw[upd_same];simp
    .rw[upd_ne _ _ e];exact h a ha
   have hm:=h.mode;have hw:=h.wg;generalize ch:G.tag=tg at hm cl;generalize dZ:G.st=st at hm hw;generalize cC:G.sm=sm at hm hw;cases hm with
   |opn h1 h2 h3=>
    obtain⟨v,hv⟩:∃v,Vc G.j (bY G.D)+pend tg=v+1:=⟨Vc G.j (bY G.D)+pend tg-1,ab⟩;rw[hv]at hw;have FO:WgAt p.ty p.Wg G.w (((v:Nat)+1)*KK+((0:Nat):Int)) 0:=by simpa using hw
    let⟨g',hgo,_,hq⟩:=dw v 0 ab ab FO;let⟨q,hq⟩:=hq ab;have FN:Vc G.j (upd (bY G.D) i ⟨1,0,0⟩)+pend tg=v:=by have:=b2 ⟨1,0,0⟩ rfl;omega
    refine O hgo (av G.w (stA p.Wg) _) (hw.setSt _) bq bx (.quit hq) rfl ab (λtag' N _=>aL ?_ N)<|ac ab;have e:((v:Nat):Int)*KK+((0:Nat):Int)=((Vc G.j (upd (bY G.D) i ⟨1,0,0⟩)+pend tg:Nat):Int)*KK:=by rw[FN];simp
    rw[ch,e];exact .opn h1 (ci h2) (λvs ev=>by have:=h3 vs ev;have:=b2 ⟨1,0,0⟩ rfl;omega)
   |reg h1 h2 h3=>
    obtain⟨v,hv⟩:∃v,Vc G.j (bY G.D)=v+1:=⟨Vc G.j (bY G.D)-1,ab⟩;rw[hv]at hw;have FO:WgAt p.ty p.Wg G.w (((v:Nat)+1)*KK+((1:Nat):Int)) 0:=by simpa using hw
    let⟨g',hgo,hl,hq⟩:=dw v 1 ab ab FO;by_cases cq:v=0
    .subst cq;let⟨aZ,hk⟩:=hl ⟨rfl,rfl⟩;refine O hgo (av G.w (stA p.Wg) _) (hw.setSt _) bq bx (.d2 hk) rfl ab (λtag' N _=>aL ?_ N)<|ac ab;have I2:∀a,a<G.j->a≠i->(bY G.D a).stage=1:=λa ha e=>by
      have c0:=others_uncounted hi hv ng a ha e;have:=h2 a ha;simp only[cnt]at c0;split at c0<;>omega
     have:=a6 (j:=G.j) (D:=upd (bY G.D) i ⟨4,0,0⟩) (tag:=tg) i h1 hi (by rw[upd_same];simp) (λa ha e=>by rw[upd_ne _ _ e];exact I2 a ha e);rw[upd_same]at this;rw[ch];simpa using this
    .let⟨q,hq⟩:=hq ab;have FN:Vc G.j (upd (bY G.D) i ⟨1,0,0⟩)=v:=by have:=b2 ⟨1,0,0⟩ rfl;omega
     refine O hgo (av G.w (stA p.Wg) _) (hw.setSt _) bq bx (.quit hq) rfl ab (λtag' N _=>aL ?_ N)<|ac ab;have e:((v:Nat):Int)*KK+((1:Nat):Int)=((Vc G.j (upd (bY G.D) i ⟨1,0,0⟩):Nat):Int)*KK+1:=by rw[FN];simp
     rw[ch,e];exact .reg h1 (ci h2) ab
   |last L _ h2 h3 h4=>
    by_cases e:i=L
    .subst e;omega
    .have:=h4 i hi e;omega
   |sema h2=>have:=h2 i hi;omega
   |fin _ h2=>have:=h2 i hi;omega
  .obtain⟨g',w',es,hgo,⟨rfl,rfl⟩,qp⟩:=dm G.w<|RW.refl G.w;exact Z hgo (.d1 qp) rfl ab
 |d2 hw=>
  rcases a7 hw with dC|⟨T,rfl,dm⟩
  .let⟨_,U⟩:=dC G.w<|RW.refl G.w;let⟨AP,I2,e1,e2⟩:=h.mode.isLast hi ab;have kL:=h.wg;rw[e1,e2,zy]at kL;let⟨g',hgo,aZ,hk⟩:=U (by simpa using kL);refine O hgo (.refl _ _) kL (by intro e he;simp at he;subst he;exact a2 _ _ rfl) (by intro Y e he;match Y,he with|0,_=>exact ad (by simp[au])|Y+1,he=>simp at he) (.d3 hk) rfl ab (λtag' N _=>aL ?_ N)<|ac ab;have:=a6 (j:=G.j) (D:=upd (bY G.D) i ⟨3,0,0⟩) (tag:=G.tag) i AP hi (by rw[upd_same];simp) (λa ha e=>by rw[upd_ne _ _ e];exact I2 a ha e);rw[upd_same]at this;simpa using this
  .obtain⟨g',w',es,hgo,⟨rfl,rfl⟩,qp⟩:=dm G.w<|RW.refl G.w;exact Z hgo (.d2 qp) rfl ab
 |d3 hw=>
  rcases a7 hw with dC|⟨T,rfl,dm⟩
  .let⟨_,U⟩:=dC G.w<|RW.refl G.w;let⟨AP,I2,e1,e2⟩:=h.mode.isLast hi ab;have kL:=h.wg;rw[e1,e2,zy]at kL;let⟨g',hgo,aZ,hk⟩:=U (by simpa using kL);refine O hgo (av G.w (stA p.Wg) _) (kL.setSt 0) (by intro e he;simp at he;subst he;exact a2 _ _ rfl) (by intro Y e he;match Y,he with|0,_=>exact ad (by simp[au])|Y+1,he=>simp at he) (.d4 hk) rfl ab (λtag' N _=>aL ?_ N)<|ac ab;have:=a6 (j:=G.j) (D:=upd (bY G.D) i ⟨2,0,0⟩) (tag:=G.tag) i AP hi (by rw[upd_same];simp) (λa ha e=>by rw[upd_ne _ _ e];exact I2 a ha e);rw[upd_same]at this;simpa using this
  .obtain⟨g',w',es,hgo,⟨rfl,rfl⟩,qp⟩:=dm G.w<|RW.refl G.w;exact Z hgo (.d3 qp) rfl ab
 |d4 hw=>
  rcases a7 hw with dC|⟨T,rfl,dm⟩
  .let⟨_,ct,U⟩:=dC G.w<|RW.refl G.w;let⟨AP,I2,e1,e2⟩:=h.mode.isLast hi ab;have kL:=h.wg;rw[e1,e2,zy]at kL;let⟨g',hgo,q,hq⟩:=U (by simpa using kL);have cu:g'.status=.running:=by
    cases q with
    |zero=>exact absurd hq.2 bh
    |succ q=>exact hq.elim (λx=>absurd x.2 bh) λx=>x.1
   refine O hgo (av G.w (smA p.Wg) _) (kL.setSm 1) (es:=a3<|smA p.Wg) ?_ ?_ (.quit hq) (by simp[au,a3]) ab (λtag' N cv=>?_)<|ac ab
   .intro e he;simp[a3]at he;rcases he with rfl|rfl|rfl|rfl
    .exact ac rfl
    .exact a2 _ _ rfl
    .exact a2 _ _ rfl
    .exact ad (ac rfl)
   .intro Y e he;match Y,he with
    |0,he=>simp[a3]at he;subst he;exact ac rfl
    |1,_=>exact ad (by simp[au,a3])
    |2,_=>exact ad (by simp[au,a3])
    |3,he=>simp[a3]at he;subst he;exact ac rfl
    |Y+4,he=>simp[a3]at he
   .have Uj:=cv ct cu;have e3:tag'=.w3:=by
     rcases N with N|⟨_,N⟩
     .rw[<-N]at AP;cases tag'<;>first|rfl|exact AP.elim|exact absurd rfl Uj
     .exact N
    subst e3;simp only[if_true];exact .sema λa ha=>by
     by_cases e:a=i
     .subst e;rw[upd_same]
     .rw[upd_ne _ _ e];exact I2 a ha e
  .obtain⟨g',w',es,hgo,⟨rfl,rfl⟩,qp⟩:=dm G.w<|RW.refl G.w;exact Z hgo (.d4 qp) rfl ab
 |quit hq=>
  cases m with
  |zero=>rw[hq.1]at fO;cases fO
  |succ q=>
   rcases hq with⟨hf,_⟩|⟨_,g',es,WR,dm,hq⟩
   .rw[hf]at fO;cases fO
   .refine O (dm G.w) (.refl _ _) h.wg (λe he=>bk_of_mute<|WR e he) (λY e he=>ac<|touch_mute<|WR e<|bv he) (.quit hq) rfl ab (λtag' N _=>ly h.mode N zy) (ad ⟨rfl,rfl⟩)
end Ph
end
section
open ConcN (CT Apart Ok0 OkW RelBy PermW sumTo sumTo_upd sumTo_upd_out sumTo_congr sumTo_le le_sumTo upd WgLive RW DWs AtR0 WSit CTag WD Vc Vc_le Vc_upd cnt pend phi phi_mono phi_retag PayAt Has upd_same upd_ne get_map_set get_map_set_same OpenSt AllQuit isOpen isFin isW3)
open ConcR (stA smA WgAt KK rd wr g_of_ofEvents Bk bk_of_mute)
namespace Ph
variable {p:Ph}{Fin:(Nat->Prop)->(Nat->Prop)->aa->aE->Prop}{G:Gh}{M Ro:Nat->Nat->Prop}{fn:FuncId}{pos:String}{K:Nat}
def Kc (h:Hz p.dM S R e){x:Touch}(v:(a1 e).touch?=some x):(x.kind=.said/\∃a,x.loc=.cell a/\a.block=p.Wg)\/(x.kind=.plain/\x.loc.isMemory/\(fP S x.loc\/(fP R x.loc/\x.write=false))):=by
 by_cases n:p.dM e
 .obtain⟨a,z,rfl|rfl⟩:=n;all_goals grind [a1,MemAct.touch?]
 exact ad<|jZ h (λy=>absurd y n) v
def vE {m:Mark}(h:Hz p.dM S R e)(n:mute m=false)(z:∀a,m≠.read a)(C:∀a,m≠.write a):e.loc≠.mark m:=by
 refine g9 h (λv=>?_) n;obtain⟨a,_,rfl|rfl⟩:=v;all_goals grind
def Ks.mine (h:Ks p ay cI M Ro w){l:Loc}(N:fP (M 0) l\/fP (Ro 0) l):¬p.Sh ay l/\(∀k,¬p.Own M k l)/\(fP (M 0) l->∀k,¬p.Rd Ro k l):=by
 obtain⟨b,E,C⟩:∃b,(M 0 b\/Ro 0 b)/\fP (·=b) l:=by
  rcases N with x|x
  .let⟨b,O,Q⟩:=x.some;grind
  let⟨b,O,Q⟩:=x.some;grind
 have v:¬p.Sp b:=λD=>E.elim (h.sp 0 b D).1 (h.sp 0 b D).2
 refine⟨λD=>?_,λk ⟨T,n⟩=>?_,λU k ⟨T,n⟩=>?_⟩
 .rcases Ly D with x|x
  .exact h.lg 0 b E l C x
  let⟨L,dl,z⟩:=x.some;obtain rfl:=C.eq z;exact v<|dl.imp id ac
 .rcases n with n|n
  .let⟨L,dl,z⟩:=n.some;obtain rfl:=C.eq z;exact E.elim (h.DJ _ 0 ab b dl)<|h.ro _ 0 b dl
  obtain rfl:=C.eq n.fP;exact v<|ad<|ad rfl
 let⟨L,dl,z⟩:=n.some;let⟨Y,Z,J⟩:=U.some;obtain rfl:=J.eq z;exact h.ro 0 _ Y Z dl
def Gv (z:Ks p ay cI (upd M 0<|grow (M 0) w w') Ro w')(N:fH p.dM (M 0) (Ro 0) w w' es):∀D∈ao 0 fn pos es,Ok0 (p.Sh ay) (p.Own<|upd M 0<|grow (M 0) w w') (p.Rd Ro) K D/\(1<=p.J->Ff (p.Sh ay) p.Wg p.J w' D):=by
 intro D T;obtain⟨e,O,rfl⟩:=ax T;have E:=λx n=>Kc (N.ev e O) (x:=x) n
 have U:upd M 0 (grow (M 0) w w') 0=grow (M 0) w w':=upd_same _ _ _;refine⟨⟨rfl,λx n=>?_⟩,λY=>⟨λx n=>?_,λx n=>?_,λn=>vE (N.ev e O) rfl aP aP<|bo n,λn=>absurd n cO⟩⟩
 .rcases E x n with⟨L,a,v,C⟩|⟨L,_,h⟩
  .exact ac ⟨ad ⟨a,v,ac C⟩,cO⟩
  let⟨Z,m2,m3⟩:=z.mine (l:=x.loc) gC;grind
 .rcases E x n with⟨L,a,v,C⟩|⟨_,h,_⟩
  .rw[v];rfl
  omega
 rcases E x n with⟨L,a,v,C⟩|⟨_,_,h|⟨h,_⟩⟩
 .rw[v];show a.block<_;rw[C];exact z.pX _<|ac rfl
 .exact h.low λb Q=>z.lt 0 b<|ac yO
 exact h.low λb Q=>z.lt 0 b<|ad Q
def Inv.pK (hR:p.kh)(cK:Geo p ay)(hS:∀l,ay l->l.low cI)(h:p.Inv ay cI Fin Anch G t)
  (hgo:a9 p.P true G.a G.w=.go a' w' es)(hp:fH p.dM (G.M 0) (G.Ro 0) G.w w' es)(N:bb t 0=d)
  (nQ:p.gT Fin Anch G.tag G.j ρ' G.x d (G.Ro 0) (grow (G.M 0) G.w w') a' w')(aF:Rk.lt ρ' G.ρ):
  p.Nx ay cI Fin Anch G t 0:=by
 have C:=h.jg.grow hS 0 hp.size;have v:∀b,p.Sp b->w'.heap[b]?=G.w.heap[b]?:=λb hb=>hp.keep b (h.jg.pX b hb) (h.jg.sp 0 b hb).1
 have O:au (bb t 0) es=d:=by rw[N];exact br (λe he=>⟨vE (hp.ev e he) rfl aP aP,vE (hp.ev e he) rfl aP aP⟩) d
 let⟨cs,z⟩:=h.bs;exact h.step0 hR cK hS hgo hp.size (λb hb T _=>hp.keep b hb T) (by rw[O];exact nQ) (λop bF=>(Gv C hp op bF).1) (λop bF=>(Gv C hp (K:=0) op bF).2 cK.J1) (h.wg.of_block<|v _<|ac rfl) (h.tk.of_block<|v _<|ad<|ac rfl) ⟨cs,z.of_block<|v _<|ad<|ad rfl⟩ h.mode (λk vs hs=>hs.of_block<|v _<|ad<|ad rfl)<|ad ⟨rfl,ac aF⟩
def Inv.pG (hR:p.kh)(cK:Geo p ay)(hS:∀l,ay l->l.low cI)(h:p.Inv ay cI Fin Anch G t){tag':CTag}{x' d':Nat}
  (hgo:a9 p.P true G.a G.w=.go a' w' es)(hA:Aside p.Wg G.w w')(kL:WgAt p.ty p.Wg w' Hf G3)(z:∀e∈es,p.EvS e)(T:bb t 0=d)(N:au d es=d')
  (nQ:p.gT Fin Anch tag' G.j ρ' x' d' (G.Ro 0) (G.M 0) a' w')(uh:a0 G.j (bY G.D) tag' Hf G3)
  (aF:phi p.n (Vc G.j<|bY G.D) tag'<phi p.n (Vc G.j<|bY G.D) G.tag\/(phi p.n (Vc G.j<|bY G.D) tag'=phi p.n (Vc G.j<|bY G.D) G.tag/\ρ'=G.ρ/\x'<G.x)):
  p.Nx ay cI Fin Anch G t 0:=by
 have C:=hA.block _<|bt cK.wb;let⟨cs,v⟩:=h.bs;have U:grow (G.M 0) G.w w'=G.M 0:=cR hA.size;exact h.step0 hR cK hS hgo (by rw[hA.size];exact afK _) (λb _ _ O=>hA.block b λe=>O<|ac e) cO (Gw z) (rz (by rw[hA.size];exact h.jg.pX _<|ac rfl) (by rw[hA.size];exact h.jg.pX _<|ad<|ac rfl) z) kL (h.tk.of_block<|hA.block _<|bt cK.wt) ⟨cs,v.of_block C⟩ uh (λk vs hs=>hs.of_block C)<|aF.imp id λx=>⟨x.1,ad x.2⟩
def lx {D:Nat->WD}{tag tag':CTag}{C:Int}(h:a0 j D tag st C)(z:isOpen tag)(J:isOpen tag')(N:pend tag'=pend tag)(O:∀vs,tag'=.w2 vs->Vc j D<=vs/\1<=vs):a0 j D tag' st C:=by
 cases h with
 |opn _ ho _=>rw[<-N];exact .opn J ho O
 |reg x=>cases tag<;>first|exact x.elim|exact z.elim
 |last _ x=>cases tag<;>first|exact x.elim|exact z.elim
 |sema _=>exact z.elim
 |fin x=>cases tag<;>first|exact x.elim|exact z.elim
def pd {D:Nat->WD}{tag:CTag}{C:Int}(h:a0 j D tag st C)(z:isOpen tag):OpenSt j D/\st=((Vc j D+pend tag:Nat):Int)*KK/\C=0/\∀vs,tag=.w2 vs->Vc j D<=vs/\1<=vs:=by
 cases h with
 |opn _ ho h=>grind
 |reg x=>cases tag<;>first|exact x.elim|exact z.elim
 |last _ x=>cases tag<;>first|exact x.elim|exact z.elim
 |sema _=>exact z.elim
 |fin x=>cases tag<;>first|exact x.elim|exact z.elim
def qD {D:Nat->WD}{tag:CTag}{C:Int}(h:a0 j D tag st C)(z:isFin tag):AllQuit j D/\st=0/\C=0:=by
 cases h with
 |opn x=>cases tag<;>first|exact x.elim|exact z.elim
 |reg x=>cases tag<;>first|exact x.elim|exact z.elim
 |last _ x=>cases tag<;>first|exact x.elim|exact z.elim
 |sema _=>exact z.elim
 |fin _ h=>grind
def EA {D:Nat->WD}(h:OpenSt j D)(C:Vc j D=0):AllQuit j D:=by
 intro i v;have J:=le_sumTo (f:=λx=>cnt<|D x) v;have N:=h i v;grind [Vc,cnt]
end Ph
namespace Ph
variable (p:Ph)(ay:Loc->Prop)(cI:Nat)(Fin Anch:(Nat->Prop)->(Nat->Prop)->aa->aE->Prop)
structure Out (gs:Array aa)(w:aE)(t:bV)(a:aa)(Ro M:Nat->Prop)(seq:Nat->List Nat)(vs:Nat->List bm)(A:Nat->Nat->Prop):Prop where
 size:gs.size=p.J+p.n
 main:gs[0]?=some a
 fin:Fin Ro M a w
 past:mH (p.Sh ay) w t
 quit:∃q,Leavers p.P t gs q
 who:∀(i:Nat) (op:b7),t[i]?=some op->op.g<p.J+p.n
 ad6:∀i,i<p.n->∀x∈seq i,x<p.L
 all:∀x,x<p.L->∃i,i<p.n/\x∈seq i
 slot:∀i,i<p.n->p.Slot i (vs i) w
 res:∀i,i<p.n->p.Yl (seq i) (vs i) (A i) w
 bs:∃cs,p.rK cs w
 apart:∀i k,i<p.n->k<p.n->i≠k->∀b,A i b->¬A k b
 own:∀i,i<p.n->∀b,A i b->b<w/\¬M b/\¬Ro b/\¬p.Sp b
 mine:∀b,M b\/Ro b->b<w/\¬p.Sp b
 sp:∀b,p.Sp b->b<w
 mro:∀b,M b->¬Ro b
 lg:∀i,i<p.n->∀b,A i b->∀l,fP (·=b) l->¬ay l
variable {p}{ay}{cI}{Fin Anch}{G:Gh}
def Inv.over (cK:Geo p ay)(IZ:1<=p.n)(h:p.Inv ay cI Fin Anch G t)(gX:G.tag=.acq)(hj:G.j=p.n)(hd:bb t 0=0)(aZ:a9 p.P true G.a G.w=.go a' G.w #[aV<|.acquire<|stA p.Wg])(mD:Fin (G.Ro 0) (G.M 0) a' G.w):
  ∃gs seq vs A,runT p.P (be G.gs G.w G.sl) 0=(.next<|crowd gs G.w G.sl,ao 0 G.a.frame.fn G.a.frame.place #[aV<|.acquire<|stA p.Wg])/\p.Out ay Fin gs G.w (t++ao 0 G.a.frame.fn G.a.frame.place #[aV<|.acquire<|stA p.Wg]) a' (G.Ro 0) (G.M 0) seq vs A:=by
 have xJ:=h.size;have hJ:=cK.J1;let⟨dw,_,_⟩:=qD h.mode (by rw[gX];trivial);have Uh:∀i,i<p.n->∃seq vs A,G.D i=.lib 1 seq vs A:=λi v=>by
  have:=dw i ab;cases hD:G.D i with
  |jz f lo seq=>grind [bY,ob.stage]
  |put seq=>grind [bY,ob.stage]
  |lib s seq vs A=>grind [bY,ob.stage]
 have T:∀i,∃x:List Nat×List bm×(Nat->Prop),i<p.n->G.D i=.lib 1 x.1 x.2.1 x.2.2:=λi=>by
  by_cases v:i<p.n
  .simp_all
  .exact⟨([],[],λ_=>False),λx=>absurd x v⟩
 let X:=λi=>(T i).choose
 have hX:∀i,i<p.n->G.D i=.lib 1 (X i).1 (X i).2.1 (X i).2.2:=λi v=>(T i).choose_spec v
 have hF:∀i,i<p.n->p.Fact i _ (G.M<|i+1) G.c G.w t:=λi v=>hX i v▸h.fact i ab
 have U:∀e∈#[aV<|.acquire<|stA p.Wg],p.EvS e:=by
  intro e he;simp at he;subst he;exact ac ⟨_,rfl,ad<|ad<|ad ⟨_,rfl⟩⟩
 have PF:bb (t++ao 0 G.a.frame.fn G.a.frame.place #[aV<|.acquire<|stA p.Wg]) 0=0:=by rw[b0,hd];rfl
 have PG:∀k,k≠0->bb (t++ao 0 G.a.frame.fn G.a.frame.place #[aV<|.acquire<|stA p.Wg]) k=bb t k:=λk hk=>a5 t (bt hk) _ g_of_ofEvents
 have Y:=h.tr.app0 (h.jg.apart cK) (Gw (fn:=G.a.frame.fn) (pos:=G.a.frame.place) U)<|rz (h.jg.pX _<|ac rfl) (h.jg.pX _<|ad<|ac rfl) U;have bx:ao 0 G.a.frame.fn G.a.frame.place #[aV<|.acquire<|stA p.Wg]=#[{g:=0,fn:=G.a.frame.fn,pos:=G.a.frame.place,act:=.mark<|.acquire<|stA p.Wg}]:=by rw[b8];simp[b9]
 have hq:(t++ao 0 G.a.frame.fn G.a.frame.place #[aV<|.acquire<|stA p.Wg])[t.size]?=some {g:=0,fn:=G.a.frame.fn,pos:=G.a.frame.place,act:=.mark<|.acquire<|stA p.Wg}:=by
  grind
 have bl:=Y.past (λl hl=>ac hl) (by rw[act?_of hq]) (by grind [Trace.g?]) ⟨0,by simp[Trace.g?,hq],by rw[deaf_old ab];exact hd⟩ (λk A3 mE=>by
  have v:k-p.J<p.n:=ab;let⟨r,hr⟩:=((hF _ v).lib _ _ _ _ rfl).2.2 ab;rw[show p.J+(k-p.J)=k by omega]at hr;exact⟨r,hr.appOther g_of_ofEvents ab,lt_of_act? hr.act⟩) PF
 have hc:=(hF 0 ab).out rfl;refine⟨_,λi=>(X i).1,λi=>(X i).2.1,λi=>(X i).2.2,(bj h.main (show a9 p.P (0==0) G.a G.w=_ from aZ)),⟨by simpa[hj]using xJ,get_map_set_same _ _ _ ab,mD,bl,?_,λi op v=>?_,λi v x hx=>(hF i v).seq x hx,λx hx=>?_,λi v=>((hF i v).lib _ _ _ _ rfl).1,λi v=>((hF i v).lib _ _ _ _ rfl).2.1.1,h.bs,λi k v hk bF b O C=>h.jg.DJ (i+1) (k+1) ab b (((hF i v).lib _ _ _ _ rfl).2.1.2 b O)<|((hF k hk).lib _ _ _ _ rfl).2.1.2 b C,λi v b hb=>?_,λb hb=>⟨h.jg.lt 0 b hb,λhs=>hb.elim (h.jg.sp 0 b hs).1 (h.jg.sp 0 b hs).2⟩,h.jg.pX,λb hb=>h.jg.ro 0 0 b hb,λi v b hb=>h.jg.lg (i+1) b<|ac<|((hF i v).lib _ _ _ _ rfl).2.1.2 b hb⟩⟩
 ·
  have hL:∀i,∃q,∀g,0<i->((G.gs.map<|cc p.P G.a a' G.w).setIfInBounds 0 a')[i]?=some g->QuitsD p.P q (bb _ i) g:=λi=>by
   rcases afX i with rfl|iG
   .exact⟨0,λg h0=>absurd h0 ab⟩
   rcases afS i p.J with aF|ug
   .let⟨g,q,O,C,_⟩:=h.old i iG aF;refine⟨q,λg' _ N=>?_⟩;rw[get_map_set _ _ _ _ ab,O,bk,bn C]at N;cases N;rw[PG i ab];exact C
   by_cases v:i-p.J<p.n
   .let⟨g,O,C⟩:=h.wk (i-p.J) ab;rw[show p.J+(i-p.J)=i by omega]at O C;rw[hX _ v]at C;generalize CA:G.R i=ρ at C;generalize Ud:bb t i=dd at C;have bq:=C.woken h.I G.a a' G.w;cases C with
    |lib hC hr hw=>
     rename_i m _ _ _;refine⟨m,λg' _ N=>?_⟩;rw[get_map_set _ _ _ _ ab,O,bk,bq]at N;cases N;rw[PG i ab,Ud];cases hw with
     |quit hq=>exact hq
   refine⟨0,λg' _ N=>?_⟩;have:i<G.gs.size:=by simpa using(afM.1 N).1
   omega
  refine⟨λi=>(hL i).choose,λi g h0 hg=>(hL i).choose_spec g h0 hg,λk hk=>?_⟩;have wD:G.gs.size<=k:=by simpa using hk
  rw[PG k ab];exact h.above k ab
 .have:=Y.ct.gs i op v;omega
 .let⟨i,v,Z⟩:=h.YF x hx ab;refine⟨i,ab,?_⟩;rw[hX i ab]at Z;exact Z
 have dl:=((hF i v).lib _ _ _ _ rfl).2.1.2 b hb;exact⟨h.jg.lt (i+1) b<|ac dl,h.jg.DJ (i+1) 0 ab b dl,h.jg.ro (i+1) 0 b dl,λhs=>(h.jg.sp (i+1) b hs).1 dl⟩
end Ph
namespace Ph
variable {p:Ph}{Fin:(Nat->Prop)->(Nat->Prop)->aa->aE->Prop}{G:Gh}
def Lt4.Kd {μ v n:Nat×(Nat->Rk)×Rk×Nat}(h:Lt4 p μ v)(z:v.1<n.1):Lt4 p μ n:=by
 let⟨a,b⟩:=μ;let⟨a',E⟩:=v;let⟨C,D⟩:=n;cases h with
 |left _ _ h=>exact Prod.Lex.left _ _ ab
 |right _ h=>exact Prod.Lex.left _ _ z
def Inv.abU (T:p.kh)(N:Geo p ay)(hS:∀l,ay l->l.low cI)(U:p.n<2147483647)(IZ:1<=p.n)(Wn:∀Ro M g W,Anch Ro M g W->p.I W->ET p.P true p.I p.dM Ro (p.AtW1 Fin Anch Ro) M g W)
  (h:p.Inv ay cI Fin Anch G t)(fO:G.a.status=.running):
  (∃gs w sl ops a Ro M seq vs A,runT p.P (be G.gs G.w G.sl) 0=(.next<|crowd gs w sl,ops)/\p.Out ay Fin gs w (t++ops) a Ro M seq vs A)\/
  p.Nx ay cI Fin Anch G t 0:=by
 have Mg:Aside p.Wg G.w G.w:=.refl _ _;have aF:∀m,(m=.disable\/m=.enable\/(∃a,m=.releaseMerge a)\/∃a,m=.acquire a)->∀e∈#[aV m],p.EvS e:=λm hm e he=>by simp at he;subst he;exact ac ⟨m,rfl,hm⟩
 have aZ:∀e∈#[rd<|stA p.Wg],p.EvS e:=λe he=>by simp at he;subst he;exact ad ⟨_,_,rfl,ac rfl⟩
 have bl:∀e∈#[rd<|stA p.Wg,wr<|stA p.Wg],p.EvS e:=λe he=>by simp at he;rcases he with rfl|rfl<;>exact ad ⟨_,_,rfl,ac rfl⟩
 have bx:=Vc_le G.j<|bY G.D;have Of:=h.jn;have hV:Vc G.j (bY G.D)<=p.n:=afN bx Of;have bq:∀(G:Gh) (_:p.Inv ay cI Fin Anch G t) (_:G.tag=.w1) (_:G.j=p.n) (_:bb t 0=1) (_:PT p.P true p.I p.dM (G.Ro 0) (p.AtW1 Fin Anch<|G.Ro 0) G.ρ (G.M 0) G.a G.w) (_:G.x=0),
   p.Nx ay cI Fin Anch G t 0:=by
  intro G h gX J hd O hx;rcases O.cases with Y|⟨fr,hr,_,Z⟩
  .let⟨_,dZ⟩:=Y G.w (aU.refl _ _) h.I;have hm:=h.mode;rw[gX]at hm;let⟨ho,e1,e2,_⟩:=pd hm trivial;have kL:=h.wg;rw[e1,e2]at kL;have hV:Vc G.j (bY G.D)<=p.n:=afN (Vc_le _ _) h.jn;let⟨g',z,h0,h1⟩:=dZ (Vc G.j<|bY G.D) ab (by simpa[pend]using kL);by_cases hv:Vc G.j (bY G.D)=0
   .let⟨ρ',C⟩:=h0 hv;refine h.pG T N hS z (.refl _ _) h.wg aZ hd rfl (tag':=.ke) (by rw[J];exact .ke C) ?_<|ac yM;rw[e1,e2];have:(((Vc G.j (bY G.D)+pend .w1:Nat):Int)*KK)=0:=by rw[hv];simp[pend]
    rw[this];exact .fin trivial (EA ho hv)
   .let⟨ρ',C⟩:=h1 hv;exact h.pG T N hS z (.refl _ _) h.wg aZ hd rfl (tag':=.w2<|Vc G.j<|bY G.D) (by rw[J]at C⊢;exact .w2 C) (lx hm trivial trivial rfl λvs e=>by cases e;exact⟨afK _,ab⟩)<|ac yM
  .let⟨g',w',es,z,C,U⟩:=Z G.w (aU.refl _ _) h.I;exact h.pK T N hS z C hd (by rw[gX,hx,J];exact .w1 U) (by rw[hr];exact⟨_,rfl⟩)
 have hs:=h.p_;have hI:=h.I;generalize gX:G.tag=tag at hs;generalize J:G.j=j at hs;generalize CA:G.ρ=ρ at hs;generalize hx:G.x=x at hs;generalize hd:bb t 0=d at hs;generalize Ob:G.Ro 0=R0 at hs;generalize Mp:G.M 0=M0 at hs;generalize ha:G.a=a at hs;generalize hw:G.w=w at hs;have hm:=h.mode;have kL:=h.wg;rw[gX]at hm;cases hs with
 |@skd r _ _ _ _ _ hr O=>
  subst CA Ob Mp ha hw;rcases O.cases with Y|⟨fr,PW,_,Z⟩
  .let⟨_,g',z,ρ',C⟩:=Y _ (aU.refl _ _) hI;exact ad<|h.pG T N hS z Mg kL (aF _<|ac rfl) hd rfl (tag':=.sp r 4) (by rw[J];exact .sa1 hr C) (lx hm trivial trivial rfl (λvs e=>by cases e))<|ac yM
  .let⟨g',w',es,z,C,U⟩:=Z _ (aU.refl _ _) hI;exact ad (h.pK T N hS z C hd (by rw[gX,hx,J];exact .skd hr U) yN)
 |@sa1 r _ _ _ _ _ hr O=>
  subst CA Ob Mp ha hw;rcases O.cases with Y|⟨fr,PW,_,Z⟩
  .let⟨_,dZ⟩:=Y _ (aU.refl _ _) hI;let⟨ho,e1,e2,_⟩:=pd hm trivial;rw[e1,e2]at kL;let⟨g',z,ρ',C⟩:=dZ (Vc G.j<|bY G.D) ab (by simpa[pend]using kL);refine ad<|h.pG T N hS z (av _ (stA p.Wg) _) (kL.setSt _) bl hd (d':=1) (by simp[au,rd,wr]) (tag':=.sp r 3) (by have hs:=gT.ske (Fin:=Fin) hr C;rw[<-J]at hs;exact hs) ?_<|ac yM;have h3:=bp (D:=bY G.D) (j:=G.j) (tag:=.sp r 3) trivial ho (λvs e=>by cases e);have e3:((Vc G.j (bY G.D)+pend (.sp r 3):Nat):Int)=(Vc G.j (bY G.D):Int)+1:=by simp[pend]
   rw[e3]at h3;exact h3
  .let⟨g',w',es,z,C,U⟩:=Z _ (aU.refl _ _) hI;exact ad (h.pK T N hS z C hd (by rw[gX,hx,J];exact .sa1 hr U) yN)
 |@ske r _ _ _ _ _ hr O=>
  subst CA Ob Mp ha hw;rcases O.cases with Y|⟨fr,PW,_,Z⟩
  .let⟨_,g',z,ρ',C⟩:=Y _ (aU.refl _ _) hI;exact ad<|h.pG T N hS z Mg kL (aF _<|ad<|ac rfl) hd rfl (tag':=.sp r 2) (by rw[J];exact .sgo hr C) (lx hm trivial trivial rfl (λvs e=>by cases e))<|ac yM
  .let⟨g',w',es,z,C,U⟩:=Z _ (aU.refl _ _) hI;exact ad (h.pK T N hS z C hd (by rw[gX,hx,J];exact .ske hr U) yN)
 |@sgo r _ _ _ _ _ hr O=>
  subst CA Ob Mp ha hw;rcases O.cases with Y|⟨fr,PW,_,Z⟩
  .exact ad (h.spawn N hr gX J hd<|Y _ (aU.refl _ _) hI)
  .let⟨g',w',es,z,C,U⟩:=Z _ (aU.refl _ _) hI;exact ad (h.pK T N hS z C hd (by rw[gX,hx,J];exact .sgo hr U) yN)
 |kd O=>
  subst CA Ob Mp ha hw;rcases O.cases with Y|⟨fr,PW,_,Z⟩
  .let⟨_,g',z,ρ',C⟩:=Y _ (aU.refl _ _) hI;exact ad<|h.pG T N hS z Mg kL (aF _<|ac rfl) hd rfl (tag':=.anch) (by rw[J];exact .anch C) (lx hm trivial trivial rfl (λvs e=>by cases e))<|ac yM
  .let⟨g',w',es,z,C,U⟩:=Z _ (aU.refl _ _) hI;exact ad (h.pK T N hS z C hd (by rw[gX,hx,J];exact .kd U) yN)
 |anch O=>
  subst CA Ob Mp ha hw;rcases O.cases with Y|⟨fr,PW,_,Z⟩
  .let⟨ρ',C⟩:=Wn _ _ _ _ (Y _ (aU.refl _ _) hI) hI;have h':p.Inv ay cI Fin Anch {G with tag:=.w1,ρ:=ρ',x:=0} t:=⟨h.size,h.jn,h.main,by rw[hd];show p.gT Fin Anch .w1 G.j ρ' 0 1 (G.Ro 0) (G.M 0) G.a G.w;rw[J];exact .w1 C,h.wk,h.old,h.above,h.jg,h.tr,h.wg,h.tk,h.bs,lx (tag':=.w1) hm trivial trivial rfl (λvs e=>by cases e),h.fact,h.YF,h.bound⟩;let⟨bF,ops,bN,h1,h2,h3⟩:=bq _ h' rfl J hd C rfl;refine ad ⟨bF,ops,bN,h1,h2.Kd ?_,h3⟩;show phi p.n _ .w1+_+_<phi p.n _ G.tag+_+_;rw[gX];simp only[phi];omega
  .let⟨g',w',es,z,C,U⟩:=Z _ (aU.refl _ _) hI;exact ad (h.pK T N hS z C hd (by rw[gX,hx,J];exact .anch U) yN)
 |w1 O=>
  subst CA Ob Mp ha hw;exact ad (bq G h gX J hd O hx)
 |w2 O=>
  subst CA Ob Mp ha hw;rename_i vs;rcases O.cases with Y|⟨fr,PW,_,Z⟩
  .let⟨_,dZ⟩:=Y _ (aU.refl _ _) hI;let⟨ho,e1,e2,b2⟩:=pd hm trivial;let⟨Sy,cp⟩:=b2 vs rfl;rw[e1,e2]at kL;let⟨ch,ci⟩:=dZ (Vc G.j<|bY G.D) ab (by simpa[pend]using kL);by_cases hv:Vc G.j (bY G.D)=vs
   .let⟨g',z,ρ',C⟩:=ch hv;refine ad<|h.pG T N hS z (av _ (stA p.Wg) _) (kL.setSt _) bl hd (d':=1) (by simp[au,rd,wr]) (tag':=.w3) (by have hs:=gT.w3 (Anch:=Anch) C;rw[<-J]at hs;exact hs) (.reg trivial ho ab)<|ac yM
   .let⟨g',z,ρ',C⟩:=ci hv;exact ad<|h.pG T N hS z Mg h.wg aZ hd rfl (tag':=.anch) (by rw[J];exact .anch C) (lx hm trivial trivial rfl (λvs e=>by cases e))<|ac yM
  .let⟨g',w',es,z,C,U⟩:=Z _ (aU.refl _ _) hI;exact ad (h.pK T N hS z C hd (by rw[gX,hx,J];exact .w2 U) yN)
 |w3 O=>
  subst CA Ob Mp ha hw;rcases O.cases with Y|⟨fr,PW,_,Z⟩
  .let⟨ck,cl,oO,cn⟩:=Y _ (aU.refl _ _) hI;have block:∀st,WgAt p.ty p.Wg G.w st 0->a0 G.j (bY G.D) .blk G.st G.sm->p.Nx ay cI Fin Anch G t 0:=λst dZ co=>
    h.pG T N hS (oO ⟨st,dZ⟩) Mg kL aP hd rfl (tag':=.blk) (by rw[J];exact .blk ck cl O Y) co (ad ⟨by rw[gX];rfl,rfl,ab⟩)
   generalize dZ:G.st=st at hm kL block;generalize cq:G.sm=sm at hm kL block;cases hm with
   |opn x=>exact x.elim
   |reg _ h2 h3=>exact ad (block _ kL<|.reg trivial h2 h3)
   |last L _ h2 h3 h4=>exact ad (block _ kL<|.last L trivial h2 h3 h4)
   |sema hq=>
    let⟨g',z,ρ',C⟩:=cn kL;refine ad<|h.pG T N hS z (av _ (smA p.Wg) _) (kL.setSm 0) ?_ hd (d':=1) (by simp[au,a3]) (tag':=.w4) (by rw[J];exact .w4 C) (.fin trivial hq)<|ac yM;intro e he;simp[a3]at he;rcases he with rfl|rfl|rfl|rfl
    .exact ac ⟨_,rfl,ac rfl⟩
    .exact ad ⟨_,_,rfl,ac rfl⟩
    .exact ad ⟨_,_,rfl,ac rfl⟩
    .exact ac ⟨_,rfl,ad<|ac rfl⟩
   |fin x=>exact x.elim
  .let⟨g',w',es,z,C,U⟩:=Z _ (aU.refl _ _) hI;exact ad (h.pK T N hS z C hd (by rw[gX,hx,J];exact .w3 U) yN)
 |blk _ _ _ _=>rw[ha]at fO;cases fO
 |w4 O=>
  subst CA Ob Mp ha hw;rcases O.cases with Y|⟨fr,PW,_,Z⟩
  .let⟨_,dZ⟩:=Y _ (aU.refl _ _) hI;let⟨hq,e1,e2⟩:=qD hm trivial;let⟨g',z,ρ',C⟩:=dZ (by rw[e1,e2]at kL;exact kL);exact ad<|h.pG T N hS z Mg kL aZ hd rfl (tag':=.ke) (by rw[J];exact .ke C) (by rw[e1,e2];exact .fin trivial hq)<|ac yM
  .let⟨g',w',es,z,C,U⟩:=Z _ (aU.refl _ _) hI;exact ad (h.pK T N hS z C hd (by rw[gX,hx,J];exact .w4 U) yN)
 |ke O=>
  subst CA Ob Mp ha hw;rcases O.cases with Y|⟨fr,PW,_,Z⟩
  .let⟨_,g',z,ρ',C⟩:=Y _ (aU.refl _ _) hI;let⟨hq,e1,e2⟩:=qD hm trivial;exact ad<|h.pG T N hS z Mg kL (aF _<|ad<|ac rfl) hd rfl (tag':=.acq) (by rw[J];exact .acq C) (by rw[e1,e2];exact .fin trivial hq)<|ac yM
  .let⟨g',w',es,z,C,U⟩:=Z _ (aU.refl _ _) hI;exact ad (h.pK T N hS z C hd (by rw[gX,hx,J];exact .ke U) yN)
 |acq O=>
  subst CA Ob Mp ha hw;rcases O.cases with Y|⟨fr,PW,_,Z⟩
  .let⟨_,g',z,mD⟩:=Y _ (aU.refl _ _) hI;let⟨gs,seq,vs,A,h1,h2⟩:=h.over N IZ gX J hd z mD;exact ac ⟨gs,_,_,_,g',_,_,seq,vs,A,h1,h2⟩
  .let⟨g',w',es,z,C,U⟩:=Z _ (aU.refl _ _) hI;exact ad<|h.pK T N hS z C hd (by rw[gX,hx,J];exact .acq U) yN
end Ph
namespace Ph
variable {p:Ph}{Fin:(Nat->Prop)->(Nat->Prop)->aa->aE->Prop}{G:Gh}
def gT.bound {tag x}{ρ:Rk}{Ro a}(h:p.gT Fin Anch tag j ρ x d Ro M a w):j+pend tag<=p.n:=by
 cases h<;>simp[pend]<;>(try simp)<;>omega
def Inv.awake (D:∀Ro M g W,Anch Ro M g W->g.status=.running)(h:p.Inv ay cI Fin Anch G t):∀g∈G.gs,bW g:=by
 intro g E;let⟨i,n⟩:=Array.mem_iff_getElem?.1 E;rcases afX i with rfl|L
 .rw[h.main]at n;cases n;exact bz ((h.p_.status D h.I).imp (·.1) λx=>ac x.1)
 rcases afS i p.J with z|N
 .let⟨g',q,v,C,_⟩:=h.old i L z;rw[n]at v;cases v;exact bz<|C.status.imp id ad
 have z:i-p.J<G.j:=by have:=(afM.1 n).1;rw[h.size]at this;omega
 let⟨g',v,C⟩:=h.wk _ z;rw[show p.J+_=i by omega,n]at v;cases v;exact bz<|(C.status h.I).imp id λx=>ad x.1
def Inv.Vl (J:∀Ro M g W,Anch Ro M g W->g.status=.running)(h:p.Inv ay cI Fin Anch G t):∃(i:Nat) (g:aa),G.gs[i]?=some g/\g.status=.running:=by
 have Y:∀i,i<G.j->(G.D i).stage≠1->∃(i:Nat) (g:aa),G.gs[i]?=some g/\g.status=.running:=λi N hs=>by
  let⟨g,O,C⟩:=h.wk i N;exact⟨_,g,O,(C.status h.I).resolve_right λx=>hs x.2⟩
 rcases h.p_.status J h.I with⟨hs,_⟩|⟨_,T⟩
 .exact⟨0,_,h.main,hs⟩
 have z:=h.mode;rw[T]at z;generalize G.st=st at z;generalize G.sm=sm at z;cases z with
 |opn x=>exact x.elim
 |reg _ _ U=>
  grind [bY,cb]
 |last L _ C U _=>grind [bY]
 |fin x=>exact x.elim
def Na (Y:p.kh)(Z:Geo p ay)(hS:∀l,ay l->l.low cI)(hn:p.n<2147483647)(IZ:1<=p.n)(hL:p.L+p.n<4611686018427387904)(oL:∀Ro M g W,Anch Ro M g W->g.status=.running)
  (Wn:∀Ro M g W,Anch Ro M g W->p.I W->ET p.P true p.I p.dM Ro (p.AtW1 Fin Anch Ro) M g W):
  ∀(μ:Nat×(Nat->Rk)×Rk×Nat) (m:Machine) (t:bV),p.ST ay cI Fin Anch μ m t->
   ∃N gs w sl O a Ro M seq vs A,bi p.P N m t=(.next<|crowd gs w sl,O)/\p.Out ay Fin gs w O a Ro M seq vs A:=by
 intro μ;induction μ using(Lt4.wf p).induction with
 |_ μ ih=>
  rintro m t ⟨G,rfl,rfl,h⟩;let⟨i,g,d,ot,T,hg,dZ⟩:=bA (P:=p.P) (w:=G.w) (sl:=G.sl) (h.awake oL)<|h.Vl oL;have U:=h.at Y d ot;have hJ:=Z.J1;have go:(∃v ops z,runT p.P (be G.gs (G.w.at d) ot) i=(.next v,ops)/\Lt4 p z (G.μ p)/\p.ST ay cI Fin Anch z v (t++ops))->
    ∃N gs w sl O a Ro M seq vs A,bi p.P N (be G.gs G.w G.sl) t=(.next<|crowd gs w sl,O)/\p.Out ay Fin gs w O a Ro M seq vs A:=by
   rintro⟨v,ops,z,h1,C,h3⟩;let⟨N,gs,w,sl,O,a,Ro,M,seq,vs,A,h4,h5⟩:=ih z C v _ h3;exact⟨N+1,gs,w,sl,O,a,Ro,M,seq,vs,A,by grind [bi],h5⟩
  rcases afX i with rfl|iG
  .have ha:G.a.status=.running:=by rw[h.main]at T;grind
   rcases U.abU Y Z hS hn IZ Wn ha with⟨gs,w,sl,ops,a,Ro,M,seq,vs,A,h1,C⟩|h1
   .exact⟨1,gs,w,sl,_,a,Ro,M,seq,vs,A,by simp[bi,dZ,h1],C⟩
   .exact go h1
  rcases afS i p.J with aF|ug
  .exact go (U.abT Y Z oL iG aF T hg)
  have mz:i-p.J<G.j:=by have:=(afM.1 T).1;rw[h.size]at this;omega
  obtain⟨k,rfl⟩:∃k,i=p.J+k:=⟨i-p.J,ab⟩;have hk:k<G.j:=ab;let⟨g',h1,C⟩:=U.wk k hk;obtain rfl:g=g':=by rw[show G.gs[p.J+k]?=some g from T]at h1;exact afQ h1
  generalize hD:G.D k=pl at C;generalize CA:G.R (p.J+k)=ρ at C;generalize hd:bb t (p.J+k)=dd at C;cases C with
  |jz hp=>exact go (U.YS Y Z hS oL hL hk hD T hd<|by rw[show Gh.R _ (p.J+k)=_ from CA];exact hp)
  |put hp=>exact go (U.ad3 Y Z hS oL hk hD T hd<|by rw[show Gh.R _ (p.J+k)=_ from CA];exact hp)
  |lib hC hr hw=>exact go<|U.adT Y Z hS oL hn hk hD T hg hd hC hr CA U.p_.bound hw
end Ph
end
section
open ConcN (sumTo upd sumTo_upd upd_ne upd_same)
open ConcR (g_of_ofEvents)
section
variable {B:Nat}
def mH.mono {n:Nat}(h:mH ay B t)(v:B<=n):mH ay n t:=⟨h.clean,h.known,h.over,h.hears,λi a z=>Loc.low_mono v<|h.seen i a z,h.quiet,h.mem⟩
def mH.app0 (h:mH ay B t)(hu:∀n∈u,n.g=0)(J:∀n∈u,∀b,n.act.touch?=some b->b.kind=.plain/\¬ay b.loc/\b.loc.low B/\b.loc.isMemory)(O:bb (t++u) 0=bb t 0):mH ay B (t++u):=by
 have split:∀{i:Nat} {a:Touch},bH (t++u) i=some a->bH t i=some a\/∃n∈u,(t++u)[i]?=some n/\n.act.touch?=some a:=by
  intro i a v;let⟨x,L,Q⟩:=bO v;grind [bB]
 refine⟨λD=>b3 (h.clean D) hu λi a v n C b T U=>(h.known i a v).resolve_right λx=>(J n C b T).2.1<|U.1▸x.1,λi a v=>?_,b1 h.over λn C=>ac<|hu n C,O.trans h.hears,λi a v=>?_,h.quiet.app λn C x L E=>absurd E (J n C x L).2.1,λi a v=>?_⟩
 .rcases split v with z|⟨n,C,z,N⟩
  .exact(h.known i a z).imp (·.app u) id
  have:=knows_own z;grind
 .rcases split v with z|⟨n,C,z,N⟩
  .exact h.seen i a z
  grind
 rcases split v with z|⟨n,C,z,N⟩
 .exact h.mem i a z
 grind
def mH.appMute {g:Nat}(h:mH ay B t)(L:g≠0)(E:∀n∈u,n.g=g)(J:∀n∈u,n.act.touch?=none):mH ay B (t++u):=by
 have old:∀{i:Nat} {a:Touch},bH (t++u) i=some a->bH t i=some a:=by
  intro i a v;let⟨x,D,N⟩:=bO v;grind [bB]
 exact⟨λz=>b3 (h.clean z) E λi a _ n C b O _=>cO,λi a v=>(h.known i a<|old v).imp (·.app u) id,b1 h.over λn C=>ad<|J n C,(a5 t L u E).trans h.hears,λi a v=>h.seen i a<|old v,h.quiet.app λn C x D=>(by rw[J n C]at D;cases D),λi a v=>h.mem i a<|old v⟩
end
section
variable {Ro:Nat->Prop}{I:aE->Prop}
structure dP (P:b5)(ay:Loc->Prop)(V Ro M:Nat->Prop)(gs:Array aa)(a:aa)(w:aE)(t:bV)(q:Nat->Nat):Prop where
 main:gs[0]?=some a
 quit:Leavers P t gs q
 past:mH ay w t
 who:∀(i:Nat) (op:b7),t[i]?=some op->op.g<gs.size
 lt:∀b,M b\/Ro b->b<w
 lg:∀b,M b\/Ro b->∀l,fP (·=b) l->¬ay l
 low:∀l,ay l->l.low w
 un:∀i a,bH t i=some a->¬fP V a.loc
 Om:∀b,V b->b<w
 vm:∀b,V b->¬M b/\¬Ro b
def LM {n g:Nat}(h:∀(i:Nat) (v:b7),t[i]?=some v->v.g<n)(z:∀v∈u,v.g=g)(C:g<n):∀(i:Nat) (v:b7),(t++u)[i]?=some v->v.g<n:=gC
def dP.own {a:aa}(h:dP P ay V Ro M gs a w t q)(z:fH Ph.oq M Ro w w' es):
  dP P ay V Ro (grow M w w') ((gs.map<|woken P a a' w').setIfInBounds 0 a') a' w' (t++ao 0 a.frame.fn a.frame.place es) q:=by
 have iG:=(afM.1 h.main).1;have T:∀b,grow M w w' b\/Ro b->b<w':=λb hb=>by
  rcases hb with(hb|⟨_,hb⟩)|hb
  .exact afL (h.lt b<|ac hb) z.size
  .omega
  exact afL (h.lt b<|ad hb) z.size
 have U:∀b,grow M w w' b\/Ro b->∀l,fP (·=b) l->¬ay l:=λb hb l n v=>by
  rcases hb with(hb|⟨hb,_⟩)|hb
  .exact h.lg b (ac hb) l n v
  .exact n.UI hb (h.low l v)
  exact h.lg b (ad hb) l n v
 refine⟨cO,⟨λj x Y v=>?_,λj Y=>?_⟩,?_,?_,T,U,λl n=>Loc.low_mono z.size<|h.low l n,λi x v Z=>?_,λb hb=>afL (h.Om b hb) z.size,λb hb=>⟨λv=>v.elim (h.vm b hb).1 λy=>absurd (h.Om b hb) ab,(h.vm b hb).2⟩⟩
 .rw[aI ab,a4]at v;obtain⟨y,hy,rfl⟩:=af3.1 v;have hq:=h.quit.old j y Y hy;rw[bn hq,a5 t ab _ g_of_ofEvents];omega
 .have J:gs.size<=j:=cO;rw[a5 t ab _ g_of_ofEvents];exact h.quit.above j J
 .refine(h.past.mono z.size).app0 g_of_ofEvents (λL N b hb=>?_) ?_
  .obtain⟨e,D,rfl⟩:=ax N;let⟨h1,h2,C⟩:=Ph.jZ (z.ev e D) (λy=>y.elim) hb;have h4:fP (λb=>grow M w w' b\/Ro b) b.loc:=C.elim (λx=>x.mono λ_ y=>ac y) λx=>x.1.mono λ_ y=>ad y
   let⟨O,E,n⟩:=h4.some;exact⟨h1,U O E _ n,h4.low T,h2⟩
  rw[b0];exact br (λe D=>⟨Ph.g9 (z.ev e D) (λy=>y.elim) rfl,Ph.g9 (z.ev e D) (λy=>y.elim) rfl⟩) _
 .intro i L hi;have:=LM h.who g_of_ofEvents iG i L hi;grind
 let⟨L,N,PO⟩:=bO v;rcases bI N with⟨_,A6⟩|⟨_,A7⟩
 .exact h.un i x (by grind [bB]) Z
 obtain⟨e,D,rfl⟩:=ax A7;let⟨_,_,C⟩:=Ph.jZ (z.ev e D) (λy=>y.elim) PO;let⟨b,hb,n⟩:=Z.some;rcases C with C|⟨C,_⟩
 .let⟨O,E,Q⟩:=C.some;obtain rfl:=n.eq Q;exact E.elim (h.vm b hb).1 λy=>absurd (h.Om b hb) ab
 let⟨O,E,Q⟩:=C.some;obtain rfl:=n.eq Q;exact(h.vm b hb).2 E
def dP.at {a}(h:dP P ay V Ro M gs a w t q) d:dP P ay V Ro M gs a (w.at d) t q:=⟨h.main,h.quit,h.past,h.who,h.lt,h.lg,h.low,h.un,h.Om,h.vm⟩
def dP.awake {a:aa}(h:dP P ay V Ro M gs a w t q)(v:a.status=.running):∀g∈gs,bW g:=by
 intro g z;obtain⟨i,n,rfl⟩:=Array.mem_iff_getElem.1 z;rcases afX i with rfl|C
 .have:gs[0]=a:=by simpa[Array.getElem?_eq_getElem n]using h.main
  rw[this];exact bz<|ac v
 exact bz<|(h.quit.old i _ C<|afR n).status.elim ac λx=>ad<|ad x
def dP.slip {a:aa}(h:dP P ay V Ro M gs a w t q)(hr:a.status=.running)(iG:0<i)(D:gs[i]?=some g)(hg:g.status=.running):
  ∃E ops U,runT P (be gs w sl) i=(.next<|crowd E w sl,ops)/\E.size=gs.size/\sumTo gs.size U<sumTo gs.size q/\dP P ay V Ro M E a w (t++ops) U:=by
 have z:=h.quit.old i g iG D;have Ue:(i==0)=false:=dj;have Y:=(afM.1 D).1;cases v:q i with
 |zero=>rw[v]at z;rw[z.1]at hg;grind
 |succ k=>
  rw[v]at z;rcases z with⟨hf,_⟩|⟨_,g',es,hm,J,AW⟩
  .grind
  have ai:sumTo gs.size (upd q i k)+(k+1)=sumTo gs.size q+k:=by
   have:=sumTo_upd q k id Y;simp_all
  refine⟨_,_,upd q i k,(bj D<|by rw[Ue];exact J w),aP,ab,⟨?_,⟨λj x Z C=>?_,λj Z=>?_⟩,?_,?_,h.lt,h.lg,h.low,λL x C=>?_,h.Om,h.vm⟩⟩
  .rw[aI ab,a4,h.main];grind [woken_run]
  .by_cases n:i=j
   .grind [Array.getElem?_setIfInBounds_self_of_lt,upd_same,b0,Option.some.inj]
   rw[aI n,a4]at C;obtain⟨y,hy,rfl⟩:=af3.1 C;have N:=h.quit.old j y Z hy;rw[bn N,upd_ne q k (bt n),a5 t n _ g_of_ofEvents];omega
  .have O:gs.size<=j:=cO;rw[a5 t ab _ g_of_ofEvents];exact h.quit.above j O
  .exact h.past.appMute ab g_of_ofEvents λQ T=>by obtain⟨e,he,rfl⟩:=ax T;exact ce<|hm e he
  .intro L Q p8;have:=LM h.who g_of_ofEvents Y L Q p8;grind
  let⟨Q,T,PO⟩:=bO C;rcases bI T with⟨_,A6⟩|⟨_,A7⟩
  .exact h.un L x (by grind [bB])
  grind [ce,ax]
def jR (hI:∀w,I w)(r:Rk):
  ∀n (gs:Array aa) (M:Nat->Prop) (a:aa) (w:aE) (sl:Option (Nat×Nat)) (t:bV) (q:Nat->Nat),sumTo gs.size q<=n->dP P ay V Ro M gs a w t q->PT P true I Ph.oq Ro Stop r M a w->
   ∃N v M' a' w' U O T,bi P N (be gs w sl) t=(.next<|crowd v w' U,O)/\v.size=gs.size/\(∀C,aU (λb=>M' b\/Ro b) w' C->I C->Stop M' a' C)/\dP P ay V Ro M' v a' w' O T/\w<=w'.heap.size/\(∀b,M b->M' b)/\(∀b,M' b->M b\/w<=b)/\∀b,b<w.heap.size->¬M b->w'.heap[b]?=w.heap[b]?:=by
 induction r using Rk.wf.induction with
 |_ r aF=>
  intro n;induction n using Nat.strongRecOn with
  |_ n aZ=>
   intro gs M a w sl t q hn h hp;rcases hp.cases with dC|⟨f,rfl,fO,dm⟩
   .exact⟨0,gs,M,a,w,sl,t,q,rfl,rfl,dC,h,afK _,λ_ h=>h,λ_ h=>ac h,λ_ _ _=>rfl⟩
   let⟨i,g,d,U,hi,hg,Y⟩:=bA (P:=P) (w:=w) (sl:=sl) (h.awake fO) ⟨0,a,h.main,fO⟩;rcases afX i with rfl|iG
   .obtain rfl:g=a:=by rw[h.main]at hi;grind
    let⟨a',w',es,bl,pQ,PS⟩:=dm (w.at d) ⟨λ_ _=>rfl,afK _,rfl,rfl⟩<|hI _;have h':=(h.at d).own (a':=a') pQ;let⟨N,v,M',D,J,Q6,O,T,h1,Z,h3,h4,h5,h6,h7,h8⟩:=aF (f<|w.at d) ⟨_,rfl⟩ _ _ _ a' w' U _ q (afK _) h' PS;have hs:w.heap.size<=w':=pQ.size;refine⟨N+1,v,M',D,J,Q6,O,T,by simp[bi,Y,(bj hi (show a9 P (0==0) g (w.at d)=_ from bl))];exact h1,by rw[Z];simp,h3,h4,afN hs h5,λb hb=>h6 b<|ac hb,λb hb=>?_,λb hb hm=>?_⟩
    .rcases h7 b hb with(x|⟨x,_⟩)|x
     .exact ac x
     .exact ad x
     exact ad ab
    rw[h8 b ab λx=>x.elim hm λy=>absurd y.1<|Nat.not_le.2 hb];exact pQ.keep b hb hm
   let⟨v,ops,T,h1,Z,h3,h4⟩:=(h.at d).slip (sl:=U) fO iG hi hg;let⟨N,YW,M',D,J,Q6,O,bq,e1,e2,e3,e4,e5,e6,e7,e8⟩:=aZ (sumTo v.size T) (by rw[Z];omega) v M a (w.at d) U _ T ab h4<|hp.rely ⟨λ_ _=>rfl,afK _,rfl,rfl⟩;exact⟨N+1,YW,M',D,J,Q6,O,bq,by simp[bi,Y,h1];exact e1,e2.trans Z,e3,e4,e5,e6,e7,e8⟩
end
end
section
open ConcN (sumTo upd sumTo_upd upd_ne upd_same CTag Vc)
open ConcR (g_of_ofEvents WgAt stA)
section
variable {Ro:Nat->Prop}{a:aa}
def dP.alloc {Q:aa->aE->Prop}(dm:∀d,∃a' w',a9 P true a (w.at d)=.go a' w' #[]/\w'=w.heap.size+1/\(∀b,b<w.heap.size->w'.heap[b]?=w.heap[b]?)/\Q a' w')(Y:a.status=.running):
  ∀n (gs:Array aa) d (sl:Option (Nat×Nat)) (t:bV) (q:Nat->Nat),sumTo gs.size q<=n->dP P ay V Ro M gs a (w.at d) t q->
   ∃N z a' w' C O T,bi P N (be gs (w.at d) sl) t=(.next<|crowd z w' C,O)/\z.size=gs.size/\Q a' w'/\dP P ay (λb=>V b\/b=w) Ro M z a' w' O T/\w'=w.heap.size+1/\∀b,b<w.heap.size->w'.heap[b]?=w.heap[b]?:=by
 intro n;induction n using Nat.strongRecOn with
 |_ n ih=>
  intro gs d sl t q hn h;let⟨i,g,D,C,Z,hg,dZ⟩:=bA (P:=P) (w:=w.at d) (sl:=sl) (h.awake Y) ⟨0,a,h.main,Y⟩;rcases afX i with rfl|iG
  .obtain rfl:g=a:=by rw[h.main]at Z;grind
   let⟨a',w',aF,iP,hk,hQ⟩:=dm D;have Xc:=bj (w:=(w.at d).at D) (sl:=C) Z (show a9 P (0==0) g (w.at D)=_ from aF);have e0:ao 0 g.frame.fn g.frame.place #[]=#[]:=by rw[b8,Array.map_empty]
   rw[e0]at Xc;have v:w.heap.size<=w'.heap.size:=ab;refine⟨1,(gs.map<|woken P g a' w').setIfInBounds 0 a',a',w',C,t++#[],q,by simp[bi,dZ,Xc],by simp,hQ,?_,iP,hk⟩;refine⟨by simp[((Array.getElem?_eq_some_iff.1 h.main).1)],⟨λj x hj J=>?_,λj hj=>h.quit.above j<|by simpa using hj⟩,h.past.mono v,by simpa using h.who,λb hb=>afL (h.lt b hb) v,h.lg,λl U=>Loc.low_mono v<|h.low l U,λi x J hv=>?_,λb hb=>hb.elim (λhb=>afL (h.Om b hb) v) λrfl=>ab,λb hb=>?_⟩
   .rw[aI (by omega),a4]at J;obtain⟨y,hy,rfl⟩:=af3.1 J;have hq:=h.quit.old j y hj hy;rw[bn hq];exact hq
   .let⟨b,hb,U⟩:=hv.some;rcases hb with hb|rfl
    .exact h.un i x J (U.mono λc e=>e▸hb)
    exact U.UI (afK _)<|h.past.seen i x J
   rcases hb with hb|rfl
   .exact h.vm b hb
   exact⟨λx=>absurd (h.lt _<|ac x)<|Nat.lt_irrefl _,λx=>absurd (h.lt _<|ad x)<|Nat.lt_irrefl _⟩
  let⟨z,ops,T,h1,h2,h3,h4⟩:=(h.at D).slip (sl:=C) Y iG Z hg;let⟨N,YW,aZ,bl,Q6,O,bq,e1,e2,e3⟩:=ih (sumTo z.size T) (by rw[h2];omega) z D C _ T ab h4;exact⟨N+1,YW,aZ,bl,Q6,O,bq,by simp[bi,dZ,h1];exact e1,e2.trans h2,e3⟩
def Yf (P:b5)(Ro:Nat->Prop)(Post:bm->aE->Prop)(M:Nat->Prop)(g:aa)(W:aE):Prop:=
 g.status=.running/\∃v es,a9 P true g W=.ended (.done v) W es/\(∀e∈es,Hz Ph.oq M Ro e)/\Post v W
def dP.ends {Post:bm->aE->Prop}(h:dP P ay V Ro M gs a w t q)(hs:∀d,Yf P Ro Post M a<|w.at d):
  ∃N last o w' O,bi P (N+1) (be gs w sl) t=(.ended o w',O)/\runN P N (be gs w sl)=.next last/\step P last=.ended o w'/\Good P Post last o w' O:=by
 refine run_of_inv Nat.lt_wfRel.wf (λμ m t=>∃gs d sl q,m=be gs (w.at d) sl/\dP P ay V Ro M gs a (w.at d) t q/\μ=sumTo gs.size q) (Good P Post) ?_ (sumTo gs.size q) _ _ ⟨gs,w.drawn,sl,q,rfl,h,rfl⟩;rintro μ m t ⟨gs,d,sl,q,rfl,h,rfl⟩;have C:=(hs d).1;obtain⟨i,g,z,ot,D,hg,T⟩:=bA (P:=P) (w:=w.at d) (sl:=sl) (h.awake C) ⟨0,a,h.main,C⟩;rcases afX i with rfl|iG
 .obtain rfl:g=a:=by rw[h.main]at D;grind
  obtain⟨_,v,es,pP,Mu,gt⟩:=hs z;have hp:fH Ph.oq M Ro (w.at z) (w.at z) es:=⟨λ_ _ _=>rfl,afK _,rfl,rfl,rfl,λe he=>by
   rw[show grow M (w.at z) (w.at z)=M from cR rfl];exact Mu e he⟩
  have U:=((h.at z).own (a':=g) hp).past;refine ac ⟨_,_,_,T.trans<|runT_many_ended D (show a9 P (0==0) g (w.at z)=_ from pP),v,rfl,gt,U.clean,U.over,⟨λx J=>?_,rfl⟩,λj x J hj=>?_⟩
  .obtain⟨j,hj⟩:=List.mem_iff_getElem?.1 J;exact⟨_,(h.quit.old (1+j) x ab<|by grind [be]).leaves⟩
  refine⟨q j,?_⟩;have e:(t++ao 0 g.frame.fn g.frame.place es).deaf j (t++ao 0 g.frame.fn g.frame.place es).size=bb t j:=
   a5 t ab _ g_of_ofEvents
  rw[e];exact(h.quit.old j x ab J).hears _
 obtain⟨Y,ops,Z,h1,h2,h3,h4⟩:=(h.at z).slip C iG D hg;exact ad ⟨_,_,sumTo Y.size Z,T.trans h1,by rw[h2];exact h3,Y,z,ot,Z,rfl,h4,rfl⟩
end
end
section
open ConcN (sumTo upd sumTo_upd upd_ne upd_same CTag Vc pend)
open ConcR (g_of_ofEvents WgAt stA KK)
namespace Ph
variable {p:Ph}{Ro:Nat->Prop}{a:aa}{Fin:(Nat->Prop)->(Nat->Prop)->aa->aE->Prop}
def start (h:dP p.P ay V Ro M gs a w t q)(Y:p.J=gs.size)(hT:p.jt=t.size)(C:V p.Wg)(N:V p.tk.block)(hB:p.Bs<w)(hle:∀b,M' b->M b)(KY:∀b,p.Sp b->¬M' b/\¬Ro b)(aZ:∀b,M' b->¬Ro b)
  (kL:WgAt p.ty p.Wg w 0 0)(vg:p.kq w 0)(bN:∃cs,p.rK cs w)(IZ:1<=p.n)(hs:p.Spawns Anch p.n Ro M' a w):∃μ,p.ST ay w Fin Anch μ (be gs w sl) t:=by
 have iG:=(afM.1 h.main).1;obtain⟨r,hr⟩:∃r,p.n=r+1:=⟨p.n-1,ab⟩;rw[hr]at hs;let⟨ρ,CA⟩:=hs;let O:Nat->Nat->Prop:=λi b=>i=0/\M' b
 let T:Nat->Nat->Prop:=λi b=>i=0/\Ro b
 have m0:O 0=M':=by funext b;grind
 have r0:T 0=Ro:=by funext b;grind
 let G:Gh:={gs:=gs,w:=w,sl:=sl,j:=0,D:=λ_=>.put [],tag:=.sp r 5,ρ:=ρ,x:=0,a:=a,M:=O,Ro:=T,R:=λi=>Rk.nat<|q i,c:=0,st:=0,sm:=0}
 have ZP:∀b,M' b\/Ro b->b<w:=λb hb=>h.lt b<|hb.imp (hle b) id
 refine⟨_,G,rfl,rfl,⟨gC,afP _,h.main,?_,λi v=>absurd v<|afO i,λi h0 v=>?_,λk hk=>h.quit.above k ab,⟨ab,?_,?_,?_,?_,?_,afK _⟩,?_,kL,vg,bN,?_,λi v=>absurd v<|afO i,λx _ U=>absurd U<|afO x,afP _⟩⟩
 .show p.gT Fin Anch (.sp r 5) 0 ρ 0 (bb t 0) (T 0) (O 0) a w;rw[h.past.hears,m0,r0];have e:p.n-(r+1)=0:=ab;have:=gT.skd (Fin:=Fin) ab CA;grind
 .have Z:i<gs.size:=by rw[<-Y];omega
  exact⟨gs[i],q i,afR Z,h.quit.old i _ h0<|afR Z,rfl⟩
 .grind
 .grind
 .grind
 .rintro b (rfl|rfl|rfl)
  .exact h.Om _ C
  .exact h.Om _ N
  omega
 .rintro i b (hb|hb) l z
  .exact h.lg b (ac<|hle b hb.2) l z
  exact h.lg b (ad hb.2) l z
 .rw[hT];refine h.past.tr (λl z=>?_) (λl z=>ac z) (λi op v=>by rw[Y];exact h.who i op v) gC λk l hk=>⟨λx=>absurd x.1 ab,λx=>absurd x.1 ab⟩;rcases z with z|⟨a,rfl,z⟩
  .grind
  refine ad λi x U e=>h.un i x U ?_
  rw[e];show V a.block;grind
 have:=bp (j:=0) (D:=bY λ_=>.put []) (tag:=.sp r 5) trivial (λi v=>absurd v ab) (λvs e=>cO);grind [Vc,sumTo,pend]
def phase (T:p.kh)(U:Geo p ay)(hn:p.n<2147483647)(E:1<=p.n)(Y:p.L+p.n<4611686018427387904)(Z:∀Ro M g W,Anch Ro M g W->g.status=.running)
  (Wn:∀Ro M g W,Anch Ro M g W->p.I W->ET p.P true p.I p.dM Ro (p.AtW1 Fin Anch Ro) M g W)
  (h:dP p.P ay V Ro M gs a w t q)(hJ:p.J=gs.size)(hT:p.jt=t.size)(v:V p.Wg)(z:V p.tk.block)(hB:p.Bs<w)(C:∀b,M' b->M b)(KY:∀b,p.Sp b->¬M' b/\¬Ro b)(D:∀b,M' b->¬Ro b)
  (kL:WgAt p.ty p.Wg w 0 0)(vg:p.kq w 0)(bN:∃cs,p.rK cs w)(hs:p.Spawns Anch p.n Ro M' a w):
  ∃N O w' ot Q a' rV gF seq vs A,bi p.P N (be gs w sl) t=(.next<|crowd O w' ot,Q)/\p.Out ay Fin O w' Q a' rV gF seq vs A:=by
 obtain⟨μ,hI⟩:=start h hJ hT v z hB C KY D kL vg bN E hs;exact Na T U h.low hn E Y Z Wn μ _ t hI
def Out.lone {a:aa}{Ro:Nat->Prop}{seq:Nat->List Nat}{vs:Nat->List bm}{A:Nat->Nat->Prop}(h:p.Out ay Fin gs w t a Ro M seq vs A)(L:∀l,ay l->l.low w)(z:∀b,M' b->b<w/\∀l,fP (·=b) l->¬p.Sh ay l):
  ∃q,dP p.P (p.Sh ay) (λ_=>False) (λ_=>False) M' gs a w t q:=by
 let⟨q,C⟩:=h.quit;refine⟨q,h.main,C,h.past,λi D E=>by rw[h.size];exact h.who i D E,λb n=>n.elim (λx=>(z b x).1) False.elim,λb n=>n.elim (λx=>(z b x).2) False.elim,λl v=>?_,λi x N J=>?_,λb n=>n.elim,λb n=>n.elim⟩
 .rcases v with v|⟨a,rfl,v⟩
  .grind
  exact h.sp _<|v.imp id ac
 let⟨b,n,_⟩:=J.some;omega
end Ph
end
section
variable {I:aE->Prop}{Ro:Nat->Prop}
def fH.nil (h:∀e∈es,X e):fH X M Ro W W es:=⟨λ_ _ _=>rfl,afK _,rfl,rfl,rfl,λe n=>ad<|ad<|ad<|h e n⟩
def ET.k (v:g.status=.running)(h:∀n,aU (λb=>M b\/Ro b) W n->I n->(a9 P m g n).goes λg' w' es=>(w'=n/\∀e∈es,X e)/\ET P m I X Ro Stop M g' W):ET P m I X Ro Stop M g W:=by
 refine ET.step v λn k i=>?_
 obtain⟨g',w',es,z,⟨rfl,C⟩,D⟩:=goes_elim<|h n k i;exact⟨g',w',es,z,fH.nil C,by rw[(cR rfl)];exact D.rely k⟩
def ET.c (h:∀ai,stepG P m g ai=.go g' ai #[])(k:ET P m I X Ro Stop M g' W)(hs:g.status=.running:=by rfl):ET P m I X Ro Stop M g W:=
 ET.k hs λai _ _=>cO
def ET.sq {k:List bE}(n:ET P m I X Ro Stop M (G (b.at a<|.code x::.code y::k) cs) W):ET P m I X Ro Stop M (G (b.at a<|.code (.seq x y)::k) cs) W:=ET.c (λ_=>stepG_seq) n
def ET.rg {k:List bE}{id:Nat}(n:ET P m I X Ro Stop M (G (b.at a<|.inRegion ops (a8 ops.size)::k) cs) W):ET P m I X Ro Stop M (G (b.at a<|.code (.region id ops false)::k) cs) W:=ET.c (λ_=>stepG_region) n
def ET.sr {k:List bE}{id:Nat}(n:ET P m I X Ro Stop M (G (b.at a<|.inRegion ops (a8 ops.size)::.code y::k) cs) W):ET P m I X Ro Stop M (G (b.at a<|.code (.seq (.region id ops false) y)::k) cs) W:=ET.sq<|ET.rg n
def ET.rn {k:List bE}(n:ET P m I X Ro Stop M (G (b.at a k) cs) W):ET P m I X Ro Stop M (G (b.at a<|.inRegion ops []::k) cs) W:=ET.c (λ_=>stepG_region_end) n
def ET.ns {k:List bE}{id:Nat}{h:Array b4}(n:ET P m I X Ro Stop M (G (b.at a<|.inRegion ops (a8 ops.size)::.code y::k) cs) W):ET P m I X Ro Stop M (G (b.at a<|.inRegion h []::.code (.seq (.region id ops false) y)::k) cs) W:=ET.rn<|ET.sr n
def ET.sk {k:List bE}(n:ET P m I X Ro Stop M (G (b.at a k) cs) W):ET P m I X Ro Stop M (G (b.at a<|.code .skip::k) cs) W:=ET.c (λ_=>stepG_skip) n
def ET.rt {k:List bE}(n:ET P m I X Ro Stop M (G ({b.at a (.code .ret::k)with mode:=.returning}) cs) W):ET P m I X Ro Stop M (G (b.at a<|.code .ret::k) cs) W:=ET.c (λ_=>stepG_ret') n
def ET.o {k:List bE}{o:b4}(ho:ops[i]?=some o)(hw:bR o (yielded ops a.tmps))
  (h:∀ai (K:Act->aE->Prop),(∀a' w',w'=ai->ET P m I X Ro Stop M (G (b.at a'<|.inRegion ops rest::k) cs) W->(he:(execOp a.eval o).events P ai #[]=#[]:=by simp[go_sem, *])->K a' w')->uponK o a K ((execOp a.eval o).run P ai))(hk:b.kind≠.early:=by k_ne):ET P m I X Ro Stop M (G (b.at a<|.inRegion ops (i::rest)::k) cs) W:=
 ET.k rfl λai _ _=>goes_oper_k ho hw hk λK hK=>h ai K λa' w' h1 h3 h2=>hK a' w' ⟨⟨h1,λe he=>by have:=mem_listed he;rw[h2]at this;simp at this⟩,h3⟩
def ET.z {p q:Prop}(hq:q)(h:q->p:=by intro AW;refine ET.o rfl rfl λ_ K hK=>?_;go_simp;refine hK _ _ rfl ?_;clear hK K;(try w_num);exact AW):p:=h hq
def ET.lR {c:b6}{k:List bE}(h:a.eval c=true)(n:ET P m I X Ro Stop M (G (b.at a<|.code x::k) cs) W):ET P m I X Ro Stop M (G (b.at a<|.code (.cond c x y)::k) cs) W:=ET.c (λ_=>cf h) n
def ET.ip {c:b6}{k:List bE}(h:a.eval c=false)(n:ET P m I X Ro Stop M (G (b.at a<|.code y::k) cs) W):ET P m I X Ro Stop M (G (b.at a<|.code (.cond c x y)::k) cs) W:=ET.c (λ_=>cf h) n
end
section
variable {I:aE->Prop}{Ro:Nat->Prop}
def ET.p (v:g.status=.running)(h:∀n,aU (λb=>M b\/Ro b) W n->I n->(a9 P m g n).goes λg' W' es=>fH X M Ro n W' es/\ET P m I X Ro Stop (grow M n W') g' W'):ET P m I X Ro Stop M g W:=
 ET.step v λn k i=>by
  let⟨g',w',es,z,C,D⟩:=goes_elim<|h n k i;exact⟨g',w',es,z,C,D⟩
def fH.alloc (o)(h:∀e∈es,Hz X (grow M W<|W.alloc o) Ro e):fH X M Ro W (W.alloc o) es:=by
 refine⟨λb n _=>?_,?_,rfl,rfl,rfl,h⟩
 .show(W.heap.push o)[b]?=_;grind
 simp
def fH.set {a:Addr} v (z:M a.block)(h:∀e∈es,Hz X M Ro e):fH X M Ro W (W.setCell a v) es:=by
 have n:=(av W a v).size;refine⟨λb _ C=>Below.heap_setCell W a v b λe=>C<|e▸z,Nat.le_of_eq n.symm,(av W a v).tape,(av W a v).os,(av W a v).output,λe D=>?_⟩;rw[show grow M W _=M from cR n];grind
def fH.stay (h:∀e∈es,Hz X M Ro e):fH X M Ro W W es:=⟨λ_ _ _=>rfl,afK _,rfl,rfl,rfl,λe n=>by rw[show grow M W W=M from cR rfl];exact h e n⟩
section
variable {md:bS}
inductive EX (md:bS)(ops:Array b4):Array Bool->List Nat->Prop
 |nil {l:Array Bool}:aB md ops l=[]->EX md ops l []
 |cons {l:Array Bool} {i:Nat} {rest:List Nat}:i∈aB md ops l->EX md ops (l.setIfInBounds i true) rest->EX md ops l (i::rest)
def N_ (ops:Array b4)(l:Array Bool):Nat:=((a8 ops.size).filter λi=>!l.getD i true).length
def Nk (h:N_ ops l=0):aB md ops l=[]:=by
 have n:=List.eq_nil_of_length_eq_zero h;show(a8 ops.size).filter _=[];simp_all
def Nl (h:i∈aB md ops l):i<ops.size/\l.getD i true=false:=by
 have n:i∈(a8 ops.size).filter _:=h;grind
def filter_lt {p q}:∀(xs:List Nat) i,i∈xs->(∀x,q x->p x)->p i->q i=false->(xs.filter q).length<(xs.filter p).length
 |x::xs,i,v,n,z,C=>by
  have E:∀h:List Nat,(h.filter q).length<=(h.filter p).length:=by
   intro h;induction h with
   |nil=>simp
   |cons y h D=>
    grind
  rcases List.mem_cons.1 v with rfl|hm
  .grind
  have D:=filter_lt xs i hm n z C;grind
def LK (h:i∈aB md ops l):N_ ops (l.setIfInBounds i true)<N_ ops l:=by
 let⟨n,v⟩:=Nl h;refine filter_lt _ i (List.mem_range.2 n) (λx z=>?_) cO cO;by_cases e:i=x;all_goals simp_all
def Z6:∀v t (l:Array Bool),N_ ops l<=v->EX md ops l (Region.linearise.go md ops v t l []):=by
 intro v;induction v with
 |zero=>intro t l h;exact .nil (Nk ab)
 |succ v D=>
  intro t l h;change EX md ops l (match(aB md ops l)[t%(aB md ops l).length]? with
   |some i=>Region.linearise.go md ops v _ _ [i]
   |none=>[].reverse)
  cases z:(aB md ops l)[t%(aB md ops l).length]? with
  |none=>
   refine .nil ?_;cases J:aB md ops l with
   |nil=>rfl
   |cons x xs=>
    rw[J]at z;have N:t%(x::xs).length<(x::xs).length:=Nat.mod_lt _ aP;simp at z;simp at N;omega
  |some i=>
   have C:=List.mem_of_getElem? z;simp[];rw[linearise_go_acc,List.reverse_singleton,List.singleton_append];exact .cons C<|D _ _ (by have:=LK C;omega)
def uH t:EX .any ops (bL ops.size false) (Region.schedule true ops t):=Z6 ops.size t _<|by grind [N_,Nat.le_trans]
end
def ET.drawn {k:List bE}{id:Nat}(C:P.follows .mixedOrders)
  (h:∀n,EX .any ops (bL ops.size false) n->ET P m I X Ro Stop M (G (b.at a<|.inRegion ops n::k) cs) W):ET P m I X Ro Stop M (G (b.at a<|.code (.region id ops true)::k) cs) W:=by
 refine ET.step rfl λz v _=>⟨_,_,_,stepG_region_draw,⟨λ_ _ _=>rfl,afK _,rfl,rfl,rfl,λe he=>jc⟩,?_⟩
 rw[show grow M z {z with drawn:=z.drawn+1}=M from cR rfl];refine ET.rely (h _ ?_) ⟨v.block,v.size,v.os,v.out⟩;rw[C];exact uH _
end
section
variable [Gl]
noncomputable def ul (S:Nat->Prop):Ren:=open Classical in⟨λb=>if S b then some b else none,λb z c h v=>by
  by_cases x:S b
  .by_cases y:S z
   .rw[if_pos x]at h;rw[if_pos y]at v;simp only[Option.some.injEq]at h v;omega
   .rw[if_neg y]at v;exact absurd v aP
  .rw[if_neg x]at h;exact absurd h aP,λb c h=>by
  by_cases x:S b
  .rw[if_pos x]at h;simp only[Option.some.injEq]at h;rw[h]
  .rw[if_neg x]at h;exact absurd h aP⟩
def gi {b}:ul S b=some d<->S b/\b=d:=by
 classical
 show(if S b then some b else none)=some d<->_;grind
omit [Gl]
def Obj.freeze:Obj->Obj
 |.cells c e _=>.cells c e (0,c.size)
 |o=>o
noncomputable def froze (F:Nat->Prop)(W:aE):World:=open Classical in{W with heap:=W.heap.mapIdx λb o=>if F b then Obj.freeze o else o}
def Cs (F:Nat->Prop)(W:aE) b:(froze F W).heap[b]?=(W.heap[b]?).map λo=>open Classical in if F b then Obj.freeze o else o:=by
 simp[froze]
theorem jK (F:Nat->Prop)(W:aE):(froze F W)=W.heap.size:=by simp[froze]
def gI {b:Nat}{cs:Array bm}{e:TypeId}{z:Nat×Nat}(h:W.heap[b]?=some (.cells cs e z)):∃n,(froze F W).heap[b]?=some (.cells cs e n)/\(F b->n=(0,cs.size))/\(¬F b->n=z):=by
 rw[Cs,h];simp only[bk];by_cases v:F b
 .rw[if_pos v];exact⟨_,rfl,λ_=>rfl,λx=>absurd v x⟩
 grind
def sN (F:Nat->Prop)(W:aE)(a:Addr):(froze F W).cell? a=W.cell? a:=by
 simp[World.cell?,Cs];cases h:W.heap[a.block]? with
 |none=>rfl
 |some o=>
  simp;by_cases n:F a.block
  .rw[if_pos n];cases o<;>rfl
  grind
variable [Gl]
structure Closed (ok:Ctx)(S:Nat->Prop)(W:aE):Prop where
 at_:∀b,S b->∃cs e,W.heap[b]?=some (.cells cs e (0,0))/\∀v∈cs,aq ok (ul S) v v
def pC {ρ:Ren}(h:∀v∈xs,aq ok ρ v v):aA ok ρ xs xs:=
 ⟨rfl,λi x n z C=>gC⟩
def Closed.aeg (h:Closed ok S W)(C:∀x:Nat,1999999<=x->ok.fn x=false)(v:Gl.n<=W):bw ok false (ul S) (re (froze F W) W.tape W.drawn) W:=by
 refine⟨λb d D=>?_,rfl,rfl,by show _<=(froze F W).heap.size;rw[jK];exact v,v,⟨λg v=>(by rw[C _ ab]at v;cases v),λh=>cO⟩⟩;obtain⟨E,rfl⟩:=gi.1 D;obtain⟨cs,e,z,J⟩:=h.at_ b E;obtain⟨N,L,_⟩:=gI z;exact⟨_,_,L,z,.cells (pC J)<|ac rfl⟩
def Closed.self (h:Closed ok S W)(C:∀x:Nat,1999999<=x->ok.fn x=false)(v:Gl.n<=W):bw ok true (ul S) (froze F W) (froze F W):=by
 refine⟨λb d D=>?_,rfl,rfl,by grind [jK],by rw[jK];exact v,⟨λg v=>(by rw[C _ ab]at v;cases v),λ_=>rfl⟩⟩;obtain⟨E,rfl⟩:=gi.1 D;obtain⟨cs,e,J,L⟩:=h.at_ b E;obtain⟨N,z,_⟩:=gI J;exact⟨_,_,z,z,.cells (pC L)<|ac rfl⟩
omit [Gl] in
def Cc:wh (Frame.enter afn f xs .normal) []:=by
 intro v h;simp at h;subst h;rfl
section
variable {I:aE->Prop}{Ro:Nat->Prop}{c:Frame}
 {k:List bE}{o:b4}{fn:Func}{cd:Code}{args:Array b6}{r:Array TypeId}
structure acE (ok:Ctx)(S Ro M:Nat->Prop)(W:aE)(Q:bm->aE->Prop) v' (M':Nat->Prop)(W':aE):Prop where
 own:∀b,M b->M' b
 lt:∀b,M' b->b<W'
 new:∀b,M' b->M b\/W<=b
 ro:aU Ro W W'
 rest:aU (λb=>M b/\¬S b) W W'
 res:∃σ v V',aq ok σ v v'/\Q v V'/\bw ok false σ V' W'/\(∀b,S b->σ b=some b)/\(∀b d,σ b=some d->(S b/\b=d)\/W<=d)/\tP σ V' M' Ro
def ET.Iy (T:dQ afn afn ok)(U:dQ afn P ok)(Y:∀f,ok.fn f->ok.aN f)(hF:j9 afn c)
  (ho:ops[i]?=some o)(hw:bR o (yielded ops a.tmps))(hk:b.kind≠.early)(bF:o.op=.call {callee:=.value<|.func f,args,argTypes:=r})
  (hf:P.funcs[f]?=some fn)(zp:(fn.name== "runtime.NumGoroutine")=false)(hb:fn.body=some cd)(eF:ok.aN f)
  {Sp:Nat->Prop}(hI:Kq Sp I)(tK:∀b,Ro b->Sp b)(hN:AX Sp M W)(T1:∀b,M b->b<W)(hg:Gl.n<=W)
  (S:Nat->Prop)(Q:aE->bm->aE->Prop)(hQ:∀W v w τ d,Q W v w->Q W v (re w τ d))(hS:∀b,S b->M b\/Ro b)(Zg:∀ai,aU (λb=>M b\/Ro b) W ai->Closed ok S ai)
  (Py:∀x∈args.map a.eval,aq ok (ul S) x x)
  (hC:∀ai,aU (λb=>M b\/Ro b) W ai->I ai->∀τ d,Calls afn f (args.map a.eval) (re (froze Ro ai) τ d) λe w'=>∃v,e=.returned v/\Q ai v w')
  (MA:∀ai J M' W',aU (λb=>M b\/Ro b) W ai->I ai->I W'->acE ok S Ro M ai (Q ai) J M' W'->ET P m I X Ro Stop M' (G (b.at (a.put o.dst J)<|.inRegion ops rest::k) cs) W'):
  ET P m I X Ro Stop M (G (b.at a<|.inRegion ops (i::rest)::k) cs) W:=by
 refine ET.p rfl λai C qy=>goes_call ho hw hk bF hf zp hb ⟨fH.stay λe he=>jc,?_⟩
 rw[show grow M ai ai=M from cR rfl,<-enter_at _ hf hb];have KR:=afN hg C.size;have hc:=Zg ai C;have Y2:∀b,M b->b<ai:=λb hb=>afL (T1 b hb) C.size
 have N:∀x:Nat,1999999<=x->ok.fn x=false:=λx D=>by
  cases e:ok.fn x with
  |false=>rfl
  |true=>
   obtain⟨F,_,_,O,_⟩:=U.same _<|Y _ e;have:=(afM.1 O).1;have:=U.OK;omega
 have qt:ge afn ok ⟨Frame.enter afn f _ .normal,[],froze Ro ai⟩:=⟨ul S,lp T.toSame eF<|pC Py,.nil,Cc,hc.self N KR⟩;have hH:=Ib T Y hF qt<|hC ai C qy;have aF:lI afn P ok false c (b.at a (.inRegion ops (i::rest)::k)::cs) _ _ ⟨Frame.enter afn f _ .normal,[],froze Ro ai⟩ _ ai:=
  ⟨⟨_,[],rfl,lp U.toSame eF<|pC Py,.nil⟩,Cc,hc.aeg N KR,qt,hH,OD T Y (hQ ai) qt hH⟩
 have hh:tP (ul S) (re (froze Ro ai) ai.tape ai.drawn) M Ro:=by
  intro x d D;obtain⟨hs,rfl⟩:=gi.1 D;rcases hS x hs with h|h
  .exact ac h
  obtain⟨aZ,e,O,_⟩:=hc.at_ x hs;obtain⟨z',Z,h4,_⟩:=gI O;rw[h4 h]at Z;exact ad ⟨h,aZ,e,Z⟩
 have mD:∀J,(b.at a _).finish J=b.at (a.put o.dst J) (.inRegion ops rest::k):=λJ=>by rw[Frame.finish_at,ho];rfl
 refine ET.call T U Y (hQ ai) (λ{σ v J V' W' M'} O h2 Z h4 h5 h6 h7 h8 h9 bl DV bq=>?_) hI tK (hN.rely C.size) Y2 qy aF hh;rw[mD];refine MA ai J M' W' C qy bl ⟨h5,DV,bq,h6,h7.mono λx D=>⟨D.1,λy e=>D.2 (by have:=gi.1 e;exact this.2▸this.1)⟩,σ,v,V',O,h2,Z,λx D=>h8 _ _<|gi.2 ⟨D,rfl⟩,λx d D=>(h9 x d D).imp (λe=>gi.1 e) id,h4⟩
end
end
