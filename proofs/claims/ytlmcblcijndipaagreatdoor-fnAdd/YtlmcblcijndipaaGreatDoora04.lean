import Derived.Test.YtlmcblcijndipaaGreatDoora03
import Derived.Conc.WgGenN3
import Derived.Conc.CompanyDraw
import Derived.Below
set_option linter.unusedVariables false
set_option linter.defProp false
namespace Go.Proofs.YtlmcblcijndipaaGreatDoor
open Conc RowKit
variable {Anch:(Nat->Prop)->(Nat->Prop)->Goroutine->World->Prop}{Stop:(Nat->Prop)->Goroutine->World->Prop}{a:Act}{l:Array Bool}{es:Array Event}{gs:Array Goroutine}{ops:Array Oper}{xs:Array Value}{m:Bool}{x y:Code}{ok:Ctx}{X:Event->Prop}{b:Frame}{f:FuncId}{g g':Goroutine}{cs:List Frame}{rest:List Nat}{am:Loc->Prop}{cD d i:Nat}{q:Nat->Nat}{F M M' S V:Nat->Prop}{sl:Option (Nat×Nat)}{P P0:Program}{t u:Trace}{W w:World}
section
open ConcN (CT Apart Ok0 OkW RelBy PermW sumTo sumTo_upd sumTo_upd_out sumTo_congr sumTo_le le_sumTo upd WgLive RW DWs AtR0 WSit CTag WD Vc Vc_le Vc_upd cnt pend phi phi_mono phi_retag PayAt Has upd_same upd_ne get_map_set get_map_set_same OpenSt AllQuit isOpen isFin isW3)
open ConcR (stA smA WgAt KK rd wr g_of_ofEvents Bk bk_of_mute)
namespace Ph
variable {p:Ph}{Fin:(Nat->Prop)->(Nat->Prop)->Goroutine->World->Prop}{G:Gh}
def Lt4.Ht {μ μ' μ'':Nat×(Nat->Rk)×Rk×Nat}(h:Lt4 p μ μ')(h':μ'.1<μ''.1):Lt4 p μ μ'':=by
 let⟨a,b⟩:=μ;let⟨a',b'⟩:=μ';let⟨a'',b''⟩:=μ'';cases h with
 |left _ _ h=>exact Prod.Lex.left _ _ (Nat.lt_trans h h')
 |right _ h=>exact Prod.Lex.left _ _ h'
def Inv.c_ (hR:p.jG)(cH:Geo p am)(hS:∀l,am l->l.low cD)(hn:p.n<2147483647)(MT:1<=p.n)(R7:∀Ro M g W,Anch Ro M g W->p.I W->ET p.P true p.I p.dE Ro (p.AtW1 Fin Anch Ro) M g W)
  (h:p.Inv am cD Fin Anch G t)(d6:G.a.status=.running):
  (∃gs w sl ops a Ro M seq vs Mr,runT p.P (crowd G.gs G.w G.sl) 0=(.next<|crowd gs w sl,ops)/\p.Out am Fin gs w (t++ops) a Ro M seq vs Mr)\/
  p.Nx am cD Fin Anch G t 0:=by
 have JW:Aside p.Wg G.w G.w:=.refl _ _;have G_:∀m,(m=.disable\/m=.enable\/(∃a,m=.releaseMerge a)\/∃a,m=.acquire a)->∀e∈#[Go.ConcR.mk m],p.EvS e:=λm hm e he=>by simp at he;subst he;exact .inl ⟨m,rfl,hm⟩
 have H':∀e∈#[rd<|stA p.Wg],p.EvS e:=λe he=>by simp at he;subst he;exact .inr ⟨_,_,rfl,.inl rfl⟩
 have evw:∀e∈#[rd<|stA p.Wg,wr<|stA p.Wg],p.EvS e:=λe he=>by simp at he;rcases he with rfl|rfl<;>exact .inr ⟨_,_,rfl,.inl rfl⟩
 have hVj:=Vc_le G.j<|bN G.D;have Fw:=h.jn;have hV:Vc G.j (bN G.D)<=p.n:=ac8 hVj Fw;have XD:∀(G:Gh) (_:p.Inv am cD Fin Anch G t) (_:G.tag=.w1) (_:G.j=p.n) (_:Deaf t 0=1) (_:PT p.P true p.I p.dE (G.Ro 0) (p.AtW1 Fin Anch<|G.Ro 0) G.ρ (G.M 0) G.a G.w) (_:G.x=0),
   p.Nx am cD Fin Anch G t 0:=by
  intro G h gn hj hd sN hx;rcases sN.cases with du|⟨fr,hr,_,df⟩
  .let⟨_,dz⟩:=du G.w (aK.refl _ _) h.I;have hm:=h.mode;rw[gn]at hm;let⟨ho,e1,e2,_⟩:=n8 hm trivial;have jX:=h.wg;rw[e1,e2]at jX;have hV:Vc G.j (bN G.D)<=p.n:=ac8 (Vc_le _ _) h.jn;let⟨g',hgo,h0,h1⟩:=dz (Vc G.j<|bN G.D) aa (by simpa[pend]using jX);by_cases hv:Vc G.j (bN G.D)=0
   .let⟨ρ',hp⟩:=h0 hv;refine h.oF hR cH hS hgo (.refl _ _) h.wg H' hd rfl (tag':=.ke) (by rw[hj];exact .ke hp) ?_<|.inl wA;rw[e1,e2];have:(((Vc G.j (bN G.D)+pend .w1:Nat):Int)*KK)=0:=by rw[hv];simp[pend]
    rw[this];exact .fin trivial (CG ho hv)
   .let⟨ρ',hp⟩:=h1 hv;exact h.oF hR cH hS hgo (.refl _ _) h.wg H' hd rfl (tag':=.w2<|Vc G.j<|bN G.D) (by rw[hj]at hp⊢;exact .w2 hp) (kJ hm trivial trivial rfl λvs e=>by cases e;exact⟨ac5 _,aa⟩)<|.inl wA
  .let⟨g',w',es,hgo,hp,hn⟩:=df G.w (aK.refl _ _) h.I;exact h.oK hR cH hS hgo hp hd (by rw[gn,hx,hj];exact .w1 hn) (by rw[hr];exact⟨_,rfl⟩)
 have hs:=h.VC;have hI:=h.I;generalize gn:G.tag=tag at hs;generalize hj:G.j=j at hs;generalize zh:G.ρ=ρ at hs;generalize hx:G.x=x at hs;generalize hd:Deaf t 0=d at hs;generalize Lf:G.Ro 0=R0 at hs;generalize BR:G.M 0=M0 at hs;generalize ha:G.a=a at hs;generalize hw:G.w=w at hs;have hm:=h.mode;have jX:=h.wg;rw[gn]at hm;cases hs with
 |@skd r _ _ _ _ _ hr sN=>
  subst zh Lf BR ha hw;rcases sN.cases with du|⟨fr,Na,_,df⟩
  .let⟨_,g',hgo,ρ',hp⟩:=du _ (aK.refl _ _) hI;exact .inr<|h.oF hR cH hS hgo JW jX (G_ _<|.inl rfl) hd rfl (tag':=.sp r 4) (by rw[hj];exact .sa1 hr hp) (kJ hm trivial trivial rfl (λvs e=>by cases e))<|.inl wA
  .let⟨g',w',es,hgo,hp,hn⟩:=df _ (aK.refl _ _) hI;exact .inr (h.oK hR cH hS hgo hp hd (by rw[gn,hx,hj];exact .skd hr hn) wC)
 |@sa1 r _ _ _ _ _ hr sN=>
  subst zh Lf BR ha hw;rcases sN.cases with du|⟨fr,Na,_,df⟩
  .let⟨_,dz⟩:=du _ (aK.refl _ _) hI;let⟨ho,e1,e2,_⟩:=n8 hm trivial;rw[e1,e2]at jX;let⟨g',hgo,ρ',hp⟩:=dz (Vc G.j<|bN G.D) aa (by simpa[pend]using jX);refine .inr<|h.oF hR cH hS hgo (aside_setCell _ (stA p.Wg) _) (jX.setSt _) evw hd (d':=1) (by simp[deafBehind,rd,wr]) (tag':=.sp r 3) (by have hs:=fV.ske (Fin:=Fin) hr hp;rw[<-hj]at hs;exact hs) ?_<|.inl wA;have h3:=Go.ConcN.Mode.opn (D:=bN G.D) (j:=G.j) (tag:=.sp r 3) trivial ho (λvs e=>by cases e);have e3:((Vc G.j (bN G.D)+pend (.sp r 3):Nat):Int)=(Vc G.j (bN G.D):Int)+1:=by simp[pend]
   rw[e3]at h3;exact h3
  .let⟨g',w',es,hgo,hp,hn⟩:=df _ (aK.refl _ _) hI;exact .inr (h.oK hR cH hS hgo hp hd (by rw[gn,hx,hj];exact .sa1 hr hn) wC)
 |@ske r _ _ _ _ _ hr sN=>
  subst zh Lf BR ha hw;rcases sN.cases with du|⟨fr,Na,_,df⟩
  .let⟨_,g',hgo,ρ',hp⟩:=du _ (aK.refl _ _) hI;exact .inr<|h.oF hR cH hS hgo JW jX (G_ _<|.inr<|.inl rfl) hd rfl (tag':=.sp r 2) (by rw[hj];exact .sgo hr hp) (kJ hm trivial trivial rfl (λvs e=>by cases e))<|.inl wA
  .let⟨g',w',es,hgo,hp,hn⟩:=df _ (aK.refl _ _) hI;exact .inr (h.oK hR cH hS hgo hp hd (by rw[gn,hx,hj];exact .ske hr hn) wC)
 |@sgo r _ _ _ _ _ hr sN=>
  subst zh Lf BR ha hw;rcases sN.cases with du|⟨fr,Na,_,df⟩
  .exact .inr (h.spawn cH hr gn hj hd<|du _ (aK.refl _ _) hI)
  .let⟨g',w',es,hgo,hp,hn⟩:=df _ (aK.refl _ _) hI;exact .inr (h.oK hR cH hS hgo hp hd (by rw[gn,hx,hj];exact .sgo hr hn) wC)
 |kd sN=>
  subst zh Lf BR ha hw;rcases sN.cases with du|⟨fr,Na,_,df⟩
  .let⟨_,g',hgo,ρ',hp⟩:=du _ (aK.refl _ _) hI;exact .inr<|h.oF hR cH hS hgo JW jX (G_ _<|.inl rfl) hd rfl (tag':=.anch) (by rw[hj];exact .anch hp) (kJ hm trivial trivial rfl (λvs e=>by cases e))<|.inl wA
  .let⟨g',w',es,hgo,hp,hn⟩:=df _ (aK.refl _ _) hI;exact .inr (h.oK hR cH hS hgo hp hd (by rw[gn,hx,hj];exact .kd hn) wC)
 |anch sN=>
  subst zh Lf BR ha hw;rcases sN.cases with du|⟨fr,Na,_,df⟩
  .let⟨ρ',hp⟩:=R7 _ _ _ _ (du _ (aK.refl _ _) hI) hI;have h':p.Inv am cD Fin Anch {G with tag:=.w1,ρ:=ρ',x:=0} t:=⟨h.size,h.jn,h.main,by rw[hd];show p.fV Fin Anch .w1 G.j ρ' 0 1 (G.Ro 0) (G.M 0) G.a G.w;rw[hj];exact .w1 hp,h.wk,h.old,h.above,h.iH,h.tr,h.wg,h.tk,h.bs,kJ (tag':=.w1) hm trivial trivial rfl (λvs e=>by cases e),h.fact,h.TO,h.bound⟩;let⟨acR,ops,μ',h1,h2,h3⟩:=XD _ h' rfl hj hd hp rfl;refine .inr ⟨acR,ops,μ',h1,h2.Ht ?_,h3⟩;show phi p.n _ .w1+_+_<phi p.n _ G.tag+_+_;rw[gn];simp only[phi];omega
  .let⟨g',w',es,hgo,hp,hn⟩:=df _ (aK.refl _ _) hI;exact .inr (h.oK hR cH hS hgo hp hd (by rw[gn,hx,hj];exact .anch hn) wC)
 |w1 sN=>
  subst zh Lf BR ha hw;exact .inr (XD G h gn hj hd sN hx)
 |w2 sN=>
  subst zh Lf BR ha hw;rename_i vs;rcases sN.cases with du|⟨fr,Na,_,df⟩
  .let⟨_,dz⟩:=du _ (aK.refl _ _) hI;let⟨ho,e1,e2,Lo⟩:=n8 hm trivial;let⟨Kd,UX⟩:=Lo vs rfl;rw[e1,e2]at jX;let⟨aaW,YT⟩:=dz (Vc G.j<|bN G.D) aa (by simpa[pend]using jX);by_cases hv:Vc G.j (bN G.D)=vs
   .let⟨g',hgo,ρ',hp⟩:=aaW hv;refine .inr<|h.oF hR cH hS hgo (aside_setCell _ (stA p.Wg) _) (jX.setSt _) evw hd (d':=1) (by simp[deafBehind,rd,wr]) (tag':=.w3) (by have hs:=fV.w3 (Anch:=Anch) hp;rw[<-hj]at hs;exact hs) (.reg trivial ho aa)<|.inl wA
   .let⟨g',hgo,ρ',hp⟩:=YT hv;exact .inr<|h.oF hR cH hS hgo JW h.wg H' hd rfl (tag':=.anch) (by rw[hj];exact .anch hp) (kJ hm trivial trivial rfl (λvs e=>by cases e))<|.inl wA
  .let⟨g',w',es,hgo,hp,hn⟩:=df _ (aK.refl _ _) hI;exact .inr (h.oK hR cH hS hgo hp hd (by rw[gn,hx,hj];exact .w2 hn) wC)
 |w3 sN=>
  subst zh Lf BR ha hw;rcases sN.cases with du|⟨fr,Na,_,df⟩
  .let⟨SC,hof,oG,hup⟩:=du _ (aK.refl _ _) hI;have block:∀st,WgAt p.ty p.Wg G.w st 0->Go.ConcN.Mode G.j (bN G.D) .blk G.st G.sm->p.Nx am cD Fin Anch G t 0:=λst dz hmb=>
    h.oF hR cH hS (oG ⟨st,dz⟩) JW jX aF hd rfl (tag':=.blk) (by rw[hj];exact .blk SC hof sN du) hmb (.inr ⟨by rw[gn];rfl,rfl,aa⟩)
   generalize dz:G.st=st at hm jX block;generalize hsm:G.sm=sm at hm jX block;cases hm with
   |opn x=>exact x.elim
   |reg _ h2 h3=>exact .inr (block _ jX<|.reg trivial h2 h3)
   |last L _ h2 h3 h4=>exact .inr (block _ jX<|.last L trivial h2 h3 h4)
   |sema hq=>
    let⟨g',hgo,ρ',hp⟩:=hup jX;refine .inr<|h.oF hR cH hS hgo (aside_setCell _ (smA p.Wg) _) (jX.setSm 0) ?_ hd (d':=1) (by simp[deafBehind,semEvents]) (tag':=.w4) (by rw[hj];exact .w4 hp) (.fin trivial hq)<|.inl wA;intro e he;simp[semEvents]at he;rcases he with rfl|rfl|rfl|rfl
    .exact .inl ⟨_,rfl,.inl rfl⟩
    .exact .inr ⟨_,_,rfl,.inl rfl⟩
    .exact .inr ⟨_,_,rfl,.inl rfl⟩
    .exact .inl ⟨_,rfl,.inr<|.inl rfl⟩
   |fin x=>exact x.elim
  .let⟨g',w',es,hgo,hp,hn⟩:=df _ (aK.refl _ _) hI;exact .inr (h.oK hR cH hS hgo hp hd (by rw[gn,hx,hj];exact .w3 hn) wC)
 |blk _ _ _ _=>rw[ha]at d6;cases d6
 |w4 sN=>
  subst zh Lf BR ha hw;rcases sN.cases with du|⟨fr,Na,_,df⟩
  .let⟨_,dz⟩:=du _ (aK.refl _ _) hI;let⟨hq,e1,e2⟩:=pQ hm trivial;let⟨g',hgo,ρ',hp⟩:=dz (by rw[e1,e2]at jX;exact jX);exact .inr<|h.oF hR cH hS hgo JW jX H' hd rfl (tag':=.ke) (by rw[hj];exact .ke hp) (by rw[e1,e2];exact .fin trivial hq)<|.inl wA
  .let⟨g',w',es,hgo,hp,hn⟩:=df _ (aK.refl _ _) hI;exact .inr (h.oK hR cH hS hgo hp hd (by rw[gn,hx,hj];exact .w4 hn) wC)
 |ke sN=>
  subst zh Lf BR ha hw;rcases sN.cases with du|⟨fr,Na,_,df⟩
  .let⟨_,g',hgo,ρ',hp⟩:=du _ (aK.refl _ _) hI;let⟨hq,e1,e2⟩:=pQ hm trivial;exact .inr<|h.oF hR cH hS hgo JW jX (G_ _<|.inr<|.inl rfl) hd rfl (tag':=.acq) (by rw[hj];exact .acq hp) (by rw[e1,e2];exact .fin trivial hq)<|.inl wA
  .let⟨g',w',es,hgo,hp,hn⟩:=df _ (aK.refl _ _) hI;exact .inr (h.oK hR cH hS hgo hp hd (by rw[gn,hx,hj];exact .ke hn) wC)
 |acq sN=>
  subst zh Lf BR ha hw;rcases sN.cases with du|⟨fr,Na,_,df⟩
  .let⟨_,g',hgo,gD⟩:=du _ (aK.refl _ _) hI;let⟨gs,seq,vs,Mr,h1,h2⟩:=h.over cH MT gn hj hd hgo gD;exact .inl ⟨gs,_,_,_,g',_,_,seq,vs,Mr,h1,h2⟩
  .let⟨g',w',es,hgo,hp,hn⟩:=df _ (aK.refl _ _) hI;exact .inr<|h.oK hR cH hS hgo hp hd (by rw[gn,hx,hj];exact .acq hn) wC
end Ph
namespace Ph
variable {p:Ph}{Fin:(Nat->Prop)->(Nat->Prop)->Goroutine->World->Prop}{G:Gh}
def fV.bound {tag:CTag}{j x:Nat}{ρ:Rk}{Ro:Nat->Prop}{a:Goroutine}(h:p.fV Fin Anch tag j ρ x d Ro M a w):j+pend tag<=p.n:=by
 cases h<;>simp only[pend]<;>(try simp)<;>omega
def Inv.awake (nP:∀Ro M g W,Anch Ro M g W->g.status=.running)(h:p.Inv am cD Fin Anch G t):∀g∈G.gs,Go.Conc.awake g:=by
 intro g hg;let⟨i,hi⟩:=Array.mem_iff_getElem?.1 hg;rcases adj i with rfl|gF
 .rw[h.main]at hi;cases hi;exact awake_of ((h.VC.status nP h.I).imp (·.1) λx=>.inl x.1)
 .rcases ade i p.J with aB|tC
  .let⟨g',q,h1,h2,_⟩:=h.old i gF aB;rw[hi]at h1;cases h1;exact awake_of<|h2.status.imp id .inr
  .have aB:i-p.J<G.j:=by have:=(ac7.1 hi).1;rw[h.size]at this;omega
   let⟨g',h1,h2⟩:=h.wk (i-p.J) aB;rw[show p.J+(i-p.J)=i by omega,hi]at h1;cases h1;exact awake_of<|(h2.status h.I).imp id λx=>.inr x.1
def Inv.Re (nP:∀Ro M g W,Anch Ro M g W->g.status=.running)(h:p.Inv am cD Fin Anch G t):∃(i:Nat) (g:Goroutine),G.gs[i]?=some g/\g.status=.running:=by
 have wk:∀i,i<G.j->(G.D i).stage≠1->∃(i:Nat) (g:Goroutine),G.gs[i]?=some g/\g.status=.running:=λi hi hs=>by
  let⟨g,h1,h2⟩:=h.wk i hi;exact⟨_,g,h1,(h2.status h.I).resolve_right λx=>hs x.2⟩
 rcases h.VC.status nP h.I with⟨hs,_⟩|⟨_,gn⟩
 .exact⟨0,_,h.main,hs⟩
 .have hm:=h.mode;rw[gn]at hm;generalize G.st=st at hm;generalize G.sm=sm at hm;cases hm with
  |opn x=>exact x.elim
  |reg _ _ h3=>
   let⟨i,hi,h5⟩:=Go.ConcN.exists_counted h3;exact wk i hi (by simp only[bN]at h5;omega)
  |last L _ h2 h3 _=>exact wk L h2 (by simp only[bN]at h3;omega)
  |fin x=>exact x.elim
def Ku (hR:p.jG)(cH:Geo p am)(hS:∀l,am l->l.low cD)(hn:p.n<2147483647)(MT:1<=p.n)(hL:p.L+p.n<4611686018427387904)(nP:∀Ro M g W,Anch Ro M g W->g.status=.running)
  (R7:∀Ro M g W,Anch Ro M g W->p.I W->ET p.P true p.I p.dE Ro (p.AtW1 Fin Anch Ro) M g W):
  ∀(μ:Nat×(Nat->Rk)×Rk×Nat) (m:Machine) (t:Trace),p.Pw am cD Fin Anch μ m t->
   ∃N gs w sl t' a Ro M seq vs Mr,runNT p.P N m t=(.next<|crowd gs w sl,t')/\p.Out am Fin gs w t' a Ro M seq vs Mr:=by
 intro μ;induction μ using(Lt4.wf p).induction with
 |_ μ ih=>
  rintro m t ⟨G,rfl,rfl,h⟩;let⟨i,g,d,kz,hi,hg,dz⟩:=crowd_pick (P:=p.P) (w:=G.w) (sl:=G.sl) (h.awake nP)<|h.Re nP;have h':=h.at hR d kz;have hJ:=cH.J1;have go:(∃acR ops μ',runT p.P (crowd G.gs (G.w.at d) kz) i=(.next acR,ops)/\Lt4 p μ' (G.μ p)/\p.Pw am cD Fin Anch μ' acR (t++ops))->
    ∃N gs w sl t' a Ro M seq vs Mr,runNT p.P N (crowd G.gs G.w G.sl) t=(.next<|crowd gs w sl,t')/\p.Out am Fin gs w t' a Ro M seq vs Mr:=by
   rintro⟨acR,ops,μ',h1,h2,h3⟩;let⟨N,gs,w,sl,t',a,Ro,M,seq,vs,Mr,h4,h5⟩:=ih μ' h2 acR _ h3;exact⟨N+1,gs,w,sl,t',a,Ro,M,seq,vs,Mr,by simp only[runNT,dz,h1];exact h4,h5⟩
  rcases adj i with rfl|gF
  .have ha:G.a.status=.running:=by rw[h.main]at hi;cases hi;exact hg
   rcases h'.c_ hR cH hS hn MT R7 ha with⟨gs,w,sl,ops,a,Ro,M,seq,vs,Mr,h1,h2⟩|h1
   .have pa:runT p.P (crowd G.gs (G.w.at d) kz) 0=(.next<|crowd gs w sl,ops):=h1;exact⟨1,gs,w,sl,_,a,Ro,M,seq,vs,Mr,by simp only[runNT,dz,pa],h2⟩
   .exact go h1
  .rcases ade i p.J with aB|tC
   .exact go (h'.b_ hR cH nP gF aB hi hg)
   .have lH:i-p.J<G.j:=by have:=(ac7.1 hi).1;rw[h.size]at this;omega
    obtain⟨k,rfl⟩:∃k,i=p.J+k:=⟨i-p.J,aa⟩;have hk:k<G.j:=aa;let⟨g',h1,h2⟩:=h'.wk k hk;obtain rfl:g=g':=by rw[show G.gs[p.J+k]?=some g from hi]at h1;exact adb h1
    have hb:=h'.VC.bound;change p.WS k (G.Ro<|k+1) (G.D k) (G.R<|p.J+k) (Deaf t<|p.J+k) (G.M<|k+1) g (G.w.at d)at h2;generalize hD:G.D k=pl at h2;generalize zh:G.R (p.J+k)=ρ at h2;generalize hd:Deaf t (p.J+k)=dd at h2;cases h2 with
    |jg hp=>exact go (h'.T5 hR cH hS nP hL hk hD hi hd<|by rw[show Gh.R _ (p.J+k)=_ from zh];exact hp)
    |put hp=>exact go (h'.abv hR cH hS nP hk hD hi hd<|by rw[show Gh.R _ (p.J+k)=_ from zh];exact hp)
    |lib hC hr hw=>exact go<|h'.abm hR cH hS nP hn hk hD hi hg hd hC hr zh hb hw
end Ph
end
section
open ConcN (sumTo upd sumTo_upd upd_ne upd_same)
open ConcR (g_of_ofEvents)
section
variable {B:Nat}
def lL.mono {B':Nat}(h:lL am B t)(hB:B<=B'):lL am B' t:=⟨h.clean,h.known,h.over,h.hears,λi a ha=>Loc.low_mono hB<|h.seen i a ha,h.quiet,h.mem⟩
def lL.app0 (h:lL am B t)(hu:∀op∈u,op.g=0)(hs:∀op∈u,∀b,op.act.touch?=some b->b.kind=.plain/\¬am b.loc/\b.loc.low B/\b.loc.isMemory=true)(hd:Deaf (t++u) 0=Deaf t 0):lL am B (t++u):=by
 have split:∀{i:Nat} {a:Touch},touchAt (t++u) i=some a->touchAt t i=some a\/∃op∈u,(t++u)[i]?=some op/\op.act.touch?=some a:=by
  intro i a ha;let⟨x,hx,UZ⟩:=touch_of ha;rcases getElem?_append_cases hx with⟨_,dG⟩|⟨_,hxu⟩
  .exact .inl (by rw[touchAt_of dG];exact UZ)
  .exact .inr ⟨x,hxu,hx,UZ⟩
 refine⟨λsaid=>noRace_append (h.clean said) hu λi a ha op bz b hb hc=>?_,λi a ha=>?_,handedOver_app h.over λop bz=>.inl<|hu op bz,hd.trans h.hears,λi a ha=>?_,h.quiet.app λop bz x hx hsx=>absurd hsx (hs op bz x hx).2.1,λi a ha=>?_⟩
 .exact(h.known i a ha).resolve_right λx=>(hs op bz b hb).2.1<|hc.1▸x.1
 .rcases split ha with h1|⟨op,bz,h1,h2⟩
  .exact(h.known i a h1).imp (·.app u) id
  .have:=knows_own h1;rw[hu op bz]at this;exact .inl this
 .rcases split ha with h1|⟨op,bz,h1,h2⟩
  .exact h.seen i a h1
  .exact(hs op bz a h2).2.2.1
 .rcases split ha with h1|⟨op,bz,h1,h2⟩
  .exact h.mem i a h1
  .exact(hs op bz a h2).2.2.2
def lL.appMute {g:Nat}(h:lL am B t)(hg:g≠0)(hu:∀op∈u,op.g=g)(hn:∀op∈u,op.act.touch?=none):lL am B (t++u):=by
 have old:∀{i:Nat} {a:Touch},touchAt (t++u) i=some a->touchAt t i=some a:=by
  intro i a ha;let⟨x,hx,UZ⟩:=touch_of ha;rcases getElem?_append_cases hx with⟨_,dG⟩|⟨_,hxu⟩
  .rw[touchAt_of dG];exact UZ
  .rw[hn x hxu]at UZ;cases UZ
 exact⟨λsaid=>noRace_append (h.clean said) hu λi a _ op bz b hb _=>(by rw[hn op bz]at hb;cases hb),λi a ha=>(h.known i a<|old ha).imp (·.app u) id,handedOver_app h.over λop bz=>.inr<|hn op bz,(Deaf_other t hg u hu).trans h.hears,λi a ha=>h.seen i a<|old ha,h.quiet.app λop bz x hx=>(by rw[hn op bz]at hx;cases hx),λi a ha=>h.mem i a<|old ha⟩
end
section
variable {Ro:Nat->Prop}{I:World->Prop}
structure dJ (P:Program)(am:Loc->Prop)(V Ro M:Nat->Prop)(gs:Array Goroutine)(a:Goroutine)(w:World)(t:Trace)(q:Nat->Nat):Prop where
 main:gs[0]?=some a
 quit:Leavers P t gs q
 past:lL am w.heap.size t
 who:∀(i:Nat) (op:MemOp),t[i]?=some op->op.g<gs.size
 lt:∀b,M b\/Ro b->b<w
 ky:∀b,M b\/Ro b->∀l,fC (·=b) l->¬am l
 low:∀l,am l->l.low w.heap.size
 un:∀i a,touchAt t i=some a->¬fC V a.loc
 Lq:∀b,V b->b<w
 vm:∀b,V b->¬M b/\¬Ro b
def Jr {n g:Nat}(h:∀(i:Nat) (op:MemOp),t[i]?=some op->op.g<n)(hu:∀op∈u,op.g=g)(hg:g<n):∀(i:Nat) (op:MemOp),(t++u)[i]?=some op->op.g<n:=by
 intro i op hi;rcases getElem?_append_cases hi with⟨_,oH⟩|⟨_,YH⟩
 .exact h i op oH
 .rw[hu op YH];exact hg
def dJ.own {a a':Goroutine}{w':World}(h:dJ P am V Ro M gs a w t q)(hp:eP Ph.nE M Ro w w' es):
  dJ P am V Ro (grow M w w') ((gs.map<|woken P a a' w').setIfInBounds 0 a') a' w' (t++MemOp.ofEvents 0 a.frame.fn a.frame.place es) q:=by
 have gF:0<gs.size:=(ac7.1 h.main).1;have hg:∀b,grow M w w' b\/Ro b->b<w':=λb hb=>by
  rcases hb with(hb|⟨_,hb⟩)|hb
  .exact ac6 (h.lt b<|.inl hb) hp.size
  .exact hb
  .exact ac6 (h.lt b<|.inr hb) hp.size
 have ku:∀b,grow M w w' b\/Ro b->∀l,fC (·=b) l->¬am l:=λb hb l hl hx=>by
  rcases hb with(hb|⟨hb,_⟩)|hb
  .exact h.ky b (.inl hb) l hl hx
  .exact hl.QI hb (h.low l hx)
  .exact h.ky b (.inr hb) l hl hx
 refine⟨by simp[gF],⟨λj x hj hx=>?_,λj hj=>?_⟩,?_,?_,hg,ku,λl hl=>Loc.low_mono hp.size<|h.low l hl,λi x hx hv=>?_,λb hb=>ac6 (h.Lq b hb) hp.size,λb hb=>⟨λhx=>hx.elim (h.vm b hb).1 λy=>absurd (h.Lq b hb)<|Nat.not_lt.2 y.1,(h.vm b hb).2⟩⟩
 .rw[Array.getElem?_setIfInBounds_ne aa,Array.getElem?_map]at hx;obtain⟨y,hy,rfl⟩:=adp.1 hx;have hq:=h.quit.old j y hj hy;rw[woken_quitsD hq,Deaf_other t (g':=0) aa _ g_of_ofEvents];exact hq
 .have hj':gs.size<=j:=by simpa using hj
  rw[Deaf_other t (g':=0) aa _ g_of_ofEvents];exact h.quit.above j hj'
 .refine(h.past.mono hp.size).app0 g_of_ofEvents (λop bz b hb=>?_) ?_
  .obtain⟨e,he,rfl⟩:=Go.Conc.mem_ofEvents bz;let⟨h1,h2,h3⟩:=Ph.jC (hp.ev e he) (λy=>y.elim) hb;have h4:fC (λb=>grow M w w' b\/Ro b) b.loc:=h3.elim (λx=>x.mono λ_ y=>.inl y) λx=>x.1.mono λ_ y=>.inr y
   let⟨b',dw,hl⟩:=h4.some;exact⟨h1,ku b' dw _ hl,h4.low hg,h2⟩
  .rw[Deaf_own];exact deafBehind_still (λe he=>⟨Ph.gq (hp.ev e he) (λy=>y.elim) rfl,Ph.gq (hp.ev e he) (λy=>y.elim) rfl⟩) _
 .intro i op hi;have:=Jr h.who (g:=0) g_of_ofEvents gF i op hi;simpa using this
 .let⟨op,bz,De⟩:=touch_of hx;rcases getElem?_append_cases bz with⟨_,rC⟩|⟨_,xp⟩
  .exact h.un i x (by rw[touchAt_of rC];exact De) hv
  .obtain⟨e,he,rfl⟩:=Go.Conc.mem_ofEvents xp;let⟨_,_,h3⟩:=Ph.jC (hp.ev e he) (λy=>y.elim) De;let⟨b,hb,hl⟩:=hv.some;rcases h3 with h3|⟨h3,_⟩
   .let⟨b',dw,mI⟩:=h3.some;obtain rfl:=hl.eq mI;exact dw.elim (h.vm b hb).1 λy=>absurd (h.Lq b hb)<|Nat.not_lt.2 y.1
   .let⟨b',dw,mI⟩:=h3.some;obtain rfl:=hl.eq mI;exact(h.vm b hb).2 dw
def dJ.at {a:Goroutine}(h:dJ P am V Ro M gs a w t q)(d:Nat):dJ P am V Ro M gs a (w.at d) t q:=⟨h.main,h.quit,h.past,h.who,h.lt,h.ky,h.low,h.un,h.Lq,h.vm⟩
def dJ.awake {a:Goroutine}(h:dJ P am V Ro M gs a w t q)(hr:a.status=.running):∀g∈gs,Go.Conc.awake g:=by
 intro g hg;obtain⟨i,hi,rfl⟩:=Array.mem_iff_getElem.1 hg;rcases adj i with rfl|gF
 .have:gs[0]=a:=by simpa[Array.getElem?_eq_getElem hi]using h.main
  rw[this];exact awake_of<|.inl hr
 .exact awake_of ((h.quit.old i _ gF<|adc hi).status.elim .inl λx=>.inr<|.inr x)
def dJ.slip {a:Goroutine}(h:dJ P am V Ro M gs a w t q)(hr:a.status=.running)(gF:0<i)(hi:gs[i]?=some g)(hg:g.status=.running):
  ∃jN ops q',runT P (crowd gs w sl) i=(.next<|crowd jN w sl,ops)/\jN.size=gs.size/\sumTo gs.size q'<sumTo gs.size q/\dJ P am V Ro M jN a w (t++ops) q':=by
 have hq:=h.quit.old i g gF hi;have Lj:(i==0)=false:=cU;have aB:i<gs.size:=(ac7.1 hi).1;cases Y7:q i with
 |zero=>rw[Y7]at hq;rw[hq.1]at hg;cases hg
 |succ k=>
  rw[Y7]at hq;rcases hq with⟨hf,_⟩|⟨_,g',es,hm,abf,US⟩
  .rw[hf]at hg;cases hg
  have uH:=runT_crowd_go (P:=P) (sl:=sl) (i:=i) hi (by rw[Lj];exact abf w);have acw:sumTo gs.size (upd q i k)+(k+1)=sumTo gs.size q+k:=by
   have:=sumTo_upd q k id aB;simpa[Y7]using this
  refine⟨_,_,upd q i k,uH,aF,aa,⟨?_,⟨λj x hj hx=>?_,λj hj=>?_⟩,?_,?_,h.lt,h.ky,h.low,λi' x hx=>?_,h.Lq,h.vm⟩⟩
  .rw[Array.getElem?_setIfInBounds_ne aa,Array.getElem?_map,h.main];simp[woken_run hr]
  .by_cases hji:i=j
   .subst hji;rw[Array.getElem?_setIfInBounds_self_of_lt (by simpa using aB)]at hx;obtain rfl:=adb hx;rw[upd_same,Deaf_own];exact US
   .rw[Array.getElem?_setIfInBounds_ne hji,Array.getElem?_map]at hx;obtain⟨y,hy,rfl⟩:=adp.1 hx;have hqj:=h.quit.old j y hj hy;rw[woken_quitsD hqj,upd_ne q k (Ne.symm hji),Deaf_other t hji _ g_of_ofEvents];exact hqj
  .have hj':gs.size<=j:=by simpa using hj
   rw[Deaf_other t (g':=i) aa _ g_of_ofEvents];exact h.quit.above j hj'
  .exact h.past.appMute aa g_of_ofEvents λop bz=>by obtain⟨e,he,rfl⟩:=Go.Conc.mem_ofEvents bz;exact touch_mute<|hm e he
  .intro i' op oH;have:=Jr h.who (g:=i) g_of_ofEvents aB i' op oH;simpa using this
  .let⟨op,bz,De⟩:=touch_of hx;rcases getElem?_append_cases bz with⟨_,rC⟩|⟨_,xp⟩
   .exact h.un i' x (by rw[touchAt_of rC];exact De)
   .obtain⟨e,he,rfl⟩:=Go.Conc.mem_ofEvents xp;rw[touch_mute (hm e he)]at De;cases De
def jw (hI:∀w,I w)(r:Rk):
  ∀(n:Nat) (gs:Array Goroutine) (M:Nat->Prop) (a:Goroutine) (w:World) (sl:Option (Nat×Nat)) (t:Trace) (q:Nat->Nat),sumTo gs.size q<=n->dJ P am V Ro M gs a w t q->PT P true I Ph.nE Ro Stop r M a w->
   ∃N jN M' a' w' kz t' q',runNT P N (crowd gs w sl) t=(.next<|crowd jN w' kz,t')/\jN.size=gs.size/\(∀acV,aK (λb=>M' b\/Ro b) w' acV->I acV->Stop M' a' acV)/\dJ P am V Ro M' jN a' w' t' q'/\w.heap.size<=w'.heap.size/\(∀b,M b->M' b)/\(∀b,M' b->M b\/w.heap.size<=b)/\∀b,b<w.heap.size->¬M b->w'.heap[b]?=w.heap[b]?:=by
 induction r using Rk.wf.induction with
 |_ r ihr=>
  intro n;induction n using Nat.strongRecOn with
  |_ n ihn=>
   intro gs M a w sl t q hn h hp;rcases hp.cases with du|⟨f,rfl,d6,df⟩
   .exact⟨0,gs,M,a,w,sl,t,q,rfl,rfl,du,h,ac5 _,λ_ h=>h,λ_ h=>.inl h,λ_ _ _=>rfl⟩
   let⟨i,g,d,kz,hi,hg,Zk⟩:=crowd_pick (P:=P) (w:=w) (sl:=sl) (h.awake d6) ⟨0,a,h.main,d6⟩;rcases adj i with rfl|gF
   .obtain rfl:g=a:=by rw[h.main]at hi;exact(adb hi).symm
    let⟨a',w',es,hgo,qM,O9⟩:=df (w.at d) ⟨λ_ _=>rfl,ac5 _,rfl,rfl⟩<|hI _;have uH:=runT_crowd_go (P:=P) (sl:=kz) (i:=0) hi (show stepG P (0==0) g (w.at d)=_ from hgo);have h':=(h.at d).own (a':=a') qM;let⟨N,jN,M',a'',w'',Og,t',q',h1,h2,h3,h4,h5,h6,h7,h8⟩:=ihr (f<|w.at d) ⟨_,rfl⟩ _ _ _ a' w' kz _ q (ac5 _) h' O9;have hs:w.heap.size<=w':=qM.size;refine⟨N+1,jN,M',a'',w'',Og,t',q',by simp only[runNT,Zk,uH];exact h1,by rw[h2];simp,h3,h4,ac8 hs h5,λb hb=>h6 b<|.inl hb,λb hb=>?_,λb hb hm=>?_⟩
    .rcases h7 b hb with(x|⟨x,_⟩)|x
     .exact .inl x
     .exact .inr x
     .exact .inr (ac8 hs x)
    .rw[h8 b (ac6 hb hs) λx=>x.elim hm λy=>absurd y.1<|Nat.not_le.2 hb];exact qM.keep b hb hm
   .let⟨jN,ops,q',h1,h2,h3,h4⟩:=(h.at d).slip (sl:=kz) d6 gF hi hg;let⟨N,T7,M',a'',w'',Og,t',q'',e1,e2,e3,e4,e5,e6,e7,e8⟩:=ihn (sumTo jN.size q') (by rw[h2];omega) jN M a (w.at d) kz _ q' (ac5 _) h4<|hp.rely ⟨λ_ _=>rfl,ac5 _,rfl,rfl⟩;exact⟨N+1,T7,M',a'',w'',Og,t',q'',by simp only[runNT,Zk,h1];exact e1,e2.trans h2,e3,e4,e5,e6,e7,e8⟩
end
end
section
open ConcN (sumTo upd sumTo_upd upd_ne upd_same CTag Vc)
open ConcR (g_of_ofEvents WgAt stA)
section
variable {Ro:Nat->Prop}{a:Goroutine}
def dJ.alloc {Q:Goroutine->World->Prop}(df:∀d,∃a' w',stepG P true a (w.at d)=.go a' w' #[]/\w'.heap.size=w.heap.size+1/\(∀b,b<w.heap.size->w'.heap[b]?=w.heap[b]?)/\Q a' w')(hr:a.status=.running):
  ∀(n:Nat) (gs:Array Goroutine) (d:Nat) (sl:Option (Nat×Nat)) (t:Trace) (q:Nat->Nat),sumTo gs.size q<=n->dJ P am V Ro M gs a (w.at d) t q->
   ∃N jN a' w' kz t' q',runNT P N (crowd gs (w.at d) sl) t=(.next<|crowd jN w' kz,t')/\jN.size=gs.size/\Q a' w'/\dJ P am (λb=>V b\/b=w.heap.size) Ro M jN a' w' t' q'/\w'.heap.size=w.heap.size+1/\∀b,b<w.heap.size->w'.heap[b]?=w.heap[b]?:=by
 intro n;induction n using Nat.strongRecOn with
 |_ n ih=>
  intro gs d sl t q hn h;let⟨i,g,d',kz,hi,hg,dz⟩:=crowd_pick (P:=P) (w:=w.at d) (sl:=sl) (h.awake hr) ⟨0,a,h.main,hr⟩;rcases adj i with rfl|gF
  .obtain rfl:g=a:=by rw[h.main]at hi;exact(adb hi).symm
   let⟨a',w',hgo,jQ,hk,hQ⟩:=df d';have uH:=runT_crowd_go (P:=P) (w:=(w.at d).at d') (sl:=kz) (i:=0) hi (show stepG P (0==0) g (w.at d')=_ from hgo);have e0:MemOp.ofEvents 0 g.frame.fn g.frame.place #[]=#[]:=by rw[ofEvents_eq,Array.map_empty]
   rw[e0]at uH;have gF:0<gs.size:=(ac7.1 h.main).1;have hle:w.heap.size<=w'.heap.size:=aa;refine⟨1,(gs.map<|woken P g a' w').setIfInBounds 0 a',a',w',kz,t++#[],q,by simp only[runNT,dz,uH],by simp,hQ,?_,jQ,hk⟩;rw[Array.append_empty];refine⟨by simp[gF],⟨λj x hj hx=>?_,λj hj=>h.quit.above j<|by simpa using hj⟩,h.past.mono hle,by simpa using h.who,λb hb=>ac6 (h.lt b hb) hle,h.ky,λl hl=>Loc.low_mono hle<|h.low l hl,λi x hx hv=>?_,λb hb=>?_,λb hb=>?_⟩
   .rw[Array.getElem?_setIfInBounds_ne (by omega),Array.getElem?_map]at hx;obtain⟨y,hy,rfl⟩:=adp.1 hx;have hq:=h.quit.old j y hj hy;rw[woken_quitsD hq];exact hq
   .let⟨b,hb,hl⟩:=hv.some;rcases hb with hb|rfl
    .exact h.un i x hx (hl.mono λc e=>e▸hb)
    .exact hl.QI (ac5 _) (h.past.seen i x hx)
   .rcases hb with hb|rfl
    .exact ac6 (h.Lq b hb) hle
    .omega
   .rcases hb with hb|rfl
    .exact h.vm b hb
    .exact⟨λx=>absurd (h.lt _<|.inl x)<|Nat.lt_irrefl _,λx=>absurd (h.lt _<|.inr x)<|Nat.lt_irrefl _⟩
  .let⟨jN,ops,q',h1,h2,h3,h4⟩:=(h.at d').slip (sl:=kz) hr gF hi hg;let⟨N,T7,a'',w'',Og,t',q'',e1,e2,e3⟩:=ih (sumTo jN.size q') (by rw[h2];omega) jN d' kz _ q' (ac5 _) h4;exact⟨N+1,T7,a'',w'',Og,t',q'',by simp only[runNT,dz,h1];exact e1,e2.trans h2,e3⟩
def Th (P:Program)(Ro:Nat->Prop)(Post:Value->World->Prop)(M:Nat->Prop)(g:Goroutine)(W:World):Prop:=
 g.status=.running/\∃v es,stepG P true g W=.ended (.done v) W es/\(∀e∈es,Fr Ph.nE M Ro e)/\Post v W
def dJ.ends {Post:Value->World->Prop}(h:dJ P am V Ro M gs a w t q)(hs:∀d,Th P Ro Post M a<|w.at d):
  ∃N last o w' t',runNT P (N+1) (crowd gs w sl) t=(.ended o w',t')/\runN P N (crowd gs w sl)=.next last/\step P last=.ended o w'/\Good P Post last o w' t':=by
 refine run_of_inv Nat.lt_wfRel.wf (λμ m t=>∃gs d sl q,m=crowd gs (w.at d) sl/\dJ P am V Ro M gs a (w.at d) t q/\μ=sumTo gs.size q) (Good P Post) ?_ (sumTo gs.size q) _ _ ⟨gs,w.drawn,sl,q,rfl,h,rfl⟩;rintro μ m t ⟨gs,d,sl,q,rfl,h,rfl⟩;have hr:=(hs d).1;let⟨i,g,d',kz,hi,hg,dz⟩:=crowd_pick (P:=P) (w:=w.at d) (sl:=sl) (h.awake hr) ⟨0,a,h.main,hr⟩;rcases adj i with rfl|gF
 .obtain rfl:g=a:=by rw[h.main]at hi;exact(adb hi).symm
  let⟨_,v,es,ml,Wy,fO⟩:=hs d';have uH:=runT_many_ended (P:=P) (w:=(w.at d).at d') (sl:=kz) (i:=0) hi (show stepG P (0==0) g (w.at d')=_ from ml);have hp:eP Ph.nE M Ro (w.at d') (w.at d') es:=⟨λ_ _ _=>rfl,ac5 _,rfl,rfl,rfl,λe he=>by
   rw[show grow M (w.at d') (w.at d')=M from cJ rfl];exact Wy e he⟩
  have h':=((h.at d').own (a':=g) hp).past;refine .inl ⟨_,_,_,dz.trans uH,v,rfl,fO,h'.clean,h'.over,⟨λx hx=>?_,rfl⟩,λj x hx hj=>?_⟩
  .let⟨j,hj⟩:=List.mem_iff_getElem?.1 hx;rw[List.getElem?_drop]at hj;exact⟨_,(h.quit.old (1+j) x aa<|by simpa[crowd]using hj).leaves⟩
  .have hq:=h.quit.old j x aa hx;refine⟨q j,?_⟩;have e:(t++MemOp.ofEvents 0 g.frame.fn g.frame.place es).deaf j (t++MemOp.ofEvents 0 g.frame.fn g.frame.place es).size=Deaf t j:=
    Deaf_other t (g:=j) (g':=0) aa _ g_of_ofEvents
   rw[e];exact hq.hears _
 .let⟨jN,ops,q',h1,h2,h3,h4⟩:=(h.at d').slip (sl:=kz) hr gF hi hg;exact .inr ⟨_,_,sumTo jN.size q',dz.trans h1,by rw[h2];exact h3,jN,d',kz,q',rfl,h4,rfl⟩
end
end
section
open ConcN (sumTo upd sumTo_upd upd_ne upd_same CTag Vc pend)
open ConcR (g_of_ofEvents WgAt stA KK)
namespace Ph
variable {p:Ph}{Ro:Nat->Prop}{a:Goroutine}{Fin:(Nat->Prop)->(Nat->Prop)->Goroutine->World->Prop}
def start (h:dJ p.P am V Ro M gs a w t q)(hJ:p.J=gs.size)(hT:p.iE=t.size)(X8:V p.Wg)(V_:V p.tk.block)(hB:p.Bs<w)(hle:∀b,M' b->M b)(FD:∀b,p.Sp b->¬M' b/\¬Ro b)(hmr:∀b,M' b->¬Ro b)
  (jX:WgAt p.ty p.Wg w 0 0)(Cc:p.jH w 0)(bH:∃cs,p.qz cs w)(MT:1<=p.n)(hs:p.Spawns Anch p.n Ro M' a w):∃μ,p.Pw am w.heap.size Fin Anch μ (crowd gs w sl) t:=by
 have gF:0<gs.size:=(ac7.1 h.main).1;obtain⟨r,hr⟩:∃r,p.n=r+1:=⟨p.n-1,aa⟩;rw[hr]at hs;let⟨ρ,zh⟩:=hs;let MM:Nat->Nat->Prop:=λi b=>i=0/\M' b
 let RR:Nat->Nat->Prop:=λi b=>i=0/\Ro b
 have m0:MM 0=M':=by funext b;simp[MM]
 have r0:RR 0=Ro:=by funext b;simp[RR]
 let G:Gh:={gs:=gs,w:=w,sl:=sl,j:=0,D:=λ_=>.put [],tag:=.sp r 5,ρ:=ρ,x:=0,a:=a,M:=MM,Ro:=RR,R:=λi=>Rk.nat<|q i,c:=0,st:=0,sm:=0}
 have QD:∀b,M' b\/Ro b->b<w:=λb hb=>h.lt b<|hb.imp (hle b) id
 refine⟨_,G,rfl,rfl,⟨by simp[G,hJ],ada _,h.main,?_,λi hi=>absurd hi<|ac9 i,λi h0 hi=>?_,λk hk=>h.quit.above k (by rw[<-hJ];exact hk),⟨?_,?_,?_,?_,?_,?_,ac5 _⟩,?_,jX,Cc,bH,?_,λi hi=>absurd hi<|ac9 i,λx _ hx=>absurd hx<|ac9 x,ada _⟩⟩
 .show p.fV Fin Anch (.sp r 5) 0 ρ 0 (Deaf t 0) (RR 0) (MM 0) a w;rw[h.past.hears,m0,r0];have e:p.n-(r+1)=0:=aa;have:=fV.skd (p:=p) (Fin:=Fin) (Anch:=Anch) (r:=r) aa zh;rw[e]at this;exact this
 .have aB:i<gs.size:=by rw[<-hJ];exact hi
  exact⟨gs[i],q i,adc aB,h.quit.old i _ h0<|adc aB,rfl⟩
 .rintro i k hne b ⟨rfl,_⟩ ⟨rfl,_⟩;exact hne rfl
 .rintro i k b ⟨rfl,h1⟩ ⟨rfl,h2⟩;exact hmr b h1 h2
 .intro i b hb;exact⟨λx=>(FD b hb).1 x.2,λx=>(FD b hb).2 x.2⟩
 .rintro i b (hb|hb)
  .exact QD b (.inl hb.2)
  .exact QD b (.inr hb.2)
 .rintro b (rfl|rfl|rfl)
  .exact h.Lq _ X8
  .exact h.Lq _ V_
  .exact hB
 .rintro i b (hb|hb) l hl
  .exact h.ky b (.inl<|hle b hb.2) l hl
  .exact h.ky b (.inr hb.2) l hl
 .rw[hT];refine h.past.tr (λl hl=>?_) (λl hl=>.inl hl) (λi op hi=>by rw[hJ];exact h.who i op hi) (by show p.J-1+0+1=p.J;omega) λk l hk=>⟨λx=>absurd x.1 aa,λx=>absurd x.1 aa⟩;rcases hl with hl|⟨a,rfl,hl⟩
  .exact .inl hl
  .refine .inr λi x hx e=>h.un i x hx ?_
   rw[e];show V a.block;rcases hl with hl|hl<;>rw[hl]<;>assumption
 .have:=Go.ConcN.Mode.opn (j:=0) (D:=bN λ_=>.put []) (tag:=.sp r 5) trivial (λi hi=>absurd hi<|ac9 i) (λvs e=>by cases e);simpa[Vc,sumTo,pend]using this
def phase (hR:p.jG)(cH:Geo p am)(hn:p.n<2147483647)(MT:1<=p.n)(hL:p.L+p.n<4611686018427387904)(nP:∀Ro M g W,Anch Ro M g W->g.status=.running)
  (R7:∀Ro M g W,Anch Ro M g W->p.I W->ET p.P true p.I p.dE Ro (p.AtW1 Fin Anch Ro) M g W)
  (h:dJ p.P am V Ro M gs a w t q)(hJ:p.J=gs.size)(hT:p.iE=t.size)(X8:V p.Wg)(V_:V p.tk.block)(hB:p.Bs<w)(hle:∀b,M' b->M b)(FD:∀b,p.Sp b->¬M' b/\¬Ro b)(hmr:∀b,M' b->¬Ro b)
  (jX:WgAt p.ty p.Wg w 0 0)(Cc:p.jH w 0)(bH:∃cs,p.qz cs w)(hs:p.Spawns Anch p.n Ro M' a w):
  ∃N jN w' kz t' a' qH ga seq vs Mr,runNT p.P N (crowd gs w sl) t=(.next<|crowd jN w' kz,t')/\p.Out am Fin jN w' t' a' qH ga seq vs Mr:=by
 let⟨μ,hI⟩:=start (Fin:=Fin) (sl:=sl) h hJ hT X8 V_ hB hle FD hmr jX Cc bH MT hs;exact Ku hR cH h.low hn MT hL nP R7 μ _ t hI
def Out.lone {a:Goroutine}{Ro:Nat->Prop}{seq:Nat->List Nat}{vs:Nat->List Value}{Mr:Nat->Nat->Prop}(h:p.Out am Fin gs w t a Ro M seq vs Mr)(xf:∀l,am l->l.low w.heap.size)(hM:∀b,M' b->b<w/\∀l,fC (·=b) l->¬p.Sh am l):
  ∃q,dJ p.P (p.Sh am) (λ_=>False) (λ_=>False) M' gs a w t q:=by
 let⟨q,hq⟩:=h.quit;refine⟨q,h.main,hq,h.past,λi op hi=>by rw[h.size];exact h.who i op hi,λb hb=>hb.elim (λx=>(hM b x).1) False.elim,λb hb=>hb.elim (λx=>(hM b x).2) False.elim,λl hl=>?_,λi x hx hv=>?_,λb hb=>hb.elim,λb hb=>hb.elim⟩
 .rcases hl with hl|⟨a,rfl,hl⟩
  .exact xf l hl
  .show a.block<_;exact h.sp _<|hl.imp id .inl
 .let⟨b,hb,_⟩:=hv.some;exact hb
end Ph
end
section
variable {I:World->Prop}{Ro:Nat->Prop}
def eP.nil (h:∀e∈es,X e):eP X M Ro W W es:=⟨λ_ _ _=>rfl,ac5 _,rfl,rfl,rfl,λe he=>.inr<|.inr<|.inr<|h e he⟩
def ET.k (hs:g.status=.running)(h:∀ah,aK (λb=>M b\/Ro b) W ah->I ah->(stepG P m g ah).goes λg' w' es=>(w'=ah/\∀e∈es,X e)/\ET P m I X Ro Stop M g' W):ET P m I X Ro Stop M g W:=by
 refine ET.step hs λah k i=>?_
 obtain⟨g',w',es,h1,⟨rfl,h2⟩,h3⟩:=goes_elim<|h ah k i;have e:grow M w' w'=M:=cJ rfl;exact⟨g',w',es,h1,eP.nil h2,by rw[e];exact h3.rely k⟩
def ET.c (h:∀ah,stepG P m g ah=.go g' ah #[])(k:ET P m I X Ro Stop M g' W)(hs:g.status=.running:=by rfl):ET P m I X Ro Stop M g W:=
 ET.k hs λah _ _=>by rw[h ah];exact⟨⟨rfl,λe he=>ia⟩,k⟩
def ET.sq {k:List Item}(n:ET P m I X Ro Stop M (G (b.at a<|.code x::.code y::k) cs) W):ET P m I X Ro Stop M (G (b.at a<|.code (.seq x y)::k) cs) W:=ET.c (λ_=>stepG_seq) n
def ET.rg {k:List Item}{id:Nat}(n:ET P m I X Ro Stop M (G (b.at a<|.inRegion ops (List.range ops.size)::k) cs) W):ET P m I X Ro Stop M (G (b.at a<|.code (.region id ops false)::k) cs) W:=ET.c (λ_=>stepG_region) n
def ET.sr {k:List Item}{id:Nat}(n:ET P m I X Ro Stop M (G (b.at a<|.inRegion ops (List.range ops.size)::.code y::k) cs) W):ET P m I X Ro Stop M (G (b.at a<|.code (.seq (.region id ops false) y)::k) cs) W:=ET.sq<|ET.rg n
def ET.rn {k:List Item}(n:ET P m I X Ro Stop M (G (b.at a k) cs) W):ET P m I X Ro Stop M (G (b.at a<|.inRegion ops []::k) cs) W:=ET.c (λ_=>stepG_region_end) n
def ET.ns {k:List Item}{id:Nat}{lK:Array Oper}(n:ET P m I X Ro Stop M (G (b.at a<|.inRegion ops (List.range ops.size)::.code y::k) cs) W):ET P m I X Ro Stop M (G (b.at a<|.inRegion lK []::.code (.seq (.region id ops false) y)::k) cs) W:=ET.rn<|ET.sr n
def ET.sk {k:List Item}(n:ET P m I X Ro Stop M (G (b.at a k) cs) W):ET P m I X Ro Stop M (G (b.at a<|.code .skip::k) cs) W:=ET.c (λ_=>stepG_skip) n
def ET.rt {k:List Item}(n:ET P m I X Ro Stop M (G ({b.at a (.code .ret::k)with mode:=.returning}) cs) W):ET P m I X Ro Stop M (G (b.at a<|.code .ret::k) cs) W:=ET.c (λ_=>stepG_ret') n
def ET.o {k:List Item}{o:Oper}(ho:ops[i]?=some o)(hw:Region.wanted o (yielded ops a.tmps)=true)
  (h:∀(ah:World) (K:Act->World->Prop),(∀a' w',w'=ah->ET P m I X Ro Stop M (G (b.at a'<|.inRegion ops rest::k) cs) W->(he:(execOp a.eval o).events P ah #[]=#[]:=by simp[go_sem, *])->K a' w')->uponK o a K ((execOp a.eval o).run P ah))(hk:b.kind≠.early:=by k_ne):ET P m I X Ro Stop M (G (b.at a<|.inRegion ops (i::rest)::k) cs) W:=
 ET.k rfl λah _ _=>goes_oper_k ho hw hk λK hK=>h ah K λa' w' h1 h3 h2=>hK a' w' ⟨⟨h1,λe he=>by have:=mem_listed he;rw[h2]at this;simp at this⟩,h3⟩
def ET.z {p q:Prop}(hq:q)(h:q->p:=by intro US;refine ET.o rfl rfl λ_ K hK=>?_;go_simp;refine hK _ _ rfl ?_;clear hK K;(try w_num);exact US):p:=h hq
def ET.kX {c:Operand}{k:List Item}(h:a.eval c=.bool true)(n:ET P m I X Ro Stop M (G (b.at a<|.code x::k) cs) W):ET P m I X Ro Stop M (G (b.at a<|.code (.cond c x y)::k) cs) W:=ET.c (λ_=>stepG_cond h) n
def ET.gJ {c:Operand}{k:List Item}(h:a.eval c=.bool false)(n:ET P m I X Ro Stop M (G (b.at a<|.code y::k) cs) W):ET P m I X Ro Stop M (G (b.at a<|.code (.cond c x y)::k) cs) W:=ET.c (λ_=>stepG_cond h) n
end
section
variable {I:World->Prop}{Ro:Nat->Prop}
def ET.p (hs:g.status=.running)(h:∀ah,aK (λb=>M b\/Ro b) W ah->I ah->(stepG P m g ah).goes λg' W' es=>eP X M Ro ah W' es/\ET P m I X Ro Stop (grow M ah W') g' W'):ET P m I X Ro Stop M g W:=
 ET.step hs λah k i=>by
  let⟨g',w',es,h1,h2,h3⟩:=goes_elim<|h ah k i;exact⟨g',w',es,h1,h2,h3⟩
def eP.alloc (o:Obj)(h:∀e∈es,Fr X (grow M W<|W.alloc o) Ro e):eP X M Ro W (W.alloc o) es:=by
 refine⟨λb hb _=>?_,?_,rfl,rfl,rfl,h⟩
 .show(W.heap.push o)[b]?=_;rw[Array.getElem?_push,if_neg (adn hb)]
 .show _<=(W.heap.push o).size;simp
def eP.set {a:Addr}(v:Value)(ha:M a.block)(h:∀e∈es,Fr X M Ro e):eP X M Ro W (W.setCell a v) es:=by
 have hz:=(aside_setCell W a v).size;refine⟨λb _ hm=>Below.heap_setCell W a v b λe=>hm<|e▸ha,Nat.le_of_eq hz.symm,(aside_setCell W a v).tape,(aside_setCell W a v).os,(aside_setCell W a v).output,λe he=>?_⟩;rw[show grow M W (W.setCell a v)=M from cJ hz];exact h e he
def eP.stay (h:∀e∈es,Fr X M Ro e):eP X M Ro W W es:=⟨λ_ _ _=>rfl,ac5 _,rfl,rfl,rfl,λe he=>by rw[show grow M W W=M from cJ rfl];exact h e he⟩
section
variable {md:Region.Mode}
inductive Ia (md:Region.Mode)(ops:Array Oper):Array Bool->List Nat->Prop
 |nil {l:Array Bool}:Region.ready md ops l=[]->Ia md ops l []
 |cons {l:Array Bool} {i:Nat} {rest:List Nat}:i∈Region.ready md ops l->Ia md ops (l.setIfInBounds i true) rest->Ia md ops l (i::rest)
def VU (ops:Array Oper)(l:Array Bool):Nat:=((List.range ops.size).filter λi=>!l.getD i true).length
def KB (h:VU ops l=0):Region.ready md ops l=[]:=by
 have h':(List.range ops.size).filter (λi=>!l.getD i true)=[]:=List.eq_nil_of_length_eq_zero h;rw[List.filter_eq_nil_iff]at h';show(List.range ops.size).filter _=[];rw[List.filter_eq_nil_iff];intro i hi;have:=h' i hi;simp only[Bool.not_eq_true,Bool.not_eq_false']at this⊢;simp[this]
def KC (h:i∈Region.ready md ops l):i<ops.size/\l.getD i true=false:=by
 have h':i∈(List.range ops.size).filter _:=h;rw[List.mem_filter]at h';let⟨h1,h2⟩:=h';simp only[Bool.and_eq_true,Bool.not_eq_true']at h2;exact⟨List.mem_range.1 h1,h2.1⟩
def zK {p q:Nat->Bool}:∀(xs:List Nat) (i:Nat),i∈xs->(∀x,q x=true->p x=true)->p i=true->q i=false->(xs.filter q).length<(xs.filter p).length
 |x::xs,i,hi,Y6,hp,hq=>by
  have le:∀ys:List Nat,(ys.filter q).length<=(ys.filter p).length:=by
   intro ys;induction ys with
   |nil=>simp
   |cons y ys ih=>
    rw[List.filter_cons,List.filter_cons];by_cases h:q y=true
    .simp[h,Y6 y h,ih]
    .simp only[h];by_cases h':p y=true
     .simp[h'];omega
     .simp[h',ih]
  rcases List.mem_cons.1 hi with rfl|hm
  .rw[List.filter_cons,List.filter_cons];simp[hp,hq];exact Nat.lt_succ_of_le<|le xs
  .have ih:=zK xs i hm Y6 hp hq;rw[List.filter_cons,List.filter_cons];by_cases h:q x=true
   .simp[h,Y6 x h];exact ih
   .simp only[h];by_cases h':p x=true
    .simp[h'];omega
    .simp[h'];exact ih
def Jq (h:i∈Region.ready md ops l):VU ops (l.setIfInBounds i true)<VU ops l:=by
 let⟨h1,h2⟩:=KC h;have aB:i<l.size:=by
  rcases ade i l.size with h|h
  .exact h
  .simp[Array.getD_eq_getD_getElem?,Array.getElem?_eq_none h]at h2
 refine zK _ i (List.mem_range.2 h1) (λx hx=>?_) (by simp[h2]) (by simp[Array.getD_eq_getD_getElem?,aB]);by_cases e:i=x
 .subst e;simp[h2]
 .simpa[Array.getD_eq_getD_getElem?,Array.getElem?_setIfInBounds_ne e]using hx
def Vm:∀(fuel t:Nat) (l:Array Bool),VU ops l<=fuel->Ia md ops l (Region.linearise.go md ops fuel t l []):=by
 intro fuel;induction fuel with
 |zero=>intro t l h;simp only[Region.linearise.go,List.reverse_nil];exact .nil (KB<|Nat.le_zero.1 h)
 |succ fuel ih=>
  intro t l h;simp only[Region.linearise.go];change Ia md ops l (match(Region.ready md ops l)[t%(Region.ready md ops l).length]? with
   |some i=>Region.linearise.go md ops fuel (t/(Region.ready md ops l).length) (l.setIfInBounds i true) [i]
   |none=>[].reverse)
  cases hi:(Region.ready md ops l)[t%(Region.ready md ops l).length]? with
  |none=>
   refine .nil ?_;cases hr:Region.ready md ops l with
   |nil=>rfl
   |cons x xs=>
    rw[hr]at hi;have aB:t%(x::xs).length<(x::xs).length:=Nat.mod_lt _ aF;simp at hi;simp at aB;omega
  |some i=>
   have hm:=List.mem_of_getElem? hi;simp only[];rw[linearise_go_acc,List.reverse_singleton,List.singleton_append];exact .cons hm<|ih _ _ (by have:=Jq hm;omega)
def sY (t:Nat):Ia .any ops (Array.replicate ops.size false) (Region.schedule true ops t):=by
 simp only[Region.schedule,Bool.true_or,if_true];exact Vm ops.size t _ (by unfold VU;exact ac8 (List.length_filter_le _ _) aF)
end
def ET.drawn {k:List Item}{id:Nat}(hm:P.follows .mixedOrders=true)
  (h:∀order,Ia .any ops (Array.replicate ops.size false) order->ET P m I X Ro Stop M (G (b.at a<|.inRegion ops order::k) cs) W):ET P m I X Ro Stop M (G (b.at a<|.code (.region id ops true)::k) cs) W:=by
 refine ET.step rfl λah acP _=>⟨_,_,_,stepG_region_draw,⟨λ_ _ _=>rfl,ac5 _,rfl,rfl,rfl,λe he=>ia⟩,?_⟩
 rw[show grow M ah {ah with drawn:=ah.drawn+1}=M from cJ rfl];refine ET.rely (h _ ?_) ⟨acP.block,acP.size,acP.os,acP.out⟩;rw[hm];exact sY _
end
section
variable [Gl]
noncomputable def rG (S:Nat->Prop):Ren:=open Classical in⟨λb=>if S b then some b else none,λb b' c h h'=>by
  by_cases x:S b
  .by_cases y:S b'
   .rw[if_pos x]at h;rw[if_pos y]at h';simp only[Option.some.injEq]at h h';omega
   .rw[if_neg y]at h';exact absurd h' aF
  .rw[if_neg x]at h;exact absurd h aF,λb c h=>by
  by_cases x:S b
  .rw[if_pos x]at h;simp only[Option.some.injEq]at h;rw[h]
  .rw[if_neg x]at h;exact absurd h aF⟩
def fP {b:Nat}:rG S b=some d<->S b/\b=d:=by
 classical
 show(if S b then some b else none)=some d<->_;by_cases x:S b
 .rw[if_pos x];simp[x]
 .rw[if_neg x];simp[x]
omit [Gl]
def Obj.freeze:Obj->Obj
 |.cells c e _=>.cells c e (0,c.size)
 |o=>o
noncomputable def fw (F:Nat->Prop)(W:World):World:=open Classical in{W with heap:=W.heap.mapIdx λb o=>if F b then Obj.freeze o else o}
def Ar (F:Nat->Prop)(W:World)(b:Nat):(fw F W).heap[b]?=(W.heap[b]?).map λo=>open Classical in if F b then Obj.freeze o else o:=by
 simp[fw,Array.getElem?_mapIdx]
def jq (F:Nat->Prop)(W:World):(fw F W).heap.size=W.heap.size:=by simp[fw]
def gb {b:Nat}{cs:Array Value}{e:TypeId}{z:Nat×Nat}(h:W.heap[b]?=some (.cells cs e z)):∃z',(fw F W).heap[b]?=some (.cells cs e z')/\(F b->z'=(0,cs.size))/\(¬F b->z'=z):=by
 rw[Ar,h];simp only[Option.map_some];by_cases hf:F b
 .rw[if_pos hf];exact⟨_,rfl,λ_=>rfl,λx=>absurd hf x⟩
 .rw[if_neg hf];exact⟨_,rfl,λx=>absurd x hf,λ_=>rfl⟩
def rk (F:Nat->Prop)(W:World)(a:Addr):(fw F W).cell? a=W.cell? a:=by
 simp only[World.cell?,Ar];cases h:W.heap[a.block]? with
 |none=>rfl
 |some o=>
  simp only[Option.map_some];by_cases hf:F a.block
  .rw[if_pos hf];cases o<;>rfl
  .rw[if_neg hf]
variable [Gl]
structure qY (ok:Ctx)(S:Nat->Prop)(W:World):Prop where
 at_:∀b,S b->∃cs e,W.heap[b]?=some (.cells cs e (0,0))/\∀v∈cs,ar ok (rG S) v v
def oA {ρ:Ren}(h:∀v∈xs,ar ok ρ v v):ax ok ρ xs xs:=
 ⟨rfl,λi x x' h1 h2=>by rw[h1]at h2;cases h2;exact h x<|Array.mem_of_getElem? h1⟩
def qY.abE (h:qY ok S W)(hg:Gl.n<=W):bO ok false (rG S) (re (fw F W) W.tape W.drawn) W:=by
 refine⟨λb d hb=>?_,rfl,rfl,by show _<=(fw F W).heap.size;rw[jq];exact hg,hg⟩;obtain⟨hs,rfl⟩:=fP.1 hb;let⟨cs,e,h1,h2⟩:=h.at_ b hs;let⟨z',h3,_⟩:=gb (F:=F) h1;exact⟨_,_,h3,h1,.cells (oA h2)<|.inl rfl⟩
def qY.self (h:qY ok S W)(hg:Gl.n<=W):bO ok true (rG S) (fw F W) (fw F W):=by
 refine⟨λb d hb=>?_,rfl,rfl,by rw[jq];exact hg,by rw[jq];exact hg⟩;obtain⟨hs,rfl⟩:=fP.1 hb;let⟨cs,e,h1,h2⟩:=h.at_ b hs;let⟨z',h3,_⟩:=gb (F:=F) h1;exact⟨_,_,h3,h3,.cells (oA h2)<|.inl rfl⟩
omit [Gl] in
def Ah:tG (Frame.enter P0 f xs .normal) []:=by
 intro fr h;simp only[List.getLast?_singleton,Option.some.injEq]at h;subst h;rfl
section
variable {I:World->Prop}{Ro:Nat->Prop}{c:Frame}
 {k:List Item}{o:Oper}{fn:Func}{cd:Code}{args:Array Operand}{Xu:Array TypeId}
structure aac (ok:Ctx)(S Ro M:Nat->Prop)(W:World)(Q:Value->World->Prop)(v':Value)(M':Nat->Prop)(W':World):Prop where
 own:∀b,M b->M' b
 lt:∀b,M' b->b<W'
 new:∀b,M' b->M b\/W.heap.size<=b
 ro:aK Ro W W'
 rest:aK (λb=>M b/\¬S b) W W'
 res:∃σ v V',ar ok σ v v'/\Q v V'/\bO ok false σ V' W'/\(∀b,S b->σ b=some b)/\(∀b d,σ b=some d->(S b/\b=d)\/W.heap.size<=d)/\sB σ V' M' Ro
def ET.F5 (eG:dM P0 P0 ok)(hP:dM P0 P ok)(iv:∀f,ok.fn f=true->ok.bh f=true)(hF:jE P0 c)
  (ho:ops[i]?=some o)(hw:Region.wanted o (yielded ops a.tmps)=true)(hk:b.kind≠.early)(bz:o.op=.call {callee:=.value<|.func f,args,argTypes:=Xu})
  (hf:P.funcs[f]?=some fn)(xh:(fn.name== "runtime.NumGoroutine")=false)(hb:fn.body=some cd)(ez:ok.bh f=true)
  {Sp:Nat->Prop}(hI:H0 Sp I)(tS:∀b,Ro b->Sp b)(hN:yT Sp M W)(Ug:∀b,M b->b<W)(hg:Gl.n<=W)
  (S:Nat->Prop)(Q:World->Value->World->Prop)(hQ:∀W v w τ d,Q W v w->Q W v (re w τ d))(hS:∀b,S b->M b\/Ro b)(Ym:∀ah,aK (λb=>M b\/Ro b) W ah->qY ok S ah)
  (MF:∀x∈args.map a.eval,ar ok (rG S) x x)
  (hC:∀ah,aK (λb=>M b\/Ro b) W ah->I ah->∀τ d,Calls P0 f (args.map a.eval) (re (fw Ro ah) τ d) λe w'=>∃v,e=.returned v/\Q ah v w')
  (Kb:∀ah v' M' W',aK (λb=>M b\/Ro b) W ah->I ah->I W'->aac ok S Ro M ah (Q ah) v' M' W'->ET P m I X Ro Stop M' (G (b.at (a.put o.dst v')<|.inRegion ops rest::k) cs) W'):
  ET P m I X Ro Stop M (G (b.at a<|.inRegion ops (i::rest)::k) cs) W:=by
 refine ET.p rfl λah acP pL=>goes_call ho hw hk bz hf xh hb ⟨eP.stay λe he=>ia,?_⟩
 rw[show grow M ah ah=M from cJ rfl,<-enter_at _ hf hb];have DQ:Gl.n<=ah:=ac8 hg acP.size;have hc:=Ym ah acP;have Uh:∀b,M b->b<ah:=λb hb=>ac6 (Ug b hb) acP.size
 have m8:fJ P0 ok ⟨Frame.enter P0 f (args.map a.eval) .normal,[],fw Ro ah⟩:=⟨rG S,mX eG.toSame ez<|oA MF,.nil,Ah,hc.self DQ⟩;have hH:=FM (Q:=Q ah) eG iv hF m8<|hC ah acP pL;have hIn:jV P0 P ok false c (b.at a (.inRegion ops (i::rest)::k)::cs) (Q ah) (rG S) ⟨Frame.enter P0 f (args.map a.eval) .normal,[],fw Ro ah⟩ (G (Frame.enter P f (args.map a.eval) .normal)<|b.at a (.inRegion ops (i::rest)::k)::cs) ah:=
  ⟨⟨_,[],rfl,mX hP.toSame ez<|oA MF,.nil⟩,Ah,hc.abE DQ,m8,hH,LE eG iv (hQ ah) m8 hH⟩
 have hh:sB (rG S) (re (fw Ro ah) ah.tape ah.drawn) M Ro:=by
  intro x d hx;obtain⟨hs,rfl⟩:=fP.1 hx;rcases hS x hs with h|h
  .exact .inl h
  .let⟨cs',e,h1,_⟩:=hc.at_ x hs;let⟨z',h3,h4,_⟩:=gb (F:=Ro) h1;rw[h4 h]at h3;exact .inr ⟨h,cs',e,h3⟩
 have gD:∀v',(b.at a<|.inRegion ops (i::rest)::k).finish v'=b.at (a.put o.dst v') (.inRegion ops rest::k):=λv'=>by rw[Frame.finish_at,ho];rfl
 refine ET.call eG hP iv (hQ ah) (r0:=b.at a<|.inRegion ops (i::rest)::k) (rest:=cs) (λ{σ v v' V' W' M'} h1 h2 h3 h4 h5 h6 h7 h8 h9 h10 BP h12=>?_) hI tS (hN.rely acP.size) Uh pL hIn hh;rw[gD];refine Kb ah v' M' W' acP pL h10 ⟨h5,BP,h12,h6,h7.mono λx hx=>⟨hx.1,λy e=>hx.2 (by have:=fP.1 e;exact this.2▸this.1)⟩,σ,v,V',h1,h2,h3,λx hx=>h8 _ _<|fP.2 ⟨hx,rfl⟩,λx d hx=>(h9 x d hx).imp (λe=>fP.1 e) id,h4⟩
end
end
