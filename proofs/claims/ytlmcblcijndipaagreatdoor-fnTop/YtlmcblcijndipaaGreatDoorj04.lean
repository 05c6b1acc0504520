import Derived.Test.YtlmcblcijndipaaGreatDoorj03
import Derived.Conc.WgGenN3
import Derived.Conc.CompanyDraw
import Derived.Below
set_option linter.unusedVariables false
set_option linter.defProp false
namespace Go.Proofs.YtlmcblcijndipaaGreatDoor
open Conc RowKit
variable {Anch:(Nat->Prop)->(Nat->Prop)->Goroutine->World->Prop}{Stop:(Nat->Prop)->Goroutine->World->Prop}{a:Act}{l:Array Bool}{es:Array Event}{gs:Array Goroutine}{ops:Array Oper}{xs:Array Value}{m:Bool}{x y:Code}{ok:Ctx}{X:Event->Prop}{b:Frame}{f:FuncId}{g g':Goroutine}{cs:List Frame}{rest:List Nat}{an:Loc->Prop}{cm d i:Nat}{q:Nat->Nat}{F M M' S V:Nat->Prop}{sl:Option (Nat×Nat)}{P P0:Program}{t u:Trace}{W w:World}
section
open ConcN (CT Apart Ok0 OkW RelBy PermW sumTo sumTo_upd sumTo_upd_out sumTo_congr sumTo_le le_sumTo upd WgLive RW DWs AtR0 WSit CTag WD Vc Vc_le Vc_upd cnt pend phi phi_mono phi_retag PayAt Has upd_same upd_ne get_map_set get_map_set_same OpenSt AllQuit isOpen isFin isW3)
open ConcR (stA smA WgAt KK rd wr g_of_ofEvents Bk bk_of_mute)
namespace Ph
variable {p:Ph}{Fin:(Nat->Prop)->(Nat->Prop)->Goroutine->World->Prop}{G:Gh}
def Lt4.Iy {μ μ' μ'':Nat×(Nat->Rk)×Rk×Nat}(h:Lt4 p μ μ')(h':μ'.1<μ''.1):Lt4 p μ μ'':=by
 let⟨a,b⟩:=μ;let⟨a',b'⟩:=μ';let⟨a'',b''⟩:=μ'';cases h with
 |left _ _ h=>exact Prod.Lex.left _ _ (Nat.lt_trans h h')
 |right _ h=>exact Prod.Lex.left _ _ h'
def Inv.Y' (hR:p.jC)(cG:Geo p an)(hS:∀l,an l->l.low cm)(hn:p.n<2147483647)(L9:1<=p.n)(SZ:∀Ro M g W,Anch Ro M g W->p.I W->ET p.P true p.I p.dE Ro (p.AtW1 Fin Anch Ro) M g W)
  (h:p.Inv an cm Fin Anch G t)(eb:G.a.status=.running):
  (∃gs w sl ops a Ro M seq vs Mr,runT p.P (crowd G.gs G.w G.sl) 0=(.next<|crowd gs w sl,ops)/\p.Out an Fin gs w (t++ops) a Ro M seq vs Mr)\/
  p.Nx an cm Fin Anch G t 0:=by
 have Ks:Aside p.Wg G.w G.w:=.refl _ _;have evm:∀m,(m=.disable\/m=.enable\/(∃a,m=.releaseMerge a)\/∃a,m=.acquire a)->∀e∈#[Go.ConcR.mk m],p.EvS e:=λm hm e he=>by simp at he;subst he;exact .inl ⟨m,rfl,hm⟩
 have evr:∀e∈#[rd<|stA p.Wg],p.EvS e:=λe he=>by simp at he;subst he;exact .inr ⟨_,_,rfl,.inl rfl⟩
 have evw:∀e∈#[rd<|stA p.Wg,wr<|stA p.Wg],p.EvS e:=λe he=>by simp at he;rcases he with rfl|rfl<;>exact .inr ⟨_,_,rfl,.inl rfl⟩
 have hVj:=Vc_le G.j<|bK G.D;have F2:=h.jn;have hV:Vc G.j (bK G.D)<=p.n:=ac6 hVj F2;have Yw:∀(G:Gh) (_:p.Inv an cm Fin Anch G t) (_:G.tag=.w1) (_:G.j=p.n) (_:Deaf t 0=1) (_:PT p.P true p.I p.dE (G.Ro 0) (p.AtW1 Fin Anch<|G.Ro 0) G.ρ (G.M 0) G.a G.w) (_:G.x=0),
   p.Nx an cm Fin Anch G t 0:=by
  intro G h gH hj hd td hx;rcases td.cases with du|⟨fr,hr,_,cZ⟩
  .let⟨_,de⟩:=du G.w (aO.refl _ _) h.I;have hm:=h.mode;rw[gH]at hm;let⟨ho,e1,e2,_⟩:=oA hm trivial;have jU:=h.wg;rw[e1,e2]at jU;have hV:Vc G.j (bK G.D)<=p.n:=ac6 (Vc_le _ _) h.jn;let⟨g',hgo,h0,h1⟩:=de (Vc G.j<|bK G.D) ab (by simpa[pend]using jU);by_cases hv:Vc G.j (bK G.D)=0
   .let⟨ρ',hp⟩:=h0 hv;refine h.o0 hR cG hS hgo (.refl _ _) h.wg evr hd rfl (tag':=.ke) (by rw[hj];exact .ke hp) ?_<|.inl wU;rw[e1,e2];have:(((Vc G.j (bK G.D)+pend .w1:Nat):Int)*KK)=0:=by rw[hv];simp[pend]
    rw[this];exact .fin trivial (CY ho hv)
   .let⟨ρ',hp⟩:=h1 hv;exact h.o0 hR cG hS hgo (.refl _ _) h.wg evr hd rfl (tag':=.w2<|Vc G.j<|bK G.D) (by rw[hj]at hp⊢;exact .w2 hp) (kD hm trivial trivial rfl λvs e=>by cases e;exact⟨ac3 _,ab⟩)<|.inl wU
  .let⟨g',w',es,hgo,hp,hn⟩:=cZ G.w (aO.refl _ _) h.I;exact h.pd hR cG hS hgo hp hd (by rw[gH,hx,hj];exact .w1 hn) (by rw[hr];exact⟨_,rfl⟩)
 have hs:=h.WQ;have hI:=h.I;generalize gH:G.tag=tag at hs;generalize hj:G.j=j at hs;generalize zt:G.ρ=ρ at hs;generalize hx:G.x=x at hs;generalize hd:Deaf t 0=d at hs;generalize L4:G.Ro 0=R0 at hs;generalize I5:G.M 0=M0 at hs;generalize ha:G.a=a at hs;generalize hw:G.w=w at hs;have hm:=h.mode;have jU:=h.wg;rw[gH]at hm;cases hs with
 |@skd r _ _ _ _ _ hr td=>
  subst zt L4 I5 ha hw;rcases td.cases with du|⟨fr,NV,_,cZ⟩
  .let⟨_,g',hgo,ρ',hp⟩:=du _ (aO.refl _ _) hI;exact .inr<|h.o0 hR cG hS hgo Ks jU (evm _<|.inl rfl) hd rfl (tag':=.sp r 4) (by rw[hj];exact .sa1 hr hp) (kD hm trivial trivial rfl (λvs e=>by cases e))<|.inl wU
  .let⟨g',w',es,hgo,hp,hn⟩:=cZ _ (aO.refl _ _) hI;exact .inr (h.pd hR cG hS hgo hp hd (by rw[gH,hx,hj];exact .skd hr hn) wV)
 |@sa1 r _ _ _ _ _ hr td=>
  subst zt L4 I5 ha hw;rcases td.cases with du|⟨fr,NV,_,cZ⟩
  .let⟨_,de⟩:=du _ (aO.refl _ _) hI;let⟨ho,e1,e2,_⟩:=oA hm trivial;rw[e1,e2]at jU;let⟨g',hgo,ρ',hp⟩:=de (Vc G.j<|bK G.D) ab (by simpa[pend]using jU);refine .inr<|h.o0 hR cG hS hgo (aside_setCell _ (stA p.Wg) _) (jU.setSt _) evw hd (d':=1) (by simp[deafBehind,rd,wr]) (tag':=.sp r 3) (by have hs:=fY.ske (Fin:=Fin) hr hp;rw[<-hj]at hs;exact hs) ?_<|.inl wU;have h3:=Go.ConcN.Mode.opn (D:=bK G.D) (j:=G.j) (tag:=.sp r 3) trivial ho (λvs e=>by cases e);have e3:((Vc G.j (bK G.D)+pend (.sp r 3):Nat):Int)=(Vc G.j (bK G.D):Int)+1:=by simp[pend]
   rw[e3]at h3;exact h3
  .let⟨g',w',es,hgo,hp,hn⟩:=cZ _ (aO.refl _ _) hI;exact .inr (h.pd hR cG hS hgo hp hd (by rw[gH,hx,hj];exact .sa1 hr hn) wV)
 |@ske r _ _ _ _ _ hr td=>
  subst zt L4 I5 ha hw;rcases td.cases with du|⟨fr,NV,_,cZ⟩
  .let⟨_,g',hgo,ρ',hp⟩:=du _ (aO.refl _ _) hI;exact .inr<|h.o0 hR cG hS hgo Ks jU (evm _<|.inr<|.inl rfl) hd rfl (tag':=.sp r 2) (by rw[hj];exact .sgo hr hp) (kD hm trivial trivial rfl (λvs e=>by cases e))<|.inl wU
  .let⟨g',w',es,hgo,hp,hn⟩:=cZ _ (aO.refl _ _) hI;exact .inr (h.pd hR cG hS hgo hp hd (by rw[gH,hx,hj];exact .ske hr hn) wV)
 |@sgo r _ _ _ _ _ hr td=>
  subst zt L4 I5 ha hw;rcases td.cases with du|⟨fr,NV,_,cZ⟩
  .exact .inr (h.spawn cG hr gH hj hd<|du _ (aO.refl _ _) hI)
  .let⟨g',w',es,hgo,hp,hn⟩:=cZ _ (aO.refl _ _) hI;exact .inr (h.pd hR cG hS hgo hp hd (by rw[gH,hx,hj];exact .sgo hr hn) wV)
 |kd td=>
  subst zt L4 I5 ha hw;rcases td.cases with du|⟨fr,NV,_,cZ⟩
  .let⟨_,g',hgo,ρ',hp⟩:=du _ (aO.refl _ _) hI;exact .inr<|h.o0 hR cG hS hgo Ks jU (evm _<|.inl rfl) hd rfl (tag':=.anch) (by rw[hj];exact .anch hp) (kD hm trivial trivial rfl (λvs e=>by cases e))<|.inl wU
  .let⟨g',w',es,hgo,hp,hn⟩:=cZ _ (aO.refl _ _) hI;exact .inr (h.pd hR cG hS hgo hp hd (by rw[gH,hx,hj];exact .kd hn) wV)
 |anch td=>
  subst zt L4 I5 ha hw;rcases td.cases with du|⟨fr,NV,_,cZ⟩
  .let⟨ρ',hp⟩:=SZ _ _ _ _ (du _ (aO.refl _ _) hI) hI;have h':p.Inv an cm Fin Anch {G with tag:=.w1,ρ:=ρ',x:=0} t:=⟨h.size,h.jn,h.main,by rw[hd];show p.fY Fin Anch .w1 G.j ρ' 0 1 (G.Ro 0) (G.M 0) G.a G.w;rw[hj];exact .w1 hp,h.wk,h.old,h.above,h.iJ,h.tr,h.wg,h.tk,h.bs,kD (tag':=.w1) hm trivial trivial rfl (λvs e=>by cases e),h.fact,h.UM,h.bound⟩;let⟨acP,ops,μ',h1,h2,h3⟩:=Yw _ h' rfl hj hd hp rfl;refine .inr ⟨acP,ops,μ',h1,h2.Iy ?_,h3⟩;show phi p.n _ .w1+_+_<phi p.n _ G.tag+_+_;rw[gH];simp only[phi];omega
  .let⟨g',w',es,hgo,hp,hn⟩:=cZ _ (aO.refl _ _) hI;exact .inr (h.pd hR cG hS hgo hp hd (by rw[gH,hx,hj];exact .anch hn) wV)
 |w1 td=>
  subst zt L4 I5 ha hw;exact .inr (Yw G h gH hj hd td hx)
 |w2 td=>
  subst zt L4 I5 ha hw;rename_i vs;rcases td.cases with du|⟨fr,NV,_,cZ⟩
  .let⟨_,de⟩:=du _ (aO.refl _ _) hI;let⟨ho,e1,e2,hvs⟩:=oA hm trivial;let⟨P5,f_⟩:=hvs vs rfl;rw[e1,e2]at jU;let⟨aa3,ZD⟩:=de (Vc G.j<|bK G.D) ab (by simpa[pend]using jU);by_cases hv:Vc G.j (bK G.D)=vs
   .let⟨g',hgo,ρ',hp⟩:=aa3 hv;refine .inr<|h.o0 hR cG hS hgo (aside_setCell _ (stA p.Wg) _) (jU.setSt _) evw hd (d':=1) (by simp[deafBehind,rd,wr]) (tag':=.w3) (by have hs:=fY.w3 (Anch:=Anch) hp;rw[<-hj]at hs;exact hs) (.reg trivial ho ab)<|.inl wU
   .let⟨g',hgo,ρ',hp⟩:=ZD hv;exact .inr<|h.o0 hR cG hS hgo Ks h.wg evr hd rfl (tag':=.anch) (by rw[hj];exact .anch hp) (kD hm trivial trivial rfl (λvs e=>by cases e))<|.inl wU
  .let⟨g',w',es,hgo,hp,hn⟩:=cZ _ (aO.refl _ _) hI;exact .inr (h.pd hR cG hS hgo hp hd (by rw[gH,hx,hj];exact .w2 hn) wV)
 |w3 td=>
  subst zt L4 I5 ha hw;rcases td.cases with du|⟨fr,NV,_,cZ⟩
  .let⟨TI,hof,pa,hup⟩:=du _ (aO.refl _ _) hI;have block:∀st,WgAt p.ty p.Wg G.w st 0->Go.ConcN.Mode G.j (bK G.D) .blk G.st G.sm->p.Nx an cm Fin Anch G t 0:=λst de hmb=>
    h.o0 hR cG hS (pa ⟨st,de⟩) Ks jU aG hd rfl (tag':=.blk) (by rw[hj];exact .blk TI hof td du) hmb (.inr ⟨by rw[gH];rfl,rfl,ab⟩)
   generalize de:G.st=st at hm jU block;generalize hsm:G.sm=sm at hm jU block;cases hm with
   |opn x=>exact x.elim
   |reg _ h2 h3=>exact .inr (block _ jU<|.reg trivial h2 h3)
   |last L _ h2 h3 h4=>exact .inr (block _ jU<|.last L trivial h2 h3 h4)
   |sema hq=>
    let⟨g',hgo,ρ',hp⟩:=hup jU;refine .inr<|h.o0 hR cG hS hgo (aside_setCell _ (smA p.Wg) _) (jU.setSm 0) ?_ hd (d':=1) (by simp[deafBehind,semEvents]) (tag':=.w4) (by rw[hj];exact .w4 hp) (.fin trivial hq)<|.inl wU;intro e he;simp[semEvents]at he;rcases he with rfl|rfl|rfl|rfl
    .exact .inl ⟨_,rfl,.inl rfl⟩
    .exact .inr ⟨_,_,rfl,.inl rfl⟩
    .exact .inr ⟨_,_,rfl,.inl rfl⟩
    .exact .inl ⟨_,rfl,.inr<|.inl rfl⟩
   |fin x=>exact x.elim
  .let⟨g',w',es,hgo,hp,hn⟩:=cZ _ (aO.refl _ _) hI;exact .inr (h.pd hR cG hS hgo hp hd (by rw[gH,hx,hj];exact .w3 hn) wV)
 |blk _ _ _ _=>rw[ha]at eb;cases eb
 |w4 td=>
  subst zt L4 I5 ha hw;rcases td.cases with du|⟨fr,NV,_,cZ⟩
  .let⟨_,de⟩:=du _ (aO.refl _ _) hI;let⟨hq,e1,e2⟩:=pV hm trivial;let⟨g',hgo,ρ',hp⟩:=de (by rw[e1,e2]at jU;exact jU);exact .inr<|h.o0 hR cG hS hgo Ks jU evr hd rfl (tag':=.ke) (by rw[hj];exact .ke hp) (by rw[e1,e2];exact .fin trivial hq)<|.inl wU
  .let⟨g',w',es,hgo,hp,hn⟩:=cZ _ (aO.refl _ _) hI;exact .inr (h.pd hR cG hS hgo hp hd (by rw[gH,hx,hj];exact .w4 hn) wV)
 |ke td=>
  subst zt L4 I5 ha hw;rcases td.cases with du|⟨fr,NV,_,cZ⟩
  .let⟨_,g',hgo,ρ',hp⟩:=du _ (aO.refl _ _) hI;let⟨hq,e1,e2⟩:=pV hm trivial;exact .inr<|h.o0 hR cG hS hgo Ks jU (evm _<|.inr<|.inl rfl) hd rfl (tag':=.acq) (by rw[hj];exact .acq hp) (by rw[e1,e2];exact .fin trivial hq)<|.inl wU
  .let⟨g',w',es,hgo,hp,hn⟩:=cZ _ (aO.refl _ _) hI;exact .inr (h.pd hR cG hS hgo hp hd (by rw[gH,hx,hj];exact .ke hn) wV)
 |acq td=>
  subst zt L4 I5 ha hw;rcases td.cases with du|⟨fr,NV,_,cZ⟩
  .let⟨_,g',hgo,gN⟩:=du _ (aO.refl _ _) hI;let⟨gs,seq,vs,Mr,h1,h2⟩:=h.over cG L9 gH hj hd hgo gN;exact .inl ⟨gs,_,_,_,g',_,_,seq,vs,Mr,h1,h2⟩
  .let⟨g',w',es,hgo,hp,hn⟩:=cZ _ (aO.refl _ _) hI;exact .inr<|h.pd hR cG hS hgo hp hd (by rw[gH,hx,hj];exact .acq hn) wV
end Ph
namespace Ph
variable {p:Ph}{Fin:(Nat->Prop)->(Nat->Prop)->Goroutine->World->Prop}{G:Gh}
def fY.bound {tag:CTag}{j x:Nat}{ρ:Rk}{Ro:Nat->Prop}{a:Goroutine}(h:p.fY Fin Anch tag j ρ x d Ro M a w):j+pend tag<=p.n:=by
 cases h<;>simp only[pend]<;>(try simp)<;>omega
def Inv.awake (n8:∀Ro M g W,Anch Ro M g W->g.status=.running)(h:p.Inv an cm Fin Anch G t):∀g∈G.gs,Go.Conc.awake g:=by
 intro g hg;let⟨i,hi⟩:=Array.mem_iff_getElem?.1 hg;rcases adh i with rfl|gO
 .rw[h.main]at hi;cases hi;exact awake_of ((h.WQ.status n8 h.I).imp (·.1) λx=>.inl x.1)
 .rcases adb i p.J with ay|tR
  .let⟨g',q,h1,h2,_⟩:=h.old i gO ay;rw[hi]at h1;cases h1;exact awake_of<|h2.status.imp id .inr
  .have ay:i-p.J<G.j:=by have:=(ac5.1 hi).1;rw[h.size]at this;omega
   let⟨g',h1,h2⟩:=h.wk (i-p.J) ay;rw[show p.J+(i-p.J)=i by omega,hi]at h1;cases h1;exact awake_of<|(h2.status h.I).imp id λx=>.inr x.1
def Inv.Sf (n8:∀Ro M g W,Anch Ro M g W->g.status=.running)(h:p.Inv an cm Fin Anch G t):∃(i:Nat) (g:Goroutine),G.gs[i]?=some g/\g.status=.running:=by
 have wk:∀i,i<G.j->(G.D i).stage≠1->∃(i:Nat) (g:Goroutine),G.gs[i]?=some g/\g.status=.running:=λi hi hs=>by
  let⟨g,h1,h2⟩:=h.wk i hi;exact⟨_,g,h1,(h2.status h.I).resolve_right λx=>hs x.2⟩
 rcases h.WQ.status n8 h.I with⟨hs,_⟩|⟨_,gH⟩
 .exact⟨0,_,h.main,hs⟩
 .have hm:=h.mode;rw[gH]at hm;generalize G.st=st at hm;generalize G.sm=sm at hm;cases hm with
  |opn x=>exact x.elim
  |reg _ _ h3=>
   let⟨i,hi,h5⟩:=Go.ConcN.exists_counted h3;exact wk i hi (by simp only[bK]at h5;omega)
  |last L _ h2 h3 _=>exact wk L h2 (by simp only[bK]at h3;omega)
  |fin x=>exact x.elim
def La (hR:p.jC)(cG:Geo p an)(hS:∀l,an l->l.low cm)(hn:p.n<2147483647)(L9:1<=p.n)(hL:p.L+p.n<4611686018427387904)(n8:∀Ro M g W,Anch Ro M g W->g.status=.running)
  (SZ:∀Ro M g W,Anch Ro M g W->p.I W->ET p.P true p.I p.dE Ro (p.AtW1 Fin Anch Ro) M g W):
  ∀(μ:Nat×(Nat->Rk)×Rk×Nat) (m:Machine) (t:Trace),p.Qr an cm Fin Anch μ m t->
   ∃N gs w sl t' a Ro M seq vs Mr,runNT p.P N m t=(.next<|crowd gs w sl,t')/\p.Out an Fin gs w t' a Ro M seq vs Mr:=by
 intro μ;induction μ using(Lt4.wf p).induction with
 |_ μ ih=>
  rintro m t ⟨G,rfl,rfl,h⟩;let⟨i,g,d,kx,hi,hg,de⟩:=crowd_pick (P:=p.P) (w:=G.w) (sl:=G.sl) (h.awake n8)<|h.Sf n8;have h':=h.at hR d kx;have hJ:=cG.J1;have go:(∃acP ops μ',runT p.P (crowd G.gs (G.w.at d) kx) i=(.next acP,ops)/\Lt4 p μ' (G.μ p)/\p.Qr an cm Fin Anch μ' acP (t++ops))->
    ∃N gs w sl t' a Ro M seq vs Mr,runNT p.P N (crowd G.gs G.w G.sl) t=(.next<|crowd gs w sl,t')/\p.Out an Fin gs w t' a Ro M seq vs Mr:=by
   rintro⟨acP,ops,μ',h1,h2,h3⟩;let⟨N,gs,w,sl,t',a,Ro,M,seq,vs,Mr,h4,h5⟩:=ih μ' h2 acP _ h3;exact⟨N+1,gs,w,sl,t',a,Ro,M,seq,vs,Mr,by simp only[runNT,de,h1];exact h4,h5⟩
  rcases adh i with rfl|gO
  .have ha:G.a.status=.running:=by rw[h.main]at hi;cases hi;exact hg
   rcases h'.Y' hR cG hS hn L9 SZ ha with⟨gs,w,sl,ops,a,Ro,M,seq,vs,Mr,h1,h2⟩|h1
   .have pn:runT p.P (crowd G.gs (G.w.at d) kx) 0=(.next<|crowd gs w sl,ops):=h1;exact⟨1,gs,w,sl,_,a,Ro,M,seq,vs,Mr,by simp only[runNT,de,pn],h2⟩
   .exact go h1
  .rcases adb i p.J with ay|tR
   .exact go (h'.X_ hR cG n8 gO ay hi hg)
   .have kq:i-p.J<G.j:=by have:=(ac5.1 hi).1;rw[h.size]at this;omega
    obtain⟨k,rfl⟩:∃k,i=p.J+k:=⟨i-p.J,ab⟩;have hk:k<G.j:=ab;let⟨g',h1,h2⟩:=h'.wk k hk;obtain rfl:g=g':=by rw[show G.gs[p.J+k]?=some g from hi]at h1;exact ac9 h1
    have hb:=h'.WQ.bound;change p.WS k (G.Ro<|k+1) (G.D k) (G.R<|p.J+k) (Deaf t<|p.J+k) (G.M<|k+1) g (G.w.at d)at h2;generalize hD:G.D k=pl at h2;generalize zt:G.R (p.J+k)=ρ at h2;generalize hd:Deaf t (p.J+k)=dd at h2;cases h2 with
    |je hp=>exact go (h'.U3 hR cG hS n8 hL hk hD hi hd<|by rw[show Gh.R _ (p.J+k)=_ from zt];exact hp)
    |put hp=>exact go (h'.abC hR cG hS n8 hk hD hi hd<|by rw[show Gh.R _ (p.J+k)=_ from zt];exact hp)
    |lib hC hr hw=>exact go<|h'.abt hR cG hS n8 hn hk hD hi hg hd hC hr zt hb hw
end Ph
end
section
open ConcN (sumTo upd sumTo_upd upd_ne upd_same)
open ConcR (g_of_ofEvents)
section
variable {B:Nat}
def lV.mono {B':Nat}(h:lV an B t)(hB:B<=B'):lV an B' t:=⟨h.clean,h.known,h.over,h.hears,λi a ha=>Loc.low_mono hB<|h.seen i a ha,h.quiet,h.mem⟩
def lV.app0 (h:lV an B t)(hu:∀op∈u,op.g=0)(hs:∀op∈u,∀b,op.act.touch?=some b->b.kind=.plain/\¬an b.loc/\b.loc.low B/\b.loc.isMemory=true)(hd:Deaf (t++u) 0=Deaf t 0):lV an B (t++u):=by
 have split:∀{i:Nat} {a:Touch},touchAt (t++u) i=some a->touchAt t i=some a\/∃op∈u,(t++u)[i]?=some op/\op.act.touch?=some a:=by
  intro i a ha;let⟨x,hx,VU⟩:=touch_of ha;rcases getElem?_append_cases hx with⟨_,dK⟩|⟨_,hxu⟩
  .exact .inl (by rw[touchAt_of dK];exact VU)
  .exact .inr ⟨x,hxu,hx,VU⟩
 refine⟨λsaid=>noRace_append (h.clean said) hu λi a ha op bp b hb hc=>?_,λi a ha=>?_,handedOver_app h.over λop bp=>.inl<|hu op bp,hd.trans h.hears,λi a ha=>?_,h.quiet.app λop bp x hx hsx=>absurd hsx (hs op bp x hx).2.1,λi a ha=>?_⟩
 .exact(h.known i a ha).resolve_right λx=>(hs op bp b hb).2.1<|hc.1▸x.1
 .rcases split ha with h1|⟨op,bp,h1,h2⟩
  .exact(h.known i a h1).imp (·.app u) id
  .have:=knows_own h1;rw[hu op bp]at this;exact .inl this
 .rcases split ha with h1|⟨op,bp,h1,h2⟩
  .exact h.seen i a h1
  .exact(hs op bp a h2).2.2.1
 .rcases split ha with h1|⟨op,bp,h1,h2⟩
  .exact h.mem i a h1
  .exact(hs op bp a h2).2.2.2
def lV.appMute {g:Nat}(h:lV an B t)(hg:g≠0)(hu:∀op∈u,op.g=g)(hn:∀op∈u,op.act.touch?=none):lV an B (t++u):=by
 have old:∀{i:Nat} {a:Touch},touchAt (t++u) i=some a->touchAt t i=some a:=by
  intro i a ha;let⟨x,hx,VU⟩:=touch_of ha;rcases getElem?_append_cases hx with⟨_,dK⟩|⟨_,hxu⟩
  .rw[touchAt_of dK];exact VU
  .rw[hn x hxu]at VU;cases VU
 exact⟨λsaid=>noRace_append (h.clean said) hu λi a _ op bp b hb _=>(by rw[hn op bp]at hb;cases hb),λi a ha=>(h.known i a<|old ha).imp (·.app u) id,handedOver_app h.over λop bp=>.inr<|hn op bp,(Deaf_other t hg u hu).trans h.hears,λi a ha=>h.seen i a<|old ha,h.quiet.app λop bp x hx=>(by rw[hn op bp]at hx;cases hx),λi a ha=>h.mem i a<|old ha⟩
end
section
variable {Ro:Nat->Prop}{I:World->Prop}
structure dJ (P:Program)(an:Loc->Prop)(V Ro M:Nat->Prop)(gs:Array Goroutine)(a:Goroutine)(w:World)(t:Trace)(q:Nat->Nat):Prop where
 main:gs[0]?=some a
 quit:Leavers P t gs q
 past:lV an w.heap.size t
 who:∀(i:Nat) (op:MemOp),t[i]?=some op->op.g<gs.size
 lt:∀b,M b\/Ro b->b<w
 kw:∀b,M b\/Ro b->∀l,fA (·=b) l->¬an l
 low:∀l,an l->l.low w.heap.size
 un:∀i a,touchAt t i=some a->¬fA V a.loc
 Md:∀b,V b->b<w
 vm:∀b,V b->¬M b/\¬Ro b
def JY {n g:Nat}(h:∀(i:Nat) (op:MemOp),t[i]?=some op->op.g<n)(hu:∀op∈u,op.g=g)(hg:g<n):∀(i:Nat) (op:MemOp),(t++u)[i]?=some op->op.g<n:=by
 intro i op hi;rcases getElem?_append_cases hi with⟨_,nJ⟩|⟨_,Zs⟩
 .exact h i op nJ
 .rw[hu op Zs];exact hg
def dJ.own {a a':Goroutine}{w':World}(h:dJ P an V Ro M gs a w t q)(hp:eU Ph.nO M Ro w w' es):
  dJ P an V Ro (grow M w w') ((gs.map<|woken P a a' w').setIfInBounds 0 a') a' w' (t++MemOp.ofEvents 0 a.frame.fn a.frame.place es) q:=by
 have gO:0<gs.size:=(ac5.1 h.main).1;have hg:∀b,grow M w w' b\/Ro b->b<w':=λb hb=>by
  rcases hb with(hb|⟨_,hb⟩)|hb
  .exact ac4 (h.lt b<|.inl hb) hp.size
  .exact hb
  .exact ac4 (h.lt b<|.inr hb) hp.size
 have lh:∀b,grow M w w' b\/Ro b->∀l,fA (·=b) l->¬an l:=λb hb l hl hx=>by
  rcases hb with(hb|⟨hb,_⟩)|hb
  .exact h.kw b (.inl hb) l hl hx
  .exact hl.RK hb (h.low l hx)
  .exact h.kw b (.inr hb) l hl hx
 refine⟨by simp[gO],⟨λj x hj hx=>?_,λj hj=>?_⟩,?_,?_,hg,lh,λl hl=>Loc.low_mono hp.size<|h.low l hl,λi x hx hv=>?_,λb hb=>ac4 (h.Md b hb) hp.size,λb hb=>⟨λhx=>hx.elim (h.vm b hb).1 λy=>absurd (h.Md b hb)<|Nat.not_lt.2 y.1,(h.vm b hb).2⟩⟩
 .rw[Array.getElem?_setIfInBounds_ne ab,Array.getElem?_map]at hx;obtain⟨y,hy,rfl⟩:=adn.1 hx;have hq:=h.quit.old j y hj hy;rw[woken_quitsD hq,Deaf_other t (g':=0) ab _ g_of_ofEvents];exact hq
 .have hj':gs.size<=j:=by simpa using hj
  rw[Deaf_other t (g':=0) ab _ g_of_ofEvents];exact h.quit.above j hj'
 .refine(h.past.mono hp.size).app0 g_of_ofEvents (λop bp b hb=>?_) ?_
  .obtain⟨e,he,rfl⟩:=Go.Conc.mem_ofEvents bp;let⟨h1,h2,h3⟩:=Ph.jz (hp.ev e he) (λy=>y.elim) hb;have h4:fA (λb=>grow M w w' b\/Ro b) b.loc:=h3.elim (λx=>x.mono λ_ y=>.inl y) λx=>x.1.mono λ_ y=>.inr y
   let⟨b',dt,hl⟩:=h4.some;exact⟨h1,lh b' dt _ hl,h4.low hg,h2⟩
  .rw[Deaf_own];exact deafBehind_still (λe he=>⟨Ph.gI (hp.ev e he) (λy=>y.elim) rfl,Ph.gI (hp.ev e he) (λy=>y.elim) rfl⟩) _
 .intro i op hi;have:=JY h.who (g:=0) g_of_ofEvents gO i op hi;simpa using this
 .let⟨op,bp,DB⟩:=touch_of hx;rcases getElem?_append_cases bp with⟨_,rO⟩|⟨_,xK⟩
  .exact h.un i x (by rw[touchAt_of rO];exact DB) hv
  .obtain⟨e,he,rfl⟩:=Go.Conc.mem_ofEvents xK;let⟨_,_,h3⟩:=Ph.jz (hp.ev e he) (λy=>y.elim) DB;let⟨b,hb,hl⟩:=hv.some;rcases h3 with h3|⟨h3,_⟩
   .let⟨b',dt,lZ⟩:=h3.some;obtain rfl:=hl.eq lZ;exact dt.elim (h.vm b hb).1 λy=>absurd (h.Md b hb)<|Nat.not_lt.2 y.1
   .let⟨b',dt,lZ⟩:=h3.some;obtain rfl:=hl.eq lZ;exact(h.vm b hb).2 dt
def dJ.at {a:Goroutine}(h:dJ P an V Ro M gs a w t q)(d:Nat):dJ P an V Ro M gs a (w.at d) t q:=⟨h.main,h.quit,h.past,h.who,h.lt,h.kw,h.low,h.un,h.Md,h.vm⟩
def dJ.awake {a:Goroutine}(h:dJ P an V Ro M gs a w t q)(hr:a.status=.running):∀g∈gs,Go.Conc.awake g:=by
 intro g hg;obtain⟨i,hi,rfl⟩:=Array.mem_iff_getElem.1 hg;rcases adh i with rfl|gO
 .have:gs[0]=a:=by simpa[Array.getElem?_eq_getElem hi]using h.main
  rw[this];exact awake_of<|.inl hr
 .exact awake_of ((h.quit.old i _ gO<|ada hi).status.elim .inl λx=>.inr<|.inr x)
def dJ.slip {a:Goroutine}(h:dJ P an V Ro M gs a w t q)(hr:a.status=.running)(gO:0<i)(hi:gs[i]?=some g)(hg:g.status=.running):
  ∃jK ops q',runT P (crowd gs w sl) i=(.next<|crowd jK w sl,ops)/\jK.size=gs.size/\sumTo gs.size q'<sumTo gs.size q/\dJ P an V Ro M jK a w (t++ops) q':=by
 have hq:=h.quit.old i g gO hi;have F1:(i==0)=false:=cH;have ay:i<gs.size:=(ac5.1 hi).1;cases ZR:q i with
 |zero=>rw[ZR]at hq;rw[hq.1]at hg;cases hg
 |succ k=>
  rw[ZR]at hq;rcases hq with⟨hf,_⟩|⟨_,g',es,hm,abm,VR⟩
  .rw[hf]at hg;cases hg
  have uW:=runT_crowd_go (P:=P) (sl:=sl) (i:=i) hi (by rw[F1];exact abm w);have acw:sumTo gs.size (upd q i k)+(k+1)=sumTo gs.size q+k:=by
   have:=sumTo_upd q k id ay;simpa[ZR]using this
  refine⟨_,_,upd q i k,uW,aG,ab,⟨?_,⟨λj x hj hx=>?_,λj hj=>?_⟩,?_,?_,h.lt,h.kw,h.low,λi' x hx=>?_,h.Md,h.vm⟩⟩
  .rw[Array.getElem?_setIfInBounds_ne ab,Array.getElem?_map,h.main];simp[woken_run hr]
  .by_cases hji:i=j
   .subst hji;rw[Array.getElem?_setIfInBounds_self_of_lt (by simpa using ay)]at hx;obtain rfl:=ac9 hx;rw[upd_same,Deaf_own];exact VR
   .rw[Array.getElem?_setIfInBounds_ne hji,Array.getElem?_map]at hx;obtain⟨y,hy,rfl⟩:=adn.1 hx;have hqj:=h.quit.old j y hj hy;rw[woken_quitsD hqj,upd_ne q k (Ne.symm hji),Deaf_other t hji _ g_of_ofEvents];exact hqj
  .have hj':gs.size<=j:=by simpa using hj
   rw[Deaf_other t (g':=i) ab _ g_of_ofEvents];exact h.quit.above j hj'
  .exact h.past.appMute ab g_of_ofEvents λop bp=>by obtain⟨e,he,rfl⟩:=Go.Conc.mem_ofEvents bp;exact touch_mute<|hm e he
  .intro i' op nJ;have:=JY h.who (g:=i) g_of_ofEvents ay i' op nJ;simpa using this
  .let⟨op,bp,DB⟩:=touch_of hx;rcases getElem?_append_cases bp with⟨_,rO⟩|⟨_,xK⟩
   .exact h.un i' x (by rw[touchAt_of rO];exact DB)
   .obtain⟨e,he,rfl⟩:=Go.Conc.mem_ofEvents xK;rw[touch_mute (hm e he)]at DB;cases DB
def jt (hI:∀w,I w)(r:Rk):
  ∀(n:Nat) (gs:Array Goroutine) (M:Nat->Prop) (a:Goroutine) (w:World) (sl:Option (Nat×Nat)) (t:Trace) (q:Nat->Nat),sumTo gs.size q<=n->dJ P an V Ro M gs a w t q->PT P true I Ph.nO Ro Stop r M a w->
   ∃N jK M' a' w' kx t' q',runNT P N (crowd gs w sl) t=(.next<|crowd jK w' kx,t')/\jK.size=gs.size/\(∀acT,aO (λb=>M' b\/Ro b) w' acT->I acT->Stop M' a' acT)/\dJ P an V Ro M' jK a' w' t' q'/\w.heap.size<=w'.heap.size/\(∀b,M b->M' b)/\(∀b,M' b->M b\/w.heap.size<=b)/\∀b,b<w.heap.size->¬M b->w'.heap[b]?=w.heap[b]?:=by
 induction r using Rk.wf.induction with
 |_ r ihr=>
  intro n;induction n using Nat.strongRecOn with
  |_ n ihn=>
   intro gs M a w sl t q hn h hp;rcases hp.cases with du|⟨f,rfl,eb,cZ⟩
   .exact⟨0,gs,M,a,w,sl,t,q,rfl,rfl,du,h,ac3 _,λ_ h=>h,λ_ h=>.inl h,λ_ _ _=>rfl⟩
   let⟨i,g,d,kx,hi,hg,Z7⟩:=crowd_pick (P:=P) (w:=w) (sl:=sl) (h.awake eb) ⟨0,a,h.main,eb⟩;rcases adh i with rfl|gO
   .obtain rfl:g=a:=by rw[h.main]at hi;exact(ac9 hi).symm
    let⟨a',w',es,hgo,s9,P4⟩:=cZ (w.at d) ⟨λ_ _=>rfl,ac3 _,rfl,rfl⟩<|hI _;have uW:=runT_crowd_go (P:=P) (sl:=kx) (i:=0) hi (show stepG P (0==0) g (w.at d)=_ from hgo);have h':=(h.at d).own (a':=a') s9;let⟨N,jK,M',a'',w'',O2,t',q',h1,h2,h3,h4,h5,h6,h7,h8⟩:=ihr (f<|w.at d) ⟨_,rfl⟩ _ _ _ a' w' kx _ q (ac3 _) h' P4;have hs:w.heap.size<=w':=s9.size;refine⟨N+1,jK,M',a'',w'',O2,t',q',by simp only[runNT,Z7,uW];exact h1,by rw[h2];simp,h3,h4,ac6 hs h5,λb hb=>h6 b<|.inl hb,λb hb=>?_,λb hb hm=>?_⟩
    .rcases h7 b hb with(x|⟨x,_⟩)|x
     .exact .inl x
     .exact .inr x
     .exact .inr (ac6 hs x)
    .rw[h8 b (ac4 hb hs) λx=>x.elim hm λy=>absurd y.1<|Nat.not_le.2 hb];exact s9.keep b hb hm
   .let⟨jK,ops,q',h1,h2,h3,h4⟩:=(h.at d).slip (sl:=kx) eb gO hi hg;let⟨N,U5,M',a'',w'',O2,t',q'',e1,e2,e3,e4,e5,e6,e7,e8⟩:=ihn (sumTo jK.size q') (by rw[h2];omega) jK M a (w.at d) kx _ q' (ac3 _) h4<|hp.rely ⟨λ_ _=>rfl,ac3 _,rfl,rfl⟩;exact⟨N+1,U5,M',a'',w'',O2,t',q'',by simp only[runNT,Z7,h1];exact e1,e2.trans h2,e3,e4,e5,e6,e7,e8⟩
end
end
section
open ConcN (sumTo upd sumTo_upd upd_ne upd_same CTag Vc)
open ConcR (g_of_ofEvents WgAt stA)
section
variable {Ro:Nat->Prop}{a:Goroutine}
def dJ.alloc {Q:Goroutine->World->Prop}(cZ:∀d,∃a' w',stepG P true a (w.at d)=.go a' w' #[]/\w'.heap.size=w.heap.size+1/\(∀b,b<w.heap.size->w'.heap[b]?=w.heap[b]?)/\Q a' w')(hr:a.status=.running):
  ∀(n:Nat) (gs:Array Goroutine) (d:Nat) (sl:Option (Nat×Nat)) (t:Trace) (q:Nat->Nat),sumTo gs.size q<=n->dJ P an V Ro M gs a (w.at d) t q->
   ∃N jK a' w' kx t' q',runNT P N (crowd gs (w.at d) sl) t=(.next<|crowd jK w' kx,t')/\jK.size=gs.size/\Q a' w'/\dJ P an (λb=>V b\/b=w.heap.size) Ro M jK a' w' t' q'/\w'.heap.size=w.heap.size+1/\∀b,b<w.heap.size->w'.heap[b]?=w.heap[b]?:=by
 intro n;induction n using Nat.strongRecOn with
 |_ n ih=>
  intro gs d sl t q hn h;let⟨i,g,d',kx,hi,hg,de⟩:=crowd_pick (P:=P) (w:=w.at d) (sl:=sl) (h.awake hr) ⟨0,a,h.main,hr⟩;rcases adh i with rfl|gO
  .obtain rfl:g=a:=by rw[h.main]at hi;exact(ac9 hi).symm
   let⟨a',w',hgo,jw,hk,hQ⟩:=cZ d';have uW:=runT_crowd_go (P:=P) (w:=(w.at d).at d') (sl:=kx) (i:=0) hi (show stepG P (0==0) g (w.at d')=_ from hgo);have e0:MemOp.ofEvents 0 g.frame.fn g.frame.place #[]=#[]:=by rw[ofEvents_eq,Array.map_empty]
   rw[e0]at uW;have gO:0<gs.size:=(ac5.1 h.main).1;have hle:w.heap.size<=w'.heap.size:=ab;refine⟨1,(gs.map<|woken P g a' w').setIfInBounds 0 a',a',w',kx,t++#[],q,by simp only[runNT,de,uW],by simp,hQ,?_,jw,hk⟩;rw[Array.append_empty];refine⟨by simp[gO],⟨λj x hj hx=>?_,λj hj=>h.quit.above j<|by simpa using hj⟩,h.past.mono hle,by simpa using h.who,λb hb=>ac4 (h.lt b hb) hle,h.kw,λl hl=>Loc.low_mono hle<|h.low l hl,λi x hx hv=>?_,λb hb=>?_,λb hb=>?_⟩
   .rw[Array.getElem?_setIfInBounds_ne (by omega),Array.getElem?_map]at hx;obtain⟨y,hy,rfl⟩:=adn.1 hx;have hq:=h.quit.old j y hj hy;rw[woken_quitsD hq];exact hq
   .let⟨b,hb,hl⟩:=hv.some;rcases hb with hb|rfl
    .exact h.un i x hx (hl.mono λc e=>e▸hb)
    .exact hl.RK (ac3 _) (h.past.seen i x hx)
   .rcases hb with hb|rfl
    .exact ac4 (h.Md b hb) hle
    .omega
   .rcases hb with hb|rfl
    .exact h.vm b hb
    .exact⟨λx=>absurd (h.lt _<|.inl x)<|Nat.lt_irrefl _,λx=>absurd (h.lt _<|.inr x)<|Nat.lt_irrefl _⟩
  .let⟨jK,ops,q',h1,h2,h3,h4⟩:=(h.at d').slip (sl:=kx) hr gO hi hg;let⟨N,U5,a'',w'',O2,t',q'',e1,e2,e3⟩:=ih (sumTo jK.size q') (by rw[h2];omega) jK d' kx _ q' (ac3 _) h4;exact⟨N+1,U5,a'',w'',O2,t',q'',by simp only[runNT,de,h1];exact e1,e2.trans h2,e3⟩
def Uk (P:Program)(Ro:Nat->Prop)(Post:Value->World->Prop)(M:Nat->Prop)(g:Goroutine)(W:World):Prop:=
 g.status=.running/\∃v es,stepG P true g W=.ended (.done v) W es/\(∀e∈es,FX Ph.nO M Ro e)/\Post v W
def dJ.ends {Post:Value->World->Prop}(h:dJ P an V Ro M gs a w t q)(hs:∀d,Uk P Ro Post M a<|w.at d):
  ∃N last o w' t',runNT P (N+1) (crowd gs w sl) t=(.ended o w',t')/\runN P N (crowd gs w sl)=.next last/\step P last=.ended o w'/\Good P Post last o w' t':=by
 refine run_of_inv Nat.lt_wfRel.wf (λμ m t=>∃gs d sl q,m=crowd gs (w.at d) sl/\dJ P an V Ro M gs a (w.at d) t q/\μ=sumTo gs.size q) (Good P Post) ?_ (sumTo gs.size q) _ _ ⟨gs,w.drawn,sl,q,rfl,h,rfl⟩;rintro μ m t ⟨gs,d,sl,q,rfl,h,rfl⟩;have hr:=(hs d).1;let⟨i,g,d',kx,hi,hg,de⟩:=crowd_pick (P:=P) (w:=w.at d) (sl:=sl) (h.awake hr) ⟨0,a,h.main,hr⟩;rcases adh i with rfl|gO
 .obtain rfl:g=a:=by rw[h.main]at hi;exact(ac9 hi).symm
  let⟨_,v,es,kh,XD,fQ⟩:=hs d';have uW:=runT_many_ended (P:=P) (w:=(w.at d).at d') (sl:=kx) (i:=0) hi (show stepG P (0==0) g (w.at d')=_ from kh);have hp:eU Ph.nO M Ro (w.at d') (w.at d') es:=⟨λ_ _ _=>rfl,ac3 _,rfl,rfl,rfl,λe he=>by
   rw[show grow M (w.at d') (w.at d')=M from cK rfl];exact XD e he⟩
  have h':=((h.at d').own (a':=g) hp).past;refine .inl ⟨_,_,_,de.trans uW,v,rfl,fQ,h'.clean,h'.over,⟨λx hx=>?_,rfl⟩,λj x hx hj=>?_⟩
  .let⟨j,hj⟩:=List.mem_iff_getElem?.1 hx;rw[List.getElem?_drop]at hj;exact⟨_,(h.quit.old (1+j) x ab<|by simpa[crowd]using hj).leaves⟩
  .have hq:=h.quit.old j x ab hx;refine⟨q j,?_⟩;have e:(t++MemOp.ofEvents 0 g.frame.fn g.frame.place es).deaf j (t++MemOp.ofEvents 0 g.frame.fn g.frame.place es).size=Deaf t j:=
    Deaf_other t (g:=j) (g':=0) ab _ g_of_ofEvents
   rw[e];exact hq.hears _
 .let⟨jK,ops,q',h1,h2,h3,h4⟩:=(h.at d').slip (sl:=kx) hr gO hi hg;exact .inr ⟨_,_,sumTo jK.size q',de.trans h1,by rw[h2];exact h3,jK,d',kx,q',rfl,h4,rfl⟩
end
end
section
open ConcN (sumTo upd sumTo_upd upd_ne upd_same CTag Vc pend)
open ConcR (g_of_ofEvents WgAt stA KK)
namespace Ph
variable {p:Ph}{Ro:Nat->Prop}{a:Goroutine}{Fin:(Nat->Prop)->(Nat->Prop)->Goroutine->World->Prop}
def start (h:dJ p.P an V Ro M gs a w t q)(hJ:p.J=gs.size)(hT:p.iH=t.size)(YW:V p.Wg)(hV2:V p.tk.block)(hB:p.Bs<w)(hle:∀b,M' b->M b)(DD:∀b,p.Sp b->¬M' b/\¬Ro b)(ZF:∀b,M' b->¬Ro b)
  (jU:WgAt p.ty p.Wg w 0 0)(qU:p.jD w 0)(bz:∃cs,p.qG cs w)(L9:1<=p.n)(hs:p.Spawns Anch p.n Ro M' a w):∃μ,p.Qr an w.heap.size Fin Anch μ (crowd gs w sl) t:=by
 have gO:0<gs.size:=(ac5.1 h.main).1;obtain⟨r,hr⟩:∃r,p.n=r+1:=⟨p.n-1,ab⟩;rw[hr]at hs;let⟨ρ,zt⟩:=hs;let MM:Nat->Nat->Prop:=λi b=>i=0/\M' b
 let RR:Nat->Nat->Prop:=λi b=>i=0/\Ro b
 have m0:MM 0=M':=by funext b;simp[MM]
 have r0:RR 0=Ro:=by funext b;simp[RR]
 let G:Gh:={gs:=gs,w:=w,sl:=sl,j:=0,D:=λ_=>.put [],tag:=.sp r 5,ρ:=ρ,x:=0,a:=a,M:=MM,Ro:=RR,R:=λi=>Rk.nat<|q i,c:=0,st:=0,sm:=0}
 have RG:∀b,M' b\/Ro b->b<w:=λb hb=>h.lt b<|hb.imp (hle b) id
 refine⟨_,G,rfl,rfl,⟨by simp[G,hJ],ac8 _,h.main,?_,λi hi=>absurd hi<|ac7 i,λi h0 hi=>?_,λk hk=>h.quit.above k (by rw[<-hJ];exact hk),⟨?_,?_,?_,?_,?_,?_,ac3 _⟩,?_,jU,qU,bz,?_,λi hi=>absurd hi<|ac7 i,λx _ hx=>absurd hx<|ac7 x,ac8 _⟩⟩
 .show p.fY Fin Anch (.sp r 5) 0 ρ 0 (Deaf t 0) (RR 0) (MM 0) a w;rw[h.past.hears,m0,r0];have e:p.n-(r+1)=0:=ab;have:=fY.skd (p:=p) (Fin:=Fin) (Anch:=Anch) (r:=r) ab zt;rw[e]at this;exact this
 .have ay:i<gs.size:=by rw[<-hJ];exact hi
  exact⟨gs[i],q i,ada ay,h.quit.old i _ h0<|ada ay,rfl⟩
 .rintro i k hne b ⟨rfl,_⟩ ⟨rfl,_⟩;exact hne rfl
 .rintro i k b ⟨rfl,h1⟩ ⟨rfl,h2⟩;exact ZF b h1 h2
 .intro i b hb;exact⟨λx=>(DD b hb).1 x.2,λx=>(DD b hb).2 x.2⟩
 .rintro i b (hb|hb)
  .exact RG b (.inl hb.2)
  .exact RG b (.inr hb.2)
 .rintro b (rfl|rfl|rfl)
  .exact h.Md _ YW
  .exact h.Md _ hV2
  .exact hB
 .rintro i b (hb|hb) l hl
  .exact h.kw b (.inl<|hle b hb.2) l hl
  .exact h.kw b (.inr hb.2) l hl
 .rw[hT];refine h.past.tr (λl hl=>?_) (λl hl=>.inl hl) (λi op hi=>by rw[hJ];exact h.who i op hi) (by show p.J-1+0+1=p.J;omega) λk l hk=>⟨λx=>absurd x.1 ab,λx=>absurd x.1 ab⟩;rcases hl with hl|⟨a,rfl,hl⟩
  .exact .inl hl
  .refine .inr λi x hx e=>h.un i x hx ?_
   rw[e];show V a.block;rcases hl with hl|hl<;>rw[hl]<;>assumption
 .have:=Go.ConcN.Mode.opn (j:=0) (D:=bK λ_=>.put []) (tag:=.sp r 5) trivial (λi hi=>absurd hi<|ac7 i) (λvs e=>by cases e);simpa[Vc,sumTo,pend]using this
def phase (hR:p.jC)(cG:Geo p an)(hn:p.n<2147483647)(L9:1<=p.n)(hL:p.L+p.n<4611686018427387904)(n8:∀Ro M g W,Anch Ro M g W->g.status=.running)
  (SZ:∀Ro M g W,Anch Ro M g W->p.I W->ET p.P true p.I p.dE Ro (p.AtW1 Fin Anch Ro) M g W)
  (h:dJ p.P an V Ro M gs a w t q)(hJ:p.J=gs.size)(hT:p.iH=t.size)(YW:V p.Wg)(hV2:V p.tk.block)(hB:p.Bs<w)(hle:∀b,M' b->M b)(DD:∀b,p.Sp b->¬M' b/\¬Ro b)(ZF:∀b,M' b->¬Ro b)
  (jU:WgAt p.ty p.Wg w 0 0)(qU:p.jD w 0)(bz:∃cs,p.qG cs w)(hs:p.Spawns Anch p.n Ro M' a w):
  ∃N jK w' kx t' a' qO gi seq vs Mr,runNT p.P N (crowd gs w sl) t=(.next<|crowd jK w' kx,t')/\p.Out an Fin jK w' t' a' qO gi seq vs Mr:=by
 let⟨μ,hI⟩:=start (Fin:=Fin) (sl:=sl) h hJ hT YW hV2 hB hle DD ZF jU qU bz L9 hs;exact La hR cG h.low hn L9 hL n8 SZ μ _ t hI
def Out.lone {a:Goroutine}{Ro:Nat->Prop}{seq:Nat->List Nat}{vs:Nat->List Value}{Mr:Nat->Nat->Prop}(h:p.Out an Fin gs w t a Ro M seq vs Mr)(xG:∀l,an l->l.low w.heap.size)(hM:∀b,M' b->b<w/\∀l,fA (·=b) l->¬p.Sh an l):
  ∃q,dJ p.P (p.Sh an) (λ_=>False) (λ_=>False) M' gs a w t q:=by
 let⟨q,hq⟩:=h.quit;refine⟨q,h.main,hq,h.past,λi op hi=>by rw[h.size];exact h.who i op hi,λb hb=>hb.elim (λx=>(hM b x).1) False.elim,λb hb=>hb.elim (λx=>(hM b x).2) False.elim,λl hl=>?_,λi x hx hv=>?_,λb hb=>hb.elim,λb hb=>hb.elim⟩
 .rcases hl with hl|⟨a,rfl,hl⟩
  .exact xG l hl
  .show a.block<_;exact h.sp _<|hl.imp id .inl
 .let⟨b,hb,_⟩:=hv.some;exact hb
end Ph
end
section
variable {I:World->Prop}{Ro:Nat->Prop}
def eU.nil (h:∀e∈es,X e):eU X M Ro W W es:=⟨λ_ _ _=>rfl,ac3 _,rfl,rfl,rfl,λe he=>.inr<|.inr<|.inr<|h e he⟩
def ET.k (hs:g.status=.running)(h:∀ah,aO (λb=>M b\/Ro b) W ah->I ah->(stepG P m g ah).goes λg' w' es=>(w'=ah/\∀e∈es,X e)/\ET P m I X Ro Stop M g' W):ET P m I X Ro Stop M g W:=by
 refine ET.step hs λah k i=>?_
 obtain⟨g',w',es,h1,⟨rfl,h2⟩,h3⟩:=goes_elim<|h ah k i;have e:grow M w' w'=M:=cK rfl;exact⟨g',w',es,h1,eU.nil h2,by rw[e];exact h3.rely k⟩
def ET.c (h:∀ah,stepG P m g ah=.go g' ah #[])(k:ET P m I X Ro Stop M g' W)(hs:g.status=.running:=by rfl):ET P m I X Ro Stop M g W:=
 ET.k hs λah _ _=>by rw[h ah];exact⟨⟨rfl,λe he=>ic⟩,k⟩
def ET.sq {k:List Item}(n:ET P m I X Ro Stop M (G (b.at a<|.code x::.code y::k) cs) W):ET P m I X Ro Stop M (G (b.at a<|.code (.seq x y)::k) cs) W:=ET.c (λ_=>stepG_seq) n
def ET.rg {k:List Item}{id:Nat}(n:ET P m I X Ro Stop M (G (b.at a<|.inRegion ops (List.range ops.size)::k) cs) W):ET P m I X Ro Stop M (G (b.at a<|.code (.region id ops false)::k) cs) W:=ET.c (λ_=>stepG_region) n
def ET.sr {k:List Item}{id:Nat}(n:ET P m I X Ro Stop M (G (b.at a<|.inRegion ops (List.range ops.size)::.code y::k) cs) W):ET P m I X Ro Stop M (G (b.at a<|.code (.seq (.region id ops false) y)::k) cs) W:=ET.sq<|ET.rg n
def ET.rn {k:List Item}(n:ET P m I X Ro Stop M (G (b.at a k) cs) W):ET P m I X Ro Stop M (G (b.at a<|.inRegion ops []::k) cs) W:=ET.c (λ_=>stepG_region_end) n
def ET.ns {k:List Item}{id:Nat}{lU:Array Oper}(n:ET P m I X Ro Stop M (G (b.at a<|.inRegion ops (List.range ops.size)::.code y::k) cs) W):ET P m I X Ro Stop M (G (b.at a<|.inRegion lU []::.code (.seq (.region id ops false) y)::k) cs) W:=ET.rn<|ET.sr n
def ET.sk {k:List Item}(n:ET P m I X Ro Stop M (G (b.at a k) cs) W):ET P m I X Ro Stop M (G (b.at a<|.code .skip::k) cs) W:=ET.c (λ_=>stepG_skip) n
def ET.rt {k:List Item}(n:ET P m I X Ro Stop M (G ({b.at a (.code .ret::k)with mode:=.returning}) cs) W):ET P m I X Ro Stop M (G (b.at a<|.code .ret::k) cs) W:=ET.c (λ_=>stepG_ret') n
def ET.o {k:List Item}{o:Oper}(ho:ops[i]?=some o)(hw:Region.wanted o (yielded ops a.tmps)=true)
  (h:∀(ah:World) (K:Act->World->Prop),(∀a' w',w'=ah->ET P m I X Ro Stop M (G (b.at a'<|.inRegion ops rest::k) cs) W->(he:(execOp a.eval o).events P ah #[]=#[]:=by simp[go_sem, *])->K a' w')->uponK o a K ((execOp a.eval o).run P ah))(hk:b.kind≠.early:=by k_ne):ET P m I X Ro Stop M (G (b.at a<|.inRegion ops (i::rest)::k) cs) W:=
 ET.k rfl λah _ _=>goes_oper_k ho hw hk λK hK=>h ah K λa' w' h1 h3 h2=>hK a' w' ⟨⟨h1,λe he=>by have:=mem_listed he;rw[h2]at this;simp at this⟩,h3⟩
def ET.z {p q:Prop}(hq:q)(h:q->p:=by intro VR;refine ET.o rfl rfl λ_ K hK=>?_;go_simp;refine hK _ _ rfl ?_;clear hK K;(try w_num);exact VR):p:=h hq
def ET.kV {c:Operand}{k:List Item}(h:a.eval c=.bool true)(n:ET P m I X Ro Stop M (G (b.at a<|.code x::k) cs) W):ET P m I X Ro Stop M (G (b.at a<|.code (.cond c x y)::k) cs) W:=ET.c (λ_=>stepG_cond h) n
def ET.gP {c:Operand}{k:List Item}(h:a.eval c=.bool false)(n:ET P m I X Ro Stop M (G (b.at a<|.code y::k) cs) W):ET P m I X Ro Stop M (G (b.at a<|.code (.cond c x y)::k) cs) W:=ET.c (λ_=>stepG_cond h) n
end
section
variable {I:World->Prop}{Ro:Nat->Prop}
def ET.p (hs:g.status=.running)(h:∀ah,aO (λb=>M b\/Ro b) W ah->I ah->(stepG P m g ah).goes λg' W' es=>eU X M Ro ah W' es/\ET P m I X Ro Stop (grow M ah W') g' W'):ET P m I X Ro Stop M g W:=
 ET.step hs λah k i=>by
  let⟨g',w',es,h1,h2,h3⟩:=goes_elim<|h ah k i;exact⟨g',w',es,h1,h2,h3⟩
def eU.alloc (o:Obj)(h:∀e∈es,FX X (grow M W<|W.alloc o) Ro e):eU X M Ro W (W.alloc o) es:=by
 refine⟨λb hb _=>?_,?_,rfl,rfl,rfl,h⟩
 .show(W.heap.push o)[b]?=_;rw[Array.getElem?_push,if_neg (adl hb)]
 .show _<=(W.heap.push o).size;simp
def eU.set {a:Addr}(v:Value)(ha:M a.block)(h:∀e∈es,FX X M Ro e):eU X M Ro W (W.setCell a v) es:=by
 have hz:=(aside_setCell W a v).size;refine⟨λb _ hm=>Below.heap_setCell W a v b λe=>hm<|e▸ha,Nat.le_of_eq hz.symm,(aside_setCell W a v).tape,(aside_setCell W a v).os,(aside_setCell W a v).output,λe he=>?_⟩;rw[show grow M W (W.setCell a v)=M from cK hz];exact h e he
def eU.stay (h:∀e∈es,FX X M Ro e):eU X M Ro W W es:=⟨λ_ _ _=>rfl,ac3 _,rfl,rfl,rfl,λe he=>by rw[show grow M W W=M from cK rfl];exact h e he⟩
section
variable {md:Region.Mode}
inductive FW (md:Region.Mode)(ops:Array Oper):Array Bool->List Nat->Prop
 |nil {l:Array Bool}:Region.ready md ops l=[]->FW md ops l []
 |cons {l:Array Bool} {i:Nat} {rest:List Nat}:i∈Region.ready md ops l->FW md ops (l.setIfInBounds i true) rest->FW md ops l (i::rest)
def SF (ops:Array Oper)(l:Array Bool):Nat:=((List.range ops.size).filter λi=>!l.getD i true).length
def Li (h:SF ops l=0):Region.ready md ops l=[]:=by
 have h':(List.range ops.size).filter (λi=>!l.getD i true)=[]:=List.eq_nil_of_length_eq_zero h;rw[List.filter_eq_nil_iff]at h';show(List.range ops.size).filter _=[];rw[List.filter_eq_nil_iff];intro i hi;have:=h' i hi;simp only[Bool.not_eq_true,Bool.not_eq_false']at this⊢;simp[this]
def Lj (h:i∈Region.ready md ops l):i<ops.size/\l.getD i true=false:=by
 have h':i∈(List.range ops.size).filter _:=h;rw[List.mem_filter]at h';let⟨h1,h2⟩:=h';simp only[Bool.and_eq_true,Bool.not_eq_true']at h2;exact⟨List.mem_range.1 h1,h2.1⟩
def zX {p q:Nat->Bool}:∀(xs:List Nat) (i:Nat),i∈xs->(∀x,q x=true->p x=true)->p i=true->q i=false->(xs.filter q).length<(xs.filter p).length
 |x::xs,i,hi,ZQ,hp,hq=>by
  have le:∀ys:List Nat,(ys.filter q).length<=(ys.filter p).length:=by
   intro ys;induction ys with
   |nil=>simp
   |cons y ys ih=>
    rw[List.filter_cons,List.filter_cons];by_cases h:q y=true
    .simp[h,ZQ y h,ih]
    .simp only[h];by_cases h':p y=true
     .simp[h'];omega
     .simp[h',ih]
  rcases List.mem_cons.1 hi with rfl|hm
  .rw[List.filter_cons,List.filter_cons];simp[hp,hq];exact Nat.lt_succ_of_le<|le xs
  .have ih:=zX xs i hm ZQ hp hq;rw[List.filter_cons,List.filter_cons];by_cases h:q x=true
   .simp[h,ZQ x h];exact ih
   .simp only[h];by_cases h':p x=true
    .simp[h'];omega
    .simp[h'];exact ih
def JX (h:i∈Region.ready md ops l):SF ops (l.setIfInBounds i true)<SF ops l:=by
 let⟨h1,h2⟩:=Lj h;have ay:i<l.size:=by
  rcases adb i l.size with h|h
  .exact h
  .simp[Array.getD_eq_getD_getElem?,Array.getElem?_eq_none h]at h2
 refine zX _ i (List.mem_range.2 h1) (λx hx=>?_) (by simp[h2]) (by simp[Array.getD_eq_getD_getElem?,ay]);by_cases e:i=x
 .subst e;simp[h2]
 .simpa[Array.getD_eq_getD_getElem?,Array.getElem?_setIfInBounds_ne e]using hx
def Wx:∀(fuel t:Nat) (l:Array Bool),SF ops l<=fuel->FW md ops l (Region.linearise.go md ops fuel t l []):=by
 intro fuel;induction fuel with
 |zero=>intro t l h;simp only[Region.linearise.go,List.reverse_nil];exact .nil (Li<|Nat.le_zero.1 h)
 |succ fuel ih=>
  intro t l h;simp only[Region.linearise.go];change FW md ops l (match(Region.ready md ops l)[t%(Region.ready md ops l).length]? with
   |some i=>Region.linearise.go md ops fuel (t/(Region.ready md ops l).length) (l.setIfInBounds i true) [i]
   |none=>[].reverse)
  cases hi:(Region.ready md ops l)[t%(Region.ready md ops l).length]? with
  |none=>
   refine .nil ?_;cases hr:Region.ready md ops l with
   |nil=>rfl
   |cons x xs=>
    rw[hr]at hi;have ay:t%(x::xs).length<(x::xs).length:=Nat.mod_lt _ aG;simp at hi;simp at ay;omega
  |some i=>
   have hm:=List.mem_of_getElem? hi;simp only[];rw[linearise_go_acc,List.reverse_singleton,List.singleton_append];exact .cons hm<|ih _ _ (by have:=JX hm;omega)
def tA (t:Nat):FW .any ops (Array.replicate ops.size false) (Region.schedule true ops t):=by
 simp only[Region.schedule,Bool.true_or,if_true];exact Wx ops.size t _ (by unfold SF;exact ac6 (List.length_filter_le _ _) aG)
end
def ET.drawn {k:List Item}{id:Nat}(hm:P.follows .mixedOrders=true)
  (h:∀order,FW .any ops (Array.replicate ops.size false) order->ET P m I X Ro Stop M (G (b.at a<|.inRegion ops order::k) cs) W):ET P m I X Ro Stop M (G (b.at a<|.code (.region id ops true)::k) cs) W:=by
 refine ET.step rfl λah acN _=>⟨_,_,_,stepG_region_draw,⟨λ_ _ _=>rfl,ac3 _,rfl,rfl,rfl,λe he=>ic⟩,?_⟩
 rw[show grow M ah {ah with drawn:=ah.drawn+1}=M from cK rfl];refine ET.rely (h _ ?_) ⟨acN.block,acN.size,acN.os,acN.out⟩;rw[hm];exact tA _
end
section
variable [Gl]
noncomputable def rR (S:Nat->Prop):Ren:=open Classical in⟨λb=>if S b then some b else none,λb b' c h h'=>by
  by_cases x:S b
  .by_cases y:S b'
   .rw[if_pos x]at h;rw[if_pos y]at h';simp only[Option.some.injEq]at h h';omega
   .rw[if_neg y]at h';exact absurd h' aG
  .rw[if_neg x]at h;exact absurd h aG,λb c h=>by
  by_cases x:S b
  .rw[if_pos x]at h;simp only[Option.some.injEq]at h;rw[h]
  .rw[if_neg x]at h;exact absurd h aG⟩
def fR {b:Nat}:rR S b=some d<->S b/\b=d:=by
 classical
 show(if S b then some b else none)=some d<->_;by_cases x:S b
 .rw[if_pos x];simp[x]
 .rw[if_neg x];simp[x]
omit [Gl]
def Obj.freeze:Obj->Obj
 |.cells c e _=>.cells c e (0,c.size)
 |o=>o
noncomputable def fu (F:Nat->Prop)(W:World):World:=open Classical in{W with heap:=W.heap.mapIdx λb o=>if F b then Obj.freeze o else o}
def Ay (F:Nat->Prop)(W:World)(b:Nat):(fu F W).heap[b]?=(W.heap[b]?).map λo=>open Classical in if F b then Obj.freeze o else o:=by
 simp[fu,Array.getElem?_mapIdx]
def jl (F:Nat->Prop)(W:World):(fu F W).heap.size=W.heap.size:=by simp[fu]
def gn {b:Nat}{cs:Array Value}{e:TypeId}{z:Nat×Nat}(h:W.heap[b]?=some (.cells cs e z)):∃z',(fu F W).heap[b]?=some (.cells cs e z')/\(F b->z'=(0,cs.size))/\(¬F b->z'=z):=by
 rw[Ay,h];simp only[Option.map_some];by_cases hf:F b
 .rw[if_pos hf];exact⟨_,rfl,λ_=>rfl,λx=>absurd hf x⟩
 .rw[if_neg hf];exact⟨_,rfl,λx=>absurd x hf,λ_=>rfl⟩
def rD (F:Nat->Prop)(W:World)(a:Addr):(fu F W).cell? a=W.cell? a:=by
 simp only[World.cell?,Ay];cases h:W.heap[a.block]? with
 |none=>rfl
 |some o=>
  simp only[Option.map_some];by_cases hf:F a.block
  .rw[if_pos hf];cases o<;>rfl
  .rw[if_neg hf]
variable [Gl]
structure rm (ok:Ctx)(S:Nat->Prop)(W:World):Prop where
 at_:∀b,S b->∃cs e,W.heap[b]?=some (.cells cs e (0,0))/\∀v∈cs,aw ok (rR S) v v
def oU {ρ:Ren}(h:∀v∈xs,aw ok ρ v v):ax ok ρ xs xs:=
 ⟨rfl,λi x x' h1 h2=>by rw[h1]at h2;cases h2;exact h x<|Array.mem_of_getElem? h1⟩
def rm.abL (h:rm ok S W)(hg:Gl.n<=W):bN ok false (rR S) (re (fu F W) W.tape W.drawn) W:=by
 refine⟨λb d hb=>?_,rfl,rfl,by show _<=(fu F W).heap.size;rw[jl];exact hg,hg⟩;obtain⟨hs,rfl⟩:=fR.1 hb;let⟨cs,e,h1,h2⟩:=h.at_ b hs;let⟨z',h3,_⟩:=gn (F:=F) h1;exact⟨_,_,h3,h1,.cells (oU h2)<|.inl rfl⟩
def rm.self (h:rm ok S W)(hg:Gl.n<=W):bN ok true (rR S) (fu F W) (fu F W):=by
 refine⟨λb d hb=>?_,rfl,rfl,by rw[jl];exact hg,by rw[jl];exact hg⟩;obtain⟨hs,rfl⟩:=fR.1 hb;let⟨cs,e,h1,h2⟩:=h.at_ b hs;let⟨z',h3,_⟩:=gn (F:=F) h1;exact⟨_,_,h3,h3,.cells (oU h2)<|.inl rfl⟩
omit [Gl] in
def Aq:tU (Frame.enter P0 f xs .normal) []:=by
 intro fr h;simp only[List.getLast?_singleton,Option.some.injEq]at h;subst h;rfl
section
variable {I:World->Prop}{Ro:Nat->Prop}{c:Frame}
 {k:List Item}{o:Oper}{fn:Func}{cd:Code}{args:Array Operand}{Yn:Array TypeId}
structure aan (ok:Ctx)(S Ro M:Nat->Prop)(W:World)(Q:Value->World->Prop)(v':Value)(M':Nat->Prop)(W':World):Prop where
 own:∀b,M b->M' b
 lt:∀b,M' b->b<W'
 new:∀b,M' b->M b\/W.heap.size<=b
 ro:aO Ro W W'
 rest:aO (λb=>M b/\¬S b) W W'
 res:∃σ v V',aw ok σ v v'/\Q v V'/\bN ok false σ V' W'/\(∀b,S b->σ b=some b)/\(∀b d,σ b=some d->(S b/\b=d)\/W.heap.size<=d)/\sM σ V' M' Ro
def ET.Gw (eL:dL P0 P0 ok)(hP:dL P0 P ok)(iA:∀f,ok.fn f=true->ok.aX f=true)(hF:jA P0 c)
  (ho:ops[i]?=some o)(hw:Region.wanted o (yielded ops a.tmps)=true)(hk:b.kind≠.early)(bp:o.op=.call {callee:=.value<|.func f,args,argTypes:=Yn})
  (hf:P.funcs[f]?=some fn)(xH:(fn.name== "runtime.NumGoroutine")=false)(hb:fn.body=some cd)(eO:ok.aX f=true)
  {Sp:Nat->Prop}(hI:IK Sp I)(sI:∀b,Ro b->Sp b)(hN:zh Sp M W)(Vf:∀b,M b->b<W)(hg:Gl.n<=W)
  (S:Nat->Prop)(Q:World->Value->World->Prop)(hQ:∀W v w τ d,Q W v w->Q W v (re w τ d))(hS:∀b,S b->M b\/Ro b)(Vu:∀ah,aO (λb=>M b\/Ro b) W ah->rm ok S ah)
  (Nw:∀x∈args.map a.eval,aw ok (rR S) x x)
  (hC:∀ah,aO (λb=>M b\/Ro b) W ah->I ah->∀τ d,Calls P0 f (args.map a.eval) (re (fu Ro ah) τ d) λe w'=>∃v,e=.returned v/\Q ah v w')
  (KM:∀ah v' M' W',aO (λb=>M b\/Ro b) W ah->I ah->I W'->aan ok S Ro M ah (Q ah) v' M' W'->ET P m I X Ro Stop M' (G (b.at (a.put o.dst v')<|.inRegion ops rest::k) cs) W'):
  ET P m I X Ro Stop M (G (b.at a<|.inRegion ops (i::rest)::k) cs) W:=by
 refine ET.p rfl λah acN pP=>goes_call ho hw hk bp hf xH hb ⟨eU.stay λe he=>ic,?_⟩
 rw[show grow M ah ah=M from cK rfl,<-enter_at _ hf hb];have Eh:Gl.n<=ah:=ac6 hg acN.size;have hc:=Vu ah acN;have Vg:∀b,M b->b<ah:=λb hb=>ac4 (Vf b hb) acN.size
 have nh:fK P0 ok ⟨Frame.enter P0 f (args.map a.eval) .normal,[],fu Ro ah⟩:=⟨rR S,m9 eL.toSame eO<|oU Nw,.nil,Aq,hc.self Eh⟩;have hH:=Ge (Q:=Q ah) eL iA hF nh<|hC ah acN pP;have hIn:jS P0 P ok false c (b.at a (.inRegion ops (i::rest)::k)::cs) (Q ah) (rR S) ⟨Frame.enter P0 f (args.map a.eval) .normal,[],fu Ro ah⟩ (G (Frame.enter P f (args.map a.eval) .normal)<|b.at a (.inRegion ops (i::rest)::k)::cs) ah:=
  ⟨⟨_,[],rfl,m9 hP.toSame eO<|oU Nw,.nil⟩,Aq,hc.abL Eh,nh,hH,MA eL iA (hQ ah) nh hH⟩
 have hh:sM (rR S) (re (fu Ro ah) ah.tape ah.drawn) M Ro:=by
  intro x d hx;obtain⟨hs,rfl⟩:=fR.1 hx;rcases hS x hs with h|h
  .exact .inl h
  .let⟨cs',e,h1,_⟩:=hc.at_ x hs;let⟨z',h3,h4,_⟩:=gn (F:=Ro) h1;rw[h4 h]at h3;exact .inr ⟨h,cs',e,h3⟩
 have gN:∀v',(b.at a<|.inRegion ops (i::rest)::k).finish v'=b.at (a.put o.dst v') (.inRegion ops rest::k):=λv'=>by rw[Frame.finish_at,ho];rfl
 refine ET.call eL hP iA (hQ ah) (r0:=b.at a<|.inRegion ops (i::rest)::k) (rest:=cs) (λ{σ v v' V' W' M'} h1 h2 h3 h4 h5 h6 h7 h8 h9 h10 Cc h12=>?_) hI sI (hN.rely acN.size) Vg pP hIn hh;rw[gN];refine KM ah v' M' W' acN pP h10 ⟨h5,Cc,h12,h6,h7.mono λx hx=>⟨hx.1,λy e=>hx.2 (by have:=fR.1 e;exact this.2▸this.1)⟩,σ,v,V',h1,h2,h3,λx hx=>h8 _ _<|fR.2 ⟨hx,rfl⟩,λx d hx=>(h9 x d hx).imp (λe=>fR.1 e) id,h4⟩
end
end
