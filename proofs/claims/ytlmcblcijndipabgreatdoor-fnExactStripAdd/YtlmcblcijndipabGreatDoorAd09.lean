import Derived.Test.YtlmcblcijndipabGreatDoorAd08
import Derived.Conc.WgGenN3
import Derived.Conc.CompanyDraw
namespace Go.Proofs.YtlmcblcijndipabGreatDoor
section
open Go Go.Conc
open Go.ConcN (CT Apart Ok0 OkW RelBy PermW sumTo sumTo_upd sumTo_upd_out sumTo_congr sumTo_le le_sumTo upd WgLive RW DWs AtR0 WSit CTag WD Vc Vc_le Vc_upd cnt pend phi phi_mono phi_retag PayAt Has upd_same upd_ne get_map_set get_map_set_same OpenSt others_uncounted)
open Go.ConcR (stA smA WgAt KK rd wr g_of_ofEvents Bk bk_of_mute)
namespace Ph
variable {p:Ph}{Shun:Loc->Prop}{E1:Nat}{Fin Anch:(Nat->Prop)->(Nat->Prop)->Goroutine->World->Prop}{G:Gh}{t:Trace}{i:Nat}
theorem EvS.of_Bk {e:Event}(h:Bk p.Wg e):p.EvS e:=by
 rcases h with h|h|⟨a,wr,rfl,h⟩
 .exact .inl ⟨_,h,.inl rfl⟩
 .exact .inl ⟨_,h,.inr (.inl rfl)⟩
 .exact .inr ⟨a,wr,rfl,.inl h⟩
theorem cnt_le {a b:Nat}(h:a<=b):cnt ⟨a,0,0⟩<=cnt ⟨b,0,0⟩:=by
 unfold cnt;split<;>split<;>simp_all
 omega
theorem Inv.bookW (hR:p.ResOk)(G0:Geo p Shun)(hS:∀l,Shun l->l.low E1)(hAr:∀Ro M g W,Anch Ro M g W->g.status=.running)(h:p.Inv Shun E1 Fin Anch G t)(hi:i<G.j){g g':Goroutine}{w':World}{es:Array Event}{s s':Nat}{seq:List Nat}{vs:List Value}{Mr:Nat->Prop}{ρ':Rk}{st' sm':Int}(hD:G.D i=.lib s seq vs Mr)
  (hg:G.gs[p.J+i]?=some g)(hgo:stepG p.P false g G.w=.go g' w' es)(hA:Aside p.Wg G.w w')(hwg:WgAt p.ty p.Wg w' st' sm')(hev:∀e∈es,p.EvS e)(hrel:s'<=6->∃r,RelBy (stA p.Wg) (t++MemOp.ofEvents (p.J+i) g.frame.fn g.frame.place es) (p.J+i) r)
  (hs':p.WS i (G.Ro (i+1)) (.lib s' seq vs Mr) ρ' (deafBehind (Deaf t (p.J+i)) es) (G.M (i+1)) g' w')
  (hmode:∀tag',(tag'=G.tag\/(G.tag=.blk/\tag'=.w3))->(mayWake p.P g=true->g'.status=.running->tag'≠.blk)->Go.ConcN.Mode G.j (upd (wdOf G.D) i ⟨s',0,0⟩) tag' st' sm')
  (hlt:s'<s\/(s'=s/\Rk.lt ρ' (G.R (p.J+i)))):
  ∃FV ops μ',runT p.P (crowd G.gs G.w G.sl) (p.J+i)=(.next FV,ops)/\Lt4 p μ' (G.μ p)/\p.InvM Shun E1 Fin Anch μ' FV (t++ops):=by
 have fa:=h.fact i hi;rw[hD]at fa;obtain⟨f1,f2,_⟩:=fa.lib s seq vs Mr rfl;have hgr:grow (G.M (i+1)) G.w w'=G.M (i+1):=aW hA.size;obtain⟨cs,hcs⟩:=h.bs;have hB:=hA.block _ (Ne.symm G0.wb);refine h.stepW hR G0 hS hAr hi (pl':=.lib s' seq vs Mr) hg hgo (by rw[hA.size];exact Gm _) (λb _ _ hn=>hA.block b λe=>hn (.inl e)) (by rw[hgr];exact hs') (okW_sync hev) (opOk_sync (by rw[hA.size];exact h.fam.spLt _ (.inl rfl)) (by rw[hA.size];exact h.fam.spLt _ (.inr (.inl rfl))) hev) hwg (h.tk.of_block (hA.block _ (Ne.symm G0.wt))) ⟨cs,hcs.of_block hB⟩
  hmode ⟨fa.seq,trivial,λ_=>fa.out rfl,λF0 sq F2 E3 e=>?_⟩ (λk _ vs hs=>hs.of_block hB) (Gm _) (λx _ h1 h2=>by omega) (λx hx=>by rw[hD]at hx;exact hx) ?_ ?_
 .cases e;exact⟨f1.of_block hB,⟨hR _ _ _ _ _ f2.1 ⟨λb hb=>hA.block b λe=>(h.fam.sp (i+1) b (.inl e)).1 (f2.2 b hb),by rw[hA.size];exact Gm _,hA.os,hA.output⟩,by rw[hgr];exact f2.2⟩,hrel⟩
 .have e:sumTo G.j (λk=>(upd G.D i (.lib s' seq vs Mr) k).exited)+(G.D i).exited=sumTo G.j (λk=>(G.D k).exited)+1:=sumTo_upd G.D (.lib s' seq vs Mr) WPl.exited hi;have e0:(G.D i).exited=1:=by rw[hD];rfl
  have:=h.bound;omega
 .rw[hD];rcases hlt with h1|⟨h1,h2⟩
  .exact .inl ⟨h1,cnt_le (GF h1)⟩
  .exact .inr ⟨h1,h1,h2⟩
theorem Inv.libW (hR:p.ResOk)(G0:Geo p Shun)(hS:∀l,Shun l->l.low E1)(hAr:∀Ro M g W,Anch Ro M g W->g.status=.running)(hn:p.n<2147483647)(h:p.Inv Shun E1 Fin Anch G t)(hi:i<G.j){g:Goroutine}{s m d C c:Nat}{v:Value}{seq:List Nat}{vs:List Value}{Mr:Nat->Prop}(hD:G.D i=.lib s seq vs Mr)
  (hg:G.gs[p.J+i]?=some g)(hrun:g.status=.running)(hd:Deaf t (p.J+i)=d)(hC:G.M (i+1) C)(hCr:¬Mr C)(hRm:G.R (p.J+i)=Rk.nat m)(hpd:G.j+pend G.tag<=p.n)(hs:@WSit p.pl p.P p.ty p.Wg C c (λ_ _=>False) (λ_ _=>False) 0 1 v s m d g G.w):
  ∃FV ops μ',runT p.P (crowd G.gs G.w G.sl) (p.J+i)=(.next FV,ops)/\Lt4 p μ' (G.μ p)/\p.InvM Shun E1 Fin Anch μ' FV (t++ops):=by
 letI:=p.pl;have fa:=h.fact i hi;rw[hD]at fa;obtain⟨f1,f2,f3⟩:=fa.lib s seq vs Mr rfl;have hstD:(wdOf G.D i).stage=s:=by simp only[wdOf,hD];rfl
 have hnat:∀m',m'+1=m->Rk.lt (Rk.nat m') (G.R (p.J+i)):=λm' e=>by rw[hRm,<-e];exact Rk.nat_lt m' G.w
 have hrelB:∀{es:Array Event},s<=6->(∀e∈es,Bk p.Wg e)->(∀jx e,es[jx]?=some e->(MemAct.ofEvent e).touch?=none\/0<deafBehind d (es.extract 0 jx))->∃r,RelBy (stA p.Wg) (t++MemOp.ofEvents (p.J+i) g.frame.fn g.frame.place es) (p.J+i) r:=
  λh6 hb hx=>let⟨r,hr⟩:=f3 h6;⟨r,hr.book hd _ _ hb hx⟩
 have hVj:=Vc_le G.j (wdOf G.D);have idle:∀{g':Goroutine} {m':Nat},stepG p.P false g G.w=.go g' G.w #[]->@WSit p.pl p.P p.ty p.Wg C c (λ_ _=>False) (λ_ _=>False) 0 1 v s m' d g' G.w->m'+1=m->s<=6->
   ∃FV ops μ',runT p.P (crowd G.gs G.w G.sl) (p.J+i)=(.next FV,ops)/\Lt4 p μ' (G.μ p)/\p.InvM Shun E1 Fin Anch μ' FV (t++ops):=by
  intro g' m' hgo hs' hm h6;exact h.bookW hR G0 hS hAr hi hD hg hgo (.refl _ _) h.wg (by simp) (λ_=>hrelB h6 (by simp) (by simp)) (ρ':=Rk.nat m') (by rw[hd];exact .lib hC hCr hs') (λtag' ht _=>mode_same h.mode ht hstD) (.inr ⟨rfl,hnat m' hm⟩)
 have book:∀{g':Goroutine} {w':World} {es:Array Event} {s' m' dd':Nat} {st' sm':Int},stepG p.P false g G.w=.go g' w' es->Aside p.Wg G.w w'->WgAt p.ty p.Wg w' st' sm'->(∀e∈es,Bk p.Wg e)->
   (∀jx e,es[jx]?=some e->(MemAct.ofEvent e).touch?=none\/0<deafBehind d (es.extract 0 jx))->@WSit p.pl p.P p.ty p.Wg C c (λ_ _=>False) (λ_ _=>False) 0 1 v s' m' dd' g' w'->deafBehind d es=dd'->s<=6->
   (∀tag',(tag'=G.tag\/(G.tag=.blk/\tag'=.w3))->(mayWake p.P g=true->g'.status=.running->tag'≠.blk)->Go.ConcN.Mode G.j (upd (wdOf G.D) i ⟨s',0,0⟩) tag' st' sm')->(s'<s\/(s'=s/\m'+1=m))->
   ∃FV ops μ',runT p.P (crowd G.gs G.w G.sl) (p.J+i)=(.next FV,ops)/\Lt4 p μ' (G.μ p)/\p.InvM Shun E1 Fin Anch μ' FV (t++ops):=by
  intro g' w' es s' m' dd' st' sm' hgo hA hwg hbk hdf hs' hdd h6 hmode hlt;exact h.bookW hR G0 hS hAr hi hD hg hgo hA hwg (λe he=>.of_Bk (hbk e he)) (λ_=>hrelB h6 hbk hdf) (ρ':=Rk.nat m') (by rw[hd,hdd];exact .lib hC hCr hs') hmode (hlt.imp id λx=>⟨x.1,hnat m' x.2⟩)
 have upd_other:∀{x:WD} {a:Nat},a≠i->(upd (wdOf G.D) i x a)=wdOf G.D a:=λe=>upd_ne _ _ e
 cases hs with
 |r0 hw=>
  rcases Goes.cases hw with hstop|⟨m',rfl,hstep⟩
  .obtain⟨_,hhas,g',hgo,FW,hk⟩:=hstop G.w (RW.refl G.w);exact h.bookW hR G0 hS hAr hi hD hg hgo (.refl _ _) h.wg (by intro e he;simp at he;subst he;exact .inl ⟨_,rfl,.inr (.inr (.inl ⟨_,rfl⟩))⟩) (λ_=>⟨t.size,RelBy.new hd _ _⟩) (ρ':=Rk.nat FW) (by rw[hd];exact .lib (v:=v) hC hCr (.k1 hk)) (λtag' ht _=>(h.mode.counted hi (by omega) (.inl rfl) 0 0).retag ht) (.inl (by omega))
  .obtain⟨g',w',es,hgo,⟨hac,hev⟩,hg'⟩:=hstep G.w (RW.refl G.w);have hCs:∀b,p.Sp b->b≠C:=λb hb e=>(h.fam.sp (i+1) b hb).1 (e▸hC)
   have ks:∀b,p.Sp b->w'.heap[b]?=G.w.heap[b]?:=λb hb=>hac.block b (hCs b hb)
   have hgr:grow (G.M (i+1)) G.w w'=G.M (i+1):=aW hac.size;have hde:deafBehind (Deaf t (p.J+i)) es=0:=by rw[hd];exact deafBehind_still (λe he=>⟨(hev e he).2.1,(hev e he).2.2.1⟩) 0
   have ht:∀e∈es,∀x,(MemAct.ofEvent e).touch?=some x->Go.ConcN.ShN p.Wg x.loc/\x.kind≠.plain/\x.kind≠.said:=λe he x hx=>by
    rcases((hev e he).1 0 "").2 x hx with h1|h1|h1
    .exact h1
    .exact h1.elim
    .exact h1.1.elim
   obtain⟨cs,hcs⟩:=h.bs;have hB:=ks p.Bs (.inr (.inr rfl));refine h.stepW hR G0 hS hAr hi (pl':=.lib 7 seq vs Mr) (ρ':=Rk.nat m') hg hgo (by rw[hac.size];exact Gm _) (λb _ hb _=>hac.block b λe=>hb (e▸hC)) (by rw[hgr,hde];exact .lib hC hCr (.r0 hg')) (λop hop=>?_) (λop hop=>?_) (h.wg.of_block (ks _ (.inl rfl))) (h.tk.of_block (ks _ (.inr (.inl rfl)))) ⟨cs,hcs.of_block hB⟩
    (λtag' ht _=>mode_same h.mode ht hstD) ⟨fa.seq,trivial,λ_=>fa.out rfl,λF0 sq F2 E3 e=>?_⟩ (λk _ vs hs=>hs.of_block hB) (Gm _) (λx _ h1 h2=>by omega) (λx hx=>by rw[hD]at hx;exact hx) ?_ (.inr ⟨by rw[hD],by rw[hD],hnat m' rfl⟩)
   .obtain⟨e,he,rfl⟩:=Go.Conc.mem_ofEvents hop;exact⟨rfl,λx hx=>let⟨⟨a,h1,h2⟩,h3⟩:=ht e he x hx;.inl ⟨.inr ⟨a,h1,.inl h2⟩,h3⟩⟩
   .obtain⟨e,he,rfl⟩:=Go.Conc.mem_ofEvents hop;refine⟨λx hx=>?_,λx hx=>?_,λhx=>(hev e he).2.2.2 (Go.ConcR.loc_of_ofEvent hx),λ_ x hx _=>?_⟩
    .obtain⟨⟨a,h1,h2⟩,_⟩:=ht e he x hx;rw[h1];rfl
    .obtain⟨⟨a,h1,h2⟩,_⟩:=ht e he x hx;rw[h1];show a.block<_;rw[h2,hac.size];exact h.fam.spLt _ (.inl rfl)
    .obtain⟨⟨a,h1,h2⟩,_⟩:=ht e he x hx;exact .inr ⟨a,h1,.inl h2⟩
   .cases e;exact⟨f1.of_block hB,⟨hR _ _ _ _ _ f2.1 ⟨λb hb=>hac.block b λe=>hCr (e▸hb),by rw[hac.size];exact Gm _,hac.os,hac.output⟩,by rw[hgr];exact f2.2⟩,λh6=>absurd h6 (by omega)⟩
   .have e:sumTo G.j (λk=>(upd G.D i (.lib 7 seq vs Mr) k).exited)+(G.D i).exited=sumTo G.j (λk=>(G.D k).exited)+1:=sumTo_upd G.D (.lib 7 seq vs Mr) WPl.exited hi;have e0:(G.D i).exited=1:=by rw[hD];rfl
    have:=h.bound;omega
 |k1 hw=>
  rcases Goes.cases hw with hstop|⟨m',rfl,hstep⟩
  .obtain⟨_,g',hgo,FW,hk⟩:=hstop G.w (RW.refl G.w);exact book hgo (.refl _ _) h.wg (by intro e he;simp at he;subst he;exact .inl rfl) (by intro jx e he;exact .inl (by have:=Array.mem_of_getElem? he;simp at this;subst this;rfl)) (.d1 hk) rfl (by omega) (λtag' ht _=>(h.mode.counted hi (by omega) (.inr rfl) 0 0).retag ht) (.inl (by omega))
  .obtain⟨g',w',es,hgo,⟨rfl,rfl⟩,hg'⟩:=hstep G.w (RW.refl G.w);exact idle hgo (.k1 hg') rfl (by omega)
 |d1 hw=>
  rcases Goes.cases hw with hstop|⟨m',rfl,hstep⟩
  .obtain⟨_,hall⟩:=hstop G.w (RW.refl G.w);have hc1:cnt (wdOf G.D i)=1:=by simp[cnt,hstD]
   have hV1:1<=Vc G.j (wdOf G.D):=by have:=le_sumTo (f:=λx=>cnt (wdOf G.D x)) hi;simp only[Vc];omega
   have bk2:∀e∈#[rd (stA p.Wg),wr (stA p.Wg)],Bk p.Wg e:=by intro e he;simp at he;rcases he with rfl|rfl<;>exact Go.ConcN.bk_cell _ _ rfl
   have df2:∀jx e,(#[rd (stA p.Wg),wr (stA p.Wg)]:Array Event)[jx]?=some e->(MemAct.ofEvent e).touch?=none\/0<deafBehind 1 ((#[rd (stA p.Wg),wr (stA p.Wg)]:Array Event).extract 0 jx):=by
    intro jx e he;match jx,he with
    |0,_=>exact .inr (by simp[deafBehind])
    |1,_=>exact .inr (by simp[deafBehind,rd])
    |jx+2,he=>simp at he
   have hVu:∀x:WD,cnt x=0->Vc G.j (upd (wdOf G.D) i x)+1=Vc G.j (wdOf G.D):=λx hx=>by have:=Vc_upd (wdOf G.D) x hi;omega
   have opq:OpenSt G.j (wdOf G.D)->OpenSt G.j (upd (wdOf G.D) i ⟨1,0,0⟩):=λh a ha=>by
    by_cases e:a=i
    .subst e;rw[upd_same];simp
    .rw[upd_ne _ _ e];exact h a ha
   have hm:=h.mode;have hw:=h.wg;generalize htg:G.tag=tg at hm hpd;generalize hst:G.st=st at hm hw;generalize hsm:G.sm=sm at hm hw;cases hm with
   |opn h1 h2 h3=>
    obtain⟨v,hv⟩:∃v,Vc G.j (wdOf G.D)+pend tg=v+1:=⟨Vc G.j (wdOf G.D)+pend tg-1,by omega⟩;rw[hv]at hw;have hw1:WgAt p.ty p.Wg G.w (((v:Nat)+1)*KK+((0:Nat):Int)) 0:=by simpa using hw
    obtain⟨g',hgo,_,hq⟩:=hall v 0 (by omega) (by omega) hw1;obtain⟨q,hq⟩:=hq (by omega);have hv':Vc G.j (upd (wdOf G.D) i ⟨1,0,0⟩)+pend tg=v:=by have:=hVu ⟨1,0,0⟩ rfl;omega
    refine book hgo (aside_setCell G.w (stA p.Wg) _) (hw.setSt _) bk2 df2 (.quit hq) rfl (by omega) (λtag' ht _=>Go.ConcN.Mode.retag ?_ ht) (.inl (by omega));have e:((v:Nat):Int)*KK+((0:Nat):Int)=((Vc G.j (upd (wdOf G.D) i ⟨1,0,0⟩)+pend tg:Nat):Int)*KK:=by rw[hv'];simp
    rw[htg,e];exact .opn h1 (opq h2) (λvs ev=>by have:=h3 vs ev;have:=hVu ⟨1,0,0⟩ rfl;omega)
   |reg h1 h2 h3=>
    obtain⟨v,hv⟩:∃v,Vc G.j (wdOf G.D)=v+1:=⟨Vc G.j (wdOf G.D)-1,by omega⟩;rw[hv]at hw;have hw1:WgAt p.ty p.Wg G.w (((v:Nat)+1)*KK+((1:Nat):Int)) 0:=by simpa using hw
    obtain⟨g',hgo,hl,hq⟩:=hall v 1 (by omega) (by omega) hw1;by_cases hv0:v=0
    .subst hv0;obtain⟨FW,hk⟩:=hl ⟨rfl,rfl⟩;refine book hgo (aside_setCell G.w (stA p.Wg) _) (hw.setSt _) bk2 df2 (.d2 hk) rfl (by omega) (λtag' ht _=>Go.ConcN.Mode.retag ?_ ht) (.inl (by omega));have hoth:∀a,a<G.j->a≠i->(wdOf G.D a).stage=1:=λa ha e=>by
      have c0:=others_uncounted hi hv hc1 a ha e;have:=h2 a ha;simp only[cnt]at c0;split at c0<;>omega
     have:=Go.ConcN.Mode.last (j:=G.j) (D:=upd (wdOf G.D) i ⟨4,0,0⟩) (tag:=tg) i h1 hi (by rw[upd_same];simp) (λa ha e=>by rw[upd_ne _ _ e];exact hoth a ha e);rw[upd_same]at this;rw[htg];simpa using this
    .obtain⟨q,hq⟩:=hq (by omega);have hv':Vc G.j (upd (wdOf G.D) i ⟨1,0,0⟩)=v:=by have:=hVu ⟨1,0,0⟩ rfl;omega
     refine book hgo (aside_setCell G.w (stA p.Wg) _) (hw.setSt _) bk2 df2 (.quit hq) rfl (by omega) (λtag' ht _=>Go.ConcN.Mode.retag ?_ ht) (.inl (by omega));have e:((v:Nat):Int)*KK+((1:Nat):Int)=((Vc G.j (upd (wdOf G.D) i ⟨1,0,0⟩):Nat):Int)*KK+1:=by rw[hv'];simp
     rw[htg,e];exact .reg h1 (opq h2) (by omega)
   |last L _ h2 h3 h4=>
    by_cases e:i=L
    .subst e;omega
    .have:=h4 i hi e;omega
   |sema h2=>have:=h2 i hi;omega
   |fin _ h2=>have:=h2 i hi;omega
  .obtain⟨g',w',es,hgo,⟨rfl,rfl⟩,hg'⟩:=hstep G.w (RW.refl G.w);exact idle hgo (.d1 hg') rfl (by omega)
 |d2 hw=>
  rcases Goes.cases hw with hstop|⟨m',rfl,hstep⟩
  .obtain⟨_,hx⟩:=hstop G.w (RW.refl G.w);obtain⟨hW3,hoth,e1,e2⟩:=h.mode.isLast hi (by omega);have hwg:=h.wg;rw[e1,e2,hstD]at hwg;obtain⟨g',hgo,FW,hk⟩:=hx (by simpa using hwg);refine book hgo (.refl _ _) hwg (by intro e he;simp at he;subst he;exact Go.ConcN.bk_cell _ _ rfl) (by intro jx e he;match jx,he with|0,_=>exact .inr (by simp[deafBehind])|jx+1,he=>simp at he) (.d3 hk) rfl (by omega) (λtag' ht _=>Go.ConcN.Mode.retag ?_ ht) (.inl (by omega));have:=Go.ConcN.Mode.last (j:=G.j) (D:=upd (wdOf G.D) i ⟨3,0,0⟩) (tag:=G.tag) i hW3 hi (by rw[upd_same];simp) (λa ha e=>by rw[upd_ne _ _ e];exact hoth a ha e);rw[upd_same]at this;simpa using this
  .obtain⟨g',w',es,hgo,⟨rfl,rfl⟩,hg'⟩:=hstep G.w (RW.refl G.w);exact idle hgo (.d2 hg') rfl (by omega)
 |d3 hw=>
  rcases Goes.cases hw with hstop|⟨m',rfl,hstep⟩
  .obtain⟨_,hx⟩:=hstop G.w (RW.refl G.w);obtain⟨hW3,hoth,e1,e2⟩:=h.mode.isLast hi (by omega);have hwg:=h.wg;rw[e1,e2,hstD]at hwg;obtain⟨g',hgo,FW,hk⟩:=hx (by simpa using hwg);refine book hgo (aside_setCell G.w (stA p.Wg) _) (hwg.setSt 0) (by intro e he;simp at he;subst he;exact Go.ConcN.bk_cell _ _ rfl) (by intro jx e he;match jx,he with|0,_=>exact .inr (by simp[deafBehind])|jx+1,he=>simp at he) (.d4 hk) rfl (by omega) (λtag' ht _=>Go.ConcN.Mode.retag ?_ ht) (.inl (by omega));have:=Go.ConcN.Mode.last (j:=G.j) (D:=upd (wdOf G.D) i ⟨2,0,0⟩) (tag:=G.tag) i hW3 hi (by rw[upd_same];simp) (λa ha e=>by rw[upd_ne _ _ e];exact hoth a ha e);rw[upd_same]at this;simpa using this
  .obtain⟨g',w',es,hgo,⟨rfl,rfl⟩,hg'⟩:=hstep G.w (RW.refl G.w);exact idle hgo (.d3 hg') rfl (by omega)
 |d4 hw=>
  rcases Goes.cases hw with hstop|⟨m',rfl,hstep⟩
  .obtain⟨_,hmw,hx⟩:=hstop G.w (RW.refl G.w);obtain⟨hW3,hoth,e1,e2⟩:=h.mode.isLast hi (by omega);have hwg:=h.wg;rw[e1,e2,hstD]at hwg;obtain⟨g',hgo,q,hq⟩:=hx (by simpa using hwg);have hrun':g'.status=.running:=by
    cases q with
    |zero=>exact absurd hq.2 (by decide)
    |succ q=>exact hq.elim (λx=>absurd x.2 (by decide)) (λx=>x.1)
   refine book hgo (aside_setCell G.w (smA p.Wg) _) (hwg.setSm 1) (es:=semEvents (smA p.Wg)) ?_ ?_ (.quit hq) (by simp[deafBehind,semEvents]) (by omega) (λtag' ht hwk=>?_) (.inl (by omega))
   .intro e he;simp[semEvents]at he;rcases he with rfl|rfl|rfl|rfl
    .exact .inl rfl
    .exact Go.ConcN.bk_cell _ _ rfl
    .exact Go.ConcN.bk_cell _ _ rfl
    .exact .inr (.inl rfl)
   .intro jx e he;match jx,he with
    |0,he=>simp[semEvents]at he;subst he;exact .inl rfl
    |1,_=>exact .inr (by simp[deafBehind,semEvents])
    |2,_=>exact .inr (by simp[deafBehind,semEvents])
    |3,he=>simp[semEvents]at he;subst he;exact .inl rfl
    |jx+4,he=>simp[semEvents]at he
   .have hnb:=hwk hmw hrun';have e3:tag'=.w3:=by
     rcases ht with ht|⟨_,ht⟩
     .rw[<-ht]at hW3;cases tag'<;>first|rfl|exact hW3.elim|exact absurd rfl hnb
     .exact ht
    subst e3;simp only[if_true];exact .sema λa ha=>by
     by_cases e:a=i
     .subst e;rw[upd_same]
     .rw[upd_ne _ _ e];exact hoth a ha e
  .obtain⟨g',w',es,hgo,⟨rfl,rfl⟩,hg'⟩:=hstep G.w (RW.refl G.w);exact idle hgo (.d4 hg') rfl (by omega)
 |quit hq=>
  cases m with
  |zero=>rw[hq.1]at hrun;cases hrun
  |succ q=>
   rcases hq with⟨hf,_⟩|⟨_,g',es,hmute,hstep,hq⟩
   .rw[hf]at hrun;cases hrun
   .refine book (hstep G.w) (.refl _ _) h.wg (λe he=>bk_of_mute (hmute e he)) (λjx e he=>.inl (touch_mute (hmute e (Array.mem_of_getElem? he)))) (.quit hq) rfl (by omega) (λtag' ht _=>mode_same h.mode ht hstD) (.inr ⟨rfl,rfl⟩)
end Ph
end
section
open Go Go.Conc
open Go.ConcN (CT Apart Ok0 OkW RelBy PermW sumTo sumTo_upd sumTo_upd_out sumTo_congr sumTo_le le_sumTo upd WgLive RW DWs AtR0 WSit CTag WD Vc Vc_le Vc_upd cnt pend phi phi_mono phi_retag PayAt Has upd_same upd_ne get_map_set get_map_set_same OpenSt AllQuit isOpen isFin isW3)
open Go.ConcR (stA smA WgAt KK rd wr g_of_ofEvents Bk bk_of_mute)
namespace Ph
variable {p:Ph}{Shun:Loc->Prop}{E1:Nat}{Fin Anch:(Nat->Prop)->(Nat->Prop)->Goroutine->World->Prop}{G:Gh}{t:Trace}{M Ro:Nat->Nat->Prop}{w w':World}{fn:FuncId}{pos:String}{es:Array Event}{K:Nat}
theorem touch_main {e:Event}{S R:Nat->Prop}(h:uw p.saidX S R e){x:Touch}(hx:(MemAct.ofEvent e).touch?=some x):(x.kind=.said/\∃a:Addr,x.loc=.cell a/\a.block=p.Wg)\/(x.kind=.plain/\x.loc.isMemory=true/\(inBk S x.loc\/(inBk R x.loc/\x.write=false))):=by
 by_cases hX:p.saidX e
 .obtain⟨a,ha,rfl|rfl⟩:=hX
  .simp[MemAct.ofEvent,MemAct.touch?]at hx;subst hx;exact .inl ⟨rfl,a,rfl,ha⟩
  .simp[MemAct.ofEvent,MemAct.touch?]at hx;subst hx;exact .inl ⟨rfl,a,rfl,ha⟩
 .exact .inr (touch_private h (λy=>absurd y hX) hx)
theorem mark_main {e:Event}{S R:Nat->Prop}{m:Mark}(h:uw p.saidX S R e)(h0:yY m=false)(h1:∀a,m≠.read a)(h2:∀a,m≠.write a):e.loc≠.mark m:=by
 refine mark_private h (λhX=>?_) h0;obtain⟨a,_,rfl|rfl⟩:=hX
 .simpa usingλe=>h1 a e.symm
 .simpa usingλe=>h2 a e.symm
theorem Fam.mine (h:Fam p Shun E1 M Ro w){l:Loc}(hl:inBk (M 0) l\/inBk (Ro 0) l):¬p.Sh Shun l/\(∀k,¬p.Own M k l)/\(inBk (M 0) l->∀k,¬p.Rd Ro k l):=by
 obtain⟨b,hb,hbl⟩:∃b,(M 0 b\/Ro 0 b)/\inBk (·=b) l:=by
  rcases hl with x|x
  .obtain⟨b,h1,h2⟩:=x.some;exact⟨b,.inl h1,h2⟩
  .obtain⟨b,h1,h2⟩:=x.some;exact⟨b,.inr h1,h2⟩
 have nsp:¬p.Sp b:=λhs=>hb.elim (h.sp 0 b hs).1 (h.sp 0 b hs).2
 refine⟨λhs=>?_,λk ⟨hk,hx⟩=>?_,λhm k ⟨hk,hx⟩=>?_⟩
 .rcases sh_in hs with x|x
  .exact h.shun 0 b hb l hbl x
  .obtain⟨b',hb',hl'⟩:=x.some;obtain rfl:=hbl.eq hl';exact nsp (hb'.imp id .inl)
 .rcases hx with hx|hx
  .obtain⟨b',hb',hl'⟩:=hx.some;obtain rfl:=hbl.eq hl';exact hb.elim (h.disj _ 0 (by omega) b hb') (h.ro _ 0 b hb')
  .obtain rfl:=hbl.eq hx.inBk;exact nsp (.inr (.inr rfl))
 .obtain⟨b',hb',hl'⟩:=hx.some;obtain⟨b2,hb2,hl2⟩:=hm.some;obtain rfl:=hl2.eq hl';exact h.ro 0 _ b2 hb2 hb'
theorem ok0_priv (hf:Fam p Shun E1 (upd M 0 (grow (M 0) w w')) Ro w')(hp:bT p.saidX (M 0) (Ro 0) w w' es):∀op∈MemOp.ofEvents 0 fn pos es,Ok0 (p.Sh Shun) (p.Own (upd M 0 (grow (M 0) w w'))) (p.Rd Ro) K op/\(1<=p.J->tA (p.Sh Shun) p.Wg p.J w'.heap.size op):=by
 intro op hop;obtain⟨e,he,rfl⟩:=Go.Conc.mem_ofEvents hop;have ht:=λx hx=>touch_main (hp.ev e he) (x:=x) hx
 have e0:upd M 0 (grow (M 0) w w') 0=grow (M 0) w w':=upd_same _ _ _;refine⟨⟨rfl,λx hx=>?_⟩,λhJ=>⟨λx hx=>?_,λx hx=>?_,λhx=>?_,λhx=>absurd hx (by show¬p.J<=0;omega)⟩⟩
 .rcases ht x hx with⟨hk,a,e1,e2⟩|⟨hk,_,h⟩
  .exact .inl ⟨.inr ⟨a,e1,.inl e2⟩,by rw[hk];simp⟩
  .obtain⟨m1,m2,m3⟩:=hf.mine (l:=x.loc) (by rw[e0];exact h.imp id And.left);refine .inr ⟨m1,λk _ _=>m2 k,λhw k _ _=>?_⟩;rcases h with h|⟨_,h⟩
   .exact m3 (by rw[e0];exact h) k
   .rw[h]at hw;cases hw
 .rcases ht x hx with⟨hk,a,e1,e2⟩|⟨_,h,_⟩
  .rw[e1];rfl
  .exact h
 .rcases ht x hx with⟨hk,a,e1,e2⟩|⟨_,_,h|⟨h,_⟩⟩
  .rw[e1];show a.block<_;rw[e2];exact hf.spLt _ (.inl rfl)
  .exact h.low λb hb=>hf.lt 0 b (.inl (by rw[e0];exact hb))
  .exact h.low λb hb=>hf.lt 0 b (.inr hb)
 .exact mark_main (hp.ev e he) rfl (by simp) (by simp) (Go.ConcR.loc_of_ofEvent hx)
theorem Inv.privM (hR:p.ResOk)(G0:Geo p Shun)(hS:∀l,Shun l->l.low E1)(h:p.Inv Shun E1 Fin Anch G t){a':Goroutine}{ρ':Rk}{d:Nat}
  (hgo:stepG p.P true G.a G.w=.go a' w' es)(hp:bT p.saidX (G.M 0) (G.Ro 0) G.w w' es)(hd:Deaf t 0=d)
  (hs':p.MSit Fin Anch G.tag G.j ρ' G.x d (G.Ro 0) (grow (G.M 0) G.w w') a' w')(hlt:Rk.lt ρ' G.ρ):
  ∃FV ops μ',runT p.P (crowd G.gs G.w G.sl) 0=(.next FV,ops)/\Lt4 p μ' (G.μ p)/\p.InvM Shun E1 Fin Anch μ' FV (t++ops):=by
 have hf:=h.fam.grow hS 0 hp.size;have ks:∀b,p.Sp b->w'.heap[b]?=G.w.heap[b]?:=λb hb=>hp.keep b (h.fam.spLt b hb) (h.fam.sp 0 b hb).1
 have hde:deafBehind (Deaf t 0) es=d:=by rw[hd];exact deafBehind_still (λe he=>⟨mark_main (hp.ev e he) rfl (by simp) (by simp),mark_main (hp.ev e he) rfl (by simp) (by simp)⟩) d
 obtain⟨cs,hcs⟩:=h.bs;exact h.step0 hR G0 hS hgo hp.size (λb hb hn _=>hp.keep b hb hn) (by rw[hde];exact hs') (λop hop=>(ok0_priv hf hp op hop).1) (λop hop=>(ok0_priv hf hp (K:=0) op hop).2 G0.J1) (h.wg.of_block (ks _ (.inl rfl))) (h.tk.of_block (ks _ (.inr (.inl rfl)))) ⟨cs,hcs.of_block (ks _ (.inr (.inr rfl)))⟩ h.mode (λk vs hs=>hs.of_block (ks _ (.inr (.inr rfl)))) (.inr ⟨rfl,.inl hlt⟩)
theorem Inv.bookM (hR:p.ResOk)(G0:Geo p Shun)(hS:∀l,Shun l->l.low E1)(h:p.Inv Shun E1 Fin Anch G t){a':Goroutine}{tag':CTag}{ρ':Rk}{x' d d':Nat}{st' sm':Int}
  (hgo:stepG p.P true G.a G.w=.go a' w' es)(hA:Aside p.Wg G.w w')(hwg:WgAt p.ty p.Wg w' st' sm')(hev:∀e∈es,p.EvS e)(hd:Deaf t 0=d)(hdd:deafBehind d es=d')
  (hs':p.MSit Fin Anch tag' G.j ρ' x' d' (G.Ro 0) (G.M 0) a' w')(hmode:Go.ConcN.Mode G.j (wdOf G.D) tag' st' sm')
  (hlt:phi p.n (Vc G.j (wdOf G.D)) tag'<phi p.n (Vc G.j (wdOf G.D)) G.tag\/(phi p.n (Vc G.j (wdOf G.D)) tag'=phi p.n (Vc G.j (wdOf G.D)) G.tag/\ρ'=G.ρ/\x'<G.x)):
  ∃FV ops μ',runT p.P (crowd G.gs G.w G.sl) 0=(.next FV,ops)/\Lt4 p μ' (G.μ p)/\p.InvM Shun E1 Fin Anch μ' FV (t++ops):=by
 have hB:=hA.block _ (Ne.symm G0.wb);obtain⟨cs,hcs⟩:=h.bs;have hgr:grow (G.M 0) G.w w'=G.M 0:=aW hA.size;exact h.step0 hR G0 hS hgo (by rw[hA.size];exact Gm _) (λb _ _ hn=>hA.block b λe=>hn (.inl e)) (by rw[hd,hdd,hgr];exact hs') (ok0_sync hev) (opOk_sync (by rw[hA.size];exact h.fam.spLt _ (.inl rfl)) (by rw[hA.size];exact h.fam.spLt _ (.inr (.inl rfl))) hev) hwg (h.tk.of_block (hA.block _ (Ne.symm G0.wt))) ⟨cs,hcs.of_block hB⟩ hmode (λk vs hs=>hs.of_block hB) (hlt.imp id λx=>⟨x.1,.inr x.2⟩)
theorem mode_open {j:Nat}{D:Nat->WD}{tag tag':CTag}{st sm:Int}(h:Go.ConcN.Mode j D tag st sm)(h1:isOpen tag)(h2:isOpen tag')(hp:pend tag'=pend tag)(h3:∀vs,tag'=.w2 vs->Vc j D<=vs/\1<=vs):Go.ConcN.Mode j D tag' st sm:=by
 cases h with
 |opn _ ho _=>rw[<-hp];exact .opn h2 ho h3
 |reg x=>cases tag<;>first|exact x.elim|exact h1.elim
 |last _ x=>cases tag<;>first|exact x.elim|exact h1.elim
 |sema _=>exact h1.elim
 |fin x=>cases tag<;>first|exact x.elim|exact h1.elim
theorem mode_open_st {j:Nat}{D:Nat->WD}{tag:CTag}{st sm:Int}(h:Go.ConcN.Mode j D tag st sm)(h1:isOpen tag):OpenSt j D/\st=((Vc j D+pend tag:Nat):Int)*KK/\sm=0/\∀vs,tag=.w2 vs->Vc j D<=vs/\1<=vs:=by
 cases h with
 |opn _ ho h=>exact⟨ho,rfl,rfl,h⟩
 |reg x=>cases tag<;>first|exact x.elim|exact h1.elim
 |last _ x=>cases tag<;>first|exact x.elim|exact h1.elim
 |sema _=>exact h1.elim
 |fin x=>cases tag<;>first|exact x.elim|exact h1.elim
theorem mode_fin_st {j:Nat}{D:Nat->WD}{tag:CTag}{st sm:Int}(h:Go.ConcN.Mode j D tag st sm)(h1:isFin tag):AllQuit j D/\st=0/\sm=0:=by
 cases h with
 |opn x=>cases tag<;>first|exact x.elim|exact h1.elim
 |reg x=>cases tag<;>first|exact x.elim|exact h1.elim
 |last _ x=>cases tag<;>first|exact x.elim|exact h1.elim
 |sema _=>exact h1.elim
 |fin _ h=>exact⟨h,rfl,rfl⟩
theorem quit_of_open {j:Nat}{D:Nat->WD}(h:OpenSt j D)(hv:Vc j D=0):AllQuit j D:=by
 intro i hi;have h1:=le_sumTo (f:=λx=>cnt (D x)) hi;have h2:=h i hi;have h3:cnt (D i)=0:=by simp only[Vc]at hv;omega
 simp only[cnt]at h3;split at h3<;>omega
end Ph
namespace Ph
variable (p:Ph)(Shun:Loc->Prop)(E1:Nat)(Fin Anch:(Nat->Prop)->(Nat->Prop)->Goroutine->World->Prop)
structure Out (gs:Array Goroutine)(w:World)(t:Trace)(a:Goroutine)(Ro M:Nat->Prop)(seq:Nat->List Nat)(vs:Nat->List Value)(Mr:Nat->Nat->Prop):Prop where
 size:gs.size=p.J+p.n
 main:gs[0]?=some a
 fin:Fin Ro M a w
 past:gp (p.Sh Shun) w.heap.size t
 quit:∃q,Leavers p.P t gs q
 who:∀(i:Nat) (op:MemOp),t[i]?=some op->op.g<p.J+p.n
 seqL:∀i,i<p.n->∀x∈seq i,x<p.L
 all:∀x,x<p.L->∃i,i<p.n/\x∈seq i
 slot:∀i,i<p.n->p.Slot i (vs i) w
 res:∀i,i<p.n->p.Res (seq i) (vs i) (Mr i) w
 bs:∃cs,p.BsAt cs w
 apart:∀i k,i<p.n->k<p.n->i≠k->∀b,Mr i b->¬Mr k b
 own:∀i,i<p.n->∀b,Mr i b->b<w.heap.size/\¬M b/\¬Ro b/\¬p.Sp b
 mine:∀b,M b\/Ro b->b<w.heap.size/\¬p.Sp b
 sp:∀b,p.Sp b->b<w.heap.size
 mro:∀b,M b->¬Ro b
 shun:∀i,i<p.n->∀b,Mr i b->∀l,inBk (·=b) l->¬Shun l
variable {p}{Shun}{E1}{Fin Anch}{G:Gh}{t:Trace}
theorem Inv.over (G0:Geo p Shun)(hn1:1<=p.n)(h:p.Inv Shun E1 Fin Anch G t)(htag:G.tag=.acq)(hj:G.j=p.n)(hd:Deaf t 0=0){a':Goroutine}(hgo:stepG p.P true G.a G.w=.go a' G.w #[Go.ConcR.mk (.acquire (stA p.Wg))])(hfin:Fin (G.Ro 0) (G.M 0) a' G.w):
  ∃gs seq vs Mr,runT p.P (crowd G.gs G.w G.sl) 0=(.next (crowd gs G.w G.sl),MemOp.ofEvents 0 G.a.frame.fn G.a.frame.place #[Go.ConcR.mk (.acquire (stA p.Wg))])/\p.Out Shun Fin gs G.w (t++MemOp.ofEvents 0 G.a.frame.fn G.a.frame.place #[Go.ConcR.mk (.acquire (stA p.Wg))]) a' (G.Ro 0) (G.M 0) seq vs Mr:=by
 have hsz':G.gs.size=p.J+G.j:=h.size;have hJ:=G0.J1;have hrun:=runT_crowd_go (P:=p.P) (sl:=G.sl) (i:=0) h.main (show stepG p.P (0==0) G.a G.w=_ from hgo);obtain⟨hall,_,_⟩:=mode_fin_st h.mode (by rw[htag];trivial);have hlib:∀i,i<p.n->∃seq vs Mr,G.D i=.lib 1 seq vs Mr:=λi hi=>by
  have:=hall i (by omega);cases hD:G.D i with
  |fetch f lo seq=>simp[wdOf,hD,WPl.stage]at this
  |put seq=>simp[wdOf,hD,WPl.stage]at this
  |lib s seq vs Mr=>simp only[wdOf,hD,WPl.stage]at this;subst this;exact⟨seq,vs,Mr,rfl⟩
 have hex:∀i,∃x:List Nat×List Value×(Nat->Prop),i<p.n->G.D i=.lib 1 x.1 x.2.1 x.2.2:=λi=>by
  by_cases hi:i<p.n
  .obtain⟨a,b,c,e⟩:=hlib i hi;exact⟨(a,b,c),λ_=>e⟩
  .exact⟨([],[],λ_=>False),λx=>absurd x hi⟩
 let X:=λi=>(hex i).choose
 have hX:∀i,i<p.n->G.D i=.lib 1 (X i).1 (X i).2.1 (X i).2.2:=λi hi=>(hex i).choose_spec hi
 have hF:∀i,i<p.n->p.Fact i (.lib 1 (X i).1 (X i).2.1 (X i).2.2) (G.M (i+1)) G.c G.w t:=λi hi=>hX i hi▸h.fact i (by omega)
 have hEv:∀e∈#[Go.ConcR.mk (.acquire (stA p.Wg))],p.EvS e:=by
  intro e he;simp at he;subst he;exact .inl ⟨_,rfl,.inr (.inr (.inr ⟨_,rfl⟩))⟩
 have hde:Deaf (t++MemOp.ofEvents 0 G.a.frame.fn G.a.frame.place #[Go.ConcR.mk (.acquire (stA p.Wg))]) 0=0:=by rw[Deaf_own,hd];rfl
 have hdo:∀k,k≠0->Deaf (t++MemOp.ofEvents 0 G.a.frame.fn G.a.frame.place #[Go.ConcR.mk (.acquire (stA p.Wg))]) k=Deaf t k:=λk hk=>Deaf_other t (Ne.symm hk) _ g_of_ofEvents
 have htr:=h.tr.app0 (h.fam.apart G0) (ok0_sync (fn:=G.a.frame.fn) (pos:=G.a.frame.place) hEv) (opOk_sync (h.fam.spLt _ (.inl rfl)) (h.fam.spLt _ (.inr (.inl rfl))) hEv);have hops:MemOp.ofEvents 0 G.a.frame.fn G.a.frame.place #[Go.ConcR.mk (.acquire (stA p.Wg))]=#[{g:=0,fn:=G.a.frame.fn,pos:=G.a.frame.place,act:=.mark (.acquire (stA p.Wg))}]:=by rw[ofEvents_eq];simp[Go.ConcR.ofEvent_mk]
 have hq:(t++MemOp.ofEvents 0 G.a.frame.fn G.a.frame.place #[Go.ConcR.mk (.acquire (stA p.Wg))])[t.size]?=some {g:=0,fn:=G.a.frame.fn,pos:=G.a.frame.place,act:=.mark (.acquire (stA p.Wg))}:=by
  rw[hops,Array.getElem?_append_right (Gm _)];simp
 have hpast:=htr.past (λl hl=>.inl hl) (q:=t.size) (by rw[act?_of hq]) (by simp[Trace.g?,hq]) ⟨0,by simp[Trace.g?,hq],by rw[deaf_old (Gm _)];exact hd⟩ (λk hk1 hk2=>by
  have hi:k-p.J<p.n:=by omega
  obtain⟨r,hr⟩:=((hF _ hi).lib _ _ _ _ rfl).2.2 (by omega);rw[show p.J+(k-p.J)=k by omega]at hr;exact⟨r,hr.appOther g_of_ofEvents (by omega),lt_of_act? hr.act⟩) hde
 have hc:p.L<G.c:=(hF 0 (by omega)).out rfl;refine⟨_,λi=>(X i).1,λi=>(X i).2.1,λi=>(X i).2.2,hrun,?_⟩;refine⟨by simpa[hj]using hsz',get_map_set_same _ _ _ (by omega),hfin,hpast,?_,λi op hi=>?_,λi hi x hx=>(hF i hi).seq x hx,λx hx=>?_,λi hi=>((hF i hi).lib _ _ _ _ rfl).1,λi hi=>((hF i hi).lib _ _ _ _ rfl).2.1.1,h.bs,λi k hi hk hne b h1 h2=>?_,λi hi b hb=>?_,λb hb=>⟨h.fam.lt 0 b hb,λhs=>hb.elim (h.fam.sp 0 b hs).1 (h.fam.sp 0 b hs).2⟩,h.fam.spLt,λb hb=>h.fam.ro 0 0 b hb,λi hi b hb=>h.fam.shun (i+1) b (.inl (((hF i hi).lib _ _ _ _ rfl).2.1.2 b hb))⟩
 ·
  have hL:∀i,∃q,∀g,0<i->((G.gs.map (Go.Conc.woken p.P G.a a' G.w)).setIfInBounds 0 a')[i]?=some g->QuitsD p.P q (Deaf (t++MemOp.ofEvents 0 G.a.frame.fn G.a.frame.place #[Go.ConcR.mk (.acquire (stA p.Wg))]) i) g:=λi=>by
   rcases GA i with rfl|hpos
   .exact⟨0,λg h0=>absurd h0 (by omega)⟩
   .rcases Gv i p.J with hlt|hge
    .obtain⟨g,q,h1,h2,_⟩:=h.old i hpos hlt;refine⟨q,λg' _ hg'=>?_⟩;rw[get_map_set _ _ _ _ (by omega),h1,Option.map_some,woken_quitsD h2]at hg';cases hg';rw[hdo i (by omega)];exact h2
    .by_cases hi:i-p.J<p.n
     .obtain⟨g,h1,h2⟩:=h.wk (i-p.J) (by omega);rw[show p.J+(i-p.J)=i by omega]at h1 h2;rw[hX _ hi]at h2;generalize hρ:G.R i=ρ at h2;generalize hdf:Deaf t i=dd at h2;have hwk:=h2.woken h.I G.a a' G.w;cases h2 with
      |lib hC hr hw=>
       rename_i m _ _ _;refine⟨m,λg' _ hg'=>?_⟩;rw[get_map_set _ _ _ _ (by omega),h1,Option.map_some,hwk]at hg';cases hg';rw[hdo i (by omega),hdf];cases hw with
       |quit hq=>exact hq
     .refine⟨0,λg' _ hg'=>?_⟩;have:i<G.gs.size:=by simpa using(Gp.1 hg').1
      omega
  refine⟨λi=>(hL i).choose,λi g h0 hg=>(hL i).choose_spec g h0 hg,λk hk=>?_⟩;have hk':G.gs.size<=k:=by simpa using hk
  rw[hdo k (by omega)];exact h.above k (by omega)
 .have:=htr.ct.gs i op hi;omega
 .obtain⟨i,hi,hxi⟩:=h.cov x hx (by omega);refine⟨i,by omega,?_⟩;rw[hX i (by omega)]at hxi;exact hxi
 .exact h.fam.disj (i+1) (k+1) (by omega) b (((hF i hi).lib _ _ _ _ rfl).2.1.2 b h1) (((hF k hk).lib _ _ _ _ rfl).2.1.2 b h2)
 .have hb':=((hF i hi).lib _ _ _ _ rfl).2.1.2 b hb;exact⟨h.fam.lt (i+1) b (.inl hb'),h.fam.disj (i+1) 0 (by omega) b hb',h.fam.ro (i+1) 0 b hb',λhs=>(h.fam.sp (i+1) b hs).1 hb'⟩
end Ph
namespace Ph
variable {p:Ph}{Shun:Loc->Prop}{E1:Nat}{Fin Anch:(Nat->Prop)->(Nat->Prop)->Goroutine->World->Prop}{G:Gh}{t:Trace}
theorem Lt4.trans_left {μ μ' μ'':Nat×(Nat->Rk)×Rk×Nat}(h:Lt4 p μ μ')(h':μ'.1<μ''.1):Lt4 p μ μ'':=by
 obtain⟨a,b⟩:=μ;obtain⟨a',b'⟩:=μ';obtain⟨a'',b''⟩:=μ'';cases h with
 |left _ _ h=>exact Prod.Lex.left _ _ (Nat.lt_trans h h')
 |right _ h=>exact Prod.Lex.left _ _ h'
theorem Inv.stepM (hR:p.ResOk)(G0:Geo p Shun)(hS:∀l,Shun l->l.low E1)(hn:p.n<2147483647)(hn1:1<=p.n)(hAn:∀Ro M g W,Anch Ro M g W->p.I W->ET p.P true p.I p.saidX Ro (p.AtW1 Fin Anch Ro) M g W)
  (h:p.Inv Shun E1 Fin Anch G t)(hrun:G.a.status=.running):
  (∃gs w sl ops a Ro M seq vs Mr,runT p.P (crowd G.gs G.w G.sl) 0=(.next (crowd gs w sl),ops)/\p.Out Shun Fin gs w (t++ops) a Ro M seq vs Mr)\/
  ∃FV ops μ',runT p.P (crowd G.gs G.w G.sl) 0=(.next FV,ops)/\Lt4 p μ' (G.μ p)/\p.InvM Shun E1 Fin Anch μ' FV (t++ops):=by
 have hA0:Aside p.Wg G.w G.w:=.refl _ _;have evm:∀m,(m=.disable\/m=.enable\/(∃a,m=.releaseMerge a)\/∃a,m=.acquire a)->∀e∈#[Go.ConcR.mk m],p.EvS e:=λm hm e he=>by simp at he;subst he;exact .inl ⟨m,rfl,hm⟩
 have evr:∀e∈#[rd (stA p.Wg)],p.EvS e:=λe he=>by simp at he;subst he;exact .inr ⟨_,_,rfl,.inl rfl⟩
 have evw:∀e∈#[rd (stA p.Wg),wr (stA p.Wg)],p.EvS e:=λe he=>by simp at he;rcases he with rfl|rfl<;>exact .inr ⟨_,_,rfl,.inl rfl⟩
 have hVj:=Vc_le G.j (wdOf G.D);have hjn:=h.jn;have hV:Vc G.j (wdOf G.D)<=p.n:=Gq hVj hjn;have doW1:∀(G:Gh) (_:p.Inv Shun E1 Fin Anch G t) (_:G.tag=.w1) (_:G.j=p.n) (_:Deaf t 0=1) (_:PT p.P true p.I p.saidX (G.Ro 0) (p.AtW1 Fin Anch (G.Ro 0)) G.ρ (G.M 0) G.a G.w) (_:G.x=0),
   ∃FV ops μ',runT p.P (crowd G.gs G.w G.sl) 0=(.next FV,ops)/\Lt4 p μ' (G.μ p)/\p.InvM Shun E1 Fin Anch μ' FV (t++ops):=by
  intro G h htag hj hd hpt hx;rcases hpt.cases with hstop|⟨fr,hr,_,hstep⟩
  .obtain⟨_,hst⟩:=hstop G.w (ax.refl _ _) h.I;have hm:=h.mode;rw[htag]at hm;obtain⟨ho,e1,e2,_⟩:=mode_open_st hm trivial;have hwg:=h.wg;rw[e1,e2]at hwg;have hV:Vc G.j (wdOf G.D)<=p.n:=Gq (Vc_le _ _) h.jn;obtain⟨g',hgo,h0,h1⟩:=hst (Vc G.j (wdOf G.D)) (by omega) (by simpa[pend]using hwg);by_cases hv:Vc G.j (wdOf G.D)=0
   .obtain⟨ρ',hp⟩:=h0 hv;refine h.bookM hR G0 hS hgo (.refl _ _) h.wg evr hd rfl (tag':=.ke) (by rw[hj];exact .ke hp) ?_ (.inl (by rw[htag];simp only[phi];omega));rw[e1,e2];have:(((Vc G.j (wdOf G.D)+pend .w1:Nat):Int)*KK)=0:=by rw[hv];simp[pend]
    rw[this];exact .fin trivial (quit_of_open ho hv)
   .obtain⟨ρ',hp⟩:=h1 hv;exact h.bookM hR G0 hS hgo (.refl _ _) h.wg evr hd rfl (tag':=.w2 (Vc G.j (wdOf G.D))) (by rw[hj]at hp⊢;exact .w2 hp) (mode_open hm trivial trivial rfl λvs e=>by cases e;exact⟨Gm _,by omega⟩) (.inl (by rw[htag];simp only[phi];omega))
  .obtain⟨g',w',es,hgo,hp,hn⟩:=hstep G.w (ax.refl _ _) h.I;exact h.privM hR G0 hS hgo hp hd (by rw[htag,hx,hj];exact .w1 hn) (by rw[hr];exact⟨_,rfl⟩)
 have hs:=h.sit;have hI:=h.I;generalize htag:G.tag=tag at hs;generalize hj:G.j=j at hs;generalize hρ:G.ρ=ρ at hs;generalize hx:G.x=x at hs;generalize hd:Deaf t 0=d at hs;generalize hR0:G.Ro 0=R0 at hs;generalize hM0:G.M 0=M0 at hs;generalize ha:G.a=a at hs;generalize hw:G.w=w at hs;have hm:=h.mode;have hwg:=h.wg;rw[htag]at hm;cases hs with
 |@skd r _ _ _ _ _ hr hpt=>
  subst hρ hR0 hM0 ha hw;rcases hpt.cases with hstop|⟨fr,hrr,_,hstep⟩
  .obtain⟨_,g',hgo,ρ',hp⟩:=hstop _ (ax.refl _ _) hI;exact .inr (h.bookM hR G0 hS hgo hA0 hwg (evm _ (.inl rfl)) hd rfl (tag':=.sp r 4) (by rw[hj];exact .sa1 hr hp) (mode_open hm trivial trivial rfl (λvs e=>by cases e)) (.inl (by rw[htag];simp only[phi];omega)))
  .obtain⟨g',w',es,hgo,hp,hn⟩:=hstep _ (ax.refl _ _) hI;exact .inr (h.privM hR G0 hS hgo hp hd (by rw[htag,hx,hj];exact .skd hr hn) (by rw[hrr];exact⟨_,rfl⟩))
 |@sa1 r _ _ _ _ _ hr hpt=>
  subst hρ hR0 hM0 ha hw;rcases hpt.cases with hstop|⟨fr,hrr,_,hstep⟩
  .obtain⟨_,hst⟩:=hstop _ (ax.refl _ _) hI;obtain⟨ho,e1,e2,_⟩:=mode_open_st hm trivial;rw[e1,e2]at hwg;obtain⟨g',hgo,ρ',hp⟩:=hst (Vc G.j (wdOf G.D)) (by omega) (by simpa[pend]using hwg);refine .inr (h.bookM hR G0 hS hgo (aside_setCell _ (stA p.Wg) _) (hwg.setSt _) evw hd (d':=1) (by simp[deafBehind,rd,wr]) (tag':=.sp r 3) (by have hs:=MSit.ske (Fin:=Fin) hr hp;rw[<-hj]at hs;exact hs) ?_ (.inl (by rw[htag];simp only[phi];omega)));have h3:=Go.ConcN.Mode.opn (D:=wdOf G.D) (j:=G.j) (tag:=.sp r 3) trivial ho (λvs e=>by cases e);have e3:((Vc G.j (wdOf G.D)+pend (.sp r 3):Nat):Int)=(Vc G.j (wdOf G.D):Int)+1:=by simp[pend]
   rw[e3]at h3;exact h3
  .obtain⟨g',w',es,hgo,hp,hn⟩:=hstep _ (ax.refl _ _) hI;exact .inr (h.privM hR G0 hS hgo hp hd (by rw[htag,hx,hj];exact .sa1 hr hn) (by rw[hrr];exact⟨_,rfl⟩))
 |@ske r _ _ _ _ _ hr hpt=>
  subst hρ hR0 hM0 ha hw;rcases hpt.cases with hstop|⟨fr,hrr,_,hstep⟩
  .obtain⟨_,g',hgo,ρ',hp⟩:=hstop _ (ax.refl _ _) hI;exact .inr (h.bookM hR G0 hS hgo hA0 hwg (evm _ (.inr (.inl rfl))) hd rfl (tag':=.sp r 2) (by rw[hj];exact .sgo hr hp) (mode_open hm trivial trivial rfl (λvs e=>by cases e)) (.inl (by rw[htag];simp only[phi];omega)))
  .obtain⟨g',w',es,hgo,hp,hn⟩:=hstep _ (ax.refl _ _) hI;exact .inr (h.privM hR G0 hS hgo hp hd (by rw[htag,hx,hj];exact .ske hr hn) (by rw[hrr];exact⟨_,rfl⟩))
 |@sgo r _ _ _ _ _ hr hpt=>
  subst hρ hR0 hM0 ha hw;rcases hpt.cases with hstop|⟨fr,hrr,_,hstep⟩
  .exact .inr (h.spawn G0 hr htag hj hd (hstop _ (ax.refl _ _) hI))
  .obtain⟨g',w',es,hgo,hp,hn⟩:=hstep _ (ax.refl _ _) hI;exact .inr (h.privM hR G0 hS hgo hp hd (by rw[htag,hx,hj];exact .sgo hr hn) (by rw[hrr];exact⟨_,rfl⟩))
 |kd hpt=>
  subst hρ hR0 hM0 ha hw;rcases hpt.cases with hstop|⟨fr,hrr,_,hstep⟩
  .obtain⟨_,g',hgo,ρ',hp⟩:=hstop _ (ax.refl _ _) hI;exact .inr (h.bookM hR G0 hS hgo hA0 hwg (evm _ (.inl rfl)) hd rfl (tag':=.anch) (by rw[hj];exact .anch hp) (mode_open hm trivial trivial rfl (λvs e=>by cases e)) (.inl (by rw[htag];simp only[phi];omega)))
  .obtain⟨g',w',es,hgo,hp,hn⟩:=hstep _ (ax.refl _ _) hI;exact .inr (h.privM hR G0 hS hgo hp hd (by rw[htag,hx,hj];exact .kd hn) (by rw[hrr];exact⟨_,rfl⟩))
 |anch hpt=>
  subst hρ hR0 hM0 ha hw;rcases hpt.cases with hstop|⟨fr,hrr,_,hstep⟩
  .obtain⟨ρ',hp⟩:=hAn _ _ _ _ (hstop _ (ax.refl _ _) hI) hI;have h':p.Inv Shun E1 Fin Anch {G with tag:=.w1,ρ:=ρ',x:=0} t:=⟨h.size,h.jn,h.main,by rw[hd];show p.MSit Fin Anch .w1 G.j ρ' 0 1 (G.Ro 0) (G.M 0) G.a G.w;rw[hj];exact .w1 hp,h.wk,h.old,h.above,h.fam,h.tr,h.wg,h.tk,h.bs,mode_open (tag':=.w1) hm trivial trivial rfl (λvs e=>by cases e),h.fact,h.cov,h.bound⟩;obtain⟨FV,ops,μ',h1,h2,h3⟩:=doW1 _ h' rfl hj hd hp rfl;refine .inr ⟨FV,ops,μ',h1,h2.trans_left ?_,h3⟩;show phi p.n _ .w1+_+_<phi p.n _ G.tag+_+_;rw[htag];simp only[phi];omega
  .obtain⟨g',w',es,hgo,hp,hn⟩:=hstep _ (ax.refl _ _) hI;exact .inr (h.privM hR G0 hS hgo hp hd (by rw[htag,hx,hj];exact .anch hn) (by rw[hrr];exact⟨_,rfl⟩))
 |w1 hpt=>
  subst hρ hR0 hM0 ha hw;exact .inr (doW1 G h htag hj hd hpt hx)
 |w2 hpt=>
  subst hρ hR0 hM0 ha hw;rename_i vs;rcases hpt.cases with hstop|⟨fr,hrr,_,hstep⟩
  .obtain⟨_,hst⟩:=hstop _ (ax.refl _ _) hI;obtain⟨ho,e1,e2,hvs⟩:=mode_open_st hm trivial;obtain⟨hv1,hv2⟩:=hvs vs rfl;rw[e1,e2]at hwg;obtain⟨hhit,hmiss⟩:=hst (Vc G.j (wdOf G.D)) (by omega) (by simpa[pend]using hwg);by_cases hv:Vc G.j (wdOf G.D)=vs
   .obtain⟨g',hgo,ρ',hp⟩:=hhit hv;refine .inr (h.bookM hR G0 hS hgo (aside_setCell _ (stA p.Wg) _) (hwg.setSt _) evw hd (d':=1) (by simp[deafBehind,rd,wr]) (tag':=.w3) (by have hs:=MSit.w3 (Anch:=Anch) hp;rw[<-hj]at hs;exact hs) (.reg trivial ho (by omega)) (.inl (by rw[htag];simp only[phi];omega)))
   .obtain⟨g',hgo,ρ',hp⟩:=hmiss hv;exact .inr (h.bookM hR G0 hS hgo hA0 h.wg evr hd rfl (tag':=.anch) (by rw[hj];exact .anch hp) (mode_open hm trivial trivial rfl (λvs e=>by cases e)) (.inl (by rw[htag];simp only[phi];omega)))
  .obtain⟨g',w',es,hgo,hp,hn⟩:=hstep _ (ax.refl _ _) hI;exact .inr (h.privM hR G0 hS hgo hp hd (by rw[htag,hx,hj];exact .w2 hn) (by rw[hrr];exact⟨_,rfl⟩))
 |w3 hpt=>
  subst hρ hR0 hM0 ha hw;rcases hpt.cases with hstop|⟨fr,hrr,_,hstep⟩
  .obtain⟨hrn,hof,hbl,hup⟩:=hstop _ (ax.refl _ _) hI;have block:∀st,WgAt p.ty p.Wg G.w st 0->Go.ConcN.Mode G.j (wdOf G.D) .blk G.st G.sm->∃FV ops μ',runT p.P (crowd G.gs G.w G.sl) 0=(.next FV,ops)/\Lt4 p μ' (G.μ p)/\p.InvM Shun E1 Fin Anch μ' FV (t++ops):=λst hst hmb=>
    h.bookM hR G0 hS (hbl ⟨st,hst⟩) hA0 hwg (by simp) hd rfl (tag':=.blk) (by rw[hj];exact .blk hrn hof hpt hstop) hmb (.inr ⟨by rw[htag];rfl,rfl,by omega⟩)
   generalize hst:G.st=st at hm hwg block;generalize hsm:G.sm=sm at hm hwg block;cases hm with
   |opn x=>exact x.elim
   |reg _ h2 h3=>exact .inr (block _ hwg (.reg trivial h2 h3))
   |last L _ h2 h3 h4=>exact .inr (block _ hwg (.last L trivial h2 h3 h4))
   |sema hq=>
    obtain⟨g',hgo,ρ',hp⟩:=hup hwg;refine .inr (h.bookM hR G0 hS hgo (aside_setCell _ (smA p.Wg) _) (hwg.setSm 0) ?_ hd (d':=1) (by simp[deafBehind,semEvents]) (tag':=.w4) (by rw[hj];exact .w4 hp) (.fin trivial hq) (.inl (by rw[htag];simp only[phi];omega)));intro e he;simp[semEvents]at he;rcases he with rfl|rfl|rfl|rfl
    .exact .inl ⟨_,rfl,.inl rfl⟩
    .exact .inr ⟨_,_,rfl,.inl rfl⟩
    .exact .inr ⟨_,_,rfl,.inl rfl⟩
    .exact .inl ⟨_,rfl,.inr (.inl rfl)⟩
   |fin x=>exact x.elim
  .obtain⟨g',w',es,hgo,hp,hn⟩:=hstep _ (ax.refl _ _) hI;exact .inr (h.privM hR G0 hS hgo hp hd (by rw[htag,hx,hj];exact .w3 hn) (by rw[hrr];exact⟨_,rfl⟩))
 |blk _ _ _ _=>rw[ha]at hrun;cases hrun
 |w4 hpt=>
  subst hρ hR0 hM0 ha hw;rcases hpt.cases with hstop|⟨fr,hrr,_,hstep⟩
  .obtain⟨_,hst⟩:=hstop _ (ax.refl _ _) hI;obtain⟨hq,e1,e2⟩:=mode_fin_st hm trivial;obtain⟨g',hgo,ρ',hp⟩:=hst (by rw[e1,e2]at hwg;exact hwg);exact .inr (h.bookM hR G0 hS hgo hA0 hwg evr hd rfl (tag':=.ke) (by rw[hj];exact .ke hp) (by rw[e1,e2];exact .fin trivial hq) (.inl (by rw[htag];simp only[phi];omega)))
  .obtain⟨g',w',es,hgo,hp,hn⟩:=hstep _ (ax.refl _ _) hI;exact .inr (h.privM hR G0 hS hgo hp hd (by rw[htag,hx,hj];exact .w4 hn) (by rw[hrr];exact⟨_,rfl⟩))
 |ke hpt=>
  subst hρ hR0 hM0 ha hw;rcases hpt.cases with hstop|⟨fr,hrr,_,hstep⟩
  .obtain⟨_,g',hgo,ρ',hp⟩:=hstop _ (ax.refl _ _) hI;obtain⟨hq,e1,e2⟩:=mode_fin_st hm trivial;exact .inr (h.bookM hR G0 hS hgo hA0 hwg (evm _ (.inr (.inl rfl))) hd rfl (tag':=.acq) (by rw[hj];exact .acq hp) (by rw[e1,e2];exact .fin trivial hq) (.inl (by rw[htag];simp only[phi];omega)))
  .obtain⟨g',w',es,hgo,hp,hn⟩:=hstep _ (ax.refl _ _) hI;exact .inr (h.privM hR G0 hS hgo hp hd (by rw[htag,hx,hj];exact .ke hn) (by rw[hrr];exact⟨_,rfl⟩))
 |acq hpt=>
  subst hρ hR0 hM0 ha hw;rcases hpt.cases with hstop|⟨fr,hrr,_,hstep⟩
  .obtain⟨_,g',hgo,hfin⟩:=hstop _ (ax.refl _ _) hI;obtain⟨gs,seq,vs,Mr,h1,h2⟩:=h.over G0 hn1 htag hj hd hgo hfin;exact .inl ⟨gs,_,_,_,g',_,_,seq,vs,Mr,h1,h2⟩
  .obtain⟨g',w',es,hgo,hp,hn⟩:=hstep _ (ax.refl _ _) hI;exact .inr (h.privM hR G0 hS hgo hp hd (by rw[htag,hx,hj];exact .acq hn) (by rw[hrr];exact⟨_,rfl⟩))
end Ph
namespace Ph
variable {p:Ph}{Shun:Loc->Prop}{E1:Nat}{Fin Anch:(Nat->Prop)->(Nat->Prop)->Goroutine->World->Prop}{G:Gh}{t:Trace}
theorem MSit.bound {tag:CTag}{j x d:Nat}{ρ:Rk}{Ro M:Nat->Prop}{a:Goroutine}{w:World}(h:p.MSit Fin Anch tag j ρ x d Ro M a w):j+pend tag<=p.n:=by
 cases h<;>simp only[pend]<;>(try simp)<;>omega
theorem Inv.awake (hAr:∀Ro M g W,Anch Ro M g W->g.status=.running)(h:p.Inv Shun E1 Fin Anch G t):∀g∈G.gs,Go.Conc.awake g:=by
 intro g hg;obtain⟨i,hi⟩:=Array.mem_iff_getElem?.1 hg;rcases GA i with rfl|hpos
 .rw[h.main]at hi;cases hi;exact awake_of ((h.sit.status hAr h.I).imp (·.1) λx=>.inl x.1)
 .rcases Gv i p.J with hlt|hge
  .obtain⟨g',q,h1,h2,_⟩:=h.old i hpos hlt;rw[hi]at h1;cases h1;exact awake_of (h2.status.imp id .inr)
  .have hlt:i-p.J<G.j:=by have:=(Gp.1 hi).1;rw[h.size]at this;omega
   obtain⟨g',h1,h2⟩:=h.wk (i-p.J) hlt;rw[show p.J+(i-p.J)=i by omega,hi]at h1;cases h1;exact awake_of ((h2.status h.I).imp id λx=>.inr x.1)
theorem Inv.someone (hAr:∀Ro M g W,Anch Ro M g W->g.status=.running)(h:p.Inv Shun E1 Fin Anch G t):∃(i:Nat) (g:Goroutine),G.gs[i]?=some g/\g.status=.running:=by
 have wk:∀i,i<G.j->(G.D i).stage≠1->∃(i:Nat) (g:Goroutine),G.gs[i]?=some g/\g.status=.running:=λi hi hs=>by
  obtain⟨g,h1,h2⟩:=h.wk i hi;exact⟨_,g,h1,(h2.status h.I).resolve_right λx=>hs x.2⟩
 rcases h.sit.status hAr h.I with⟨hs,_⟩|⟨_,htag⟩
 .exact⟨0,_,h.main,hs⟩
 .have hm:=h.mode;rw[htag]at hm;generalize G.st=st at hm;generalize G.sm=sm at hm;cases hm with
  |opn x=>exact x.elim
  |reg _ _ h3=>
   obtain⟨i,hi,h5⟩:=Go.ConcN.exists_counted h3;exact wk i hi (by simp only[wdOf]at h5;omega)
  |last L _ h2 h3 _=>exact wk L h2 (by simp only[wdOf]at h3;omega)
  |fin x=>exact x.elim
theorem phase_run (hR:p.ResOk)(G0:Geo p Shun)(hS:∀l,Shun l->l.low E1)(hn:p.n<2147483647)(hn1:1<=p.n)(hL:p.L+p.n<4611686018427387904)(hAr:∀Ro M g W,Anch Ro M g W->g.status=.running)
  (hAn:∀Ro M g W,Anch Ro M g W->p.I W->ET p.P true p.I p.saidX Ro (p.AtW1 Fin Anch Ro) M g W):
  ∀(μ:Nat×(Nat->Rk)×Rk×Nat) (m:Machine) (t:Trace),p.InvM Shun E1 Fin Anch μ m t->
   ∃N gs w sl t' a Ro M seq vs Mr,runNT p.P N m t=(.next (crowd gs w sl),t')/\p.Out Shun Fin gs w t' a Ro M seq vs Mr:=by
 intro μ;induction μ using(Lt4.wf p).induction with
 |_ μ ih=>
  rintro m t ⟨G,rfl,rfl,h⟩;obtain⟨i,g,d,sl',hi,hg,hst⟩:=crowd_pick (P:=p.P) (w:=G.w) (sl:=G.sl) (h.awake hAr) (h.someone hAr);have h':=h.at hR d sl';have hJ:=G0.J1;have go:(∃FV ops μ',runT p.P (crowd G.gs (G.w.at d) sl') i=(.next FV,ops)/\Lt4 p μ' (G.μ p)/\p.InvM Shun E1 Fin Anch μ' FV (t++ops))->
    ∃N gs w sl t' a Ro M seq vs Mr,runNT p.P N (crowd G.gs G.w G.sl) t=(.next (crowd gs w sl),t')/\p.Out Shun Fin gs w t' a Ro M seq vs Mr:=by
   rintro⟨FV,ops,μ',h1,h2,h3⟩;obtain⟨N,gs,w,sl,t',a,Ro,M,seq,vs,Mr,h4,h5⟩:=ih μ' h2 FV _ h3;exact⟨N+1,gs,w,sl,t',a,Ro,M,seq,vs,Mr,by simp only[runNT,hst,h1];exact h4,h5⟩
  rcases GA i with rfl|hpos
  .have ha:G.a.status=.running:=by rw[h.main]at hi;cases hi;exact hg
   rcases h'.stepM hR G0 hS hn hn1 hAn ha with⟨gs,w,sl,ops,a,Ro,M,seq,vs,Mr,h1,h2⟩|h1
   .have h1':runT p.P (crowd G.gs (G.w.at d) sl') 0=(.next (crowd gs w sl),ops):=h1;exact⟨1,gs,w,sl,_,a,Ro,M,seq,vs,Mr,by simp only[runNT,hst,h1'],h2⟩
   .exact go h1
  .rcases Gv i p.J with hlt|hge
   .exact go (h'.stepL hR G0 hAr hpos hlt hi hg)
   .have hij:i-p.J<G.j:=by have:=(Gp.1 hi).1;rw[h.size]at this;omega
    obtain⟨k,rfl⟩:∃k,i=p.J+k:=⟨i-p.J,by omega⟩;have hk:k<G.j:=by omega
    obtain⟨g',h1,h2⟩:=h'.wk k hk;obtain rfl:g=g':=by rw[show G.gs[p.J+k]?=some g from hi]at h1;exact Gt h1
    have hb:=h'.sit.bound;change p.WS k (G.Ro (k+1)) (G.D k) (G.R (p.J+k)) (Deaf t (p.J+k)) (G.M (k+1)) g (G.w.at d)at h2;generalize hD:G.D k=pl at h2;generalize hρ:G.R (p.J+k)=ρ at h2;generalize hd:Deaf t (p.J+k)=dd at h2;cases h2 with
    |fetch hp=>exact go (h'.fetchW hR G0 hS hAr hL hk hD hi hd (by rw[show Gh.R _ (p.J+k)=_ from hρ];exact hp))
    |put hp=>exact go (h'.putW hR G0 hS hAr hk hD hi hd (by rw[show Gh.R _ (p.J+k)=_ from hρ];exact hp))
    |lib hC hr hw=>exact go (h'.libW hR G0 hS hAr hn hk hD hi hg hd hC hr hρ hb hw)
end Ph
end
section
open Go Go.Conc
open Go.ConcN (sumTo upd sumTo_upd upd_ne upd_same)
open Go.ConcR (g_of_ofEvents)
section
variable {Shun:Loc->Prop}{B:Nat}{t u:Trace}
theorem gp.mono {B':Nat}(h:gp Shun B t)(hB:B<=B'):gp Shun B' t:=⟨h.clean,h.known,h.over,h.hears,λi a ha=>Loc.low_mono hB (h.seen i a ha),h.quiet,h.mem⟩
theorem gp.app0 (h:gp Shun B t)(hu:∀op∈u,op.g=0)(hs:∀op∈u,∀b,op.act.touch?=some b->b.kind=.plain/\¬Shun b.loc/\b.loc.low B/\b.loc.isMemory=true)(hd:Deaf (t++u) 0=Deaf t 0):gp Shun B (t++u):=by
 have split:∀{i:Nat} {a:Touch},touchAt (t++u) i=some a->touchAt t i=some a\/∃op∈u,(t++u)[i]?=some op/\op.act.touch?=some a:=by
  intro i a ha;obtain⟨x,hx,hxa⟩:=touch_of ha;rcases getElem?_append_cases hx with⟨_,hx'⟩|⟨_,hxu⟩
  .exact .inl (by rw[touchAt_of hx'];exact hxa)
  .exact .inr ⟨x,hxu,hx,hxa⟩
 refine⟨λsaid=>noRace_append (h.clean said) hu λi a ha op hop b hb hc=>?_,λi a ha=>?_,handedOver_app h.over λop hop=>.inl (hu op hop),hd.trans h.hears,λi a ha=>?_,h.quiet.app λop hop x hx hsx=>absurd hsx (hs op hop x hx).2.1,λi a ha=>?_⟩
 .exact(h.known i a ha).resolve_right λx=>(hs op hop b hb).2.1 (hc.1▸x.1)
 .rcases split ha with h1|⟨op,hop,h1,h2⟩
  .exact(h.known i a h1).imp (·.app u) id
  .have:=knows_own h1;rw[hu op hop]at this;exact .inl this
 .rcases split ha with h1|⟨op,hop,h1,h2⟩
  .exact h.seen i a h1
  .exact(hs op hop a h2).2.2.1
 .rcases split ha with h1|⟨op,hop,h1,h2⟩
  .exact h.mem i a h1
  .exact(hs op hop a h2).2.2.2
theorem gp.appMute {g:Nat}(h:gp Shun B t)(hg:g≠0)(hu:∀op∈u,op.g=g)(hn:∀op∈u,op.act.touch?=none):gp Shun B (t++u):=by
 have old:∀{i:Nat} {a:Touch},touchAt (t++u) i=some a->touchAt t i=some a:=by
  intro i a ha;obtain⟨x,hx,hxa⟩:=touch_of ha;rcases getElem?_append_cases hx with⟨_,hx'⟩|⟨_,hxu⟩
  .rw[touchAt_of hx'];exact hxa
  .rw[hn x hxu]at hxa;cases hxa
 exact⟨λsaid=>noRace_append (h.clean said) hu λi a _ op hop b hb _=>(by rw[hn op hop]at hb;cases hb),λi a ha=>(h.known i a (old ha)).imp (·.app u) id,handedOver_app h.over λop hop=>.inr (hn op hop),(Deaf_other t hg u hu).trans h.hears,λi a ha=>h.seen i a (old ha),h.quiet.app λop hop x hx=>(by rw[hn op hop]at hx;cases hx),λi a ha=>h.mem i a (old ha)⟩
end
section
variable {P:Program}{Shun:Loc->Prop}{Stop:(Nat->Prop)->Goroutine->World->Prop}{V Ro:Nat->Prop}{I:World->Prop}
structure bp (P:Program)(Shun:Loc->Prop)(V Ro M:Nat->Prop)(gs:Array Goroutine)(a:Goroutine)(w:World)(t:Trace)(q:Nat->Nat):Prop where
 main:gs[0]?=some a
 quit:Leavers P t gs q
 past:gp Shun w.heap.size t
 who:∀(i:Nat) (op:MemOp),t[i]?=some op->op.g<gs.size
 lt:∀b,M b\/Ro b->b<w.heap.size
 shun:∀b,M b\/Ro b->∀l,inBk (·=b) l->¬Shun l
 low:∀l,Shun l->l.low w.heap.size
 un:∀i a,touchAt t i=some a->¬inBk V a.loc
 vlt:∀b,V b->b<w.heap.size
 vm:∀b,V b->¬M b/\¬Ro b
theorem wx {n g:Nat}{t u:Trace}(h:∀(i:Nat) (op:MemOp),t[i]?=some op->op.g<n)(hu:∀op∈u,op.g=g)(hg:g<n):∀(i:Nat) (op:MemOp),(t++u)[i]?=some op->op.g<n:=by
 intro i op hi;rcases getElem?_append_cases hi with⟨_,hi'⟩|⟨_,hiu⟩
 .exact h i op hi'
 .rw[hu op hiu];exact hg
theorem bp.own {M:Nat->Prop}{gs:Array Goroutine}{a a':Goroutine}{w w':World}{t:Trace}{q:Nat->Nat}{es:Array Event}(h:bp P Shun V Ro M gs a w t q)(hp:bT Ph.noX M Ro w w' es):
  bp P Shun V Ro (grow M w w') ((gs.map (woken P a a' w')).setIfInBounds 0 a') a' w' (t++MemOp.ofEvents 0 a.frame.fn a.frame.place es) q:=by
 have hpos:0<gs.size:=(Gp.1 h.main).1;have hg:∀b,grow M w w' b\/Ro b->b<w'.heap.size:=λb hb=>by
  rcases hb with(hb|⟨_,hb⟩)|hb
  .exact Gn (h.lt b (.inl hb)) hp.size
  .exact hb
  .exact Gn (h.lt b (.inr hb)) hp.size
 have hsh:∀b,grow M w w' b\/Ro b->∀l,inBk (·=b) l->¬Shun l:=λb hb l hl hx=>by
  rcases hb with(hb|⟨hb,_⟩)|hb
  .exact h.shun b (.inl hb) l hl hx
  .exact hl.nlow hb (h.low l hx)
  .exact h.shun b (.inr hb) l hl hx
 refine⟨by simp[hpos],⟨λj x hj hx=>?_,λj hj=>?_⟩,?_,?_,hg,hsh,λl hl=>Loc.low_mono hp.size (h.low l hl),λi x hx hv=>?_,λb hb=>Gn (h.vlt b hb) hp.size,λb hb=>⟨λhx=>hx.elim (h.vm b hb).1 λy=>absurd (h.vlt b hb) (Nat.not_lt.2 y.1),(h.vm b hb).2⟩⟩
 .rw[Array.getElem?_setIfInBounds_ne (by omega),Array.getElem?_map]at hx;obtain⟨y,hy,rfl⟩:=GG.1 hx;have hq:=h.quit.old j y hj hy;rw[woken_quitsD hq,Deaf_other t (g':=0) (by omega) _ g_of_ofEvents];exact hq
 .have hj':gs.size<=j:=by simpa using hj
  rw[Deaf_other t (g':=0) (by omega) _ g_of_ofEvents];exact h.quit.above j hj'
 .refine(h.past.mono hp.size).app0 g_of_ofEvents (λop hop b hb=>?_) ?_
  .obtain⟨e,he,rfl⟩:=Go.Conc.mem_ofEvents hop;obtain⟨h1,h2,h3⟩:=Ph.touch_private (hp.ev e he) (λy=>y.elim) hb;have h4:inBk (λb=>grow M w w' b\/Ro b) b.loc:=h3.elim (λx=>x.mono λ_ y=>.inl y) λx=>x.1.mono λ_ y=>.inr y
   obtain⟨b',hb',hl⟩:=h4.some;exact⟨h1,hsh b' hb' _ hl,h4.low hg,h2⟩
  .rw[Deaf_own];exact deafBehind_still (λe he=>⟨Ph.mark_private (hp.ev e he) (λy=>y.elim) rfl,Ph.mark_private (hp.ev e he) (λy=>y.elim) rfl⟩) _
 .intro i op hi;have:=wx h.who (g:=0) g_of_ofEvents hpos i op hi;simpa using this
 .obtain⟨op,hop,hoa⟩:=touch_of hx;rcases getElem?_append_cases hop with⟨_,hop'⟩|⟨_,hopu⟩
  .exact h.un i x (by rw[touchAt_of hop'];exact hoa) hv
  .obtain⟨e,he,rfl⟩:=Go.Conc.mem_ofEvents hopu;obtain⟨_,_,h3⟩:=Ph.touch_private (hp.ev e he) (λy=>y.elim) hoa;obtain⟨b,hb,hl⟩:=hv.some;rcases h3 with h3|⟨h3,_⟩
   .obtain⟨b',hb',hl'⟩:=h3.some;obtain rfl:=hl.eq hl';exact hb'.elim (h.vm b hb).1 λy=>absurd (h.vlt b hb) (Nat.not_lt.2 y.1)
   .obtain⟨b',hb',hl'⟩:=h3.some;obtain rfl:=hl.eq hl';exact(h.vm b hb).2 hb'
theorem bp.at {M:Nat->Prop}{gs:Array Goroutine}{a:Goroutine}{w:World}{t:Trace}{q:Nat->Nat}(h:bp P Shun V Ro M gs a w t q)(d:Nat):bp P Shun V Ro M gs a (w.at d) t q:=⟨h.main,h.quit,h.past,h.who,h.lt,h.shun,h.low,h.un,h.vlt,h.vm⟩
theorem bp.awake {M:Nat->Prop}{gs:Array Goroutine}{a:Goroutine}{w:World}{t:Trace}{q:Nat->Nat}(h:bp P Shun V Ro M gs a w t q)(hr:a.status=.running):∀g∈gs,Go.Conc.awake g:=by
 intro g hg;obtain⟨i,hi,rfl⟩:=Array.mem_iff_getElem.1 hg;rcases GA i with rfl|hpos
 .have:gs[0]=a:=by simpa[Array.getElem?_eq_getElem hi]using h.main
  rw[this];exact awake_of (.inl hr)
 .exact awake_of ((h.quit.old i _ hpos (Gu hi)).status.elim .inl λx=>.inr (.inr x))
theorem bp.slip {M:Nat->Prop}{gs:Array Goroutine}{a g:Goroutine}{w:World}{sl:Option (Nat×Nat)}{t:Trace}{q:Nat->Nat}(h:bp P Shun V Ro M gs a w t q)(hr:a.status=.running){i:Nat}(hpos:0<i)(hi:gs[i]?=some g)(hg:g.status=.running):
  ∃gs' ops q',runT P (crowd gs w sl) i=(.next (crowd gs' w sl),ops)/\gs'.size=gs.size/\sumTo gs.size q'<sumTo gs.size q/\bp P Shun V Ro M gs' a w (t++ops) q':=by
 have hq:=h.quit.old i g hpos hi;have hi0:(i==0)=false:=by simp;omega
 have hlt:i<gs.size:=(Gp.1 hi).1;cases hqi:q i with
 |zero=>rw[hqi]at hq;rw[hq.1]at hg;cases hg
 |succ k=>
  rw[hqi]at hq;rcases hq with⟨hf,_⟩|⟨_,g',es,hm,hstp,hq'⟩
  .rw[hf]at hg;cases hg
  have hrunT:=runT_crowd_go (P:=P) (sl:=sl) (i:=i) hi (by rw[hi0];exact hstp w);have hsum:sumTo gs.size (upd q i k)+(k+1)=sumTo gs.size q+k:=by
   have:=sumTo_upd q k id hlt;simpa[hqi]using this
  refine⟨_,_,upd q i k,hrunT,by simp,by omega,⟨?_,⟨λj x hj hx=>?_,λj hj=>?_⟩,?_,?_,h.lt,h.shun,h.low,λi' x hx=>?_,h.vlt,h.vm⟩⟩
  .rw[Array.getElem?_setIfInBounds_ne (by omega),Array.getElem?_map,h.main];simp[woken_run hr]
  .by_cases hji:i=j
   .subst hji;rw[Array.getElem?_setIfInBounds_self_of_lt (by simpa using hlt)]at hx;obtain rfl:=Gt hx;rw[upd_same,Deaf_own];exact hq'
   .rw[Array.getElem?_setIfInBounds_ne hji,Array.getElem?_map]at hx;obtain⟨y,hy,rfl⟩:=GG.1 hx;have hqj:=h.quit.old j y hj hy;rw[woken_quitsD hqj,upd_ne q k (Ne.symm hji),Deaf_other t hji _ g_of_ofEvents];exact hqj
  .have hj':gs.size<=j:=by simpa using hj
   rw[Deaf_other t (g':=i) (by omega) _ g_of_ofEvents];exact h.quit.above j hj'
  .exact h.past.appMute (by omega) g_of_ofEvents λop hop=>by obtain⟨e,he,rfl⟩:=Go.Conc.mem_ofEvents hop;exact touch_mute (hm e he)
  .intro i' op hi';have:=wx h.who (g:=i) g_of_ofEvents hlt i' op hi';simpa using this
  .obtain⟨op,hop,hoa⟩:=touch_of hx;rcases getElem?_append_cases hop with⟨_,hop'⟩|⟨_,hopu⟩
   .exact h.un i' x (by rw[touchAt_of hop'];exact hoa)
   .obtain⟨e,he,rfl⟩:=Go.Conc.mem_ofEvents hopu;rw[touch_mute (hm e he)]at hoa;cases hoa
theorem eN (hI:∀w,I w)(r:Rk):
  ∀(n:Nat) (gs:Array Goroutine) (M:Nat->Prop) (a:Goroutine) (w:World) (sl:Option (Nat×Nat)) (t:Trace) (q:Nat->Nat),sumTo gs.size q<=n->bp P Shun V Ro M gs a w t q->PT P true I Ph.noX Ro Stop r M a w->
   ∃N gs' M' a' w' sl' t' q',runNT P N (crowd gs w sl) t=(.next (crowd gs' w' sl'),t')/\gs'.size=gs.size/\(∀F4,ax (λb=>M' b\/Ro b) w' F4->I F4->Stop M' a' F4)/\bp P Shun V Ro M' gs' a' w' t' q'/\w.heap.size<=w'.heap.size/\(∀b,M b->M' b)/\(∀b,M' b->M b\/w.heap.size<=b)/\∀b,b<w.heap.size->¬M b->w'.heap[b]?=w.heap[b]?:=by
 induction r using Rk.wf.induction with
 |_ r ihr=>
  intro n;induction n using Nat.strongRecOn with
  |_ n ihn=>
   intro gs M a w sl t q hn h hp;rcases hp.cases with hstop|⟨f,rfl,hrun,hstep⟩
   .exact⟨0,gs,M,a,w,sl,t,q,rfl,rfl,hstop,h,Gm _,λ_ h=>h,λ_ h=>.inl h,λ_ _ _=>rfl⟩
   obtain⟨i,g,d,sl',hi,hg,hst'⟩:=crowd_pick (P:=P) (w:=w) (sl:=sl) (h.awake hrun) ⟨0,a,h.main,hrun⟩;rcases GA i with rfl|hpos
   .obtain rfl:g=a:=by rw[h.main]at hi;exact(Gt hi).symm
    obtain⟨a',w',es,hgo,hpr,hp'⟩:=hstep (w.at d) ⟨λ_ _=>rfl,Gm _,rfl,rfl⟩ (hI _);have hrunT:=runT_crowd_go (P:=P) (sl:=sl') (i:=0) hi (show stepG P (0==0) g (w.at d)=_ from hgo);have h':=(h.at d).own (a':=a') hpr;obtain⟨N,gs',M',a'',w'',sl'',t',q',h1,h2,h3,h4,h5,h6,h7,h8⟩:=ihr (f (w.at d)) ⟨_,rfl⟩ _ _ _ a' w' sl' _ q (Gm _) h' hp';have hs:w.heap.size<=w'.heap.size:=hpr.size;refine⟨N+1,gs',M',a'',w'',sl'',t',q',by simp only[runNT,hst',hrunT];exact h1,by rw[h2];simp,h3,h4,Gq hs h5,λb hb=>h6 b (.inl hb),λb hb=>?_,λb hb hm=>?_⟩
    .rcases h7 b hb with(x|⟨x,_⟩)|x
     .exact .inl x
     .exact .inr x
     .exact .inr (Gq hs x)
    .rw[h8 b (Gn hb hs) λx=>x.elim hm λy=>absurd y.1 (Nat.not_le.2 hb)];exact hpr.keep b hb hm
   .obtain⟨gs',ops,q',h1,h2,h3,h4⟩:=(h.at d).slip (sl:=sl') hrun hpos hi hg;obtain⟨N,gs'',M',a'',w'',sl'',t',q'',e1,e2,e3,e4,e5,e6,e7,e8⟩:=ihn (sumTo gs'.size q') (by rw[h2];omega) gs' M a (w.at d) sl' _ q' (Gm _) h4 (hp.rely ⟨λ_ _=>rfl,Gm _,rfl,rfl⟩);exact⟨N+1,gs'',M',a'',w'',sl'',t',q'',by simp only[runNT,hst',h1];exact e1,e2.trans h2,e3,e4,e5,e6,e7,e8⟩
end
end
section
open Go Go.Conc
open Go.ConcN (sumTo upd sumTo_upd upd_ne upd_same CTag Vc)
open Go.ConcR (g_of_ofEvents WgAt stA)
section
variable {P:Program}{Shun:Loc->Prop}{V Ro M:Nat->Prop}{gs:Array Goroutine}{a:Goroutine}{w:World}{t:Trace}{q:Nat->Nat}
theorem bp.alloc {Q:Goroutine->World->Prop}(hstep:∀d,∃a' w',stepG P true a (w.at d)=.go a' w' #[]/\w'.heap.size=w.heap.size+1/\(∀b,b<w.heap.size->w'.heap[b]?=w.heap[b]?)/\Q a' w')(hr:a.status=.running):
  ∀(n:Nat) (gs:Array Goroutine) (d:Nat) (sl:Option (Nat×Nat)) (t:Trace) (q:Nat->Nat),sumTo gs.size q<=n->bp P Shun V Ro M gs a (w.at d) t q->
   ∃N gs' a' w' sl' t' q',runNT P N (crowd gs (w.at d) sl) t=(.next (crowd gs' w' sl'),t')/\gs'.size=gs.size/\Q a' w'/\bp P Shun (λb=>V b\/b=w.heap.size) Ro M gs' a' w' t' q'/\w'.heap.size=w.heap.size+1/\∀b,b<w.heap.size->w'.heap[b]?=w.heap[b]?:=by
 intro n;induction n using Nat.strongRecOn with
 |_ n ih=>
  intro gs d sl t q hn h;obtain⟨i,g,d',sl',hi,hg,hst⟩:=crowd_pick (P:=P) (w:=w.at d) (sl:=sl) (h.awake hr) ⟨0,a,h.main,hr⟩;rcases GA i with rfl|hpos
  .obtain rfl:g=a:=by rw[h.main]at hi;exact(Gt hi).symm
   obtain⟨a',w',hgo,hsz,hk,hQ⟩:=hstep d';have hrunT:=runT_crowd_go (P:=P) (w:=(w.at d).at d') (sl:=sl') (i:=0) hi (show stepG P (0==0) g (w.at d')=_ from hgo);have e0:MemOp.ofEvents 0 g.frame.fn g.frame.place #[]=#[]:=by rw[ofEvents_eq,Array.map_empty]
   rw[e0]at hrunT;have hpos:0<gs.size:=(Gp.1 h.main).1;have hle:w.heap.size<=w'.heap.size:=by omega
   refine⟨1,(gs.map (woken P g a' w')).setIfInBounds 0 a',a',w',sl',t++#[],q,by simp only[runNT,hst,hrunT],by simp,hQ,?_,hsz,hk⟩;rw[Array.append_empty];refine⟨by simp[hpos],⟨λj x hj hx=>?_,λj hj=>h.quit.above j (by simpa using hj)⟩,h.past.mono hle,by simpa using h.who,λb hb=>Gn (h.lt b hb) hle,h.shun,λl hl=>Loc.low_mono hle (h.low l hl),λi x hx hv=>?_,λb hb=>?_,λb hb=>?_⟩
   .rw[Array.getElem?_setIfInBounds_ne (by omega),Array.getElem?_map]at hx;obtain⟨y,hy,rfl⟩:=GG.1 hx;have hq:=h.quit.old j y hj hy;rw[woken_quitsD hq];exact hq
   .obtain⟨b,hb,hl⟩:=hv.some;rcases hb with hb|rfl
    .exact h.un i x hx (hl.mono λc e=>e▸hb)
    .exact hl.nlow (Gm _) (h.past.seen i x hx)
   .rcases hb with hb|rfl
    .exact Gn (h.vlt b hb) hle
    .omega
   .rcases hb with hb|rfl
    .exact h.vm b hb
    .exact⟨λx=>absurd (h.lt _ (.inl x)) (Nat.lt_irrefl _),λx=>absurd (h.lt _ (.inr x)) (Nat.lt_irrefl _)⟩
  .obtain⟨gs',ops,q',h1,h2,h3,h4⟩:=(h.at d').slip (sl:=sl') hr hpos hi hg;obtain⟨N,gs'',a'',w'',sl'',t',q'',e1,e2,e3⟩:=ih (sumTo gs'.size q') (by rw[h2];omega) gs' d' sl' _ q' (Gm _) h4;exact⟨N+1,gs'',a'',w'',sl'',t',q'',by simp only[runNT,hst,h1];exact e1,e2.trans h2,e3⟩
def C9 (P:Program)(Ro:Nat->Prop)(Post:Value->World->Prop)(M:Nat->Prop)(g:Goroutine)(W:World):Prop:=
 g.status=.running/\∃v es,stepG P true g W=.ended (.done v) W es/\(∀e∈es,uw Ph.noX M Ro e)/\Post v W
theorem bp.ends {Post:Value->World->Prop}{sl:Option (Nat×Nat)}(h:bp P Shun V Ro M gs a w t q)(hs:∀d,C9 P Ro Post M a (w.at d)):
  ∃N last o w' t',runNT P (N+1) (crowd gs w sl) t=(.ended o w',t')/\runN P N (crowd gs w sl)=.next last/\step P last=.ended o w'/\Good P Post last o w' t':=by
 refine run_of_inv Nat.lt_wfRel.wf (λμ m t=>∃gs d sl q,m=crowd gs (w.at d) sl/\bp P Shun V Ro M gs a (w.at d) t q/\μ=sumTo gs.size q) (Good P Post) ?_ (sumTo gs.size q) _ _ ⟨gs,w.drawn,sl,q,rfl,h,rfl⟩;rintro μ m t ⟨gs,d,sl,q,rfl,h,rfl⟩;have hr:=(hs d).1;obtain⟨i,g,d',sl',hi,hg,hst⟩:=crowd_pick (P:=P) (w:=w.at d) (sl:=sl) (h.awake hr) ⟨0,a,h.main,hr⟩;rcases GA i with rfl|hpos
 .obtain rfl:g=a:=by rw[h.main]at hi;exact(Gt hi).symm
  obtain⟨_,v,es,hend,hes,hpost⟩:=hs d';have hrunT:=runT_many_ended (P:=P) (w:=(w.at d).at d') (sl:=sl') (i:=0) hi (show stepG P (0==0) g (w.at d')=_ from hend);have hp:bT Ph.noX M Ro (w.at d') (w.at d') es:=⟨λ_ _ _=>rfl,Gm _,rfl,rfl,rfl,λe he=>by
   rw[show grow M (w.at d') (w.at d')=M from aW rfl];exact hes e he⟩
  have h':=((h.at d').own (a':=g) hp).past;refine .inl ⟨_,_,_,hst.trans hrunT,v,rfl,hpost,h'.clean,h'.over,⟨λx hx=>?_,rfl⟩,λj x hx hj=>?_⟩
  .obtain⟨j,hj⟩:=List.mem_iff_getElem?.1 hx;rw[List.getElem?_drop]at hj;exact⟨_,(h.quit.old (1+j) x (by omega) (by simpa[crowd]using hj)).leaves⟩
  .have hq:=h.quit.old j x (by omega) hx;refine⟨q j,?_⟩;have e:(t++MemOp.ofEvents 0 g.frame.fn g.frame.place es).deaf j (t++MemOp.ofEvents 0 g.frame.fn g.frame.place es).size=Deaf t j:=
    Deaf_other t (g:=j) (g':=0) (by omega) _ g_of_ofEvents
   rw[e];exact hq.hears _
 .obtain⟨gs',ops,q',h1,h2,h3,h4⟩:=(h.at d').slip (sl:=sl') hr hpos hi hg;exact .inr ⟨_,_,sumTo gs'.size q',hst.trans h1,by rw[h2];exact h3,gs',d',sl',q',rfl,h4,rfl⟩
end
end
section
open Go Go.Conc
open Go.ConcN (sumTo upd sumTo_upd upd_ne upd_same CTag Vc pend)
open Go.ConcR (g_of_ofEvents WgAt stA KK)
namespace Ph
variable {p:Ph}{Shun:Loc->Prop}{V Ro M M':Nat->Prop}{gs:Array Goroutine}{a:Goroutine}{w:World}{t:Trace}{q:Nat->Nat}{Fin Anch:(Nat->Prop)->(Nat->Prop)->Goroutine->World->Prop}
theorem start {sl:Option (Nat×Nat)}(h:bp p.P Shun V Ro M gs a w t q)(hJ:p.J=gs.size)(hT:p.T0=t.size)(hV1:V p.Wg)(hV2:V p.tk.block)(hB:p.Bs<w.heap.size)(hle:∀b,M' b->M b)(hsp:∀b,p.Sp b->¬M' b/\¬Ro b)(hmr:∀b,M' b->¬Ro b)
  (hwg:WgAt p.ty p.Wg w 0 0)(htk:p.TkAt w 0)(hbs:∃cs,p.BsAt cs w)(hn1:1<=p.n)(hs:p.Spawns Anch p.n Ro M' a w):∃μ,p.InvM Shun w.heap.size Fin Anch μ (crowd gs w sl) t:=by
 have hpos:0<gs.size:=(Gp.1 h.main).1;obtain⟨r,hr⟩:∃r,p.n=r+1:=⟨p.n-1,by omega⟩;rw[hr]at hs;obtain⟨ρ,hρ⟩:=hs;let MM:Nat->Nat->Prop:=λi b=>i=0/\M' b
 let RR:Nat->Nat->Prop:=λi b=>i=0/\Ro b
 have m0:MM 0=M':=by funext b;simp[MM]
 have r0:RR 0=Ro:=by funext b;simp[RR]
 let G:Gh:={gs:=gs,w:=w,sl:=sl,j:=0,D:=λ_=>.put [],tag:=.sp r 5,ρ:=ρ,x:=0,a:=a,M:=MM,Ro:=RR,R:=λi=>Rk.nat (q i),c:=0,st:=0,sm:=0}
 have lt':∀b,M' b\/Ro b->b<w.heap.size:=λb hb=>h.lt b (hb.imp (hle b) id)
 refine⟨_,G,rfl,rfl,⟨by simp[G,hJ],Gs _,h.main,?_,λi hi=>absurd hi (Gr i),λi h0 hi=>?_,λk hk=>h.quit.above k (by rw[<-hJ];exact hk),⟨?_,?_,?_,?_,?_,?_,Gm _⟩,?_,hwg,htk,hbs,?_,λi hi=>absurd hi (Gr i),λx _ hx=>absurd hx (Gr x),Gs _⟩⟩
 .show p.MSit Fin Anch (.sp r 5) 0 ρ 0 (Deaf t 0) (RR 0) (MM 0) a w;rw[h.past.hears,m0,r0];have e:p.n-(r+1)=0:=by omega
  have:=MSit.skd (p:=p) (Fin:=Fin) (Anch:=Anch) (r:=r) (by omega) hρ;rw[e]at this;exact this
 .have hlt:i<gs.size:=by rw[<-hJ];exact hi
  exact⟨gs[i],q i,Gu hlt,h.quit.old i _ h0 (Gu hlt),rfl⟩
 .rintro i k hne b ⟨rfl,_⟩ ⟨rfl,_⟩;exact hne rfl
 .rintro i k b ⟨rfl,h1⟩ ⟨rfl,h2⟩;exact hmr b h1 h2
 .intro i b hb;exact⟨λx=>(hsp b hb).1 x.2,λx=>(hsp b hb).2 x.2⟩
 .rintro i b (hb|hb)
  .exact lt' b (.inl hb.2)
  .exact lt' b (.inr hb.2)
 .rintro b (rfl|rfl|rfl)
  .exact h.vlt _ hV1
  .exact h.vlt _ hV2
  .exact hB
 .rintro i b (hb|hb) l hl
  .exact h.shun b (.inl (hle b hb.2)) l hl
  .exact h.shun b (.inr hb.2) l hl
 .rw[hT];refine h.past.tr (λl hl=>?_) (λl hl=>.inl hl) (λi op hi=>by rw[hJ];exact h.who i op hi) (by show p.J-1+0+1=p.J;omega) (λk l hk=>⟨λx=>absurd x.1 (by omega),λx=>absurd x.1 (by omega)⟩);rcases hl with hl|⟨a,rfl,hl⟩
  .exact .inl hl
  .refine .inr λi x hx e=>h.un i x hx ?_
   rw[e];show V a.block;rcases hl with hl|hl<;>rw[hl]<;>assumption
 .have:=Go.ConcN.Mode.opn (j:=0) (D:=wdOf λ_=>.put []) (tag:=.sp r 5) trivial (λi hi=>absurd hi (Gr i)) (λvs e=>by cases e);simpa[Vc,sumTo,pend]using this
theorem phase {sl:Option (Nat×Nat)}(hR:p.ResOk)(G0:Geo p Shun)(hn:p.n<2147483647)(hn1:1<=p.n)(hL:p.L+p.n<4611686018427387904)(hAr:∀Ro M g W,Anch Ro M g W->g.status=.running)
  (hAn:∀Ro M g W,Anch Ro M g W->p.I W->ET p.P true p.I p.saidX Ro (p.AtW1 Fin Anch Ro) M g W)
  (h:bp p.P Shun V Ro M gs a w t q)(hJ:p.J=gs.size)(hT:p.T0=t.size)(hV1:V p.Wg)(hV2:V p.tk.block)(hB:p.Bs<w.heap.size)(hle:∀b,M' b->M b)(hsp:∀b,p.Sp b->¬M' b/\¬Ro b)(hmr:∀b,M' b->¬Ro b)
  (hwg:WgAt p.ty p.Wg w 0 0)(htk:p.TkAt w 0)(hbs:∃cs,p.BsAt cs w)(hs:p.Spawns Anch p.n Ro M' a w):
  ∃N gs' w' sl' t' a' Ro' E3 seq vs Mr,runNT p.P N (crowd gs w sl) t=(.next (crowd gs' w' sl'),t')/\p.Out Shun Fin gs' w' t' a' Ro' E3 seq vs Mr:=by
 obtain⟨μ,hI⟩:=start (Fin:=Fin) (sl:=sl) h hJ hT hV1 hV2 hB hle hsp hmr hwg htk hbs hn1 hs;exact phase_run hR G0 h.low hn hn1 hL hAr hAn μ _ t hI
theorem Out.lone {gs:Array Goroutine}{w:World}{t:Trace}{a:Goroutine}{Ro M:Nat->Prop}{seq:Nat->List Nat}{vs:Nat->List Value}{Mr:Nat->Nat->Prop}(h:p.Out Shun Fin gs w t a Ro M seq vs Mr)(hlow:∀l,Shun l->l.low w.heap.size){M':Nat->Prop}(hM:∀b,M' b->b<w.heap.size/\∀l,inBk (·=b) l->¬p.Sh Shun l):
  ∃q,bp p.P (p.Sh Shun) (λ_=>False) (λ_=>False) M' gs a w t q:=by
 obtain⟨q,hq⟩:=h.quit;refine⟨q,h.main,hq,h.past,λi op hi=>by rw[h.size];exact h.who i op hi,λb hb=>hb.elim (λx=>(hM b x).1) False.elim,λb hb=>hb.elim (λx=>(hM b x).2) False.elim,λl hl=>?_,λi x hx hv=>?_,λb hb=>hb.elim,λb hb=>hb.elim⟩
 .rcases hl with hl|⟨a,rfl,hl⟩
  .exact hlow l hl
  .show a.block<_;exact h.sp _ (hl.imp id .inl)
 .obtain⟨b,hb,_⟩:=hv.some;exact hb
end Ph
end
section
open Go Go.Conc
section
variable {P:Program}{m:Bool}{I:World->Prop}{X:Event->Prop}{Ro:Nat->Prop}{Stop:(Nat->Prop)->Goroutine->World->Prop}{M:Nat->Prop}{g g':Goroutine}{W:World}
theorem bT.nil {es:Array Event}(h:∀e∈es,X e):bT X M Ro W W es:=⟨λ_ _ _=>rfl,Gm _,rfl,rfl,rfl,λe he=>.inr (.inr (.inr (h e he)))⟩
theorem ET.k (hs:g.status=.running)(h:∀Fe,ax (λb=>M b\/Ro b) W Fe->I Fe->(stepG P m g Fe).goes λg' w' es=>(w'=Fe/\∀e∈es,X e)/\ET P m I X Ro Stop M g' W):ET P m I X Ro Stop M g W:=by
 refine ET.step hs λFe k i=>?_
 obtain⟨g',w',es,h1,⟨rfl,h2⟩,h3⟩:=goes_elim (h Fe k i);have e:grow M w' w'=M:=aW rfl;exact⟨g',w',es,h1,bT.nil h2,by rw[e];exact h3.rely k⟩
theorem ET.c (h:∀Fe,stepG P m g Fe=.go g' Fe #[])(k:ET P m I X Ro Stop M g' W)(hs:g.status=.running:=by rfl):ET P m I X Ro Stop M g W:=
 ET.k hs λFe _ _=>by rw[h Fe];exact⟨⟨rfl,λe he=>by simp at he⟩,k⟩
theorem ET.sq {b:Frame}{a:Act}{k:List Item}{cs:List Frame}{x y:Code}(n:ET P m I X Ro Stop M (G (b.at a (.code x::.code y::k)) cs) W):ET P m I X Ro Stop M (G (b.at a (.code (.seq x y)::k)) cs) W:=ET.c (λ_=>stepG_seq) n
theorem ET.rg {b:Frame}{a:Act}{k:List Item}{cs:List Frame}{id:Nat}{ops:Array Oper}(n:ET P m I X Ro Stop M (G (b.at a (.inRegion ops (List.range ops.size)::k)) cs) W):ET P m I X Ro Stop M (G (b.at a (.code (.region id ops false)::k)) cs) W:=ET.c (λ_=>stepG_region) n
theorem ET.rn {b:Frame}{a:Act}{k:List Item}{cs:List Frame}{ops:Array Oper}(n:ET P m I X Ro Stop M (G (b.at a k) cs) W):ET P m I X Ro Stop M (G (b.at a (.inRegion ops []::k)) cs) W:=ET.c (λ_=>stepG_region_end) n
theorem ET.sk {b:Frame}{a:Act}{k:List Item}{cs:List Frame}(n:ET P m I X Ro Stop M (G (b.at a k) cs) W):ET P m I X Ro Stop M (G (b.at a (.code .skip::k)) cs) W:=ET.c (λ_=>stepG_skip) n
theorem ET.rt {b:Frame}{a:Act}{k:List Item}{cs:List Frame}(n:ET P m I X Ro Stop M (G ({b.at a (.code .ret::k)with mode:=.returning}) cs) W):ET P m I X Ro Stop M (G (b.at a (.code .ret::k)) cs) W:=ET.c (λ_=>stepG_ret') n
theorem ET.o {b:Frame}{a:Act}{k:List Item}{cs:List Frame}{ops:Array Oper}{i:Nat}{rest:List Nat}{o:Oper}(ho:ops[i]?=some o)(hw:Region.wanted o (yielded ops a.tmps)=true)(hk:b.kind≠.early)
  (h:∀(Fe:World) (K:Act->World->Prop),(∀a' w',w'=Fe->(execOp a.eval o).events P Fe #[]=#[]->ET P m I X Ro Stop M (G (b.at a' (.inRegion ops rest::k)) cs) W->K a' w')->uponK o a K ((execOp a.eval o).run P Fe)):ET P m I X Ro Stop M (G (b.at a (.inRegion ops (i::rest)::k)) cs) W:=
 ET.k rfl λFe _ _=>goes_oper_k ho hw hk λK hK=>h Fe K λa' w' h1 h2 h3=>hK a' w' ⟨⟨h1,λe he=>by have:=mem_listed he;rw[h2]at this;simp at this⟩,h3⟩
theorem ET.condT {b:Frame}{a:Act}{c:Operand}{x y:Code}{k:List Item}{cs:List Frame}(h:a.eval c=.bool true)(n:ET P m I X Ro Stop M (G (b.at a (.code x::k)) cs) W):ET P m I X Ro Stop M (G (b.at a (.code (.cond c x y)::k)) cs) W:=ET.c (λ_=>stepG_cond h) n
theorem ET.condF {b:Frame}{a:Act}{c:Operand}{x y:Code}{k:List Item}{cs:List Frame}(h:a.eval c=.bool false)(n:ET P m I X Ro Stop M (G (b.at a (.code y::k)) cs) W):ET P m I X Ro Stop M (G (b.at a (.code (.cond c x y)::k)) cs) W:=ET.c (λ_=>stepG_cond h) n
end
end
section
open Go Go.Conc Go.RowKit
section
variable {P:Program}{m:Bool}{I:World->Prop}{X:Event->Prop}{Ro:Nat->Prop}{Stop:(Nat->Prop)->Goroutine->World->Prop}{M:Nat->Prop}{g g':Goroutine}{W:World}
theorem ET.p (hs:g.status=.running)(h:∀Fe,ax (λb=>M b\/Ro b) W Fe->I Fe->(stepG P m g Fe).goes λg' W' es=>bT X M Ro Fe W' es/\ET P m I X Ro Stop (grow M Fe W') g' W'):ET P m I X Ro Stop M g W:=
 ET.step hs λFe k i=>by
  obtain⟨g',w',es,h1,h2,h3⟩:=goes_elim (h Fe k i);exact⟨g',w',es,h1,h2,h3⟩
theorem bT.alloc (o:Obj){es:Array Event}(h:∀e∈es,uw X (grow M W (W.alloc o)) Ro e):bT X M Ro W (W.alloc o) es:=by
 refine⟨λb hb _=>?_,?_,rfl,rfl,rfl,h⟩
 .show(W.heap.push o)[b]?=_;rw[Array.getElem?_push,if_neg (GE hb)]
 .show _<=(W.heap.push o).size;simp
theorem bT.set {a:Addr}(v:Value)(ha:M a.block){es:Array Event}(h:∀e∈es,uw X M Ro e):bT X M Ro W (W.setCell a v) es:=by
 have hz:=(aside_setCell W a v).size;refine⟨λb _ hm=>Below.heap_setCell W a v b (λe=>hm (e▸ha)),Nat.le_of_eq hz.symm,(aside_setCell W a v).tape,(aside_setCell W a v).os,(aside_setCell W a v).output,λe he=>?_⟩;rw[show grow M W (W.setCell a v)=M from aW hz];exact h e he
theorem bT.stay {es:Array Event}(h:∀e∈es,uw X M Ro e):bT X M Ro W W es:=⟨λ_ _ _=>rfl,Gm _,rfl,rfl,rfl,λe he=>by rw[show grow M W W=M from aW rfl];exact h e he⟩
section
variable {md:Region.Mode}{ops:Array Oper}
inductive wy (md:Region.Mode)(ops:Array Oper):Array Bool->List Nat->Prop
 |nil {l:Array Bool}:Region.ready md ops l=[]->wy md ops l []
 |cons {l:Array Bool} {i:Nat} {rest:List Nat}:i∈Region.ready md ops l->wy md ops (l.setIfInBounds i true) rest->wy md ops l (i::rest)
def CF (ops:Array Oper)(l:Array Bool):Nat:=((List.range ops.size).filter λi=>!l.getD i true).length
theorem xF {l:Array Bool}(h:CF ops l=0):Region.ready md ops l=[]:=by
 have h':(List.range ops.size).filter (λi=>!l.getD i true)=[]:=List.eq_nil_of_length_eq_zero h;rw[List.filter_eq_nil_iff]at h';show(List.range ops.size).filter _=[];rw[List.filter_eq_nil_iff];intro i hi;have:=h' i hi;simp only[Bool.not_eq_true,Bool.not_eq_false']at this⊢;simp[this]
theorem xG {l:Array Bool}{i:Nat}(h:i∈Region.ready md ops l):i<ops.size/\l.getD i true=false:=by
 have h':i∈(List.range ops.size).filter _:=h;rw[List.mem_filter]at h';obtain⟨h1,h2⟩:=h';simp only[Bool.and_eq_true,Bool.not_eq_true']at h2;exact⟨List.mem_range.1 h1,h2.1⟩
theorem p9 {p q:Nat->Bool}:∀(xs:List Nat) (i:Nat),i∈xs->(∀x,q x=true->p x=true)->p i=true->q i=false->(xs.filter q).length<(xs.filter p).length
 |x::xs,i,hi,hpq,hp,hq=>by
  have le:∀ys:List Nat,(ys.filter q).length<=(ys.filter p).length:=by
   intro ys;induction ys with
   |nil=>simp
   |cons y ys ih=>
    rw[List.filter_cons,List.filter_cons];by_cases h:q y=true
    .simp[h,hpq y h,ih]
    .simp only[h];by_cases h':p y=true
     .simp[h'];omega
     .simp[h',ih]
  rcases List.mem_cons.1 hi with rfl|hm
  .rw[List.filter_cons,List.filter_cons];simp[hp,hq];exact Nat.lt_succ_of_le (le xs)
  .have ih:=p9 xs i hm hpq hp hq;rw[List.filter_cons,List.filter_cons];by_cases h:q x=true
   .simp[h,hpq x h];exact ih
   .simp only[h];by_cases h':p x=true
    .simp[h'];omega
    .simp[h'];exact ih
theorem wz {l:Array Bool}{i:Nat}(h:i∈Region.ready md ops l):CF ops (l.setIfInBounds i true)<CF ops l:=by
 obtain⟨h1,h2⟩:=xG h;have hlt:i<l.size:=by
  rcases Gv i l.size with h|h
  .exact h
  .simp[Array.getD_eq_getD_getElem?,Array.getElem?_eq_none h]at h2
 refine p9 _ i (List.mem_range.2 h1) (λx hx=>?_) (by simp[h2]) (by simp[Array.getD_eq_getD_getElem?,hlt]);by_cases e:i=x
 .subst e;simp[h2]
 .simpa[Array.getD_eq_getD_getElem?,Array.getElem?_setIfInBounds_ne e]using hx
theorem Da:∀(fuel t:Nat) (l:Array Bool),CF ops l<=fuel->wy md ops l (Region.linearise.go md ops fuel t l []):=by
 intro fuel;induction fuel with
 |zero=>intro t l h;simp only[Region.linearise.go,List.reverse_nil];exact .nil (xF (Nat.le_zero.1 h))
 |succ fuel ih=>
  intro t l h;simp only[Region.linearise.go];change wy md ops l (match(Region.ready md ops l)[t%(Region.ready md ops l).length]? with
   |some i=>Region.linearise.go md ops fuel (t/(Region.ready md ops l).length) (l.setIfInBounds i true) [i]
   |none=>[].reverse)
  cases hi:(Region.ready md ops l)[t%(Region.ready md ops l).length]? with
  |none=>
   refine .nil ?_;cases hr:Region.ready md ops l with
   |nil=>rfl
   |cons x xs=>
    rw[hr]at hi;have hlt:t%(x::xs).length<(x::xs).length:=Nat.mod_lt _ (by simp);simp at hi;simp at hlt;omega
  |some i=>
   have hm:=List.mem_of_getElem? hi;simp only[];rw[linearise_go_acc,List.reverse_singleton,List.singleton_append];exact .cons hm (ih _ _ (by have:=wz hm;omega))
theorem kX (t:Nat):wy .any ops (Array.replicate ops.size false) (Region.schedule true ops t):=by
 simp only[Region.schedule,Bool.true_or,if_true];exact Da ops.size t _ (by unfold CF;exact Gq (List.length_filter_le _ _) (by simp))
end
theorem ET.drawn {b:Frame}{a:Act}{k:List Item}{cs:List Frame}{ops:Array Oper}{id:Nat}(hm:P.follows .mixedOrders=true)
  (h:∀order,wy .any ops (Array.replicate ops.size false) order->ET P m I X Ro Stop M (G (b.at a (.inRegion ops order::k)) cs) W):ET P m I X Ro Stop M (G (b.at a (.code (.region id ops true)::k)) cs) W:=by
 refine ET.step rfl λFe FO _=>⟨_,_,_,stepG_region_draw,⟨λ_ _ _=>rfl,Gm _,rfl,rfl,rfl,λe he=>by simp at he⟩,?_⟩
 rw[show grow M Fe {Fe with drawn:=Fe.drawn+1}=M from aW rfl];refine ET.rely (h _ ?_) ⟨FO.block,FO.size,FO.os,FO.out⟩;rw[hm];exact kX _
end
section
variable [Gl]
noncomputable def ku (S:Nat->Prop):Ren:=open Classical in⟨λb=>if S b then some b else none,λb b' c h h'=>by
  by_cases x:S b
  .by_cases y:S b'
   .rw[if_pos x]at h;rw[if_pos y]at h';simp only[Option.some.injEq]at h h';omega
   .rw[if_neg y]at h';exact absurd h' (by simp)
  .rw[if_neg x]at h;exact absurd h (by simp),λb c h=>by
  by_cases x:S b
  .rw[if_pos x]at h;simp only[Option.some.injEq]at h;rw[h]
  .rw[if_neg x]at h;exact absurd h (by simp)⟩
theorem cW {S:Nat->Prop}{b d:Nat}:ku S b=some d<->S b/\b=d:=by
 classical
 show(if S b then some b else none)=some d<->_;by_cases x:S b
 .rw[if_pos x];simp[x]
 .rw[if_neg x];simp[x]
omit [Gl]
def Obj.freeze:Obj->Obj
 |.cells c e _=>.cells c e (0,c.size)
 |o=>o
noncomputable def cJ (F:Nat->Prop)(W:World):World:=open Classical in{W with heap:=W.heap.mapIdx λb o=>if F b then Obj.freeze o else o}
theorem qc (F:Nat->Prop)(W:World)(b:Nat):(cJ F W).heap[b]?=(W.heap[b]?).map λo=>open Classical in if F b then Obj.freeze o else o:=by
 simp[cJ,Array.getElem?_mapIdx]
theorem eO (F:Nat->Prop)(W:World):(cJ F W).heap.size=W.heap.size:=by simp[cJ]
theorem dl {F:Nat->Prop}{W:World}{b:Nat}{cs:Array Value}{e:TypeId}{z:Nat×Nat}(h:W.heap[b]?=some (.cells cs e z)):∃z',(cJ F W).heap[b]?=some (.cells cs e z')/\(F b->z'=(0,cs.size))/\(¬F b->z'=z):=by
 rw[qc,h];simp only[Option.map_some];by_cases hf:F b
 .rw[if_pos hf];exact⟨_,rfl,λ_=>rfl,λx=>absurd hf x⟩
 .rw[if_neg hf];exact⟨_,rfl,λx=>absurd x hf,λ_=>rfl⟩
theorem kv (F:Nat->Prop)(W:World)(a:Addr):(cJ F W).cell? a=W.cell? a:=by
 simp only[World.cell?,qc];cases h:W.heap[a.block]? with
 |none=>rfl
 |some o=>
  simp only[Option.map_some];by_cases hf:F a.block
  .rw[if_pos hf];cases o<;>rfl
  .rw[if_neg hf]
variable [Gl]
structure kw (ok:Ctx)(S:Nat->Prop)(W:World):Prop where
 at_:∀b,S b->∃cs e,W.heap[b]?=some (.cells cs e (0,0))/\∀v∈cs,aj ok (ku S) v v
theorem iA {ok:Ctx}{ρ:Ren}{xs:Array Value}(h:∀v∈xs,aj ok ρ v v):am ok ρ xs xs:=
 ⟨rfl,λi x x' h1 h2=>by rw[h1]at h2;cases h2;exact h x (Array.mem_of_getElem? h1)⟩
theorem kw.wrel {ok:Ctx}{S F:Nat->Prop}{W:World}(h:kw ok S W)(hg:Gl.n<=W.heap.size):aH ok false (ku S) (re (cJ F W) W.tape W.drawn) W:=by
 refine⟨λb d hb=>?_,rfl,rfl,by show _<=(cJ F W).heap.size;rw[eO];exact hg,hg⟩;obtain⟨hs,rfl⟩:=cW.1 hb;obtain⟨cs,e,h1,h2⟩:=h.at_ b hs;obtain⟨z',h3,_⟩:=dl (F:=F) h1;exact⟨_,_,h3,h1,.cells (iA h2) (.inl rfl)⟩
theorem kw.self {ok:Ctx}{S F:Nat->Prop}{W:World}(h:kw ok S W)(hg:Gl.n<=W.heap.size):aH ok true (ku S) (cJ F W) (cJ F W):=by
 refine⟨λb d hb=>?_,rfl,rfl,by rw[eO];exact hg,by rw[eO];exact hg⟩;obtain⟨hs,rfl⟩:=cW.1 hb;obtain⟨cs,e,h1,h2⟩:=h.at_ b hs;obtain⟨z',h3,_⟩:=dl (F:=F) h1;exact⟨_,_,h3,h3,.cells (iA h2) (.inl rfl)⟩
omit [Gl] in
theorem qd {P0:Program}{f:FuncId}{xs:Array Value}:lV (Frame.enter P0 f xs .normal) []:=by
 intro fr h;simp only[List.getLast?_singleton,Option.some.injEq]at h;subst h;rfl
section
variable {P0 P:Program}{m:Bool}{I:World->Prop}{X:Event->Prop}{Ro:Nat->Prop}{Stop:(Nat->Prop)->Goroutine->World->Prop}{M:Nat->Prop}{W:World}{ok:Ctx}{c:Frame}
 {b:Frame}{a:Act}{k:List Item}{cs:List Frame}{ops:Array Oper}{i:Nat}{rest:List Nat}{o:Oper}{f:FuncId}{fn:Func}{cd:Code}{args:Array Operand}{ats:Array TypeId}
structure Eq (ok:Ctx)(S Ro M:Nat->Prop)(W:World)(Q:Value->World->Prop)(v':Value)(M':Nat->Prop)(W':World):Prop where
 own:∀b,M b->M' b
 lt:∀b,M' b->b<W'.heap.size
 new:∀b,M' b->M b\/W.heap.size<=b
 ro:ax Ro W W'
 rest:ax (λb=>M b/\¬S b) W W'
 res:∃σ v V',aj ok σ v v'/\Q v V'/\aH ok false σ V' W'/\(∀b,S b->σ b=some b)/\(∀b d,σ b=some d->(S b/\b=d)\/W.heap.size<=d)/\kW σ V' M' Ro
theorem ET.callOp (hP0:bq P0 P0 ok)(hP:bq P0 P ok)(hin:∀f,ok.fn f=true->ok.inn f=true)(hF:ff P0 c)
  (ho:ops[i]?=some o)(hw:Region.wanted o (yielded ops a.tmps)=true)(hk:b.kind≠.early)(hop:o.op=.call {callee:=.value (.func f),args,argTypes:=ats})
  (hf:P.funcs[f]?=some fn)(hname:(fn.name== "runtime.NumGoroutine")=false)(hb:fn.body=some cd)(hok:ok.inn f=true)
  {Sp:Nat->Prop}(hI:ww Sp I)(hRo:∀b,Ro b->Sp b)(hN:pH Sp M W)(hMl:∀b,M b->b<W.heap.size)(hg:Gl.n<=W.heap.size)
  (S:Nat->Prop)(Q:World->Value->World->Prop)(hQ:∀W v w τ d,Q W v w->Q W v (re w τ d))(hS:∀b,S b->M b\/Ro b)(hcl:∀Fe,ax (λb=>M b\/Ro b) W Fe->kw ok S Fe)
  (hargs:∀x∈args.map a.eval,aj ok (ku S) x x)
  (hC:∀Fe,ax (λb=>M b\/Ro b) W Fe->I Fe->∀τ d,Calls P0 f (args.map a.eval) (re (cJ Ro Fe) τ d) λe w'=>∃v,e=.returned v/\Q Fe v w')
  (hret:∀Fe v' M' W',ax (λb=>M b\/Ro b) W Fe->I Fe->I W'->Eq ok S Ro M Fe (Q Fe) v' M' W'->ET P m I X Ro Stop M' (G (b.at (a.put o.dst v') (.inRegion ops rest::k)) cs) W'):
  ET P m I X Ro Stop M (G (b.at a (.inRegion ops (i::rest)::k)) cs) W:=by
 refine ET.p rfl λFe FO FK=>goes_call ho hw hk hop hf hname hb ⟨bT.stay (λe he=>by simp at he),?_⟩
 rw[show grow M Fe Fe=M from aW rfl,<-enter_at _ hf hb];have Fv:Gl.n<=Fe.heap.size:=Gq hg FO.size;have hc:=hcl Fe FO;have hMl1:∀b,M b->b<Fe.heap.size:=λb hb=>Gn (hMl b hb) FO.size
 have hself:cU P0 ok ⟨Frame.enter P0 f (args.map a.eval) .normal,[],cJ Ro Fe⟩:=⟨ku S,gT hP0.toSame hok (iA hargs),.nil,qd,hc.self Fv⟩;have hH:=uZ (Q:=Q Fe) hP0 hin hF hself (hC Fe FO FK);have hIn:fq P0 P ok false c (b.at a (.inRegion ops (i::rest)::k)::cs) (Q Fe) (ku S) ⟨Frame.enter P0 f (args.map a.eval) .normal,[],cJ Ro Fe⟩ (G (Frame.enter P f (args.map a.eval) .normal) (b.at a (.inRegion ops (i::rest)::k)::cs)) Fe:=
  ⟨⟨_,[],rfl,gT hP.toSame hok (iA hargs),.nil⟩,qd,hc.wrel Fv,hself,hH,zw hP0 hin (hQ Fe) hself hH⟩
 have hh:kW (ku S) (re (cJ Ro Fe) Fe.tape Fe.drawn) M Ro:=by
  intro x d hx;obtain⟨hs,rfl⟩:=cW.1 hx;rcases hS x hs with h|h
  .exact .inl h
  .obtain⟨cs',e,h1,_⟩:=hc.at_ x hs;obtain⟨z',h3,h4,_⟩:=dl (F:=Ro) h1;rw[h4 h]at h3;exact .inr ⟨h,cs',e,h3⟩
 have hfin:∀v',(b.at a (.inRegion ops (i::rest)::k)).finish v'=b.at (a.put o.dst v') (.inRegion ops rest::k):=λv'=>by rw[Frame.finish_at,ho];rfl
 refine ET.call hP0 hP hin (hQ Fe) (r0:=b.at a (.inRegion ops (i::rest)::k)) (rest:=cs) (λ{σ v v' V' W' M'} h1 h2 h3 h4 h5 h6 h7 h8 h9 h10 h11 h12=>?_) hI hRo (hN.rely FO.size) hMl1 FK hIn hh;rw[hfin];refine hret Fe v' M' W' FO FK h10 ⟨h5,h11,h12,h6,h7.mono λx hx=>⟨hx.1,λy e=>hx.2 (by have:=cW.1 e;exact this.2▸this.1)⟩,σ,v,V',h1,h2,h3,λx hx=>h8 _ _ (cW.2 ⟨hx,rfl⟩),λx d hx=>(h9 x d hx).imp (λe=>cW.1 e) id,h4⟩
end
end
end
