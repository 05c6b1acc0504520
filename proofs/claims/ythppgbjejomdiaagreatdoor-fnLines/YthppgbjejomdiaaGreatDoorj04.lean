import Derived.Test.YthppgbjejomdiaaGreatDoorj03
import Derived.Conc.WgGenN3
import Derived.Conc.CompanyDraw
set_option linter.all false
open Array renaming getElem?_setIfInBounds_ne->bt,getElem?_map->bz,mem_of_getElem?->bR,replicate->bV
open Go renaming World->ad,Goroutine->ao,deafBehind->av,Item->aE,Value->aI,stepG->aL,Event->a6,runNT->be,Oper->bi,Trace->bp,MemOp->br,Program->bJ,Operand->bK
open Go.Conc renaming Deaf->au,aside_setCell->az,crowd->aV,semEvents->a1,mem_ofEvents->a4,Deaf_other->a5,touchAt->bm,touchAt_of->bn,touch_of->bo,deafBehind_still->bB,woken_quitsD->bE,Deaf_own->bH,getElem?_append_cases->bS,handedOver_app->b0,runT_crowd_go->b1,noRace_append->b3,crowd_pick->b4,touch_mute->b5,stepG_cond->b6,woken->ca
open Go.Conc.Goes renaming cases->a8
open Go.ConcN renaming Mode->a3,bk_cell->bk,ShN->b8,exists_counted->b9
open Go.ConcN.Mode renaming retag->bj,last->bv,opn->bO
open Go.ConcR renaming mk->a2,loc_of_ofEvent->bM,ofEvent_mk->b7
open Go.MemAct renaming ofEvent->a7
open Go.MemOp renaming ofEvents->ax
open Go.Region renaming ready->a0,wanted->bW,Mode->bX
open List renaming range->a9
open Ne renaming symm->bb
open Option renaming map_some->bA
open Or renaming inl->aa,inr->ac
namespace Go.Proofs.YthppgbjejomdiaaGreatDoor
open Conc RowKit
variable {Anch:(Nat->Prop)->(Nat->Prop)->ao->ad->Prop}{Stop:(Nat->Prop)->ao->ad->Prop}{a:Act}{l:Array Bool}{es:Array a6}{gs:Array ao}{ops:Array bi}{xs:Array aI}{m:Bool}{x y:Code}{ok:Ctx}{e:a6}{X:a6->Prop}{b:Frame}{f:FuncId}{a' g g':ao}{Hw Ib st:Int}{cs:List Frame}{rest seq:List Nat}{vs:List aI}{ay:Loc->Prop}{cJ d i j s:Nat}{q:Nat->Nat}{F M M' A R S V:Nat->Prop}{sl:Option (Nat×Nat)}{P af8:bJ}{ρ':Rk}{t u:bp}{W w w':ad}
section
open ConcN (CT Apart Ok0 OkW RelBy PermW sumTo sumTo_upd sumTo_upd_out sumTo_congr sumTo_le le_sumTo upd WgLive RW DWs AtR0 WSit CTag WD Vc Vc_le Vc_upd cnt pend phi phi_mono phi_retag PayAt Has upd_same upd_ne get_map_set get_map_set_same OpenSt others_uncounted)
open ConcR (stA smA WgAt KK rd wr g_of_ofEvents Bk bk_of_mute)
namespace Ph
variable {p:Ph}{Fin:(Nat->Prop)->(Nat->Prop)->ao->ad->Prop}{G:Gh}
def EvS.acs (h:Bk p.Wg e):p.EvS e:=by rcases h with h|h|⟨a,wr,rfl,h⟩;exact aa ⟨_,h,aa rfl⟩;exact aa ⟨_,h,ac<|aa rfl⟩;exact ac ⟨a,wr,rfl,aa h⟩
def Zy {a b}(h:a<=b):cnt ⟨a,0,0⟩<=cnt ⟨b,0,0⟩:=by grind [cnt]
def Inv.Pq (hR:p.kz)(cO:Geo p ay)(hS:∀l,ay l->l.low cJ)(oX:∀Ro M g W,Anch Ro M g W->g.status=.running)(h:p.Inv ay cJ Fin Anch G t)(hi:i<G.j){s'}(v:G.D i=.lib s seq vs A) (hg:G.gs[p.J+i]?=some g)(hgo:aL p.P false g G.w=.go g' w' es)(hA:Aside p.Wg G.w w')(kS:WgAt p.ty p.Wg w' Ib Hw)(T:∀e∈es,p.EvS e)(hrel:s'<=6->∃r,RelBy (stA p.Wg) (t++ax (p.J+i) g.frame.fn g.frame.place es) (p.J+i) r) (pd:p.WS i (G.Ro<|i+1) (.lib s' seq vs A) ρ' (av (au t<|p.J+i) es) (G.M<|i+1) g' w') (uz:∀tag',(tag'=G.tag\/(G.tag=.blk/\tag'=.w3))->(mayWake p.P g->g'.status=.running->tag'≠.blk)->a3 G.j (upd (bZ G.D) i ⟨s',0,0⟩) tag' Ib Hw) (aG:s'<s\/(s'=s/\Rk.lt ρ' (G.R<|p.J+i))): p.Nx ay cJ Fin Anch G t (p.J+i):=by
 have z:=h.fact i hi;rw[v]at z;let⟨Y,f2,_⟩:=z.lib s seq vs A rfl;have Z:grow _ G.w w'=G.M (i+1):=cU hA.size;let⟨cs,N⟩:=h.bs;have O:=hA.block _<|bb cO.wb;refine h.stepW hR cO hS oX hi (pl':=.lib s' seq vs A) hg hgo (by rw[hA.size];exact agw _) (λb _ _ hn=>hA.block b λe=>hn<|aa e) (by rw[Z];exact pd) (GZ T) (rH (by rw[hA.size];exact h.jl.qa _<|aa rfl) (by rw[hA.size];exact h.jl.qa _<|ac<|aa rfl) T) kS (h.tk.of_block<|hA.block _<|bb cO.wt) ⟨cs,N.of_block O⟩
  uz ⟨z.seq,trivial,λ_=>z.out rfl,λaZ sq bl gt e=>?_⟩ (λk _ vs hs=>hs.of_block O) ab (λx _ C h2=>ab) (λx U=>by rw[v]at U;exact U) ?_ ?_
 cases e;exact⟨Y.of_block O,⟨hR _ _ _ _ _ f2.1 ⟨λb hb=>hA.block b λe=>(h.jl.sp (i+1) b<|aa e).1<|f2.2 b hb,by rw[hA.size];exact agw _,hA.os,hA.output⟩,cQ⟩,hrel⟩;have e:sumTo G.j (λk=>(upd G.D i _ k).dP)+(G.D i).dP=sumTo G.j (λk=>(G.D k).dP)+1:=sumTo_upd G.D (.lib s' seq vs A) ox.dP hi;have e0:(G.D i).dP=1:=by rw[v];rfl
 have:=h.bound;omega;rw[v];rcases aG with C|⟨C,h2⟩;exact aa ⟨C,Zy<|agO C⟩;grind
def Inv.aeF (hR:p.kz)(cO:Geo p ay)(hS:∀l,ay l->l.low cJ)(oX:∀Ro M g W,Anch Ro M g W->g.status=.running)(hn:p.n<2147483647)(h:p.Inv ay cJ Fin Anch G t)(hi:i<G.j){m C c v}(hD:G.D i=.lib s seq vs A) (hg:G.gs[p.J+i]?=some g)(fT:g.status=.running)(hd:au t (p.J+i)=d)(hC:G.M (i+1) C)(ZT:¬A C)(ce:G.R (p.J+i)=Rk.nat m)(cf:G.j+pend G.tag<=p.n)(hs:@WSit p.pl p.P p.ty p.Wg C c (λ_ _=>False) (λ_ _=>False) 0 1 v s m d g G.w): p.Nx ay cJ Fin Anch G t (p.J+i):=by
 letI:=p.pl;have fa:=h.fact i hi;rw[hD]at fa;let⟨f1,f2,f3⟩:=fa.lib s seq vs A rfl;have zY:(bZ G.D i).stage=s:=by simp only[bZ,hD];rfl
 have w_:∀T,T+1=m->Rk.lt (Rk.nat T) (G.R<|p.J+i):=λT e=>by rw[ce,<-e];exact Rk.nat_lt T G.w
 have XZ:∀{es:Array a6},s<=6->(∀e∈es,Bk p.Wg e)->(∀Y e,es[Y]?=some e->(a7 e).touch?=none\/0<av d (es.extract 0 Y))->∃r,RelBy (stA p.Wg) (t++ax (p.J+i) g.frame.fn g.frame.place es) (p.J+i) r:=
  λh6 hb U=>let⟨r,hr⟩:=f3 h6;⟨r,hr.book hd _ _ hb U⟩
 have co:=Vc_le G.j<|bZ G.D;have Z:∀{g':ao} {T:Nat},aL p.P false g G.w=.go g' G.w #[]->@WSit p.pl p.P p.ty p.Wg C c (λ_ _=>False) (λ_ _=>False) 0 1 v s T d g' G.w->T+1=m->s<=6->
   p.Nx ay cJ Fin Anch G t (p.J+i):=by
  intro g' T hgo pd hm h6;exact h.Pq hR cO hS oX hi hD hg hgo (.refl _ _) h.wg aN (λ_=>XZ h6 aN aN) (ρ':=Rk.nat T) (by rw[hd];exact .lib hC ZT pd) (λtag' N _=>lI h.mode N zY)<|ac ⟨rfl,w_ T hm⟩
 have O:∀{g':ao} {w':ad} {es:Array a6} {s' T bl:Nat} {Ib Hw:Int},aL p.P false g G.w=.go g' w' es->Aside p.Wg G.w w'->WgAt p.ty p.Wg w' Ib Hw->(∀e∈es,Bk p.Wg e)->
   (∀Y e,es[Y]?=some e->(a7 e).touch?=none\/0<av d (es.extract 0 Y))->@WSit p.pl p.P p.ty p.Wg C c (λ_ _=>False) (λ_ _=>False) 0 1 v s' T bl g' w'->av d es=bl->s<=6->
   (∀tag',(tag'=G.tag\/(G.tag=.blk/\tag'=.w3))->(mayWake p.P g=true->g'.status=.running->tag'≠.blk)->a3 G.j (upd (bZ G.D) i ⟨s',0,0⟩) tag' Ib Hw)->(s'<s\/(s'=s/\T+1=m))->
   p.Nx ay cJ Fin Anch G t (p.J+i):=by
  intro g' w' es s' T bl Ib Hw hgo hA kS qd UR pd ch h6 uz aG;exact h.Pq hR cO hS oX hi hD hg hgo hA kS (λe he=>.acs<|qd e he) (λ_=>XZ h6 qd UR) (ρ':=Rk.nat T) (by rw[hd,ch];exact .lib hC ZT pd) uz<|aG.imp id λx=>⟨x.1,w_ T x.2⟩
 have cp:∀{x:WD} {a:Nat},a≠i->(upd (bZ G.D) i x a)=bZ G.D a:=λe=>upd_ne _ _ e;cases hs with
 |r0 hw=>
  rcases a8 hw with dE|⟨T,rfl,dt⟩;let⟨_,cq,g',hgo,aZ,hk⟩:=dE G.w<|RW.refl G.w;exact h.Pq hR cO hS oX hi hD hg hgo (.refl _ _) h.wg (by intro e he;simp at he;subst he;exact aa ⟨_,rfl,ac<|ac<|aa ⟨_,rfl⟩⟩) (λ_=>⟨t.size,RelBy.new hd _ _⟩) (ρ':=Rk.nat aZ) (by rw[hd];exact .lib (v:=v) hC ZT<|.k1 hk) (λtag' N _=>(h.mode.counted hi ab (aa rfl) 0 0).retag N)<|aa ab;let⟨g',w',es,hgo,⟨Nc,oA⟩,qw⟩:=dt G.w<|RW.refl G.w;have ci:∀b,p.Sp b->b≠C:=λb hb e=>(h.jl.sp (i+1) b hb).1<|e▸hC;have ks:∀b,p.Sp b->w'.heap[b]?=G.w.heap[b]?:=λb hb=>Nc.block b<|ci b hb;have XG:grow (G.M<|i+1) G.w w'=G.M (i+1):=cU Nc.size;have Qk:av (au t<|p.J+i) es=0:=by rw[hd];exact bB (λe he=>⟨(oA e he).2.1,(oA e he).2.2.1⟩) 0
  have N:∀e∈es,∀x,(a7 e).touch?=some x->b8 p.Wg x.loc/\x.kind≠.plain/\x.kind≠.said:=λe he x U=>by rcases((oA e he).1 0 "").2 x U with h1|h1|h1;exact h1;exact h1.elim;exact h1.1.elim
  let⟨cs,cj⟩:=h.bs;have hB:=ks p.Bs<|ac<|ac rfl;refine h.stepW hR cO hS oX hi (pl':=.lib 7 seq vs A) (ρ':=Rk.nat T) hg hgo (by rw[Nc.size];exact agw _) (λb _ hb _=>Nc.block b λe=>hb<|e▸hC) (by rw[XG,Qk];exact .lib hC ZT<|.r0 qw) (λop bF=>?_) (λop bF=>?_) (h.wg.of_block<|ks _<|aa rfl) (h.tk.of_block<|ks _<|ac<|aa rfl) ⟨cs,cj.of_block hB⟩
    (λtag' N _=>lI h.mode N zY) ⟨fa.seq,trivial,λ_=>fa.out rfl,λct sq cu gt e=>?_⟩ (λk _ vs hs=>hs.of_block hB) (agw _) (λx _ h1 h2=>ab) (λx U=>by rw[hD]at U;exact U) ?_ (ac ⟨by rw[hD],by rw[hD],w_ T rfl⟩)
  obtain⟨e,he,rfl⟩:=a4 bF;exact⟨rfl,λx U=>let⟨⟨a,h1,h2⟩,h3⟩:=N e he x U;.inl ⟨ac ⟨a,h1,aa h2⟩,h3⟩⟩;obtain⟨e,he,rfl⟩:=a4 bF;refine⟨λx U=>?_,λx U=>?_,λU=>(oA e he).2.2.2<|bM U,λ_ x U _=>?_⟩;let⟨⟨a,h1,h2⟩,_⟩:=N e he x U;rw[h1];rfl;let⟨⟨a,h1,h2⟩,_⟩:=N e he x U;rw[h1];show a.block<_;rw[h2,Nc.size];exact h.jl.qa _<|aa rfl;let⟨⟨a,h1,h2⟩,_⟩:=N e he x U;exact ac ⟨a,h1,aa h2⟩;cases e;exact⟨f1.of_block hB,⟨hR _ _ _ _ _ f2.1 ⟨λb hb=>Nc.block b λe=>ZT<|e▸hb,by rw[Nc.size];exact agw _,Nc.os,Nc.output⟩,by rw[XG];exact f2.2⟩,λh6=>absurd h6 ab⟩;have e:sumTo G.j (λk=>(upd G.D i (.lib 7 seq vs A) k).dP)+(G.D i).dP=sumTo G.j (λk=>(G.D k).dP)+1:=sumTo_upd G.D (.lib 7 seq vs A) ox.dP hi;have e0:(G.D i).dP=1:=by rw[hD];rfl
  have:=h.bound;omega
 |k1 hw=>rcases a8 hw with dE|⟨T,rfl,dt⟩;let⟨_,g',hgo,aZ,hk⟩:=dE G.w<|RW.refl G.w;exact O hgo (.refl _ _) h.wg (by intro e he;simp at he;subst he;exact aa rfl) (by intro Y e he;exact aa (by have:=bR he;simp at this;subst this;rfl)) (.d1 hk) rfl ab (λtag' N _=>(h.mode.counted hi ab (ac rfl) 0 0).retag N)<|aa ab;obtain⟨g',w',es,hgo,⟨rfl,rfl⟩,qw⟩:=dt G.w<|RW.refl G.w;exact Z hgo (.k1 qw) rfl ab
 |d1 hw=>rcases a8 hw with dE|⟨T,rfl,dt⟩;let⟨_,dq⟩:=dE G.w<|RW.refl G.w;(have nA:cnt (bZ G.D i)=1:=by simp[cnt,zY]);(have cv:1<=Vc G.j (bZ G.D):=by have:=le_sumTo (f:=λx=>cnt<|bZ G.D x) hi;simp only[Vc];omega);(have bq:∀e∈#[rd<|stA p.Wg,wr<|stA p.Wg],Bk p.Wg e:=by intro e he;simp at he;rcases he with rfl|rfl<;>exact bk _ _ rfl);(have bx:∀Y e,(#[rd<|stA p.Wg,wr<|stA p.Wg]:Array a6)[Y]?=some e->(a7 e).touch?=none\/0<av 1 ((#[rd<|stA p.Wg,wr<|stA p.Wg]:Array a6).extract 0 Y):=by intro Y e he;match Y,he with|0,_=>exact ac (by simp[av])|1,_=>exact ac (by simp[av,rd])|Y+2,he=>simp at he);(have b2:∀x:WD,cnt x=0->Vc G.j (upd (bZ G.D) i x)+1=Vc G.j (bZ G.D):=λx U=>by have:=Vc_upd (bZ G.D) x hi;omega);(have cc:OpenSt G.j (bZ G.D)->OpenSt G.j (upd (bZ G.D) i ⟨1,0,0⟩):=λh a ha=>by by_cases e:a=i;subst e;rw[upd_same];simp;rw[upd_ne _ _ e];exact h a ha);have hm:=h.mode;have hw:=h.wg;generalize cb:G.tag=tg at hm cf;generalize dZ:G.st=st at hm hw;generalize cw:G.sm=sm at hm hw;(cases hm with|opn h1 h2 h3=>obtain⟨v,hv⟩:∃v,Vc G.j (bZ G.D)+pend tg=v+1:=⟨Vc G.j (bZ G.D)+pend tg-1,ab⟩;rw[hv]at hw;(have Gi:WgAt p.ty p.Wg G.w (((v:Nat)+1)*KK+((0:Nat):Int)) 0:=by simpa using hw);let⟨g',hgo,_,hq⟩:=dq v 0 ab ab Gi;let⟨q,hq⟩:=hq ab;(have Gg:Vc G.j (upd (bZ G.D) i ⟨1,0,0⟩)+pend tg=v:=by have:=b2 ⟨1,0,0⟩ rfl;omega);refine O hgo (az G.w (stA p.Wg) _) (hw.setSt _) bq bx (.quit hq) rfl ab (λtag' N _=>bj ?_ N)<|aa ab;(have e:((v:Nat):Int)*KK+((0:Nat):Int)=((Vc G.j (upd (bZ G.D) i ⟨1,0,0⟩)+pend tg:Nat):Int)*KK:=by rw[Gg];simp);rw[cb,e];exact .opn h1 (cc h2) (λvs ev=>by have:=h3 vs ev;have:=b2 ⟨1,0,0⟩ rfl;omega)|reg h1 h2 h3=>obtain⟨v,hv⟩:∃v,Vc G.j (bZ G.D)=v+1:=⟨Vc G.j (bZ G.D)-1,ab⟩;rw[hv]at hw;(have Gi:WgAt p.ty p.Wg G.w (((v:Nat)+1)*KK+((1:Nat):Int)) 0:=by simpa using hw);let⟨g',hgo,hl,hq⟩:=dq v 1 ab ab Gi;by_cases ck:v=0;subst ck;let⟨aZ,hk⟩:=hl ⟨rfl,rfl⟩;refine O hgo (az G.w (stA p.Wg) _) (hw.setSt _) bq bx (.d2 hk) rfl ab (λtag' N _=>bj ?_ N)<|aa ab;(have JB:∀a,a<G.j->a≠i->(bZ G.D a).stage=1:=λa ha e=>by have c0:=others_uncounted hi hv nA a ha e;have:=h2 a ha;simp only[cnt]at c0;split at c0<;>omega);have:=bv (j:=G.j) (D:=upd (bZ G.D) i ⟨4,0,0⟩) (tag:=tg) i h1 hi (by rw[upd_same];simp) (λa ha e=>by rw[upd_ne _ _ e];exact JB a ha e);rw[upd_same]at this;rw[cb];simpa using this;let⟨q,hq⟩:=hq ab;(have Gg:Vc G.j (upd (bZ G.D) i ⟨1,0,0⟩)=v:=by have:=b2 ⟨1,0,0⟩ rfl;omega);refine O hgo (az G.w (stA p.Wg) _) (hw.setSt _) bq bx (.quit hq) rfl ab (λtag' N _=>bj ?_ N)<|aa ab;(have e:((v:Nat):Int)*KK+((1:Nat):Int)=((Vc G.j (upd (bZ G.D) i ⟨1,0,0⟩):Nat):Int)*KK+1:=by rw[Gg];simp);rw[cb,e];exact .reg h1 (cc h2) ab|last L _ h2 h3 h4=>by_cases e:i=L;subst e;omega;have:=h4 i hi e;omega|sema h2=>have:=h2 i hi;omega|fin _ h2=>have:=h2 i hi;omega);obtain⟨g',w',es,hgo,⟨rfl,rfl⟩,qw⟩:=dt G.w<|RW.refl G.w;exact Z hgo (.d1 qw) rfl ab
 |d2 hw=>rcases a8 hw with dE|⟨T,rfl,dt⟩;let⟨_,U⟩:=dE G.w<|RW.refl G.w;let⟨A9,JB,e1,e2⟩:=h.mode.isLast hi ab;have kS:=h.wg;rw[e1,e2,zY]at kS;let⟨g',hgo,aZ,hk⟩:=U (by simpa using kS);refine O hgo (.refl _ _) kS (by intro e he;simp at he;subst he;exact bk _ _ rfl) (by intro Y e he;match Y,he with|0,_=>exact ac (by simp[av])|Y+1,he=>simp at he) (.d3 hk) rfl ab (λtag' N _=>bj ?_ N)<|aa ab;have:=bv (j:=G.j) (D:=upd (bZ G.D) i ⟨3,0,0⟩) (tag:=G.tag) i A9 hi (by rw[upd_same];simp) (λa ha e=>by rw[upd_ne _ _ e];exact JB a ha e);rw[upd_same]at this;simpa using this;obtain⟨g',w',es,hgo,⟨rfl,rfl⟩,qw⟩:=dt G.w<|RW.refl G.w;exact Z hgo (.d2 qw) rfl ab
 |d3 hw=>rcases a8 hw with dE|⟨T,rfl,dt⟩;let⟨_,U⟩:=dE G.w<|RW.refl G.w;let⟨A9,JB,e1,e2⟩:=h.mode.isLast hi ab;have kS:=h.wg;rw[e1,e2,zY]at kS;let⟨g',hgo,aZ,hk⟩:=U (by simpa using kS);refine O hgo (az G.w (stA p.Wg) _) (kS.setSt 0) (by intro e he;simp at he;subst he;exact bk _ _ rfl) (by intro Y e he;match Y,he with|0,_=>exact ac (by simp[av])|Y+1,he=>simp at he) (.d4 hk) rfl ab (λtag' N _=>bj ?_ N)<|aa ab;have:=bv (j:=G.j) (D:=upd (bZ G.D) i ⟨2,0,0⟩) (tag:=G.tag) i A9 hi (by rw[upd_same];simp) (λa ha e=>by rw[upd_ne _ _ e];exact JB a ha e);rw[upd_same]at this;simpa using this;obtain⟨g',w',es,hgo,⟨rfl,rfl⟩,qw⟩:=dt G.w<|RW.refl G.w;exact Z hgo (.d3 qw) rfl ab
 |d4 hw=>rcases a8 hw with dE|⟨T,rfl,dt⟩;let⟨_,cl,U⟩:=dE G.w<|RW.refl G.w;let⟨A9,JB,e1,e2⟩:=h.mode.isLast hi ab;have kS:=h.wg;rw[e1,e2,zY]at kS;let⟨g',hgo,q,hq⟩:=U (by simpa using kS);(have cn:g'.status=.running:=by cases q with|zero=>exact absurd hq.2 bc|succ q=>exact hq.elim (λx=>absurd x.2 bc) λx=>x.1);refine O hgo (az G.w (smA p.Wg) _) (kS.setSm 1) (es:=a1<|smA p.Wg) ?_ ?_ (.quit hq) (by simp[av,a1]) ab (λtag' N U3=>?_)<|aa ab;intro e he;simp[a1]at he;rcases he with rfl|rfl|rfl|rfl;exact aa rfl;exact bk _ _ rfl;exact bk _ _ rfl;exact ac<|aa rfl;intro Y e he;(match Y,he with|0,he=>simp[a1]at he;subst he;exact aa rfl|1,_=>exact ac (by simp[av,a1])|2,_=>exact ac (by simp[av,a1])|3,he=>simp[a1]at he;subst he;exact aa rfl|Y+4,he=>simp[a1]at he);have UW:=U3 cl cn;(have e3:tag'=.w3:=by rcases N with N|⟨_,N⟩;rw[<-N]at A9;(cases tag'<;>first|rfl|exact A9.elim|exact absurd rfl UW);exact N);subst e3;simp only[if_true];(exact .sema λa ha=>by by_cases e:a=i;subst e;rw[upd_same];rw[upd_ne _ _ e];exact JB a ha e);obtain⟨g',w',es,hgo,⟨rfl,rfl⟩,qw⟩:=dt G.w<|RW.refl G.w;exact Z hgo (.d4 qw) rfl ab
 |quit hq=>cases m with|zero=>rw[hq.1]at fT;cases fT|succ q=>rcases hq with⟨hf,_⟩|⟨_,g',es,XQ,dt,hq⟩;rw[hf]at fT;cases fT;refine O (dt G.w) (.refl _ _) h.wg (λe he=>bk_of_mute<|XQ e he) (λY e he=>aa<|touch_mute<|XQ e<|bR he) (.quit hq) rfl ab (λtag' N _=>lI h.mode N zY)<|ac ⟨rfl,rfl⟩
end Ph
end
section
open ConcN (CT Apart Ok0 OkW RelBy PermW sumTo sumTo_upd sumTo_upd_out sumTo_congr sumTo_le le_sumTo upd WgLive RW DWs AtR0 WSit CTag WD Vc Vc_le Vc_upd cnt pend phi phi_mono phi_retag PayAt Has upd_same upd_ne get_map_set get_map_set_same OpenSt AllQuit isOpen isFin isW3)
open ConcR (stA smA WgAt KK rd wr g_of_ofEvents Bk bk_of_mute)
namespace Ph
variable {p:Ph}{Fin:(Nat->Prop)->(Nat->Prop)->ao->ad->Prop}{G:Gh}{M Ro:Nat->Nat->Prop}{fn:FuncId}{pos:String}{K:Nat}
def KM (h:Iw p.dO S R e){x}(v:(a7 e).touch?=some x):(x.kind=.said/\∃a,x.loc=.cell a/\a.block=p.Wg)\/(x.kind=.plain/\x.loc.isMemory/\(fU S x.loc\/(fU R x.loc/\x.write=false))):=by by_cases n:p.dO e;(.obtain⟨a,z,rfl|rfl⟩:=n;all_goals grind [a7,MemAct.touch?]);exact ac<|ku h (λy=>absurd y n) v
def wc {m}(h:Iw p.dO S R e)(n:mute m=false)(z:∀a,m≠.read a)(C:∀a,m≠.write a):e.loc≠.mark m:=by refine ie h (λv=>?_) n;obtain⟨a,_,rfl|rfl⟩:=v;all_goals grind
def K1.mine (h:K1 p ay cJ M Ro w){l}(N:fU (M 0) l\/fU (Ro 0) l):¬p.Sh ay l/\(∀k,¬p.Own M k l)/\(fU (M 0) l->∀k,¬p.Rd Ro k l):=by (obtain⟨b,J,D⟩:∃b,(M 0 b\/Ro 0 b)/\fU (·=b) l:=by rcases N with x|x;let⟨b,O,Q⟩:=x.some;grind;let⟨b,O,Q⟩:=x.some;grind);have z:¬p.Sp b:=λE=>J.elim (h.sp 0 b E).1 (h.sp 0 b E).2;refine⟨λE=>?_,λk ⟨T,n⟩=>?_,λU k ⟨T,n⟩=>?_⟩;rcases Me E with x|x;exact h.ly 0 b J l D x;let⟨L,v,C⟩:=x.some;obtain rfl:=D.eq C;exact z<|v.imp id aa;rcases n with n|n;let⟨L,v,C⟩:=n.some;obtain rfl:=D.eq C;exact J.elim (h.Eb _ 0 ab b v)<|h.ro _ 0 b v;obtain rfl:=D.eq n.fU;exact z<|ac<|ac rfl;let⟨L,v,C⟩:=n.some;let⟨Y,Z,XJ⟩:=U.some;obtain rfl:=XJ.eq C;exact h.ro 0 _ Y Z v
def GW (z:K1 p ay cJ (upd M 0<|grow (M 0) w w') Ro w')(N:fM p.dO (M 0) (Ro 0) w w' es):∀D∈ax 0 fn pos es,Ok0 (p.Sh ay) (p.Own<|upd M 0<|grow (M 0) w w') (p.Rd Ro) K D/\(1<=p.J->FG (p.Sh ay) p.Wg p.J w' D):=by intro D T;obtain⟨e,O,rfl⟩:=a4 T;have E:=λx n=>KM (N.ev e O) (x:=x) n;have U:upd M 0 (grow (M 0) w w') 0=grow (M 0) w w':=upd_same _ _ _;refine⟨⟨rfl,λx n=>?_⟩,λY=>⟨λx n=>?_,λx n=>?_,λn=>wc (N.ev e O) rfl aN aN<|bM n,λn=>absurd n cQ⟩⟩;rcases E x n with⟨L,a,v,C⟩|⟨L,_,h⟩;exact aa ⟨ac ⟨a,v,aa C⟩,cQ⟩;let⟨Z,m2,m3⟩:=z.mine (l:=x.loc) f7;grind;rcases E x n with⟨L,a,v,C⟩|⟨_,h,_⟩;rw[v];rfl;omega;rcases E x n with⟨L,a,v,C⟩|⟨_,_,h|⟨h,_⟩⟩;rw[v];show a.block<_;rw[C];exact z.qa _<|aa rfl;exact h.low λb Q=>z.lt 0 b<|aa zc;exact h.low λb Q=>z.lt 0 b<|ac Q
def Inv.pU (hR:p.kz)(cO:Geo p ay)(hS:∀l,ay l->l.low cJ)(h:p.Inv ay cJ Fin Anch G t) (hgo:aL p.P true G.a G.w=.go a' w' es)(hp:fM p.dO (G.M 0) (G.Ro 0) G.w w' es)(N:au t 0=d) (pd:p.gX Fin Anch G.tag G.j ρ' G.x d (G.Ro 0) (grow (G.M 0) G.w w') a' w')(aG:Rk.lt ρ' G.ρ): p.Nx ay cJ Fin Anch G t 0:=by have C:=h.jl.grow hS 0 hp.size;have v:∀b,p.Sp b->w'.heap[b]?=G.w.heap[b]?:=λb hb=>hp.keep b (h.jl.qa b hb) (h.jl.sp 0 b hb).1;(have O:av (au t 0) es=d:=by rw[N];exact bB (λe he=>⟨wc (hp.ev e he) rfl aN aN,wc (hp.ev e he) rfl aN aN⟩) d);let⟨cs,z⟩:=h.bs;exact h.step0 hR cO hS hgo hp.size (λb hb T _=>hp.keep b hb T) (by rw[O];exact pd) (λop bF=>(GW C hp op bF).1) (λop bF=>(GW C hp (K:=0) op bF).2 cO.J1) (h.wg.of_block<|v _<|aa rfl) (h.tk.of_block<|v _<|ac<|aa rfl) ⟨cs,z.of_block<|v _<|ac<|ac rfl⟩ h.mode (λk vs hs=>hs.of_block<|v _<|ac<|ac rfl)<|ac ⟨rfl,aa aG⟩
def Inv.pP (hR:p.kz)(cO:Geo p ay)(hS:∀l,ay l->l.low cJ)(h:p.Inv ay cJ Fin Anch G t){tag' x' d'} (hgo:aL p.P true G.a G.w=.go a' w' es)(hA:Aside p.Wg G.w w')(kS:WgAt p.ty p.Wg w' Ib Hw)(z:∀e∈es,p.EvS e)(T:au t 0=d)(N:av d es=d') (pd:p.gX Fin Anch tag' G.j ρ' x' d' (G.Ro 0) (G.M 0) a' w')(uz:a3 G.j (bZ G.D) tag' Ib Hw) (aG:phi p.n (Vc G.j<|bZ G.D) tag'<phi p.n (Vc G.j<|bZ G.D) G.tag\/(phi p.n (Vc G.j<|bZ G.D) tag'=phi p.n (Vc G.j<|bZ G.D) G.tag/\ρ'=G.ρ/\x'<G.x)): p.Nx ay cJ Fin Anch G t 0:=by have C:=hA.block _<|bb cO.wb;let⟨cs,v⟩:=h.bs;have U:grow (G.M 0) G.w w'=G.M 0:=cU hA.size;exact h.step0 hR cO hS hgo (by rw[hA.size];exact agw _) (λb _ _ O=>hA.block b λe=>O<|aa e) cQ (GX z) (rH (by rw[hA.size];exact h.jl.qa _<|aa rfl) (by rw[hA.size];exact h.jl.qa _<|ac<|aa rfl) z) kS (h.tk.of_block<|hA.block _<|bb cO.wt) ⟨cs,v.of_block C⟩ uz (λk vs hs=>hs.of_block C)<|aG.imp id λx=>⟨x.1,ac x.2⟩
def lH {D tag tag' C}(h:a3 j D tag st C)(z:isOpen tag)(J:isOpen tag')(N:pend tag'=pend tag)(O:∀vs,tag'=.w2 vs->Vc j D<=vs/\1<=vs):a3 j D tag' st C:=by cases h with|opn _ ho _=>rw[<-N];exact .opn J ho O|reg x=>(cases tag<;>first|exact x.elim|exact z.elim)|last _ x=>(cases tag<;>first|exact x.elim|exact z.elim)|sema _=>exact z.elim|fin x=>cases tag<;>first|exact x.elim|exact z.elim
def pv {D tag C}(h:a3 j D tag st C)(z:isOpen tag):OpenSt j D/\st=((Vc j D+pend tag:Nat):Int)*KK/\C=0/\∀vs,tag=.w2 vs->Vc j D<=vs/\1<=vs:=by cases h with|opn _ ho h=>grind|reg x=>(cases tag<;>first|exact x.elim|exact z.elim)|last _ x=>(cases tag<;>first|exact x.elim|exact z.elim)|sema _=>exact z.elim|fin x=>cases tag<;>first|exact x.elim|exact z.elim
def qK {D tag C}(h:a3 j D tag st C)(z:isFin tag):AllQuit j D/\st=0/\C=0:=by cases h with|opn x=>(cases tag<;>first|exact x.elim|exact z.elim)|reg x=>(cases tag<;>first|exact x.elim|exact z.elim)|last _ x=>(cases tag<;>first|exact x.elim|exact z.elim)|sema _=>exact z.elim|fin _ h=>grind
def E0 {D}(h:OpenSt j D)(C:Vc j D=0):AllQuit j D:=by intro i v;have J:=le_sumTo (f:=λx=>cnt<|D x) v;have N:=h i v;grind [Vc,cnt]
end Ph
namespace Ph
variable (p:Ph)(ay:Loc->Prop)(cJ:Nat)(Fin Anch:(Nat->Prop)->(Nat->Prop)->ao->ad->Prop)
structure Out (gs:Array ao)(w t a Ro M)(seq:Nat->List Nat)(vs:Nat->List aI)(A:Nat->Nat->Prop):Prop where
 size:gs.size=p.J+p.n
 main:gs[0]?=some a
 fin:Fin Ro M a w
 past:mO (p.Sh ay) w t
 quit:∃q,Leavers p.P t gs q
 who:∀(i:Nat) (op:br),t[i]?=some op->op.g<p.J+p.n
 aeS:∀i,i<p.n->∀x∈seq i,x<p.L
 all:∀x,x<p.L->∃i,i<p.n/\x∈seq i
 slot:∀i,i<p.n->p.Slot i (vs i) w
 res:∀i,i<p.n->p.Ze (seq i) (vs i) (A i) w
 bs:∃cs,p.rX cs w
 apart:∀i k,i<p.n->k<p.n->i≠k->∀b,A i b->¬A k b
 own:∀i,i<p.n->∀b,A i b->b<w/\¬M b/\¬Ro b/\¬p.Sp b
 mine:∀b,M b\/Ro b->b<w/\¬p.Sp b
 sp:∀b,p.Sp b->b<w
 mro:∀b,M b->¬Ro b
 ly:∀i,i<p.n->∀b,A i b->∀l,fU (·=b) l->¬ay l
variable {p}{ay}{cJ}{Fin Anch}{G:Gh}
def Inv.over (cO:Geo p ay)(F8:1<=p.n)(h:p.Inv ay cJ Fin Anch G t)(g9:G.tag=.acq)(hj:G.j=p.n)(hd:au t 0=0)(aZ:aL p.P true G.a G.w=.go a' G.w #[a2<|.acquire<|stA p.Wg])(mK:Fin (G.Ro 0) (G.M 0) a' G.w): ∃gs seq vs A,runT p.P (aV G.gs G.w G.sl) 0=(.next<|crowd gs G.w G.sl,ax 0 G.a.frame.fn G.a.frame.place #[a2<|.acquire<|stA p.Wg])/\p.Out ay Fin gs G.w (t++ax 0 G.a.frame.fn G.a.frame.place #[a2<|.acquire<|stA p.Wg]) a' (G.Ro 0) (G.M 0) seq vs A:=by
 have yd:=h.size;have hJ:=cO.J1;let⟨dq,_,_⟩:=qK h.mode (by rw[g9];trivial);have UU:∀i,i<p.n->∃seq vs A,G.D i=.lib 1 seq vs A:=λi v=>by have:=dq i ab;cases hD:G.D i with|jG f lo seq=>grind [bZ,ox.stage]|put seq=>grind [bZ,ox.stage]|lib s seq vs A=>grind [bZ,ox.stage]
 have T:∀i,∃x:List Nat×List aI×(Nat->Prop),i<p.n->G.D i=.lib 1 x.1 x.2.1 x.2.2:=λi=>by by_cases v:i<p.n;simp_all;exact⟨([],[],λ_=>False),λx=>absurd x v⟩
 let X:=λi=>(T i).choose;have hX:∀i,i<p.n->G.D i=.lib 1 (X i).1 (X i).2.1 (X i).2.2:=λi v=>(T i).choose_spec v;have hF:∀i,i<p.n->p.Fact i _ (G.M<|i+1) G.c G.w t:=λi v=>hX i v▸h.fact i ab;have U:∀e∈#[a2<|.acquire<|stA p.Wg],p.EvS e:=by intro e he;simp at he;subst he;exact aa ⟨_,rfl,ac<|ac<|ac ⟨_,rfl⟩⟩
 have Qk:au (t++ax 0 G.a.frame.fn G.a.frame.place #[a2<|.acquire<|stA p.Wg]) 0=0:=by rw[bH,hd];rfl
 have Ql:∀k,k≠0->au (t++ax 0 G.a.frame.fn G.a.frame.place #[a2<|.acquire<|stA p.Wg]) k=au t k:=λk hk=>a5 t (bb hk) _ g_of_ofEvents;have Y:=h.tr.app0 (h.jl.apart cO) (GX (fn:=G.a.frame.fn) (pos:=G.a.frame.place) U)<|rH (h.jl.qa _<|aa rfl) (h.jl.qa _<|ac<|aa rfl) U;have bq:ax 0 G.a.frame.fn G.a.frame.place #[a2<|.acquire<|stA p.Wg]=#[{g:=0,fn:=G.a.frame.fn,pos:=G.a.frame.place,act:=.mark<|.acquire<|stA p.Wg}]:=by rw[ofEvents_eq];simp[b7]
 have hq:(t++ax 0 G.a.frame.fn G.a.frame.place #[a2<|.acquire<|stA p.Wg])[t.size]?=some {g:=0,fn:=G.a.frame.fn,pos:=G.a.frame.place,act:=.mark<|.acquire<|stA p.Wg}:=by grind
 have bl:=Y.past (λl hl=>aa hl) (by rw[act?_of hq]) (by grind [Trace.g?]) ⟨0,by simp[Trace.g?,hq],by rw[deaf_old ab];exact hd⟩ (λk BH mZ=>by have v:k-p.J<p.n:=ab;let⟨r,hr⟩:=((hF _ v).lib _ _ _ _ rfl).2.2 ab;rw[show p.J+(k-p.J)=k by omega]at hr;exact⟨r,hr.appOther g_of_ofEvents ab,lt_of_act? hr.act⟩) Qk;have hc:=(hF 0 ab).out rfl;refine⟨_,λi=>(X i).1,λi=>(X i).2.1,λi=>(X i).2.2,(b1 h.main (show aL p.P (0==0) G.a G.w=_ from aZ)),⟨by simpa[hj]using yd,get_map_set_same _ _ _ ab,mK,bl,?_,λi op v=>?_,λi v x hx=>(hF i v).seq x hx,λx hx=>?_,λi v=>((hF i v).lib _ _ _ _ rfl).1,λi v=>((hF i v).lib _ _ _ _ rfl).2.1.1,h.bs,λi k v hk bx b O C=>h.jl.Eb (i+1) (k+1) ab b (((hF i v).lib _ _ _ _ rfl).2.1.2 b O)<|((hF k hk).lib _ _ _ _ rfl).2.1.2 b C,λi v b hb=>?_,λb hb=>⟨h.jl.lt 0 b hb,λhs=>hb.elim (h.jl.sp 0 b hs).1 (h.jl.sp 0 b hs).2⟩,h.jl.qa,λb hb=>h.jl.ro 0 0 b hb,λi v b hb=>h.jl.ly (i+1) b<|aa<|((hF i v).lib _ _ _ _ rfl).2.1.2 b hb⟩⟩
 ·
  have hL:∀i,∃q,∀g,0<i->((G.gs.map<|ca p.P G.a a' G.w).setIfInBounds 0 a')[i]?=some g->QuitsD p.P q (au _ i) g:=λi=>by
   rcases agJ i with rfl|gZ
   .exact⟨0,λg h0=>absurd h0 ab⟩
   rcases agE i p.J with aG|uy
   .let⟨g,q,O,C,_⟩:=h.old i gZ aG;refine⟨q,λg' _ N=>?_⟩;rw[get_map_set _ _ _ _ ab,O,bA,bE C]at N;cases N;rw[Ql i ab];exact C
   by_cases v:i-p.J<p.n
   .let⟨g,O,C⟩:=h.wk (i-p.J) ab;rw[show p.J+(i-p.J)=i by omega]at O C;rw[hX _ v]at C;generalize BP:G.R i=ρ at C;generalize UR:au t i=dd at C;have U3:=C.woken h.I G.a a' G.w;cases C with
    |lib hC hr hw=>
     rename_i m _ _ _;refine⟨m,λg' _ N=>?_⟩;rw[get_map_set _ _ _ _ ab,O,bA,U3]at N;cases N;rw[Ql i ab,UR];cases hw with
     |quit hq=>exact hq
   refine⟨0,λg' _ N=>?_⟩;have:i<G.gs.size:=by simpa using(agy.1 N).1
   omega
  refine⟨λi=>(hL i).choose,λi g h0 hg=>(hL i).choose_spec g h0 hg,λk hk=>?_⟩;have vU:G.gs.size<=k:=by simpa using hk
  rw[Ql k ab];exact h.above k ab
 have:=Y.ct.gs i op v;omega;let⟨i,v,Z⟩:=h.Zz x hx ab;refine⟨i,ab,?_⟩;rw[hX i ab]at Z;exact Z;have dr:=((hF i v).lib _ _ _ _ rfl).2.1.2 b hb;exact⟨h.jl.lt (i+1) b<|aa dr,h.jl.Eb (i+1) 0 ab b dr,h.jl.ro (i+1) 0 b dr,λhs=>(h.jl.sp (i+1) b hs).1 dr⟩
end Ph
namespace Ph
variable {p:Ph}{Fin:(Nat->Prop)->(Nat->Prop)->ao->ad->Prop}{G:Gh}
def Lt4.KN {μ v n:Nat×(Nat->Rk)×Rk×Nat}(h:Lt4 p μ v)(z:v.1<n.1):Lt4 p μ n:=by let⟨a,b⟩:=μ;let⟨a',E⟩:=v;let⟨C,D⟩:=n;cases h with|left _ _ h=>exact Prod.Lex.left _ _ ab|right _ h=>exact Prod.Lex.left _ _ z
def Inv.acL (T:p.kz)(N:Geo p ay)(hS:∀l,ay l->l.low cJ)(U:p.n<2147483647)(F8:1<=p.n)(Xo:∀Ro M g W,Anch Ro M g W->p.I W->ET p.P true p.I p.dO Ro (p.AtW1 Fin Anch Ro) M g W) (h:p.Inv ay cJ Fin Anch G t)(fT:G.a.status=.running): (∃gs w sl ops a Ro M seq vs A,runT p.P (aV G.gs G.w G.sl) 0=(.next<|crowd gs w sl,ops)/\p.Out ay Fin gs w (t++ops) a Ro M seq vs A)\/p.Nx ay cJ Fin Anch G t 0:=by
 have MY:Aside p.Wg G.w G.w:=.refl _ _;have aG:∀m,(m=.disable\/m=.enable\/(∃a,m=.releaseMerge a)\/∃a,m=.acquire a)->∀e∈#[a2 m],p.EvS e:=λm hm e he=>by simp at he;subst he;exact aa ⟨m,rfl,hm⟩
 have aZ:∀e∈#[rd<|stA p.Wg],p.EvS e:=λe he=>by simp at he;subst he;exact ac ⟨_,_,rfl,aa rfl⟩
 have bl:∀e∈#[rd<|stA p.Wg,wr<|stA p.Wg],p.EvS e:=λe he=>by simp at he;rcases he with rfl|rfl<;>exact ac ⟨_,_,rfl,aa rfl⟩
 have bx:=Vc_le G.j<|bZ G.D;have OT:=h.jn;have hV:Vc G.j (bZ G.D)<=p.n:=agz bx OT;have bq:∀(G:Gh) (_:p.Inv ay cJ Fin Anch G t) (_:G.tag=.w1) (_:G.j=p.n) (_:au t 0=1) (_:PT p.P true p.I p.dO (G.Ro 0) (p.AtW1 Fin Anch<|G.Ro 0) G.ρ (G.M 0) G.a G.w) (_:G.x=0),
   p.Nx ay cJ Fin Anch G t 0:=by
  intro G h g9 J hd O hx;rcases O.cases with Y|⟨fr,hr,_,Z⟩
  .let⟨_,dZ⟩:=Y G.w (aU.refl _ _) h.I;have hm:=h.mode;rw[g9]at hm;let⟨ho,e1,e2,_⟩:=pv hm trivial;have kS:=h.wg;rw[e1,e2]at kS;have hV:Vc G.j (bZ G.D)<=p.n:=agz (Vc_le _ _) h.jn;let⟨g',z,h0,h1⟩:=dZ (Vc G.j<|bZ G.D) ab (by simpa[pend]using kS);by_cases hv:Vc G.j (bZ G.D)=0
   .let⟨ρ',C⟩:=h0 hv;refine h.pP T N hS z (.refl _ _) h.wg aZ hd rfl (tag':=.ke) (by rw[J];exact .ke C) ?_<|aa y7;rw[e1,e2];have:(((Vc G.j (bZ G.D)+pend .w1:Nat):Int)*KK)=0:=by rw[hv];simp[pend]
    rw[this];exact .fin trivial (E0 ho hv)
   .let⟨ρ',C⟩:=h1 hv;exact h.pP T N hS z (.refl _ _) h.wg aZ hd rfl (tag':=.w2<|Vc G.j<|bZ G.D) (by rw[J]at C⊢;exact .w2 C) (lH hm trivial trivial rfl λvs e=>by cases e;exact⟨agw _,ab⟩)<|aa y7
  .let⟨g',w',es,z,C,U⟩:=Z G.w (aU.refl _ _) h.I;exact h.pU T N hS z C hd (by rw[g9,hx,J];exact .w1 U) (by rw[hr];exact⟨_,rfl⟩)
 have hs:=h.sit;have hI:=h.I;generalize g9:G.tag=tag at hs;generalize J:G.j=j at hs;generalize BP:G.ρ=ρ at hs;generalize hx:G.x=x at hs;generalize hd:au t 0=d at hs;generalize OP:G.Ro 0=R0 at hs;generalize Nb:G.M 0=M0 at hs;generalize ha:G.a=a at hs;generalize hw:G.w=w at hs;have hm:=h.mode;have kS:=h.wg;rw[g9]at hm;cases hs with|@skd r _ _ _ _ _ hr O=>(subst BP OP Nb ha hw;rcases O.cases with Y|⟨fr,Qz,_,Z⟩;let⟨_,g',z,ρ',C⟩:=Y _ (aU.refl _ _) hI;exact ac<|h.pP T N hS z MY kS (aG _<|aa rfl) hd rfl (tag':=.sp r 4) (by rw[J];exact .sa1 hr C) (lH hm trivial trivial rfl (λvs e=>by cases e))<|aa y7;let⟨g',w',es,z,C,U⟩:=Z _ (aU.refl _ _) hI;exact ac<|h.pU T N hS z C hd (by rw[g9,hx,J];exact .skd hr U) za)|@sa1 r _ _ _ _ _ hr O=>(subst BP OP Nb ha hw;rcases O.cases with Y|⟨fr,Qz,_,Z⟩;let⟨_,dZ⟩:=Y _ (aU.refl _ _) hI;let⟨ho,e1,e2,_⟩:=pv hm trivial;rw[e1,e2]at kS;let⟨g',z,ρ',C⟩:=dZ (Vc G.j<|bZ G.D) ab (by simpa[pend]using kS);refine ac<|h.pP T N hS z (az _ (stA p.Wg) _) (kS.setSt _) bl hd (d':=1) (by simp[av,rd,wr]) (tag':=.sp r 3) (by have hs:=gX.ske (Fin:=Fin) hr C;rw[<-J]at hs;exact hs) ?_<|aa y7;have h3:=bO (D:=bZ G.D) (j:=G.j) (tag:=.sp r 3) trivial ho (λvs e=>by cases e);(have e3:((Vc G.j (bZ G.D)+pend (.sp r 3):Nat):Int)=(Vc G.j (bZ G.D):Int)+1:=by simp[pend]);rw[e3]at h3;exact h3;let⟨g',w',es,z,C,U⟩:=Z _ (aU.refl _ _) hI;exact ac<|h.pU T N hS z C hd (by rw[g9,hx,J];exact .sa1 hr U) za)|@ske r _ _ _ _ _ hr O=>(subst BP OP Nb ha hw;rcases O.cases with Y|⟨fr,Qz,_,Z⟩;let⟨_,g',z,ρ',C⟩:=Y _ (aU.refl _ _) hI;exact ac<|h.pP T N hS z MY kS (aG _<|ac<|aa rfl) hd rfl (tag':=.sp r 2) (by rw[J];exact .sgo hr C) (lH hm trivial trivial rfl (λvs e=>by cases e))<|aa y7;let⟨g',w',es,z,C,U⟩:=Z _ (aU.refl _ _) hI;exact ac<|h.pU T N hS z C hd (by rw[g9,hx,J];exact .ske hr U) za)|@sgo r _ _ _ _ _ hr O=>(subst BP OP Nb ha hw;rcases O.cases with Y|⟨fr,Qz,_,Z⟩;exact ac<|h.spawn N hr g9 J hd<|Y _ (aU.refl _ _) hI;let⟨g',w',es,z,C,U⟩:=Z _ (aU.refl _ _) hI;exact ac<|h.pU T N hS z C hd (by rw[g9,hx,J];exact .sgo hr U) za)|kd O=>(subst BP OP Nb ha hw;rcases O.cases with Y|⟨fr,Qz,_,Z⟩;let⟨_,g',z,ρ',C⟩:=Y _ (aU.refl _ _) hI;exact ac<|h.pP T N hS z MY kS (aG _<|aa rfl) hd rfl (tag':=.anch) (by rw[J];exact .anch C) (lH hm trivial trivial rfl (λvs e=>by cases e))<|aa y7;let⟨g',w',es,z,C,U⟩:=Z _ (aU.refl _ _) hI;exact ac<|h.pU T N hS z C hd (by rw[g9,hx,J];exact .kd U) za)|anch O=>(subst BP OP Nb ha hw;rcases O.cases with Y|⟨fr,Qz,_,Z⟩;let⟨ρ',C⟩:=Xo _ _ _ _ (Y _ (aU.refl _ _) hI) hI;have h':p.Inv ay cJ Fin Anch {G with tag:=.w1,ρ:=ρ',x:=0} t:=⟨h.size,h.jn,h.main,by rw[hd];show p.gX Fin Anch .w1 G.j ρ' 0 1 (G.Ro 0) (G.M 0) G.a G.w;rw[J];exact .w1 C,h.wk,h.old,h.above,h.jl,h.tr,h.wg,h.tk,h.bs,lH (tag':=.w1) hm trivial trivial rfl (λvs e=>by cases e),h.fact,h.Zz,h.bound⟩;let⟨bF,ops,bN,h1,h2,h3⟩:=bq _ h' rfl J hd C rfl;refine ac ⟨bF,ops,bN,h1,h2.KN ?_,h3⟩;show phi p.n _ .w1+_+_<phi p.n _ G.tag+_+_;rw[g9];simp only[phi];omega;let⟨g',w',es,z,C,U⟩:=Z _ (aU.refl _ _) hI;exact ac<|h.pU T N hS z C hd (by rw[g9,hx,J];exact .anch U) za)|w1 O=>subst BP OP Nb ha hw;exact ac (bq G h g9 J hd O hx)|w2 O=>(subst BP OP Nb ha hw;rename_i vs;rcases O.cases with Y|⟨fr,Qz,_,Z⟩;let⟨_,dZ⟩:=Y _ (aU.refl _ _) hI;let⟨ho,e1,e2,b2⟩:=pv hm trivial;let⟨Tj,cj⟩:=b2 vs rfl;rw[e1,e2]at kS;let⟨cb,cc⟩:=dZ (Vc G.j<|bZ G.D) ab (by simpa[pend]using kS);by_cases hv:Vc G.j (bZ G.D)=vs;let⟨g',z,ρ',C⟩:=cb hv;refine ac<|h.pP T N hS z (az _ (stA p.Wg) _) (kS.setSt _) bl hd (d':=1) (by simp[av,rd,wr]) (tag':=.w3) (by have hs:=gX.w3 (Anch:=Anch) C;rw[<-J]at hs;exact hs) (.reg trivial ho ab)<|aa y7;let⟨g',z,ρ',C⟩:=cc hv;exact ac<|h.pP T N hS z MY h.wg aZ hd rfl (tag':=.anch) (by rw[J];exact .anch C) (lH hm trivial trivial rfl (λvs e=>by cases e))<|aa y7;let⟨g',w',es,z,C,U⟩:=Z _ (aU.refl _ _) hI;exact ac<|h.pU T N hS z C hd (by rw[g9,hx,J];exact .w2 U) za)|w3 O=>(subst BP OP Nb ha hw;rcases O.cases with Y|⟨fr,Qz,_,Z⟩;let⟨ce,cf,pa,ch⟩:=Y _ (aU.refl _ _) hI;have block:∀st,WgAt p.ty p.Wg G.w st 0->a3 G.j (bZ G.D) .blk G.st G.sm->p.Nx ay cJ Fin Anch G t 0:=λst dZ ci=>h.pP T N hS (pa ⟨st,dZ⟩) MY kS aN hd rfl (tag':=.blk) (by rw[J];exact .blk ce cf O Y) ci<|ac ⟨by rw[g9];rfl,rfl,ab⟩;generalize dZ:G.st=st at hm kS block;generalize ck:G.sm=sm at hm kS block;(cases hm with|opn x=>exact x.elim|reg _ h2 h3=>exact ac (block _ kS<|.reg trivial h2 h3)|last L _ h2 h3 h4=>exact ac (block _ kS<|.last L trivial h2 h3 h4)|sema hq=>(let⟨g',z,ρ',C⟩:=ch kS;refine ac<|h.pP T N hS z (az _ (smA p.Wg) _) (kS.setSm 0) ?_ hd (d':=1) (by simp[av,a1]) (tag':=.w4) (by rw[J];exact .w4 C) (.fin trivial hq)<|aa y7;intro e he;simp[a1]at he;rcases he with rfl|rfl|rfl|rfl;exact aa ⟨_,rfl,aa rfl⟩;exact ac ⟨_,_,rfl,aa rfl⟩;exact ac ⟨_,_,rfl,aa rfl⟩;exact aa ⟨_,rfl,ac<|aa rfl⟩)|fin x=>exact x.elim);let⟨g',w',es,z,C,U⟩:=Z _ (aU.refl _ _) hI;exact ac<|h.pU T N hS z C hd (by rw[g9,hx,J];exact .w3 U) za)|blk _ _ _ _=>rw[ha]at fT;cases fT|w4 O=>(subst BP OP Nb ha hw;rcases O.cases with Y|⟨fr,Qz,_,Z⟩;let⟨_,dZ⟩:=Y _ (aU.refl _ _) hI;let⟨hq,e1,e2⟩:=qK hm trivial;let⟨g',z,ρ',C⟩:=dZ (by rw[e1,e2]at kS;exact kS);exact ac<|h.pP T N hS z MY kS aZ hd rfl (tag':=.ke) (by rw[J];exact .ke C) (by rw[e1,e2];exact .fin trivial hq)<|aa y7;let⟨g',w',es,z,C,U⟩:=Z _ (aU.refl _ _) hI;exact ac<|h.pU T N hS z C hd (by rw[g9,hx,J];exact .w4 U) za)|ke O=>(subst BP OP Nb ha hw;rcases O.cases with Y|⟨fr,Qz,_,Z⟩;let⟨_,g',z,ρ',C⟩:=Y _ (aU.refl _ _) hI;let⟨hq,e1,e2⟩:=qK hm trivial;exact ac<|h.pP T N hS z MY kS (aG _<|ac<|aa rfl) hd rfl (tag':=.acq) (by rw[J];exact .acq C) (by rw[e1,e2];exact .fin trivial hq)<|aa y7;let⟨g',w',es,z,C,U⟩:=Z _ (aU.refl _ _) hI;exact ac<|h.pU T N hS z C hd (by rw[g9,hx,J];exact .ke U) za)|acq O=>subst BP OP Nb ha hw;rcases O.cases with Y|⟨fr,Qz,_,Z⟩;let⟨_,g',z,mK⟩:=Y _ (aU.refl _ _) hI;let⟨gs,seq,vs,A,h1,h2⟩:=h.over N F8 g9 J hd z mK;exact aa ⟨gs,_,_,_,g',_,_,seq,vs,A,h1,h2⟩;let⟨g',w',es,z,C,U⟩:=Z _ (aU.refl _ _) hI;exact ac<|h.pU T N hS z C hd (by rw[g9,hx,J];exact .acq U) za
end Ph
namespace Ph
variable {p:Ph}{Fin:(Nat->Prop)->(Nat->Prop)->ao->ad->Prop}{G:Gh}
def gX.bound {tag x}{ρ:Rk}{Ro a}(h:p.gX Fin Anch tag j ρ x d Ro M a w):j+pend tag<=p.n:=by cases h<;>simp[pend]<;>(try simp)<;>omega
def Inv.awake (D:∀Ro M g W,Anch Ro M g W->g.status=.running)(h:p.Inv ay cJ Fin Anch G t):∀g∈G.gs,Conc.awake g:=by intro g E;let⟨i,n⟩:=Array.mem_iff_getElem?.1 E;rcases agJ i with rfl|L;rw[h.main]at n;cases n;exact awake_of ((h.sit.status D h.I).imp (·.1) λx=>.inl x.1);rcases agE i p.J with z|N;let⟨g',q,v,C,_⟩:=h.old i L z;rw[n]at v;cases v;exact awake_of<|C.status.imp id .inr;(have z:i-p.J<G.j:=by have:=(agy.1 n).1;rw[h.size]at this;omega);let⟨g',v,C⟩:=h.wk _ z;rw[show p.J+_=i by omega,n]at v;cases v;exact awake_of<|(C.status h.I).imp id λx=>.inr x.1
def Inv.V0 (J:∀Ro M g W,Anch Ro M g W->g.status=.running)(h:p.Inv ay cJ Fin Anch G t):∃(i:Nat) (g:ao),G.gs[i]?=some g/\g.status=.running:=by (have Y:∀i,i<G.j->(G.D i).stage≠1->∃(i:Nat) (g:ao),G.gs[i]?=some g/\g.status=.running:=λi N hs=>by let⟨g,O,C⟩:=h.wk i N;exact⟨_,g,O,(C.status h.I).resolve_right λx=>hs x.2⟩);rcases h.sit.status J h.I with⟨hs,_⟩|⟨_,T⟩;exact⟨0,_,h.main,hs⟩;have z:=h.mode;rw[T]at z;generalize G.st=st at z;generalize G.sm=sm at z;cases z with|opn x=>exact x.elim|reg _ _ U=>grind [bZ,b9]|last L _ C U _=>grind [bZ]|fin x=>exact x.elim
def NO (Y:p.kz)(Z:Geo p ay)(hS:∀l,ay l->l.low cJ)(hn:p.n<2147483647)(F8:1<=p.n)(hL:p.L+p.n<4611686018427387904)(oX:∀Ro M g W,Anch Ro M g W->g.status=.running) (Xo:∀Ro M g W,Anch Ro M g W->p.I W->ET p.P true p.I p.dO Ro (p.AtW1 Fin Anch Ro) M g W): ∀(μ:Nat×(Nat->Rk)×Rk×Nat) (m:Machine) (t:bp),p.TG ay cJ Fin Anch μ m t->∃N gs w sl O a Ro M seq vs A,be p.P N m t=(.next<|crowd gs w sl,O)/\p.Out ay Fin gs w O a Ro M seq vs A:=by
 intro μ;induction μ using(Lt4.wf p).induction with
 |_ μ ih=>
  rintro m t ⟨G,rfl,rfl,h⟩;let⟨i,g,d,oE,T,hg,dZ⟩:=b4 (P:=p.P) (w:=G.w) (sl:=G.sl) (h.awake oX)<|h.V0 oX;have U:=h.at Y d oE;have hJ:=Z.J1;have go:(∃v ops z,runT p.P (aV G.gs (G.w.at d) oE) i=(.next v,ops)/\Lt4 p z (G.μ p)/\p.TG ay cJ Fin Anch z v (t++ops))->
    ∃N gs w sl O a Ro M seq vs A,be p.P N (aV G.gs G.w G.sl) t=(.next<|crowd gs w sl,O)/\p.Out ay Fin gs w O a Ro M seq vs A:=by
   rintro⟨v,ops,z,h1,C,h3⟩;let⟨N,gs,w,sl,O,a,Ro,M,seq,vs,A,h4,h5⟩:=ih z C v _ h3;exact⟨N+1,gs,w,sl,O,a,Ro,M,seq,vs,A,by grind [be],h5⟩
  rcases agJ i with rfl|gZ;have ha:G.a.status=.running:=by rw[h.main]at T;grind
  rcases U.acL Y Z hS hn F8 Xo ha with⟨gs,w,sl,ops,a,Ro,M,seq,vs,A,h1,C⟩|h1;exact⟨1,gs,w,sl,_,a,Ro,M,seq,vs,A,by simp[be,dZ,h1],C⟩;exact go h1;rcases agE i p.J with aG|uy;exact go<|U.acK Y Z oX gZ aG T hg;have mI:i-p.J<G.j:=by have:=(agy.1 T).1;rw[h.size]at this;omega
  obtain⟨k,rfl⟩:∃k,i=p.J+k:=⟨i-p.J,ab⟩;have hk:k<G.j:=ab;let⟨g',h1,C⟩:=U.wk k hk;obtain rfl:g=g':=by rw[show G.gs[p.J+k]?=some g from T]at h1;exact agC h1
  generalize hD:G.D k=pl at C;generalize BP:G.R (p.J+k)=ρ at C;generalize hd:au t (p.J+k)=dd at C;cases C with|jG hp=>exact go (U.ZM Y Z hS oX hL hk hD T hd<|by rw[show Gh.R _ (p.J+k)=_ from BP];exact hp)|put hp=>exact go (U.aeP Y Z hS oX hk hD T hd<|by rw[show Gh.R _ (p.J+k)=_ from BP];exact hp)|lib hC hr hw=>exact go<|U.aeF Y Z hS oX hn hk hD T hg hd hC hr BP U.sit.bound hw
end Ph
end
section
open ConcN (sumTo upd sumTo_upd upd_ne upd_same)
open ConcR (g_of_ofEvents)
section
variable {B:Nat}
def mO.mono {n}(h:mO ay B t)(v:B<=n):mO ay n t:=⟨h.clean,h.known,h.over,h.hears,λi a z=>Loc.low_mono v<|h.seen i a z,h.quiet,h.mem⟩
def mO.app0 (h:mO ay B t)(hu:∀n∈u,n.g=0)(J:∀n∈u,∀b,n.act.touch?=some b->b.kind=.plain/\¬ay b.loc/\b.loc.low B/\b.loc.isMemory)(O:au (t++u) 0=au t 0):mO ay B (t++u):=by (have split:∀{i:Nat} {a:Touch},bm (t++u) i=some a->bm t i=some a\/∃n∈u,(t++u)[i]?=some n/\n.act.touch?=some a:=by intro i a v;let⟨x,L,Q⟩:=bo v;grind [bn]);refine⟨λD=>b3 (h.clean D) hu λi a v n C b T U=>(h.known i a v).resolve_right λx=>(J n C b T).2.1<|U.1▸x.1,λi a v=>?_,b0 h.over λn C=>aa<|hu n C,O.trans h.hears,λi a v=>?_,h.quiet.app λn C x L E=>absurd E (J n C x L).2.1,λi a v=>?_⟩;rcases split v with z|⟨n,C,z,N⟩;exact(h.known i a z).imp (·.app u) id;have:=knows_own z;grind;rcases split v with z|⟨n,C,z,N⟩;exact h.seen i a z;grind;rcases split v with z|⟨n,C,z,N⟩;exact h.mem i a z;grind
def mO.appMute {g}(h:mO ay B t)(L:g≠0)(E:∀n∈u,n.g=g)(J:∀n∈u,n.act.touch?=none):mO ay B (t++u):=by (have old:∀{i:Nat} {a:Touch},bm (t++u) i=some a->bm t i=some a:=by intro i a v;let⟨x,D,N⟩:=bo v;grind [bn]);exact⟨λz=>b3 (h.clean z) E λi a _ n C b O _=>cQ,λi a v=>(h.known i a<|old v).imp (·.app u) id,b0 h.over λn C=>ac<|J n C,(a5 t L u E).trans h.hears,λi a v=>h.seen i a<|old v,h.quiet.app λn C x D=>(by rw[J n C]at D;cases D),λi a v=>h.mem i a<|old v⟩
end
section
variable {Ro:Nat->Prop}{I:ad->Prop}
structure dR (P ay)(V Ro M:Nat->Prop)(gs:Array ao)(a)(w:ad)(t q):Prop where
 main:gs[0]?=some a
 quit:Leavers P t gs q
 past:mO ay w t
 who:∀(i:Nat) (op:br),t[i]?=some op->op.g<gs.size
 lt:∀b,M b\/Ro b->b<w
 ly:∀b,M b\/Ro b->∀l,fU (·=b) l->¬ay l
 low:∀l,ay l->l.low w
 un:∀i a,bm t i=some a->¬fU V a.loc
 OZ:∀b,V b->b<w
 vm:∀b,V b->¬M b/\¬Ro b
def Mx {n g}(h:∀(i:Nat) (v:br),t[i]?=some v->v.g<n)(z:∀v∈u,v.g=g)(C:g<n):∀(i:Nat) (v:br),(t++u)[i]?=some v->v.g<n:=f7
def dR.own {a}(h:dR P ay V Ro M gs a w t q)(z:fM Ph.oD M Ro w w' es): dR P ay V Ro (grow M w w') ((gs.map<|woken P a a' w').setIfInBounds 0 a') a' w' (t++ax 0 a.frame.fn a.frame.place es) q:=by
 have gZ:=(agy.1 h.main).1;have T:∀b,grow M w w' b\/Ro b->b<w':=λb hb=>by rcases hb with(hb|⟨_,hb⟩)|hb;exact agx (h.lt b<|aa hb) z.size;omega;exact agx (h.lt b<|ac hb) z.size
 have U:∀b,grow M w w' b\/Ro b->∀l,fU (·=b) l->¬ay l:=λb hb l n v=>by rcases hb with(hb|⟨hb,_⟩)|hb;exact h.ly b (aa hb) l n v;exact n.Vn hb<|h.low l v;exact h.ly b (ac hb) l n v
 refine⟨cQ,⟨λj x Y v=>?_,λj Y=>?_⟩,?_,?_,T,U,λl n=>Loc.low_mono z.size<|h.low l n,λi x v Z=>?_,λb hb=>agx (h.OZ b hb) z.size,λb hb=>⟨λv=>v.elim (h.vm b hb).1 λy=>absurd (h.OZ b hb) ab,(h.vm b hb).2⟩⟩;rw[bt ab,bz]at v;obtain⟨y,hy,rfl⟩:=agP.1 v;have hq:=h.quit.old j y Y hy;rw[bE hq,a5 t ab _ g_of_ofEvents];omega;have J:gs.size<=j:=cQ;rw[a5 t ab _ g_of_ofEvents];exact h.quit.above j J;refine(h.past.mono z.size).app0 g_of_ofEvents (λL N b hb=>?_) ?_;obtain⟨e,D,rfl⟩:=a4 N;let⟨h1,h2,C⟩:=Ph.ku (z.ev e D) (λy=>y.elim) hb;have h4:fU (λb=>grow M w w' b\/Ro b) b.loc:=C.elim (λx=>x.mono λ_ y=>aa y) λx=>x.1.mono λ_ y=>ac y;let⟨O,E,n⟩:=h4.some;exact⟨h1,U O E _ n,h4.low T,h2⟩;rw[bH];exact bB (λe D=>⟨Ph.ie (z.ev e D) (λy=>y.elim) rfl,Ph.ie (z.ev e D) (λy=>y.elim) rfl⟩) _;intro i L hi;have:=Mx h.who g_of_ofEvents gZ i L hi;grind;let⟨L,N,Qs⟩:=bo v;rcases bS N with⟨_,BK⟩|⟨_,BL⟩;exact h.un i x (by grind [bn]) Z;obtain⟨e,D,rfl⟩:=a4 BL;let⟨_,_,C⟩:=Ph.ku (z.ev e D) (λy=>y.elim) Qs;let⟨b,hb,n⟩:=Z.some;rcases C with C|⟨C,_⟩;let⟨O,E,Q⟩:=C.some;obtain rfl:=n.eq Q;exact E.elim (h.vm b hb).1 λy=>absurd (h.OZ b hb) ab;let⟨O,E,Q⟩:=C.some;obtain rfl:=n.eq Q;exact(h.vm b hb).2 E
def dR.at {a}(h:dR P ay V Ro M gs a w t q) d:dR P ay V Ro M gs a (w.at d) t q:=⟨h.main,h.quit,h.past,h.who,h.lt,h.ly,h.low,h.un,h.OZ,h.vm⟩
def dR.awake {a}(h:dR P ay V Ro M gs a w t q)(v:a.status=.running):∀g∈gs,Conc.awake g:=by intro g z;obtain⟨i,n,rfl⟩:=Array.mem_iff_getElem.1 z;rcases agJ i with rfl|C;(have:gs[0]=a:=by simpa[Array.getElem?_eq_getElem n]using h.main);rw[this];exact awake_of<|.inl v;exact awake_of<|(h.quit.old i _ C<|agD n).status.elim .inl λx=>.inr<|.inr x
def dR.slip {a}(h:dR P ay V Ro M gs a w t q)(hr:a.status=.running)(gZ:0<i)(D:gs[i]?=some g)(hg:g.status=.running): ∃E ops U,runT P (aV gs w sl) i=(.next<|crowd E w sl,ops)/\E.size=gs.size/\sumTo gs.size U<sumTo gs.size q/\dR P ay V Ro M E a w (t++ops) U:=by have z:=h.quit.old i g gZ D;have US:(i==0)=false:=cY;have Y:=(agy.1 D).1;cases v:q i with|zero=>rw[v]at z;rw[z.1]at hg;grind|succ k=>rw[v]at z;rcases z with⟨hf,_⟩|⟨_,g',es,hm,J,Bh⟩;grind;(have aj:sumTo gs.size (upd q i k)+(k+1)=sumTo gs.size q+k:=by have:=sumTo_upd q k id Y;simp_all);refine⟨_,_,upd q i k,(b1 D<|by rw[US];exact J w),aN,ab,⟨?_,⟨λj x Z C=>?_,λj Z=>?_⟩,?_,?_,h.lt,h.ly,h.low,λL x C=>?_,h.OZ,h.vm⟩⟩;rw[bt ab,bz,h.main];grind [woken_run];by_cases n:i=j;grind [Array.getElem?_setIfInBounds_self_of_lt,upd_same,bH,Option.some.inj];rw[bt n,bz]at C;obtain⟨y,hy,rfl⟩:=agP.1 C;have N:=h.quit.old j y Z hy;rw[bE N,upd_ne q k (bb n),a5 t n _ g_of_ofEvents];omega;have O:gs.size<=j:=cQ;rw[a5 t ab _ g_of_ofEvents];exact h.quit.above j O;(exact h.past.appMute ab g_of_ofEvents λQ T=>by obtain⟨e,he,rfl⟩:=a4 T;exact b5<|hm e he);intro L Q qe;have:=Mx h.who g_of_ofEvents Y L Q qe;grind;let⟨Q,T,Qs⟩:=bo C;rcases bS T with⟨_,BK⟩|⟨_,BL⟩;exact h.un L x (by grind [bn]);grind [b5,a4]
def jW (hI:∀w,I w)(r): ∀n (gs:Array Goroutine) (M:Nat->Prop) (a:Goroutine) (w:World) (sl:Option (Nat×Nat)) (t:Trace) (q:Nat->Nat),sumTo gs.size q<=n->dR P ay V Ro M gs a w t q->PT P true I Ph.oD Ro Stop r M a w->∃N v M' a' w' U O T,runNT P N (crowd gs w sl) t=(.next<|crowd v w' U,O)/\v.size=gs.size/\(∀C,aU (λb=>M' b\/Ro b) w' C->I C->Stop M' a' C)/\dR P ay V Ro M' v a' w' O T/\w<=(w':Nat)/\(∀b,M b->M' b)/\(∀b,M' b->M b\/w<=b)/\∀b,b<(w:Nat)->¬M b->w'.heap[b]?=w.heap[b]?:=by induction r using Rk.wf.induction with|_ r aG=>intro n;induction n using Nat.strongRecOn with|_ n aZ=>intro gs M a w sl t q hn h hp;rcases hp.cases with dE|⟨f,rfl,fT,dt⟩;exact⟨0,gs,M,a,w,sl,t,q,rfl,rfl,dE,h,agw _,λ_ h=>h,λ_ h=>.inl h,λ_ _ _=>rfl⟩;let⟨i,g,d,U,hi,hg,Y⟩:=crowd_pick (P:=P) (w:=w) (sl:=sl) (h.awake fT) ⟨0,a,h.main,fT⟩;rcases agJ i with rfl|gZ;(obtain rfl:g=a:=by rw[h.main]at hi;grind);let⟨a',w',es,bl,pZ,Qw⟩:=dt (w.at d) ⟨λ_ _=>rfl,agw _,rfl,rfl⟩<|hI _;have h':=(h.at d).own (a':=a') pZ;let⟨N,v,M',D,J,RO,O,T,h1,Z,h3,h4,h5,h6,h7,h8⟩:=aG (f<|w.at d) ⟨_,rfl⟩ _ _ _ a' w' U _ q (agw _) h' Qw;have hs:(w:Nat)<=w':=pZ.size;refine⟨N+1,v,M',D,J,RO,O,T,by simp[runNT,Y,(runT_crowd_go hi (show stepG P (0==0) g (w.at d)=_ from bl))];exact h1,by rw[Z];simp,h3,h4,agz hs h5,λb hb=>h6 b<|.inl hb,λb hb=>?_,λb hb hm=>?_⟩;rcases h7 b hb with(x|⟨x,_⟩)|x;exact .inl x;exact .inr x;exact .inr ab;rw[h8 b ab λx=>x.elim hm λy=>absurd y.1<|Nat.not_le.2 hb];exact pZ.keep b hb hm;let⟨v,ops,T,h1,Z,h3,h4⟩:=(h.at d).slip (sl:=U) fT gZ hi hg;let⟨N,ZR,M',D,J,RO,O,bq,e1,e2,e3,e4,e5,e6,e7,e8⟩:=aZ (sumTo v.size T) (by rw[Z];omega) v M a (w.at d) U _ T ab h4<|hp.rely ⟨λ_ _=>rfl,agw _,rfl,rfl⟩;exact⟨N+1,ZR,M',D,J,RO,O,bq,by simp[runNT,Y,h1];exact e1,e2.trans Z,e3,e4,e5,e6,e7,e8⟩
end
end
section
open ConcN (sumTo upd sumTo_upd upd_ne upd_same CTag Vc)
open ConcR (g_of_ofEvents WgAt stA)
section
variable {Ro:Nat->Prop}{a:ao}
def dR.alloc {Q:Goroutine->World->Prop}(dt:∀d,∃a' w',stepG P true a (w.at d)=.go a' w' #[]/\w'=(w:Nat)+1/\(∀b,b<(w:Nat)->w'.heap[b]?=w.heap[b]?)/\Q a' w')(Y:a.status=.running): ∀n (gs:Array Goroutine) d (sl:Option (Nat×Nat)) (t:Trace) (q:Nat->Nat),sumTo gs.size q<=n->dR P ay V Ro M gs a (w.at d) t q->∃N z a' w' C O T,runNT P N (crowd gs (w.at d) sl) t=(.next<|crowd z w' C,O)/\z.size=gs.size/\Q a' w'/\dR P ay (λb=>V b\/b=w) Ro M z a' w' O T/\w'=(w:Nat)+1/\∀b,b<(w:Nat)->w'.heap[b]?=w.heap[b]?:=by intro n;induction n using Nat.strongRecOn with|_ n ih=>intro gs d sl t q hn h;let⟨i,g,D,C,Z,hg,dZ⟩:=crowd_pick (P:=P) (w:=w.at d) (sl:=sl) (h.awake Y) ⟨0,a,h.main,Y⟩;rcases agJ i with rfl|gZ;(obtain rfl:g=a:=by rw[h.main]at Z;grind);let⟨a',w',aG,iV,hk,hQ⟩:=dt D;have X3:=runT_crowd_go (w:=(w.at d).at D) (sl:=C) Z (show stepG P (0==0) g (w.at D)=_ from aG);(have e0:MemOp.ofEvents 0 g.frame.fn g.frame.place #[]=#[]:=by rw[ofEvents_eq,Array.map_empty]);rw[e0]at X3;have v:(w:Nat)<=(w':Nat):=ab;refine⟨1,(gs.map<|woken P g a' w').setIfInBounds 0 a',a',w',C,t++#[],q,by simp[runNT,dZ,X3],by simp,hQ,?_,iV,hk⟩;refine⟨by simp[((Array.getElem?_eq_some_iff.1 h.main).1)],⟨λj x hj J=>?_,λj hj=>h.quit.above j<|by simpa using hj⟩,h.past.mono v,by simpa using h.who,λb hb=>agx (h.lt b hb) v,h.ly,λl U=>Loc.low_mono v<|h.low l U,λi x J hv=>?_,λb hb=>hb.elim (λhb=>agx (h.OZ b hb) v) λrfl=>ab,λb hb=>?_⟩;rw[Array.getElem?_setIfInBounds_ne (by omega),Array.getElem?_map]at J;obtain⟨y,hy,rfl⟩:=agP.1 J;have hq:=h.quit.old j y hj hy;rw[woken_quitsD hq];exact hq;let⟨b,hb,U⟩:=hv.some;rcases hb with hb|rfl;exact h.un i x J<|U.mono λc e=>e▸hb;exact U.Vn (agw _)<|h.past.seen i x J;rcases hb with hb|rfl;exact h.vm b hb;exact⟨λx=>absurd (h.lt _<|.inl x)<|Nat.lt_irrefl _,λx=>absurd (h.lt _<|.inr x)<|Nat.lt_irrefl _⟩;let⟨z,ops,T,h1,h2,h3,h4⟩:=(h.at D).slip (sl:=C) Y gZ Z hg;let⟨N,ZR,aZ,bl,RO,O,bq,e1,e2,e3⟩:=ih (sumTo z.size T) (by rw[h2];omega) z D C _ T ab h4;exact⟨N+1,ZR,aZ,bl,RO,O,bq,by simp[runNT,dZ,h1];exact e1,e2.trans h2,e3⟩
def Y7 (P:bJ)(Ro:Nat->Prop)(Post:aI->ad->Prop)(M:Nat->Prop)(g:ao)(W:ad):Prop:=
 g.status=.running/\∃v es,aL P true g W=.ended (.done v) W es/\(∀e∈es,Iw Ph.oD M Ro e)/\Post v W
def dR.ends {Post}(h:dR P ay V Ro M gs a w t q)(hs:∀d,Y7 P Ro Post M a<|w.at d): ∃N last o w' O,be P (N+1) (aV gs w sl) t=(.ended o w',O)/\runN P N (aV gs w sl)=.next last/\step P last=.ended o w'/\Good P Post last o w' O:=by
 refine run_of_inv Nat.lt_wfRel.wf (λμ m t=>∃gs d sl q,m=aV gs (w.at d) sl/\dR P ay V Ro M gs a (w.at d) t q/\μ=sumTo gs.size q) (Good P Post) ?_ (sumTo gs.size q) _ _ ⟨gs,w.drawn,sl,q,rfl,h,rfl⟩;rintro μ m t ⟨gs,d,sl,q,rfl,h,rfl⟩;have C:=(hs d).1;obtain⟨i,g,z,oE,D,hg,T⟩:=b4 (P:=P) (w:=w.at d) (sl:=sl) (h.awake C) ⟨0,a,h.main,C⟩;rcases agJ i with rfl|gZ;obtain rfl:g=a:=by rw[h.main]at D;grind
 obtain⟨_,v,es,lu,IB,gD⟩:=hs z;have hp:fM Ph.oD M Ro (w.at z) (w.at z) es:=⟨λ_ _ _=>rfl,agw _,rfl,rfl,rfl,λe he=>by rw[show grow M (w.at z) (w.at z)=M from cU rfl];exact IB e he⟩;have U:=((h.at z).own (a':=g) hp).past;refine aa ⟨_,_,_,T.trans<|runT_many_ended D (show aL P (0==0) g (w.at z)=_ from lu),v,rfl,gD,U.clean,U.over,⟨λx J=>?_,rfl⟩,λj x J hj=>?_⟩;obtain⟨j,hj⟩:=List.mem_iff_getElem?.1 J;exact⟨_,(h.quit.old (1+j) x ab<|by grind [aV]).leaves⟩;refine⟨q j,?_⟩;have e:(t++ax 0 g.frame.fn g.frame.place es).deaf j (t++ax 0 g.frame.fn g.frame.place es).size=au t j:=
   a5 t ab _ g_of_ofEvents
 rw[e];exact(h.quit.old j x ab J).hears _;obtain⟨Y,ops,Z,h1,h2,h3,h4⟩:=(h.at z).slip C gZ D hg;exact ac ⟨_,_,sumTo Y.size Z,T.trans h1,by rw[h2];exact h3,Y,z,oE,Z,rfl,h4,rfl⟩
end
end
section
open ConcN (sumTo upd sumTo_upd upd_ne upd_same CTag Vc pend)
open ConcR (g_of_ofEvents WgAt stA KK)
namespace Ph
variable {p:Ph}{Ro:Nat->Prop}{a:ao}{Fin:(Nat->Prop)->(Nat->Prop)->ao->ad->Prop}
def start (h:dR p.P ay V Ro M gs a w t q)(Y:p.J=gs.size)(hT:p.jB=t.size)(C:V p.Wg)(N:V p.tk.block)(hB:p.Bs<w)(hle:∀b,M' b->M b)(LD:∀b,p.Sp b->¬M' b/\¬Ro b)(aZ:∀b,M' b->¬Ro b) (kS:WgAt p.ty p.Wg w 0 0)(vC:p.kC w 0)(bN:∃cs,p.rX cs w)(F8:1<=p.n)(hs:p.Spawns Anch p.n Ro M' a w):∃μ,p.TG ay w Fin Anch μ (aV gs w sl) t:=by
 have gZ:=(agy.1 h.main).1;obtain⟨r,hr⟩:∃r,p.n=r+1:=⟨p.n-1,ab⟩;rw[hr]at hs;let⟨ρ,BP⟩:=hs;let O:Nat->Nat->Prop:=λi b=>i=0/\M' b;let T:Nat->Nat->Prop:=λi b=>i=0/\Ro b;have m0:O 0=M':=by funext b;grind
 have r0:T 0=Ro:=by funext b;grind
 let G:Gh:={gs:=gs,w:=w,sl:=sl,j:=0,D:=λ_=>.put [],tag:=.sp r 5,ρ:=ρ,x:=0,a:=a,M:=O,Ro:=T,R:=λi=>Rk.nat<|q i,c:=0,st:=0,sm:=0};have H_:∀b,M' b\/Ro b->b<w:=λb hb=>h.lt b<|hb.imp (hle b) id;refine⟨_,G,rfl,rfl,⟨f7,agB _,h.main,?_,λi v=>absurd v<|agA i,λi h0 v=>?_,λk hk=>h.quit.above k ab,⟨ab,?_,?_,?_,?_,?_,agw _⟩,?_,kS,vC,bN,?_,λi v=>absurd v<|agA i,λx _ U=>absurd U<|agA x,agB _⟩⟩;show p.gX Fin Anch (.sp r 5) 0 ρ 0 (au t 0) (T 0) (O 0) a w;rw[h.past.hears,m0,r0];have e:p.n-(r+1)=0:=ab;have:=gX.skd (Fin:=Fin) ab BP;grind;have Z:i<gs.size:=by rw[<-Y];omega
 exact⟨gs[i],q i,agD Z,h.quit.old i _ h0<|agD Z,rfl⟩;grind;grind;grind;rintro b (rfl|rfl|rfl);exact h.OZ _ C;exact h.OZ _ N;omega;rintro i b (hb|hb) l z;exact h.ly b (aa<|hle b hb.2) l z;exact h.ly b (ac hb.2) l z;rw[hT];refine h.past.tr (λl z=>?_) (λl z=>aa z) (λi op v=>by rw[Y];exact h.who i op v) f7 λk l hk=>⟨λx=>absurd x.1 ab,λx=>absurd x.1 ab⟩;rcases z with z|⟨a,rfl,z⟩;grind;refine ac λi x U e=>h.un i x U ?_;rw[e];show V a.block;grind;have:=bO (j:=0) (D:=bZ λ_=>.put []) (tag:=.sp r 5) trivial (λi v=>absurd v ab) (λvs e=>cQ);grind [Vc,sumTo,pend]
def phase (T:p.kz)(U:Geo p ay)(hn:p.n<2147483647)(E:1<=p.n)(Y:p.L+p.n<4611686018427387904)(Z:∀Ro M g W,Anch Ro M g W->g.status=.running) (Xo:∀Ro M g W,Anch Ro M g W->p.I W->ET p.P true p.I p.dO Ro (p.AtW1 Fin Anch Ro) M g W) (h:dR p.P ay V Ro M gs a w t q)(hJ:p.J=gs.size)(hT:p.jB=t.size)(v:V p.Wg)(z:V p.tk.block)(hB:p.Bs<w)(C:∀b,M' b->M b)(LD:∀b,p.Sp b->¬M' b/\¬Ro b)(D:∀b,M' b->¬Ro b) (kS:WgAt p.ty p.Wg w 0 0)(vC:p.kC w 0)(bN:∃cs,p.rX cs w)(hs:p.Spawns Anch p.n Ro M' a w): ∃N O w' oE Q a' sv gt seq vs A,be p.P N (aV gs w sl) t=(.next<|crowd O w' oE,Q)/\p.Out ay Fin O w' Q a' sv gt seq vs A:=by obtain⟨μ,hI⟩:=start h hJ hT v z hB C LD D kS vC bN E hs;exact NO T U h.low hn E Y Z Xo μ _ t hI
def Out.lone {a Ro seq vs A}(h:p.Out ay Fin gs w t a Ro M seq vs A)(L:∀l,ay l->l.low w)(z:∀b,M' b->b<w/\∀l,fU (·=b) l->¬p.Sh ay l): ∃q,dR p.P (p.Sh ay) (λ_=>False) (λ_=>False) M' gs a w t q:=by let⟨q,C⟩:=h.quit;refine⟨q,h.main,C,h.past,λi D E=>by rw[h.size];exact h.who i D E,λb n=>n.elim (λx=>(z b x).1) False.elim,λb n=>n.elim (λx=>(z b x).2) False.elim,λl v=>?_,λi x N J=>?_,λb n=>n.elim,λb n=>n.elim⟩;rcases v with v|⟨a,rfl,v⟩;grind;exact h.sp _<|v.imp id aa;let⟨b,n,_⟩:=J.some;omega
end Ph
end
section
variable {I:ad->Prop}{Ro:Nat->Prop}
def fM.nil (h:∀e∈es,X e):fM X M Ro W W es:=⟨λ_ _ _=>rfl,agw _,rfl,rfl,rfl,λe n=>ac<|ac<|ac<|h e n⟩
def ET.k (v:g.status=.running)(h:∀n,aU (λb=>M b\/Ro b) W n->I n->(aL P m g n).goes λg' w' es=>(w'=n/\∀e∈es,X e)/\ET P m I X Ro Stop M g' W):ET P m I X Ro Stop M g W:=by refine ET.step v λn k i=>?_;obtain⟨g',w',es,z,⟨rfl,C⟩,D⟩:=goes_elim<|h n k i;exact⟨g',w',es,z,fM.nil C,by rw[(cU rfl)];exact D.rely k⟩
def ET.c (h:∀aj,stepG P m g aj=.go g' aj #[])(k:ET P m I X Ro Stop M g' W)(hs:g.status=.running:=by rfl):ET P m I X Ro Stop M g W:=
 ET.k hs λaj _ _=>cQ
def ET.sq {k}(n:ET P m I X Ro Stop M (G (b.at a<|.code x::.code y::k) cs) W):ET P m I X Ro Stop M (G (b.at a<|.code (.seq x y)::k) cs) W:=ET.c (λ_=>stepG_seq) n
def ET.rg {k id}(n:ET P m I X Ro Stop M (G (b.at a<|.inRegion ops (a9 ops.size)::k) cs) W):ET P m I X Ro Stop M (G (b.at a<|.code (.region id ops false)::k) cs) W:=ET.c (λ_=>stepG_region) n
def ET.sr {k id}(n:ET P m I X Ro Stop M (G (b.at a<|.inRegion ops (a9 ops.size)::.code y::k) cs) W):ET P m I X Ro Stop M (G (b.at a<|.code (.seq (.region id ops false) y)::k) cs) W:=ET.sq<|ET.rg n
def ET.rn {k}(n:ET P m I X Ro Stop M (G (b.at a k) cs) W):ET P m I X Ro Stop M (G (b.at a<|.inRegion ops []::k) cs) W:=ET.c (λ_=>stepG_region_end) n
def ET.ns {k id h}(n:ET P m I X Ro Stop M (G (b.at a<|.inRegion ops (a9 ops.size)::.code y::k) cs) W):ET P m I X Ro Stop M (G (b.at a<|.inRegion h []::.code (.seq (.region id ops false) y)::k) cs) W:=ET.rn<|ET.sr n
def ET.sk {k}(n:ET P m I X Ro Stop M (G (b.at a k) cs) W):ET P m I X Ro Stop M (G (b.at a<|.code .skip::k) cs) W:=ET.c (λ_=>stepG_skip) n
def ET.rt {k}(n:ET P m I X Ro Stop M (G ({b.at a (.code .ret::k)with mode:=.returning}) cs) W):ET P m I X Ro Stop M (G (b.at a<|.code .ret::k) cs) W:=ET.c (λ_=>stepG_ret') n
def ET.o {k o}(ho:ops[i]?=some o)(hw:bW o (yielded ops a.tmps))
  (h:∀aj (K:Act->ad->Prop),(∀a' w',w'=aj->ET P m I X Ro Stop M (G (b.at a'<|.inRegion ops rest::k) cs) W->(he:(execOp a.eval o).events P aj #[]=#[]:=by simp[go_sem, *])->K a' w')->uponK o a K ((execOp a.eval o).run P aj))(hk:b.kind≠.early:=by k_ne):ET P m I X Ro Stop M (G (b.at a<|.inRegion ops (i::rest)::k) cs) W:=
 ET.k rfl λaj _ _=>goes_oper_k ho hw hk λK hK=>h aj K λa' w' h1 h3 h2=>hK a' w' ⟨⟨h1,λe he=>by have:=mem_listed he;rw[h2]at this;simp at this⟩,h3⟩
def ET.z {p q:Prop}(hq:q)(h:q->p:=by intro Bh;refine ET.o rfl rfl λ_ K hK=>?_;go_simp;refine hK _ _ rfl ?_;clear hK K;(try w_num);exact Bh):p:=h hq
def ET.mc {c k}(h:a.eval c=true)(n:ET P m I X Ro Stop M (G (b.at a<|.code x::k) cs) W):ET P m I X Ro Stop M (G (b.at a<|.code (.cond c x y)::k) cs) W:=ET.c (λ_=>b6 h) n
def ET.iu {c k}(h:a.eval c=false)(n:ET P m I X Ro Stop M (G (b.at a<|.code y::k) cs) W):ET P m I X Ro Stop M (G (b.at a<|.code (.cond c x y)::k) cs) W:=ET.c (λ_=>b6 h) n
end
section
variable {I:ad->Prop}{Ro:Nat->Prop}
def ET.p (v:g.status=.running)(h:∀n,aU (λb=>M b\/Ro b) W n->I n->(aL P m g n).goes λg' W' es=>fM X M Ro n W' es/\ET P m I X Ro Stop (grow M n W') g' W'):ET P m I X Ro Stop M g W:=
 ET.step v λn k i=>by
  let⟨g',w',es,z,C,D⟩:=goes_elim<|h n k i;exact⟨g',w',es,z,C,D⟩
def fM.alloc (o)(h:∀e∈es,Iw X (grow M W<|W.alloc o) Ro e):fM X M Ro W (W.alloc o) es:=by refine⟨λb n _=>?_,?_,rfl,rfl,rfl,h⟩;show(W.heap.push o)[b]?=_;grind;simp
def fM.set {a} v (z:M a.block)(h:∀e∈es,Iw X M Ro e):fM X M Ro W (W.setCell a v) es:=by have n:=(az W a v).size;refine⟨λb _ C=>Below.heap_setCell W a v b λe=>C<|e▸z,Nat.le_of_eq n.symm,(az W a v).tape,(az W a v).os,(az W a v).output,λe D=>?_⟩;rw[show grow M W _=M from cU n];grind
def fM.stay (h:∀e∈es,Iw X M Ro e):fM X M Ro W W es:=⟨λ_ _ _=>rfl,agw _,rfl,rfl,rfl,λe n=>by rw[show grow M W W=M from cU rfl];exact h e n⟩
section
variable {md:bX}
inductive Fm (md:bX)(ops:Array bi):Array Bool->List Nat->Prop
 |nil {l:Array Bool}:a0 md ops l=[]->Fm md ops l []
 |cons {l:Array Bool} {i:Nat} {rest:List Nat}:i∈a0 md ops l->Fm md ops (l.setIfInBounds i true) rest->Fm md ops l (i::rest)
def unl (ops:Array bi)(l:Array Bool):Nat:=((a9 ops.size).filter λi=>!l.getD i true).length
def NZ (h:unl ops l=0):a0 md ops l=[]:=by have n:=List.eq_nil_of_length_eq_zero h;show(a9 ops.size).filter _=[];simp_all
def N0 (h:i∈a0 md ops l):i<ops.size/\l.getD i true=false:=by have n:i∈(a9 ops.size).filter _:=h;grind
def filter_lt {p q}:∀(xs:List Nat) i,i∈xs->(∀x,q x->p x)->p i->q i=false->(xs.filter q).length<(xs.filter p).length
 |x::xs,i,v,n,z,C=>by
  have E:∀h:List Nat,(h.filter q).length<=(h.filter p).length:=by
   intro h;induction h with
   |nil=>simp
   |cons y h D=>
    grind
  rcases List.mem_cons.1 v with rfl|hm
  .grind
  have D:=filter_lt xs i hm n z C;grind
def Mu (h:i∈a0 md ops l):unl ops (l.setIfInBounds i true)<unl ops l:=by let⟨n,v⟩:=N0 h;refine filter_lt _ i (List.mem_range.2 n) (λx z=>?_) cQ cQ;by_cases e:i=x;all_goals simp_all
def U_:∀v t (l:Array Bool),unl ops l<=v->Fm md ops l (Region.linearise.go md ops v t l []):=by intro v;induction v with|zero=>intro t l h;exact .nil (NZ ab)|succ v D=>intro t l h;change Fm md ops l (match(a0 md ops l)[t%(a0 md ops l).length]? with|some i=>Region.linearise.go md ops v _ _ [i]|none=>[].reverse);rcases z:(a0 md ops l)[t%(a0 md ops l).length]? with _|i;refine .nil ?_;rcases J:a0 md ops l with _|⟨x,xs⟩;rfl;rw[J]at z;have N:t%(x::xs).length<(x::xs).length:=Nat.mod_lt _ aN;simp at z;simp at N;omega;have C:=List.mem_of_getElem? z;simp[];rw[linearise_go_acc,List.reverse_singleton,List.singleton_append];exact .cons C<|D _ _ (by have:=Mu C;omega)
def uW t:Fm .any ops (bV ops.size false) (Region.schedule true ops t):=U_ ops.size t _<|by grind [unl,Nat.le_trans]
end
def ET.drawn {k id}(C:P.follows .mixedOrders) (h:∀n,Fm .any ops (bV ops.size false) n->ET P m I X Ro Stop M (G (b.at a<|.inRegion ops n::k) cs) W):ET P m I X Ro Stop M (G (b.at a<|.code (.region id ops true)::k) cs) W:=by refine ET.step rfl λz v _=>⟨_,_,_,stepG_region_draw,⟨λ_ _ _=>rfl,agw _,rfl,rfl,rfl,λe he=>ji⟩,?_⟩;rw[show grow M z {z with drawn:=z.drawn+1}=M from cU rfl];refine ET.rely (h _ ?_) ⟨v.block,v.size,v.os,v.out⟩;rw[C];exact uW _
end
section
variable [Gl]
noncomputable def uD (S:Nat->Prop):Ren:=open Classical in⟨λb=>if S b then some b else none,λb z c h v=>by
  by_cases x:S b
  .by_cases y:S z
   .rw[if_pos x]at h;rw[if_pos y]at v;simp only[Option.some.injEq]at h v;omega
   .rw[if_neg y]at v;exact absurd v aN
  .rw[if_neg x]at h;exact absurd h aN,λb c h=>by
  by_cases x:S b
  .rw[if_pos x]at h;simp only[Option.some.injEq]at h;rw[h]
  .rw[if_neg x]at h;exact absurd h aN⟩
def gn {b}:uD S b=some d<->S b/\b=d:=by
 classical
 show(if S b then some b else none)=some d<->_;grind
omit [Gl]
def Obj.freeze:Obj->Obj
 |.cells c e _=>.cells c e (0,c.size)
 |o=>o
noncomputable def froze (F:Nat->Prop)(W:ad):World:=open Classical in{W with heap:=W.heap.mapIdx λb o=>if F b then Obj.freeze o else o}
def CN (F W) b:(froze F W).heap[b]?=(W.heap[b]?).map λo=>open Classical in if F b then Obj.freeze o else o:=by simp[froze]
theorem jP (F W):(froze F W)=(W:Nat):=by simp[froze]
def gL {b cs e z}(h:W.heap[b]?=some (.cells cs e z)):∃n,(froze F W).heap[b]?=some (.cells cs e n)/\(F b->n=(0,cs.size))/\(¬F b->n=z):=by rw[CN,h];simp only[bA];by_cases v:F b;rw[if_pos v];exact⟨_,rfl,λ_=>rfl,λx=>absurd v x⟩;grind
def sY (F W a):(froze F W).cell? a=W.cell? a:=by simp[World.cell?,CN];rcases h:W.heap[a.block]? with _|o;rfl;simp;by_cases n:F a.block;rw[if_pos n];cases o<;>rfl;grind
variable [Gl]
structure Closed (ok S)(W:ad):Prop where
 at_:∀b,S b->∃cs e,W.heap[b]?=some (.cells cs e (0,0))/\∀v∈cs,ar ok (uD S) v v
def pL {ρ:Ren}(h:∀v∈xs,ar ok ρ v v):aB ok ρ xs xs:=
 ⟨rfl,λi x n z C=>f7⟩
def Closed.ae2 (h:Closed ok S W)(C:∀x:Nat,1999999<=x->ok.fn x=false)(v:Gl.n<=W):bw ok false (uD S) (re (froze F W) W.tape W.drawn) W:=by refine⟨λb d D=>?_,rfl,rfl,by show _<=(froze F W).heap.size;rw[jP];exact v,v,⟨λg v=>(by rw[C _ ab]at v;cases v),λh=>cQ⟩⟩;obtain⟨E,rfl⟩:=gn.1 D;obtain⟨cs,e,z,J⟩:=h.at_ b E;obtain⟨N,L,_⟩:=gL z;exact⟨_,_,L,z,.cells (pL J)<|aa rfl⟩
def Closed.self (h:Closed ok S W)(C:∀x:Nat,1999999<=x->ok.fn x=false)(v:Gl.n<=W):bw ok true (uD S) (froze F W) (froze F W):=by refine⟨λb d D=>?_,rfl,rfl,by grind [jP],by rw[jP];exact v,⟨λg v=>(by rw[C _ ab]at v;cases v),λ_=>rfl⟩⟩;obtain⟨E,rfl⟩:=gn.1 D;obtain⟨cs,e,J,L⟩:=h.at_ b E;obtain⟨N,z,_⟩:=gL J;exact⟨_,_,z,z,.cells (pL L)<|aa rfl⟩
omit [Gl] in
def Cz:wM (Frame.enter af8 f xs .normal) []:=by intro v h;simp at h;subst h;rfl
section
variable {I:ad->Prop}{Ro:Nat->Prop}{c:Frame}
 {k:List aE}{o:bi}{fn:Func}{cd:Code}{args:Array bK}{r:Array TypeId}
structure adv (ok)(S Ro M:Nat->Prop)(W:ad)(Q:aI->ad->Prop) v' (M':Nat->Prop)(W':ad):Prop where
 own:∀b,M b->M' b
 lt:∀b,M' b->b<W'
 new:∀b,M' b->M b\/W<=b
 ro:aU Ro W W'
 rest:aU (λb=>M b/\¬S b) W W'
 res:∃σ v V',ar ok σ v v'/\Q v V'/\bw ok false σ V' W'/\(∀b,S b->σ b=some b)/\(∀b d,σ b=some d->(S b/\b=d)\/W<=d)/\ua σ V' M' Ro
def ET.I6 (T:dV af8 af8 ok)(U:dV af8 P ok)(jp:∀f,ok.fn f->ok.aP f)(hF:kw af8 c) (ho:ops[i]?=some o)(hw:bW o (yielded ops a.tmps))(hk:b.kind≠.early)(bF:o.op=.call {callee:=.value<|.func f,args,argTypes:=r}) (hf:P.funcs[f]?=some fn)(zL:(fn.name== "runtime.NumGoroutine")=false)(hb:fn.body=some cd)(eK:ok.aP f) {Sp}(hI:KZ Sp I)(tV:∀b,Ro b->Sp b)(hN:Bj Sp M W)(UF:∀b,M b->b<W)(hg:Gl.n<=W) (S)(Q:ad->aI->ad->Prop)(hQ:∀W v w τ d,Q W v w->Q W v (re w τ d))(hS:∀b,S b->M b\/Ro b)(d_:∀aj,aU (λb=>M b\/Ro b) W aj->Closed ok S aj) (Qe:∀x∈args.map a.eval,ar ok (uD S) x x) (hC:∀aj,aU (λb=>M b\/Ro b) W aj->I aj->∀τ d,Calls af8 f (args.map a.eval) (re (froze Ro aj) τ d) λe w'=>∃v,e=.returned v/\Q aj v w') (Nk:∀aj J M' W',aU (λb=>M b\/Ro b) W aj->I aj->I W'->adv ok S Ro M aj (Q aj) J M' W'->ET P m I X Ro Stop M' (G (b.at (a.put o.dst J)<|.inRegion ops rest::k) cs) W'): ET P m I X Ro Stop M (G (b.at a<|.inRegion ops (i::rest)::k) cs) W:=by
 refine ET.p rfl λaj C Z=>goes_call ho hw hk bF hf zL hb ⟨fM.stay λe he=>ji,?_⟩;rw[show grow M aj aj=M from cU rfl,<-enter_at _ hf hb];have Ls:=agz hg C.size;have hc:=d_ aj C;have ZX:∀b,M b->b<aj:=λb hb=>agx (UF b hb) C.size;have N:∀x:Nat,1999999<=x->ok.fn x=false:=λx D=>by cases e:ok.fn x;rfl;obtain⟨F,_,_,O,_⟩:=U.same _<|jp _ e;have:=(agy.1 O).1;have:=U.Pm;omega
 have qA:gj af8 ok ⟨Frame.enter af8 f _ .normal,[],froze Ro aj⟩:=⟨uD S,lF T.toSame eK<|pL Qe,.nil,Cz,hc.self N Ls⟩;have hH:=IK T jp hF qA<|hC aj C Z;have aG:lU af8 P ok false c (b.at a (.inRegion ops (i::rest)::k)::cs) _ _ ⟨Frame.enter af8 f _ .normal,[],froze Ro aj⟩ _ aj:=
  ⟨⟨_,[],rfl,lF U.toSame eK<|pL Qe,.nil⟩,Cz,hc.ae2 N Ls,qA,hH,Pd T jp (hQ aj) qA hH⟩
 have hh:ua (uD S) (re (froze Ro aj) aj.tape aj.drawn) M Ro:=by intro x d D;obtain⟨hs,rfl⟩:=gn.1 D;rcases hS x hs with h|h;exact aa h;obtain⟨aZ,e,O,_⟩:=hc.at_ x hs;obtain⟨z',Y,h4,_⟩:=gL O;rw[h4 h]at Y;exact ac ⟨h,aZ,e,Y⟩
 have mK:∀J,(b.at a _).finish J=b.at (a.put o.dst J) (.inRegion ops rest::k):=λJ=>by rw[Frame.finish_at,ho];rfl
 refine ET.call T U jp (hQ aj) (λ{σ v J V' W' M'} O h2 Y h4 h5 h6 h7 h8 h9 bl En bq=>?_) hI tV (hN.rely C.size) ZX Z aG hh;rw[mK];refine Nk aj J M' W' C Z bl ⟨h5,En,bq,h6,h7.mono λx D=>⟨D.1,λy e=>D.2 (by have:=gn.1 e;exact this.2▸this.1)⟩,σ,v,V',O,h2,Y,λx D=>h8 _ _<|gn.2 ⟨D,rfl⟩,λx d D=>(h9 x d D).imp (λe=>gn.1 e) id,h4⟩
end
end
