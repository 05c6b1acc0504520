import Derived.Test.YtlmcblcijndipaaGreatDoorj03
import Derived.Conc.WgGenN3
import Derived.Conc.CompanyDraw
import Derived.Below
namespace Go.Proofs.YtlmcblcijndipaaGreatDoor
section
open Conc
open ConcN (CT Apart Ok0 OkW RelBy PermW sumTo sumTo_upd sumTo_upd_out sumTo_congr sumTo_le le_sumTo upd WgLive RW DWs AtR0 WSit CTag WD Vc Vc_le Vc_upd cnt pend phi phi_mono phi_retag PayAt Has upd_same upd_ne get_map_set get_map_set_same OpenSt AllQuit isOpen isFin isW3)
open ConcR (stA smA WgAt KK rd wr g_of_ofEvents Bk bk_of_mute)
namespace Ph
variable {p:Ph}{ax:Loc->Prop}{cm:Nat}{Fin Anch:(Nat->Prop)->(Nat->Prop)->Goroutine->World->Prop}{G:Gh}{t:Trace}{M Ro:Nat->Nat->Prop}{w w':World}{fn:FuncId}{pos:String}{es:Array Event}{K:Nat}
theorem F6 {e:Event}{S R:Nat->Prop}(h:DO p.dz S R e){x:Touch}(hx:(MemAct.ofEvent e).touch?=some x):(x.kind=.said/\∃a:Addr,x.loc=.cell a/\a.block=p.Wg)\/(x.kind=.plain/\x.loc.isMemory=true/\(fg S x.loc\/(fg R x.loc/\x.write=false))):=by
 by_cases hX:p.dz e
 .obtain⟨a,ha,rfl|rfl⟩:=hX
  .simp[MemAct.ofEvent,MemAct.touch?]at hx;subst hx;exact .inl ⟨rfl,a,rfl,ha⟩
  .simp[MemAct.ofEvent,MemAct.touch?]at hx;subst hx;exact .inl ⟨rfl,a,rfl,ha⟩
 .exact .inr (jk h (λy=>absurd y hX) hx)
theorem tC {e:Event}{S R:Nat->Prop}{m:Mark}(h:DO p.dz S R e)(h0:JY m=false)(h1:∀a,m≠.read a)(h2:∀a,m≠.write a):e.loc≠.mark m:=by
 refine ga h (λhX=>?_) h0;obtain⟨a,_,rfl|rfl⟩:=hX
 .simpa usingλe=>h1 a e.symm
 .simpa usingλe=>h2 a e.symm
theorem Gm.mine (h:Gm p ax cm M Ro w){l:Loc}(hl:fg (M 0) l\/fg (Ro 0) l):¬p.Sh ax l/\(∀k,¬p.Own M k l)/\(fg (M 0) l->∀k,¬p.Rd Ro k l):=by
 obtain⟨b,hb,oq⟩:∃b,(M 0 b\/Ro 0 b)/\fg (·=b) l:=by
  rcases hl with x|x
  .obtain⟨b,h1,h2⟩:=x.some;exact⟨b,.inl h1,h2⟩
  .obtain⟨b,h1,h2⟩:=x.some;exact⟨b,.inr h1,h2⟩
 have nsp:¬p.Sp b:=λhs=>hb.elim (h.sp 0 b hs).1 (h.sp 0 b hs).2
 refine⟨λhs=>?_,λk ⟨hk,hx⟩=>?_,λhm k ⟨hk,hx⟩=>?_⟩
 .rcases Hh hs with x|x
  .exact h.jT 0 b hb l oq x
  .obtain⟨b',cZ,ll⟩:=x.some;obtain rfl:=oq.eq ll;exact nsp (cZ.imp id .inl)
 .rcases hx with hx|hx
  .obtain⟨b',cZ,ll⟩:=hx.some;obtain rfl:=oq.eq ll;exact hb.elim (h.zR _ 0 ab b cZ) (h.ro _ 0 b cZ)
  .obtain rfl:=oq.eq hx.fg;exact nsp (.inr (.inr rfl))
 .obtain⟨b',cZ,ll⟩:=hx.some;obtain⟨b2,cH,Qt⟩:=hm.some;obtain rfl:=Qt.eq ll;exact h.ro 0 _ b2 cH cZ
theorem CL (hf:Gm p ax cm (upd M 0 (grow (M 0) w w')) Ro w')(hp:ez p.dz (M 0) (Ro 0) w w' es):∀op∈MemOp.ofEvents 0 fn pos es,Ok0 (p.Sh ax) (p.Own (upd M 0 (grow (M 0) w w'))) (p.Rd Ro) K op/\(1<=p.J->BA (p.Sh ax) p.Wg p.J w'.heap.size op):=by
 intro op bf;obtain⟨e,he,rfl⟩:=Go.Conc.mem_ofEvents bf;have ht:=λx hx=>F6 (hp.ev e he) (x:=x) hx
 have e0:upd M 0 (grow (M 0) w w') 0=grow (M 0) w w':=upd_same _ _ _;refine⟨⟨rfl,λx hx=>?_⟩,λhJ=>⟨λx hx=>?_,λx hx=>?_,λhx=>?_,λhx=>absurd hx (by show¬p.J<=0;omega)⟩⟩
 .rcases ht x hx with⟨hk,a,e1,e2⟩|⟨hk,_,h⟩
  .exact .inl ⟨.inr ⟨a,e1,.inl e2⟩,by rw[hk];simp⟩
  .obtain⟨m1,m2,m3⟩:=hf.mine (l:=x.loc) (by rw[e0];exact h.imp id And.left);refine .inr ⟨m1,λk _ _=>m2 k,λhw k _ _=>?_⟩;rcases h with h|⟨_,h⟩
   .exact m3 (by rw[e0];exact h) k
   .rw[h]at hw;cases hw
 .rcases ht x hx with⟨hk,a,e1,e2⟩|⟨_,h,_⟩
  .rw[e1];rfl
  .exact h
 .rcases ht x hx with⟨hk,a,e1,e2⟩|⟨_,_,h|⟨h,_⟩⟩
  .rw[e1];show a.block<_;rw[e2];exact hf.on _ (.inl rfl)
  .exact h.low λb hb=>hf.lt 0 b (.inl (by rw[e0];exact hb))
  .exact h.low λb hb=>hf.lt 0 b (.inr hb)
 .exact tC (hp.ev e he) rfl aH aH (Go.ConcR.loc_of_ofEvent hx)
theorem Inv.ob (hR:p.jo)(cr:Geo p ax)(hS:∀l,ax l->l.low cm)(h:p.Inv ax cm Fin Anch G t){a':Goroutine}{ρ':Rk}{d:Nat}
  (hgo:stepG p.P true G.a G.w=.go a' w' es)(hp:ez p.dz (G.M 0) (G.Ro 0) G.w w' es)(hd:Deaf t 0=d)
  (lZ:p.fI Fin Anch G.tag G.j ρ' G.x d (G.Ro 0) (grow (G.M 0) G.w w') a' w')(aI:Rk.lt ρ' G.ρ):
  ∃ab5 ops μ',runT p.P (crowd G.gs G.w G.sl) 0=(.next ab5,ops)/\Lt4 p μ' (G.μ p)/\p.mc ax cm Fin Anch μ' ab5 (t++ops):=by
 have hf:=h.io.grow hS 0 hp.size;have ks:∀b,p.Sp b->w'.heap[b]?=G.w.heap[b]?:=λb hb=>hp.keep b (h.io.on b hb) (h.io.sp 0 b hb).1
 have Lb:deafBehind (Deaf t 0) es=d:=by rw[hd];exact deafBehind_still (λe he=>⟨tC (hp.ev e he) rfl aH aH,tC (hp.ev e he) rfl aH aH⟩) d
 obtain⟨cs,hcs⟩:=h.bs;exact h.step0 hR cr hS hgo hp.size (λb hb hn _=>hp.keep b hb hn) (by rw[Lb];exact lZ) (λop bf=>(CL hf hp op bf).1) (λop bf=>(CL hf hp (K:=0) op bf).2 cr.J1) (h.wg.of_block (ks _ (.inl rfl))) (h.tk.of_block (ks _ (.inr (.inl rfl)))) ⟨cs,hcs.of_block (ks _ (.inr (.inr rfl)))⟩ h.mode (λk vs hs=>hs.of_block (ks _ (.inr (.inr rfl)))) (.inr ⟨rfl,.inl aI⟩)
theorem Inv.nY (hR:p.jo)(cr:Geo p ax)(hS:∀l,ax l->l.low cm)(h:p.Inv ax cm Fin Anch G t){a':Goroutine}{tag':CTag}{ρ':Rk}{x' d d':Nat}{Bp Bo:Int}
  (hgo:stepG p.P true G.a G.w=.go a' w' es)(hA:Aside p.Wg G.w w')(jH:WgAt p.ty p.Wg w' Bp Bo)(lW:∀e∈es,p.EvS e)(hd:Deaf t 0=d)(hdd:deafBehind d es=d')
  (lZ:p.fI Fin Anch tag' G.j ρ' x' d' (G.Ro 0) (G.M 0) a' w')(rY:Go.ConcN.Mode G.j (bH G.D) tag' Bp Bo)
  (aI:phi p.n (Vc G.j (bH G.D)) tag'<phi p.n (Vc G.j (bH G.D)) G.tag\/(phi p.n (Vc G.j (bH G.D)) tag'=phi p.n (Vc G.j (bH G.D)) G.tag/\ρ'=G.ρ/\x'<G.x)):
  ∃ab5 ops μ',runT p.P (crowd G.gs G.w G.sl) 0=(.next ab5,ops)/\Lt4 p μ' (G.μ p)/\p.mc ax cm Fin Anch μ' ab5 (t++ops):=by
 have hB:=hA.block _ (Ne.symm cr.wb);obtain⟨cs,hcs⟩:=h.bs;have JP:grow (G.M 0) G.w w'=G.M 0:=cD hA.size;exact h.step0 hR cr hS hgo (by rw[hA.size];exact ack _) (λb _ _ hn=>hA.block b λe=>hn (.inl e)) (by rw[hd,hdd,JP];exact lZ) (CM lW) (pV (by rw[hA.size];exact h.io.on _ (.inl rfl)) (by rw[hA.size];exact h.io.on _ (.inr (.inl rfl))) lW) jH (h.tk.of_block (hA.block _ (Ne.symm cr.wt))) ⟨cs,hcs.of_block hB⟩ rY (λk vs hs=>hs.of_block hB) (aI.imp id λx=>⟨x.1,.inr x.2⟩)
theorem j9 {j:Nat}{D:Nat->WD}{tag tag':CTag}{st sm:Int}(h:Go.ConcN.Mode j D tag st sm)(h1:isOpen tag)(h2:isOpen tag')(hp:pend tag'=pend tag)(h3:∀vs,tag'=.w2 vs->Vc j D<=vs/\1<=vs):Go.ConcN.Mode j D tag' st sm:=by
 cases h with
 |opn _ ho _=>rw[<-hp];exact .opn h2 ho h3
 |reg x=>cases tag<;>first|exact x.elim|exact h1.elim
 |last _ x=>cases tag<;>first|exact x.elim|exact h1.elim
 |sema _=>exact h1.elim
 |fin x=>cases tag<;>first|exact x.elim|exact h1.elim
theorem nC {j:Nat}{D:Nat->WD}{tag:CTag}{st sm:Int}(h:Go.ConcN.Mode j D tag st sm)(h1:isOpen tag):OpenSt j D/\st=((Vc j D+pend tag:Nat):Int)*KK/\sm=0/\∀vs,tag=.w2 vs->Vc j D<=vs/\1<=vs:=by
 cases h with
 |opn _ ho h=>exact⟨ho,rfl,rfl,h⟩
 |reg x=>cases tag<;>first|exact x.elim|exact h1.elim
 |last _ x=>cases tag<;>first|exact x.elim|exact h1.elim
 |sema _=>exact h1.elim
 |fin x=>cases tag<;>first|exact x.elim|exact h1.elim
theorem pp {j:Nat}{D:Nat->WD}{tag:CTag}{st sm:Int}(h:Go.ConcN.Mode j D tag st sm)(h1:isFin tag):AllQuit j D/\st=0/\sm=0:=by
 cases h with
 |opn x=>cases tag<;>first|exact x.elim|exact h1.elim
 |reg x=>cases tag<;>first|exact x.elim|exact h1.elim
 |last _ x=>cases tag<;>first|exact x.elim|exact h1.elim
 |sema _=>exact h1.elim
 |fin _ h=>exact⟨h,rfl,rfl⟩
theorem AN {j:Nat}{D:Nat->WD}(h:OpenSt j D)(hv:Vc j D=0):AllQuit j D:=by
 intro i hi;have h1:=le_sumTo (f:=λx=>cnt (D x)) hi;have h2:=h i hi;have h3:cnt (D i)=0:=by simp only[Vc]at hv;omega
 simp only[cnt]at h3;split at h3<;>omega
end Ph
namespace Ph
variable (p:Ph)(ax:Loc->Prop)(cm:Nat)(Fin Anch:(Nat->Prop)->(Nat->Prop)->Goroutine->World->Prop)
structure Out (gs:Array Goroutine)(w:World)(t:Trace)(a:Goroutine)(Ro M:Nat->Prop)(seq:Nat->List Nat)(vs:Nat->List Value)(Mr:Nat->Nat->Prop):Prop where
 size:gs.size=p.J+p.n
 main:gs[0]?=some a
 fin:Fin Ro M a w
 past:lh (p.Sh ax) w.heap.size t
 quit:∃q,Leavers p.P t gs q
 who:∀(i:Nat) (op:MemOp),t[i]?=some op->op.g<p.J+p.n
 aaU:∀i,i<p.n->∀x∈seq i,x<p.L
 all:∀x,x<p.L->∃i,i<p.n/\x∈seq i
 slot:∀i,i<p.n->p.Slot i (vs i) w
 res:∀i,i<p.n->p.Rw (seq i) (vs i) (Mr i) w
 bs:∃cs,p.qc cs w
 apart:∀i k,i<p.n->k<p.n->i≠k->∀b,Mr i b->¬Mr k b
 own:∀i,i<p.n->∀b,Mr i b->b<w/\¬M b/\¬Ro b/\¬p.Sp b
 mine:∀b,M b\/Ro b->b<w/\¬p.Sp b
 sp:∀b,p.Sp b->b<w
 mro:∀b,M b->¬Ro b
 jT:∀i,i<p.n->∀b,Mr i b->∀l,fg (·=b) l->¬ax l
variable {p}{ax}{cm}{Fin Anch}{G:Gh}{t:Trace}
theorem Inv.over (cr:Geo p ax)(OO:1<=p.n)(h:p.Inv ax cm Fin Anch G t)(fZ:G.tag=.acq)(hj:G.j=p.n)(hd:Deaf t 0=0){a':Goroutine}(hgo:stepG p.P true G.a G.w=.go a' G.w #[Go.ConcR.mk (.acquire (stA p.Wg))])(nt:Fin (G.Ro 0) (G.M 0) a' G.w):
  ∃gs seq vs Mr,runT p.P (crowd G.gs G.w G.sl) 0=(.next (crowd gs G.w G.sl),MemOp.ofEvents 0 G.a.frame.fn G.a.frame.place #[Go.ConcR.mk (.acquire (stA p.Wg))])/\p.Out ax Fin gs G.w (t++MemOp.ofEvents 0 G.a.frame.fn G.a.frame.place #[Go.ConcR.mk (.acquire (stA p.Wg))]) a' (G.Ro 0) (G.M 0) seq vs Mr:=by
 have qU:G.gs.size=p.J+G.j:=h.size;have hJ:=cr.J1;have dW:=runT_crowd_go (P:=p.P) (sl:=G.sl) (i:=0) h.main (show stepG p.P (0==0) G.a G.w=_ from hgo);obtain⟨cP,_,_⟩:=pp h.mode (by rw[fZ];trivial);have Lg:∀i,i<p.n->∃seq vs Mr,G.D i=.lib 1 seq vs Mr:=λi hi=>by
  have:=cP i ab;cases hD:G.D i with
  |iO f lo seq=>simp[bH,hD,mP.stage]at this
  |put seq=>simp[bH,hD,mP.stage]at this
  |lib s seq vs Mr=>simp only[bH,hD,mP.stage]at this;subst this;exact⟨seq,vs,Mr,rfl⟩
 have hex:∀i,∃x:List Nat×List Value×(Nat->Prop),i<p.n->G.D i=.lib 1 x.1 x.2.1 x.2.2:=λi=>by
  by_cases hi:i<p.n
  .obtain⟨a,b,c,e⟩:=Lg i hi;exact⟨(a,b,c),λ_=>e⟩
  .exact⟨([],[],λ_=>False),λx=>absurd x hi⟩
 let X:=λi=>(hex i).choose
 have hX:∀i,i<p.n->G.D i=.lib 1 (X i).1 (X i).2.1 (X i).2.2:=λi hi=>(hex i).choose_spec hi
 have hF:∀i,i<p.n->p.Fact i (.lib 1 (X i).1 (X i).2.1 (X i).2.2) (G.M (i+1)) G.c G.w t:=λi hi=>hX i hi▸h.fact i ab
 have hEv:∀e∈#[Go.ConcR.mk (.acquire (stA p.Wg))],p.EvS e:=by
  intro e he;simp at he;subst he;exact .inl ⟨_,rfl,.inr (.inr (.inr ⟨_,rfl⟩))⟩
 have Lb:Deaf (t++MemOp.ofEvents 0 G.a.frame.fn G.a.frame.place #[Go.ConcR.mk (.acquire (stA p.Wg))]) 0=0:=by rw[Deaf_own,hd];rfl
 have Cc:∀k,k≠0->Deaf (t++MemOp.ofEvents 0 G.a.frame.fn G.a.frame.place #[Go.ConcR.mk (.acquire (stA p.Wg))]) k=Deaf t k:=λk hk=>Deaf_other t (Ne.symm hk) _ g_of_ofEvents
 have Zq:=h.tr.app0 (h.io.apart cr) (CM (fn:=G.a.frame.fn) (pos:=G.a.frame.place) hEv) (pV (h.io.on _ (.inl rfl)) (h.io.on _ (.inr (.inl rfl))) hEv);have Tb:MemOp.ofEvents 0 G.a.frame.fn G.a.frame.place #[Go.ConcR.mk (.acquire (stA p.Wg))]=#[{g:=0,fn:=G.a.frame.fn,pos:=G.a.frame.place,act:=.mark (.acquire (stA p.Wg))}]:=by rw[ofEvents_eq];simp[Go.ConcR.ofEvent_mk]
 have hq:(t++MemOp.ofEvents 0 G.a.frame.fn G.a.frame.place #[Go.ConcR.mk (.acquire (stA p.Wg))])[t.size]?=some {g:=0,fn:=G.a.frame.fn,pos:=G.a.frame.place,act:=.mark (.acquire (stA p.Wg))}:=by
  rw[Tb,Array.getElem?_append_right (ack _)];simp
 have Xd:=Zq.past (λl hl=>.inl hl) (q:=t.size) (by rw[act?_of hq]) (by simp[Trace.g?,hq]) ⟨0,by simp[Trace.g?,hq],by rw[deaf_old (ack _)];exact hd⟩ (λk JQ jY=>by
  have hi:k-p.J<p.n:=ab;obtain⟨r,hr⟩:=((hF _ hi).lib _ _ _ _ rfl).2.2 ab;rw[show p.J+(k-p.J)=k by omega]at hr;exact⟨r,hr.appOther g_of_ofEvents ab,lt_of_act? hr.act⟩) Lb
 have hc:p.L<G.c:=(hF 0 ab).out rfl;refine⟨_,λi=>(X i).1,λi=>(X i).2.1,λi=>(X i).2.2,dW,?_⟩;refine⟨by simpa[hj]using qU,get_map_set_same _ _ _ ab,nt,Xd,?_,λi op hi=>?_,λi hi x hx=>(hF i hi).seq x hx,λx hx=>?_,λi hi=>((hF i hi).lib _ _ _ _ rfl).1,λi hi=>((hF i hi).lib _ _ _ _ rfl).2.1.1,h.bs,λi k hi hk hne b h1 h2=>?_,λi hi b hb=>?_,λb hb=>⟨h.io.lt 0 b hb,λhs=>hb.elim (h.io.sp 0 b hs).1 (h.io.sp 0 b hs).2⟩,h.io.on,λb hb=>h.io.ro 0 0 b hb,λi hi b hb=>h.io.jT (i+1) b (.inl (((hF i hi).lib _ _ _ _ rfl).2.1.2 b hb))⟩
 ·
  have hL:∀i,∃q,∀g,0<i->((G.gs.map (Go.Conc.woken p.P G.a a' G.w)).setIfInBounds 0 a')[i]?=some g->QuitsD p.P q (Deaf (t++MemOp.ofEvents 0 G.a.frame.fn G.a.frame.place #[Go.ConcR.mk (.acquire (stA p.Wg))]) i) g:=λi=>by
   rcases acz i with rfl|gh
   .exact⟨0,λg h0=>absurd h0 ab⟩
   .rcases acu i p.J with aI|td
    .obtain⟨g,q,h1,h2,_⟩:=h.old i gh aI;refine⟨q,λg' _ rV=>?_⟩;rw[get_map_set _ _ _ _ ab,h1,Option.map_some,woken_quitsD h2]at rV;cases rV;rw[Cc i ab];exact h2
    .by_cases hi:i-p.J<p.n
     .obtain⟨g,h1,h2⟩:=h.wk (i-p.J) ab;rw[show p.J+(i-p.J)=i by omega]at h1 h2;rw[hX _ hi]at h2;generalize xN:G.R i=ρ at h2;generalize OJ:Deaf t i=dd at h2;have Nv:=h2.woken h.I G.a a' G.w;cases h2 with
      |lib hC hr hw=>
       rename_i m _ _ _;refine⟨m,λg' _ rV=>?_⟩;rw[get_map_set _ _ _ _ ab,h1,Option.map_some,Nv]at rV;cases rV;rw[Cc i ab,OJ];cases hw with
       |quit hq=>exact hq
     .refine⟨0,λg' _ rV=>?_⟩;have:i<G.gs.size:=by simpa using(acm.1 rV).1
      omega
  refine⟨λi=>(hL i).choose,λi g h0 hg=>(hL i).choose_spec g h0 hg,λk hk=>?_⟩;have nZ:G.gs.size<=k:=by simpa using hk
  rw[Cc k ab];exact h.above k ab
 .have:=Zq.ct.gs i op hi;omega
 .obtain⟨i,hi,UV⟩:=h.RY x hx ab;refine⟨i,ab,?_⟩;rw[hX i ab]at UV;exact UV
 .exact h.io.zR (i+1) (k+1) ab b (((hF i hi).lib _ _ _ _ rfl).2.1.2 b h1) (((hF k hk).lib _ _ _ _ rfl).2.1.2 b h2)
 .have cZ:=((hF i hi).lib _ _ _ _ rfl).2.1.2 b hb;exact⟨h.io.lt (i+1) b (.inl cZ),h.io.zR (i+1) 0 ab b cZ,h.io.ro (i+1) 0 b cZ,λhs=>(h.io.sp (i+1) b hs).1 cZ⟩
end Ph
namespace Ph
variable {p:Ph}{ax:Loc->Prop}{cm:Nat}{Fin Anch:(Nat->Prop)->(Nat->Prop)->Goroutine->World->Prop}{G:Gh}{t:Trace}
theorem Lt4.F7 {μ μ' μ'':Nat×(Nat->Rk)×Rk×Nat}(h:Lt4 p μ μ')(h':μ'.1<μ''.1):Lt4 p μ μ'':=by
 obtain⟨a,b⟩:=μ;obtain⟨a',b'⟩:=μ';obtain⟨a'',b''⟩:=μ'';cases h with
 |left _ _ h=>exact Prod.Lex.left _ _ (Nat.lt_trans h h')
 |right _ h=>exact Prod.Lex.left _ _ h'
theorem Inv.Yh (hR:p.jo)(cr:Geo p ax)(hS:∀l,ax l->l.low cm)(hn:p.n<2147483647)(OO:1<=p.n)(Qh:∀Ro M g W,Anch Ro M g W->p.I W->ET p.P true p.I p.dz Ro (p.AtW1 Fin Anch Ro) M g W)
  (h:p.Inv ax cm Fin Anch G t)(dW:G.a.status=.running):
  (∃gs w sl ops a Ro M seq vs Mr,runT p.P (crowd G.gs G.w G.sl) 0=(.next (crowd gs w sl),ops)/\p.Out ax Fin gs w (t++ops) a Ro M seq vs Mr)\/
  ∃ab5 ops μ',runT p.P (crowd G.gs G.w G.sl) 0=(.next ab5,ops)/\Lt4 p μ' (G.μ p)/\p.mc ax cm Fin Anch μ' ab5 (t++ops):=by
 have In:Aside p.Wg G.w G.w:=.refl _ _;have YK:∀m,(m=.disable\/m=.enable\/(∃a,m=.releaseMerge a)\/∃a,m=.acquire a)->∀e∈#[Go.ConcR.mk m],p.EvS e:=λm hm e he=>by simp at he;subst he;exact .inl ⟨m,rfl,hm⟩
 have YL:∀e∈#[rd (stA p.Wg)],p.EvS e:=λe he=>by simp at he;subst he;exact .inr ⟨_,_,rfl,.inl rfl⟩
 have evw:∀e∈#[rd (stA p.Wg),wr (stA p.Wg)],p.EvS e:=λe he=>by simp at he;rcases he with rfl|rfl<;>exact .inr ⟨_,_,rfl,.inl rfl⟩
 have hVj:=Vc_le G.j (bH G.D);have Nq:=h.jn;have hV:Vc G.j (bH G.D)<=p.n:=acn hVj Nq;have Vu:∀(G:Gh) (_:p.Inv ax cm Fin Anch G t) (_:G.tag=.w1) (_:G.j=p.n) (_:Deaf t 0=1) (_:PT p.P true p.I p.dz (G.Ro 0) (p.AtW1 Fin Anch (G.Ro 0)) G.ρ (G.M 0) G.a G.w) (_:G.x=0),
   ∃ab5 ops μ',runT p.P (crowd G.gs G.w G.sl) 0=(.next ab5,ops)/\Lt4 p μ' (G.μ p)/\p.mc ax cm Fin Anch μ' ab5 (t++ops):=by
  intro G h fZ hj hd sg hx;rcases sg.cases with dl|⟨fr,hr,_,cW⟩
  .obtain⟨_,dJ⟩:=dl G.w (aO.refl _ _) h.I;have hm:=h.mode;rw[fZ]at hm;obtain⟨ho,e1,e2,_⟩:=nC hm trivial;have jH:=h.wg;rw[e1,e2]at jH;have hV:Vc G.j (bH G.D)<=p.n:=acn (Vc_le _ _) h.jn;obtain⟨g',hgo,h0,h1⟩:=dJ (Vc G.j (bH G.D)) ab (by simpa[pend]using jH);by_cases hv:Vc G.j (bH G.D)=0
   .obtain⟨ρ',hp⟩:=h0 hv;refine h.nY hR cr hS hgo (.refl _ _) h.wg YL hd rfl (tag':=.ke) (by rw[hj];exact .ke hp) ?_ (.inl vD);rw[e1,e2];have:(((Vc G.j (bH G.D)+pend .w1:Nat):Int)*KK)=0:=by rw[hv];simp[pend]
    rw[this];exact .fin trivial (AN ho hv)
   .obtain⟨ρ',hp⟩:=h1 hv;exact h.nY hR cr hS hgo (.refl _ _) h.wg YL hd rfl (tag':=.w2 (Vc G.j (bH G.D))) (by rw[hj]at hp⊢;exact .w2 hp) (j9 hm trivial trivial rfl λvs e=>by cases e;exact⟨ack _,ab⟩) (.inl vD)
  .obtain⟨g',w',es,hgo,hp,hn⟩:=cW G.w (aO.refl _ _) h.I;exact h.ob hR cr hS hgo hp hd (by rw[fZ,hx,hj];exact .w1 hn) (by rw[hr];exact⟨_,rfl⟩)
 have hs:=h.TY;have hI:=h.I;generalize fZ:G.tag=tag at hs;generalize hj:G.j=j at hs;generalize xN:G.ρ=ρ at hs;generalize hx:G.x=x at hs;generalize hd:Deaf t 0=d at hs;generalize JN:G.Ro 0=R0 at hs;generalize GC:G.M 0=M0 at hs;generalize ha:G.a=a at hs;generalize hw:G.w=w at hs;have hm:=h.mode;have jH:=h.wg;rw[fZ]at hm;cases hs with
 |@skd r _ _ _ _ _ hr sg=>
  subst xN JN GC ha hw;rcases sg.cases with dl|⟨fr,Ls,_,cW⟩
  .obtain⟨_,g',hgo,ρ',hp⟩:=dl _ (aO.refl _ _) hI;exact .inr (h.nY hR cr hS hgo In jH (YK _ (.inl rfl)) hd rfl (tag':=.sp r 4) (by rw[hj];exact .sa1 hr hp) (j9 hm trivial trivial rfl (λvs e=>by cases e)) (.inl vD))
  .obtain⟨g',w',es,hgo,hp,hn⟩:=cW _ (aO.refl _ _) hI;exact .inr (h.ob hR cr hS hgo hp hd (by rw[fZ,hx,hj];exact .skd hr hn) vE)
 |@sa1 r _ _ _ _ _ hr sg=>
  subst xN JN GC ha hw;rcases sg.cases with dl|⟨fr,Ls,_,cW⟩
  .obtain⟨_,dJ⟩:=dl _ (aO.refl _ _) hI;obtain⟨ho,e1,e2,_⟩:=nC hm trivial;rw[e1,e2]at jH;obtain⟨g',hgo,ρ',hp⟩:=dJ (Vc G.j (bH G.D)) ab (by simpa[pend]using jH);refine .inr (h.nY hR cr hS hgo (aside_setCell _ (stA p.Wg) _) (jH.setSt _) evw hd (d':=1) (by simp[deafBehind,rd,wr]) (tag':=.sp r 3) (by have hs:=fI.ske (Fin:=Fin) hr hp;rw[<-hj]at hs;exact hs) ?_ (.inl vD));have h3:=Go.ConcN.Mode.opn (D:=bH G.D) (j:=G.j) (tag:=.sp r 3) trivial ho (λvs e=>by cases e);have e3:((Vc G.j (bH G.D)+pend (.sp r 3):Nat):Int)=(Vc G.j (bH G.D):Int)+1:=by simp[pend]
   rw[e3]at h3;exact h3
  .obtain⟨g',w',es,hgo,hp,hn⟩:=cW _ (aO.refl _ _) hI;exact .inr (h.ob hR cr hS hgo hp hd (by rw[fZ,hx,hj];exact .sa1 hr hn) vE)
 |@ske r _ _ _ _ _ hr sg=>
  subst xN JN GC ha hw;rcases sg.cases with dl|⟨fr,Ls,_,cW⟩
  .obtain⟨_,g',hgo,ρ',hp⟩:=dl _ (aO.refl _ _) hI;exact .inr (h.nY hR cr hS hgo In jH (YK _ (.inr (.inl rfl))) hd rfl (tag':=.sp r 2) (by rw[hj];exact .sgo hr hp) (j9 hm trivial trivial rfl (λvs e=>by cases e)) (.inl vD))
  .obtain⟨g',w',es,hgo,hp,hn⟩:=cW _ (aO.refl _ _) hI;exact .inr (h.ob hR cr hS hgo hp hd (by rw[fZ,hx,hj];exact .ske hr hn) vE)
 |@sgo r _ _ _ _ _ hr sg=>
  subst xN JN GC ha hw;rcases sg.cases with dl|⟨fr,Ls,_,cW⟩
  .exact .inr (h.spawn cr hr fZ hj hd (dl _ (aO.refl _ _) hI))
  .obtain⟨g',w',es,hgo,hp,hn⟩:=cW _ (aO.refl _ _) hI;exact .inr (h.ob hR cr hS hgo hp hd (by rw[fZ,hx,hj];exact .sgo hr hn) vE)
 |kd sg=>
  subst xN JN GC ha hw;rcases sg.cases with dl|⟨fr,Ls,_,cW⟩
  .obtain⟨_,g',hgo,ρ',hp⟩:=dl _ (aO.refl _ _) hI;exact .inr (h.nY hR cr hS hgo In jH (YK _ (.inl rfl)) hd rfl (tag':=.anch) (by rw[hj];exact .anch hp) (j9 hm trivial trivial rfl (λvs e=>by cases e)) (.inl vD))
  .obtain⟨g',w',es,hgo,hp,hn⟩:=cW _ (aO.refl _ _) hI;exact .inr (h.ob hR cr hS hgo hp hd (by rw[fZ,hx,hj];exact .kd hn) vE)
 |anch sg=>
  subst xN JN GC ha hw;rcases sg.cases with dl|⟨fr,Ls,_,cW⟩
  .obtain⟨ρ',hp⟩:=Qh _ _ _ _ (dl _ (aO.refl _ _) hI) hI;have h':p.Inv ax cm Fin Anch {G with tag:=.w1,ρ:=ρ',x:=0} t:=⟨h.size,h.jn,h.main,by rw[hd];show p.fI Fin Anch .w1 G.j ρ' 0 1 (G.Ro 0) (G.M 0) G.a G.w;rw[hj];exact .w1 hp,h.wk,h.old,h.above,h.io,h.tr,h.wg,h.tk,h.bs,j9 (tag':=.w1) hm trivial trivial rfl (λvs e=>by cases e),h.fact,h.RY,h.bound⟩;obtain⟨ab5,ops,μ',h1,h2,h3⟩:=Vu _ h' rfl hj hd hp rfl;refine .inr ⟨ab5,ops,μ',h1,h2.F7 ?_,h3⟩;show phi p.n _ .w1+_+_<phi p.n _ G.tag+_+_;rw[fZ];simp only[phi];omega
  .obtain⟨g',w',es,hgo,hp,hn⟩:=cW _ (aO.refl _ _) hI;exact .inr (h.ob hR cr hS hgo hp hd (by rw[fZ,hx,hj];exact .anch hn) vE)
 |w1 sg=>
  subst xN JN GC ha hw;exact .inr (Vu G h fZ hj hd sg hx)
 |w2 sg=>
  subst xN JN GC ha hw;rename_i vs;rcases sg.cases with dl|⟨fr,Ls,_,cW⟩
  .obtain⟨_,dJ⟩:=dl _ (aO.refl _ _) hI;obtain⟨ho,e1,e2,JU⟩:=nC hm trivial;obtain⟨OU,hv2⟩:=JU vs rfl;rw[e1,e2]at jH;obtain⟨aaf,WT⟩:=dJ (Vc G.j (bH G.D)) ab (by simpa[pend]using jH);by_cases hv:Vc G.j (bH G.D)=vs
   .obtain⟨g',hgo,ρ',hp⟩:=aaf hv;refine .inr (h.nY hR cr hS hgo (aside_setCell _ (stA p.Wg) _) (jH.setSt _) evw hd (d':=1) (by simp[deafBehind,rd,wr]) (tag':=.w3) (by have hs:=fI.w3 (Anch:=Anch) hp;rw[<-hj]at hs;exact hs) (.reg trivial ho ab) (.inl vD))
   .obtain⟨g',hgo,ρ',hp⟩:=WT hv;exact .inr (h.nY hR cr hS hgo In h.wg YL hd rfl (tag':=.anch) (by rw[hj];exact .anch hp) (j9 hm trivial trivial rfl (λvs e=>by cases e)) (.inl vD))
  .obtain⟨g',w',es,hgo,hp,hn⟩:=cW _ (aO.refl _ _) hI;exact .inr (h.ob hR cr hS hgo hp hd (by rw[fZ,hx,hj];exact .w2 hn) vE)
 |w3 sg=>
  subst xN JN GC ha hw;rcases sg.cases with dl|⟨fr,Ls,_,cW⟩
  .obtain⟨QI,hof,oq,hup⟩:=dl _ (aO.refl _ _) hI;have block:∀st,WgAt p.ty p.Wg G.w st 0->Go.ConcN.Mode G.j (bH G.D) .blk G.st G.sm->∃ab5 ops μ',runT p.P (crowd G.gs G.w G.sl) 0=(.next ab5,ops)/\Lt4 p μ' (G.μ p)/\p.mc ax cm Fin Anch μ' ab5 (t++ops):=λst dJ hmb=>
    h.nY hR cr hS (oq ⟨st,dJ⟩) In jH aH hd rfl (tag':=.blk) (by rw[hj];exact .blk QI hof sg dl) hmb (.inr ⟨by rw[fZ];rfl,rfl,ab⟩)
   generalize dJ:G.st=st at hm jH block;generalize Zo:G.sm=sm at hm jH block;cases hm with
   |opn x=>exact x.elim
   |reg _ h2 h3=>exact .inr (block _ jH (.reg trivial h2 h3))
   |last L _ h2 h3 h4=>exact .inr (block _ jH (.last L trivial h2 h3 h4))
   |sema hq=>
    obtain⟨g',hgo,ρ',hp⟩:=hup jH;refine .inr (h.nY hR cr hS hgo (aside_setCell _ (smA p.Wg) _) (jH.setSm 0) ?_ hd (d':=1) (by simp[deafBehind,semEvents]) (tag':=.w4) (by rw[hj];exact .w4 hp) (.fin trivial hq) (.inl vD));intro e he;simp[semEvents]at he;rcases he with rfl|rfl|rfl|rfl
    .exact .inl ⟨_,rfl,.inl rfl⟩
    .exact .inr ⟨_,_,rfl,.inl rfl⟩
    .exact .inr ⟨_,_,rfl,.inl rfl⟩
    .exact .inl ⟨_,rfl,.inr (.inl rfl)⟩
   |fin x=>exact x.elim
  .obtain⟨g',w',es,hgo,hp,hn⟩:=cW _ (aO.refl _ _) hI;exact .inr (h.ob hR cr hS hgo hp hd (by rw[fZ,hx,hj];exact .w3 hn) vE)
 |blk _ _ _ _=>rw[ha]at dW;cases dW
 |w4 sg=>
  subst xN JN GC ha hw;rcases sg.cases with dl|⟨fr,Ls,_,cW⟩
  .obtain⟨_,dJ⟩:=dl _ (aO.refl _ _) hI;obtain⟨hq,e1,e2⟩:=pp hm trivial;obtain⟨g',hgo,ρ',hp⟩:=dJ (by rw[e1,e2]at jH;exact jH);exact .inr (h.nY hR cr hS hgo In jH YL hd rfl (tag':=.ke) (by rw[hj];exact .ke hp) (by rw[e1,e2];exact .fin trivial hq) (.inl vD))
  .obtain⟨g',w',es,hgo,hp,hn⟩:=cW _ (aO.refl _ _) hI;exact .inr (h.ob hR cr hS hgo hp hd (by rw[fZ,hx,hj];exact .w4 hn) vE)
 |ke sg=>
  subst xN JN GC ha hw;rcases sg.cases with dl|⟨fr,Ls,_,cW⟩
  .obtain⟨_,g',hgo,ρ',hp⟩:=dl _ (aO.refl _ _) hI;obtain⟨hq,e1,e2⟩:=pp hm trivial;exact .inr (h.nY hR cr hS hgo In jH (YK _ (.inr (.inl rfl))) hd rfl (tag':=.acq) (by rw[hj];exact .acq hp) (by rw[e1,e2];exact .fin trivial hq) (.inl vD))
  .obtain⟨g',w',es,hgo,hp,hn⟩:=cW _ (aO.refl _ _) hI;exact .inr (h.ob hR cr hS hgo hp hd (by rw[fZ,hx,hj];exact .ke hn) vE)
 |acq sg=>
  subst xN JN GC ha hw;rcases sg.cases with dl|⟨fr,Ls,_,cW⟩
  .obtain⟨_,g',hgo,nt⟩:=dl _ (aO.refl _ _) hI;obtain⟨gs,seq,vs,Mr,h1,h2⟩:=h.over cr OO fZ hj hd hgo nt;exact .inl ⟨gs,_,_,_,g',_,_,seq,vs,Mr,h1,h2⟩
  .obtain⟨g',w',es,hgo,hp,hn⟩:=cW _ (aO.refl _ _) hI;exact .inr (h.ob hR cr hS hgo hp hd (by rw[fZ,hx,hj];exact .acq hn) vE)
end Ph
namespace Ph
variable {p:Ph}{ax:Loc->Prop}{cm:Nat}{Fin Anch:(Nat->Prop)->(Nat->Prop)->Goroutine->World->Prop}{G:Gh}{t:Trace}
theorem fI.bound {tag:CTag}{j x d:Nat}{ρ:Rk}{Ro M:Nat->Prop}{a:Goroutine}{w:World}(h:p.fI Fin Anch tag j ρ x d Ro M a w):j+pend tag<=p.n:=by
 cases h<;>simp only[pend]<;>(try simp)<;>omega
theorem Inv.awake (nj:∀Ro M g W,Anch Ro M g W->g.status=.running)(h:p.Inv ax cm Fin Anch G t):∀g∈G.gs,Go.Conc.awake g:=by
 intro g hg;obtain⟨i,hi⟩:=Array.mem_iff_getElem?.1 hg;rcases acz i with rfl|gh
 .rw[h.main]at hi;cases hi;exact awake_of ((h.TY.status nj h.I).imp (·.1) λx=>.inl x.1)
 .rcases acu i p.J with aI|td
  .obtain⟨g',q,h1,h2,_⟩:=h.old i gh aI;rw[hi]at h1;cases h1;exact awake_of (h2.status.imp id .inr)
  .have aI:i-p.J<G.j:=by have:=(acm.1 hi).1;rw[h.size]at this;omega
   obtain⟨g',h1,h2⟩:=h.wk (i-p.J) aI;rw[show p.J+(i-p.J)=i by omega,hi]at h1;cases h1;exact awake_of ((h2.status h.I).imp id λx=>.inr x.1)
theorem Inv.PB (nj:∀Ro M g W,Anch Ro M g W->g.status=.running)(h:p.Inv ax cm Fin Anch G t):∃(i:Nat) (g:Goroutine),G.gs[i]?=some g/\g.status=.running:=by
 have wk:∀i,i<G.j->(G.D i).stage≠1->∃(i:Nat) (g:Goroutine),G.gs[i]?=some g/\g.status=.running:=λi hi hs=>by
  obtain⟨g,h1,h2⟩:=h.wk i hi;exact⟨_,g,h1,(h2.status h.I).resolve_right λx=>hs x.2⟩
 rcases h.TY.status nj h.I with⟨hs,_⟩|⟨_,fZ⟩
 .exact⟨0,_,h.main,hs⟩
 .have hm:=h.mode;rw[fZ]at hm;generalize G.st=st at hm;generalize G.sm=sm at hm;cases hm with
  |opn x=>exact x.elim
  |reg _ _ h3=>
   obtain⟨i,hi,h5⟩:=Go.ConcN.exists_counted h3;exact wk i hi (by simp only[bH]at h5;omega)
  |last L _ h2 h3 _=>exact wk L h2 (by simp only[bH]at h3;omega)
  |fin x=>exact x.elim
theorem IW (hR:p.jo)(cr:Geo p ax)(hS:∀l,ax l->l.low cm)(hn:p.n<2147483647)(OO:1<=p.n)(hL:p.L+p.n<4611686018427387904)(nj:∀Ro M g W,Anch Ro M g W->g.status=.running)
  (Qh:∀Ro M g W,Anch Ro M g W->p.I W->ET p.P true p.I p.dz Ro (p.AtW1 Fin Anch Ro) M g W):
  ∀(μ:Nat×(Nat->Rk)×Rk×Nat) (m:Machine) (t:Trace),p.mc ax cm Fin Anch μ m t->
   ∃N gs w sl t' a Ro M seq vs Mr,runNT p.P N m t=(.next (crowd gs w sl),t')/\p.Out ax Fin gs w t' a Ro M seq vs Mr:=by
 intro μ;induction μ using(Lt4.wf p).induction with
 |_ μ ih=>
  rintro m t ⟨G,rfl,rfl,h⟩;obtain⟨i,g,d,jU,hi,hg,dJ⟩:=crowd_pick (P:=p.P) (w:=G.w) (sl:=G.sl) (h.awake nj) (h.PB nj);have h':=h.at hR d jU;have hJ:=cr.J1;have go:(∃ab5 ops μ',runT p.P (crowd G.gs (G.w.at d) jU) i=(.next ab5,ops)/\Lt4 p μ' (G.μ p)/\p.mc ax cm Fin Anch μ' ab5 (t++ops))->
    ∃N gs w sl t' a Ro M seq vs Mr,runNT p.P N (crowd G.gs G.w G.sl) t=(.next (crowd gs w sl),t')/\p.Out ax Fin gs w t' a Ro M seq vs Mr:=by
   rintro⟨ab5,ops,μ',h1,h2,h3⟩;obtain⟨N,gs,w,sl,t',a,Ro,M,seq,vs,Mr,h4,h5⟩:=ih μ' h2 ab5 _ h3;exact⟨N+1,gs,w,sl,t',a,Ro,M,seq,vs,Mr,by simp only[runNT,dJ,h1];exact h4,h5⟩
  rcases acz i with rfl|gh
  .have ha:G.a.status=.running:=by rw[h.main]at hi;cases hi;exact hg
   rcases h'.Yh hR cr hS hn OO Qh ha with⟨gs,w,sl,ops,a,Ro,M,seq,vs,Mr,h1,h2⟩|h1
   .have qi:runT p.P (crowd G.gs (G.w.at d) jU) 0=(.next (crowd gs w sl),ops):=h1;exact⟨1,gs,w,sl,_,a,Ro,M,seq,vs,Mr,by simp only[runNT,dJ,qi],h2⟩
   .exact go h1
  .rcases acu i p.J with aI|td
   .exact go (h'.Yg hR cr nj gh aI hi hg)
   .have lI:i-p.J<G.j:=by have:=(acm.1 hi).1;rw[h.size]at this;omega
    obtain⟨k,rfl⟩:∃k,i=p.J+k:=⟨i-p.J,ab⟩;have hk:k<G.j:=ab;obtain⟨g',h1,h2⟩:=h'.wk k hk;obtain rfl:g=g':=by rw[show G.gs[p.J+k]?=some g from hi]at h1;exact acr h1
    have hb:=h'.TY.bound;change p.WS k (G.Ro (k+1)) (G.D k) (G.R (p.J+k)) (Deaf t (p.J+k)) (G.M (k+1)) g (G.w.at d)at h2;generalize hD:G.D k=pl at h2;generalize xN:G.R (p.J+k)=ρ at h2;generalize hd:Deaf t (p.J+k)=dd at h2;cases h2 with
    |iO hp=>exact go (h'.Sd hR cr hS nj hL hk hD hi hd (by rw[show Gh.R _ (p.J+k)=_ from xN];exact hp))
    |put hp=>exact go (h'.aaQ hR cr hS nj hk hD hi hd (by rw[show Gh.R _ (p.J+k)=_ from xN];exact hp))
    |lib hC hr hw=>exact go (h'.aaI hR cr hS nj hn hk hD hi hg hd hC hr xN hb hw)
end Ph
end
section
open Conc
open ConcN (sumTo upd sumTo_upd upd_ne upd_same)
open ConcR (g_of_ofEvents)
section
variable {ax:Loc->Prop}{B:Nat}{t u:Trace}
theorem lh.mono {B':Nat}(h:lh ax B t)(hB:B<=B'):lh ax B' t:=⟨h.clean,h.known,h.over,h.hears,λi a ha=>Loc.low_mono hB (h.seen i a ha),h.quiet,h.mem⟩
theorem lh.app0 (h:lh ax B t)(hu:∀op∈u,op.g=0)(hs:∀op∈u,∀b,op.act.touch?=some b->b.kind=.plain/\¬ax b.loc/\b.loc.low B/\b.loc.isMemory=true)(hd:Deaf (t++u) 0=Deaf t 0):lh ax B (t++u):=by
 have split:∀{i:Nat} {a:Touch},touchAt (t++u) i=some a->touchAt t i=some a\/∃op∈u,(t++u)[i]?=some op/\op.act.touch?=some a:=by
  intro i a ha;obtain⟨x,hx,Tj⟩:=touch_of ha;rcases getElem?_append_cases hx with⟨_,dB⟩|⟨_,hxu⟩
  .exact .inl (by rw[touchAt_of dB];exact Tj)
  .exact .inr ⟨x,hxu,hx,Tj⟩
 refine⟨λsaid=>noRace_append (h.clean said) hu λi a ha op bf b hb hc=>?_,λi a ha=>?_,handedOver_app h.over λop bf=>.inl (hu op bf),hd.trans h.hears,λi a ha=>?_,h.quiet.app λop bf x hx hsx=>absurd hsx (hs op bf x hx).2.1,λi a ha=>?_⟩
 .exact(h.known i a ha).resolve_right λx=>(hs op bf b hb).2.1 (hc.1▸x.1)
 .rcases split ha with h1|⟨op,bf,h1,h2⟩
  .exact(h.known i a h1).imp (·.app u) id
  .have:=knows_own h1;rw[hu op bf]at this;exact .inl this
 .rcases split ha with h1|⟨op,bf,h1,h2⟩
  .exact h.seen i a h1
  .exact(hs op bf a h2).2.2.1
 .rcases split ha with h1|⟨op,bf,h1,h2⟩
  .exact h.mem i a h1
  .exact(hs op bf a h2).2.2.2
theorem lh.appMute {g:Nat}(h:lh ax B t)(hg:g≠0)(hu:∀op∈u,op.g=g)(hn:∀op∈u,op.act.touch?=none):lh ax B (t++u):=by
 have old:∀{i:Nat} {a:Touch},touchAt (t++u) i=some a->touchAt t i=some a:=by
  intro i a ha;obtain⟨x,hx,Tj⟩:=touch_of ha;rcases getElem?_append_cases hx with⟨_,dB⟩|⟨_,hxu⟩
  .rw[touchAt_of dB];exact Tj
  .rw[hn x hxu]at Tj;cases Tj
 exact⟨λsaid=>noRace_append (h.clean said) hu λi a _ op bf b hb _=>(by rw[hn op bf]at hb;cases hb),λi a ha=>(h.known i a (old ha)).imp (·.app u) id,handedOver_app h.over λop bf=>.inr (hn op bf),(Deaf_other t hg u hu).trans h.hears,λi a ha=>h.seen i a (old ha),h.quiet.app λop bf x hx=>(by rw[hn op bf]at hx;cases hx),λi a ha=>h.mem i a (old ha)⟩
end
section
variable {P:Program}{ax:Loc->Prop}{Stop:(Nat->Prop)->Goroutine->World->Prop}{V Ro:Nat->Prop}{I:World->Prop}
structure dD (P:Program)(ax:Loc->Prop)(V Ro M:Nat->Prop)(gs:Array Goroutine)(a:Goroutine)(w:World)(t:Trace)(q:Nat->Nat):Prop where
 main:gs[0]?=some a
 quit:Leavers P t gs q
 past:lh ax w.heap.size t
 who:∀(i:Nat) (op:MemOp),t[i]?=some op->op.g<gs.size
 lt:∀b,M b\/Ro b->b<w
 jT:∀b,M b\/Ro b->∀l,fg (·=b) l->¬ax l
 low:∀l,ax l->l.low w.heap.size
 un:∀i a,touchAt t i=some a->¬fg V a.loc
 JX:∀b,V b->b<w
 vm:∀b,V b->¬M b/\¬Ro b
theorem Hp {n g:Nat}{t u:Trace}(h:∀(i:Nat) (op:MemOp),t[i]?=some op->op.g<n)(hu:∀op∈u,op.g=g)(hg:g<n):∀(i:Nat) (op:MemOp),(t++u)[i]?=some op->op.g<n:=by
 intro i op hi;rcases getElem?_append_cases hi with⟨_,ox⟩|⟨_,WG⟩
 .exact h i op ox
 .rw[hu op WG];exact hg
theorem dD.own {M:Nat->Prop}{gs:Array Goroutine}{a a':Goroutine}{w w':World}{t:Trace}{q:Nat->Nat}{es:Array Event}(h:dD P ax V Ro M gs a w t q)(hp:ez Ph.mU M Ro w w' es):
  dD P ax V Ro (grow M w w') ((gs.map (woken P a a' w')).setIfInBounds 0 a') a' w' (t++MemOp.ofEvents 0 a.frame.fn a.frame.place es) q:=by
 have gh:0<gs.size:=(acm.1 h.main).1;have hg:∀b,grow M w w' b\/Ro b->b<w':=λb hb=>by
  rcases hb with(hb|⟨_,hb⟩)|hb
  .exact acl (h.lt b (.inl hb)) hp.size
  .exact hb
  .exact acl (h.lt b (.inr hb)) hp.size
 have jh:∀b,grow M w w' b\/Ro b->∀l,fg (·=b) l->¬ax l:=λb hb l hl hx=>by
  rcases hb with(hb|⟨hb,_⟩)|hb
  .exact h.jT b (.inl hb) l hl hx
  .exact hl.O7 hb (h.low l hx)
  .exact h.jT b (.inr hb) l hl hx
 refine⟨by simp[gh],⟨λj x hj hx=>?_,λj hj=>?_⟩,?_,?_,hg,jh,λl hl=>Loc.low_mono hp.size (h.low l hl),λi x hx hv=>?_,λb hb=>acl (h.JX b hb) hp.size,λb hb=>⟨λhx=>hx.elim (h.vm b hb).1 λy=>absurd (h.JX b hb) (Nat.not_lt.2 y.1),(h.vm b hb).2⟩⟩
 .rw[Array.getElem?_setIfInBounds_ne ab,Array.getElem?_map]at hx;obtain⟨y,hy,rfl⟩:=acF.1 hx;have hq:=h.quit.old j y hj hy;rw[woken_quitsD hq,Deaf_other t (g':=0) ab _ g_of_ofEvents];exact hq
 .have hj':gs.size<=j:=by simpa using hj
  rw[Deaf_other t (g':=0) ab _ g_of_ofEvents];exact h.quit.above j hj'
 .refine(h.past.mono hp.size).app0 g_of_ofEvents (λop bf b hb=>?_) ?_
  .obtain⟨e,he,rfl⟩:=Go.Conc.mem_ofEvents bf;obtain⟨h1,h2,h3⟩:=Ph.jk (hp.ev e he) (λy=>y.elim) hb;have h4:fg (λb=>grow M w w' b\/Ro b) b.loc:=h3.elim (λx=>x.mono λ_ y=>.inl y) λx=>x.1.mono λ_ y=>.inr y
   obtain⟨b',cZ,hl⟩:=h4.some;exact⟨h1,jh b' cZ _ hl,h4.low hg,h2⟩
  .rw[Deaf_own];exact deafBehind_still (λe he=>⟨Ph.ga (hp.ev e he) (λy=>y.elim) rfl,Ph.ga (hp.ev e he) (λy=>y.elim) rfl⟩) _
 .intro i op hi;have:=Hp h.who (g:=0) g_of_ofEvents gh i op hi;simpa using this
 .obtain⟨op,bf,Bf⟩:=touch_of hx;rcases getElem?_append_cases bf with⟨_,qR⟩|⟨_,wi⟩
  .exact h.un i x (by rw[touchAt_of qR];exact Bf) hv
  .obtain⟨e,he,rfl⟩:=Go.Conc.mem_ofEvents wi;obtain⟨_,_,h3⟩:=Ph.jk (hp.ev e he) (λy=>y.elim) Bf;obtain⟨b,hb,hl⟩:=hv.some;rcases h3 with h3|⟨h3,_⟩
   .obtain⟨b',cZ,ll⟩:=h3.some;obtain rfl:=hl.eq ll;exact cZ.elim (h.vm b hb).1 λy=>absurd (h.JX b hb) (Nat.not_lt.2 y.1)
   .obtain⟨b',cZ,ll⟩:=h3.some;obtain rfl:=hl.eq ll;exact(h.vm b hb).2 cZ
theorem dD.at {M:Nat->Prop}{gs:Array Goroutine}{a:Goroutine}{w:World}{t:Trace}{q:Nat->Nat}(h:dD P ax V Ro M gs a w t q)(d:Nat):dD P ax V Ro M gs a (w.at d) t q:=⟨h.main,h.quit,h.past,h.who,h.lt,h.jT,h.low,h.un,h.JX,h.vm⟩
theorem dD.awake {M:Nat->Prop}{gs:Array Goroutine}{a:Goroutine}{w:World}{t:Trace}{q:Nat->Nat}(h:dD P ax V Ro M gs a w t q)(hr:a.status=.running):∀g∈gs,Go.Conc.awake g:=by
 intro g hg;obtain⟨i,hi,rfl⟩:=Array.mem_iff_getElem.1 hg;rcases acz i with rfl|gh
 .have:gs[0]=a:=by simpa[Array.getElem?_eq_getElem hi]using h.main
  rw[this];exact awake_of (.inl hr)
 .exact awake_of ((h.quit.old i _ gh (acs hi)).status.elim .inl λx=>.inr (.inr x))
theorem dD.slip {M:Nat->Prop}{gs:Array Goroutine}{a g:Goroutine}{w:World}{sl:Option (Nat×Nat)}{t:Trace}{q:Nat->Nat}(h:dD P ax V Ro M gs a w t q)(hr:a.status=.running){i:Nat}(gh:0<i)(hi:gs[i]?=some g)(hg:g.status=.running):
  ∃jw ops q',runT P (crowd gs w sl) i=(.next (crowd jw w sl),ops)/\jw.size=gs.size/\sumTo gs.size q'<sumTo gs.size q/\dD P ax V Ro M jw a w (t++ops) q':=by
 have hq:=h.quit.old i g gh hi;have DS:(i==0)=false:=cC;have aI:i<gs.size:=(acm.1 hi).1;cases Xh:q i with
 |zero=>rw[Xh]at hq;rw[hq.1]at hg;cases hg
 |succ k=>
  rw[Xh]at hq;rcases hq with⟨hf,_⟩|⟨_,g',es,hm,aaA,Zl⟩
  .rw[hf]at hg;cases hg
  have ue:=runT_crowd_go (P:=P) (sl:=sl) (i:=i) hi (by rw[DS];exact aaA w);have abL:sumTo gs.size (upd q i k)+(k+1)=sumTo gs.size q+k:=by
   have:=sumTo_upd q k id aI;simpa[Xh]using this
  refine⟨_,_,upd q i k,ue,aH,ab,⟨?_,⟨λj x hj hx=>?_,λj hj=>?_⟩,?_,?_,h.lt,h.jT,h.low,λi' x hx=>?_,h.JX,h.vm⟩⟩
  .rw[Array.getElem?_setIfInBounds_ne ab,Array.getElem?_map,h.main];simp[woken_run hr]
  .by_cases Ze:i=j
   .subst Ze;rw[Array.getElem?_setIfInBounds_self_of_lt (by simpa using aI)]at hx;obtain rfl:=acr hx;rw[upd_same,Deaf_own];exact Zl
   .rw[Array.getElem?_setIfInBounds_ne Ze,Array.getElem?_map]at hx;obtain⟨y,hy,rfl⟩:=acF.1 hx;have hqj:=h.quit.old j y hj hy;rw[woken_quitsD hqj,upd_ne q k (Ne.symm Ze),Deaf_other t Ze _ g_of_ofEvents];exact hqj
  .have hj':gs.size<=j:=by simpa using hj
   rw[Deaf_other t (g':=i) ab _ g_of_ofEvents];exact h.quit.above j hj'
  .exact h.past.appMute ab g_of_ofEvents λop bf=>by obtain⟨e,he,rfl⟩:=Go.Conc.mem_ofEvents bf;exact touch_mute (hm e he)
  .intro i' op ox;have:=Hp h.who (g:=i) g_of_ofEvents aI i' op ox;simpa using this
  .obtain⟨op,bf,Bf⟩:=touch_of hx;rcases getElem?_append_cases bf with⟨_,qR⟩|⟨_,wi⟩
   .exact h.un i' x (by rw[touchAt_of qR];exact Bf)
   .obtain⟨e,he,rfl⟩:=Go.Conc.mem_ofEvents wi;rw[touch_mute (hm e he)]at Bf;cases Bf
theorem jf (hI:∀w,I w)(r:Rk):
  ∀(n:Nat) (gs:Array Goroutine) (M:Nat->Prop) (a:Goroutine) (w:World) (sl:Option (Nat×Nat)) (t:Trace) (q:Nat->Nat),sumTo gs.size q<=n->dD P ax V Ro M gs a w t q->PT P true I Ph.mU Ro Stop r M a w->
   ∃N jw M' a' w' jU t' q',runNT P N (crowd gs w sl) t=(.next (crowd jw w' jU),t')/\jw.size=gs.size/\(∀ab9,aO (λb=>M' b\/Ro b) w' ab9->I ab9->Stop M' a' ab9)/\dD P ax V Ro M' jw a' w' t' q'/\w.heap.size<=w'.heap.size/\(∀b,M b->M' b)/\(∀b,M' b->M b\/w.heap.size<=b)/\∀b,b<w.heap.size->¬M b->w'.heap[b]?=w.heap[b]?:=by
 induction r using Rk.wf.induction with
 |_ r ihr=>
  intro n;induction n using Nat.strongRecOn with
  |_ n ihn=>
   intro gs M a w sl t q hn h hp;rcases hp.cases with dl|⟨f,rfl,dW,cW⟩
   .exact⟨0,gs,M,a,w,sl,t,q,rfl,rfl,dl,h,ack _,λ_ h=>h,λ_ h=>.inl h,λ_ _ _=>rfl⟩
   obtain⟨i,g,d,jU,hi,hg,Xr⟩:=crowd_pick (P:=P) (w:=w) (sl:=sl) (h.awake dW) ⟨0,a,h.main,dW⟩;rcases acz i with rfl|gh
   .obtain rfl:g=a:=by rw[h.main]at hi;exact(acr hi).symm
    obtain⟨a',w',es,hgo,oX,Ns⟩:=cW (w.at d) ⟨λ_ _=>rfl,ack _,rfl,rfl⟩ (hI _);have ue:=runT_crowd_go (P:=P) (sl:=jU) (i:=0) hi (show stepG P (0==0) g (w.at d)=_ from hgo);have h':=(h.at d).own (a':=a') oX;obtain⟨N,jw,M',a'',w'',Mt,t',q',h1,h2,h3,h4,h5,h6,h7,h8⟩:=ihr (f (w.at d)) ⟨_,rfl⟩ _ _ _ a' w' jU _ q (ack _) h' Ns;have hs:w.heap.size<=w':=oX.size;refine⟨N+1,jw,M',a'',w'',Mt,t',q',by simp only[runNT,Xr,ue];exact h1,by rw[h2];simp,h3,h4,acn hs h5,λb hb=>h6 b (.inl hb),λb hb=>?_,λb hb hm=>?_⟩
    .rcases h7 b hb with(x|⟨x,_⟩)|x
     .exact .inl x
     .exact .inr x
     .exact .inr (acn hs x)
    .rw[h8 b (acl hb hs) λx=>x.elim hm λy=>absurd y.1 (Nat.not_le.2 hb)];exact oX.keep b hb hm
   .obtain⟨jw,ops,q',h1,h2,h3,h4⟩:=(h.at d).slip (sl:=jU) dW gh hi hg;obtain⟨N,Sf,M',a'',w'',Mt,t',q'',e1,e2,e3,e4,e5,e6,e7,e8⟩:=ihn (sumTo jw.size q') (by rw[h2];omega) jw M a (w.at d) jU _ q' (ack _) h4 (hp.rely ⟨λ_ _=>rfl,ack _,rfl,rfl⟩);exact⟨N+1,Sf,M',a'',w'',Mt,t',q'',by simp only[runNT,Xr,h1];exact e1,e2.trans h2,e3,e4,e5,e6,e7,e8⟩
end
end
section
open Conc
open ConcN (sumTo upd sumTo_upd upd_ne upd_same CTag Vc)
open ConcR (g_of_ofEvents WgAt stA)
section
variable {P:Program}{ax:Loc->Prop}{V Ro M:Nat->Prop}{gs:Array Goroutine}{a:Goroutine}{w:World}{t:Trace}{q:Nat->Nat}
theorem dD.alloc {Q:Goroutine->World->Prop}(cW:∀d,∃a' w',stepG P true a (w.at d)=.go a' w' #[]/\w'.heap.size=w.heap.size+1/\(∀b,b<w.heap.size->w'.heap[b]?=w.heap[b]?)/\Q a' w')(hr:a.status=.running):
  ∀(n:Nat) (gs:Array Goroutine) (d:Nat) (sl:Option (Nat×Nat)) (t:Trace) (q:Nat->Nat),sumTo gs.size q<=n->dD P ax V Ro M gs a (w.at d) t q->
   ∃N jw a' w' jU t' q',runNT P N (crowd gs (w.at d) sl) t=(.next (crowd jw w' jU),t')/\jw.size=gs.size/\Q a' w'/\dD P ax (λb=>V b\/b=w.heap.size) Ro M jw a' w' t' q'/\w'.heap.size=w.heap.size+1/\∀b,b<w.heap.size->w'.heap[b]?=w.heap[b]?:=by
 intro n;induction n using Nat.strongRecOn with
 |_ n ih=>
  intro gs d sl t q hn h;obtain⟨i,g,d',jU,hi,hg,dJ⟩:=crowd_pick (P:=P) (w:=w.at d) (sl:=sl) (h.awake hr) ⟨0,a,h.main,hr⟩;rcases acz i with rfl|gh
  .obtain rfl:g=a:=by rw[h.main]at hi;exact(acr hi).symm
   obtain⟨a',w',hgo,iZ,hk,hQ⟩:=cW d';have ue:=runT_crowd_go (P:=P) (w:=(w.at d).at d') (sl:=jU) (i:=0) hi (show stepG P (0==0) g (w.at d')=_ from hgo);have e0:MemOp.ofEvents 0 g.frame.fn g.frame.place #[]=#[]:=by rw[ofEvents_eq,Array.map_empty]
   rw[e0]at ue;have gh:0<gs.size:=(acm.1 h.main).1;have hle:w.heap.size<=w'.heap.size:=ab;refine⟨1,(gs.map (woken P g a' w')).setIfInBounds 0 a',a',w',jU,t++#[],q,by simp only[runNT,dJ,ue],by simp,hQ,?_,iZ,hk⟩;rw[Array.append_empty];refine⟨by simp[gh],⟨λj x hj hx=>?_,λj hj=>h.quit.above j (by simpa using hj)⟩,h.past.mono hle,by simpa using h.who,λb hb=>acl (h.lt b hb) hle,h.jT,λl hl=>Loc.low_mono hle (h.low l hl),λi x hx hv=>?_,λb hb=>?_,λb hb=>?_⟩
   .rw[Array.getElem?_setIfInBounds_ne (by omega),Array.getElem?_map]at hx;obtain⟨y,hy,rfl⟩:=acF.1 hx;have hq:=h.quit.old j y hj hy;rw[woken_quitsD hq];exact hq
   .obtain⟨b,hb,hl⟩:=hv.some;rcases hb with hb|rfl
    .exact h.un i x hx (hl.mono λc e=>e▸hb)
    .exact hl.O7 (ack _) (h.past.seen i x hx)
   .rcases hb with hb|rfl
    .exact acl (h.JX b hb) hle
    .omega
   .rcases hb with hb|rfl
    .exact h.vm b hb
    .exact⟨λx=>absurd (h.lt _ (.inl x)) (Nat.lt_irrefl _),λx=>absurd (h.lt _ (.inr x)) (Nat.lt_irrefl _)⟩
  .obtain⟨jw,ops,q',h1,h2,h3,h4⟩:=(h.at d').slip (sl:=jU) hr gh hi hg;obtain⟨N,Sf,a'',w'',Mt,t',q'',e1,e2,e3⟩:=ih (sumTo jw.size q') (by rw[h2];omega) jw d' jU _ q' (ack _) h4;exact⟨N+1,Sf,a'',w'',Mt,t',q'',by simp only[runNT,dJ,h1];exact e1,e2.trans h2,e3⟩
def Rp (P:Program)(Ro:Nat->Prop)(Post:Value->World->Prop)(M:Nat->Prop)(g:Goroutine)(W:World):Prop:=
 g.status=.running/\∃v es,stepG P true g W=.ended (.done v) W es/\(∀e∈es,DO Ph.mU M Ro e)/\Post v W
theorem dD.ends {Post:Value->World->Prop}{sl:Option (Nat×Nat)}(h:dD P ax V Ro M gs a w t q)(hs:∀d,Rp P Ro Post M a (w.at d)):
  ∃N last o w' t',runNT P (N+1) (crowd gs w sl) t=(.ended o w',t')/\runN P N (crowd gs w sl)=.next last/\step P last=.ended o w'/\Good P Post last o w' t':=by
 refine run_of_inv Nat.lt_wfRel.wf (λμ m t=>∃gs d sl q,m=crowd gs (w.at d) sl/\dD P ax V Ro M gs a (w.at d) t q/\μ=sumTo gs.size q) (Good P Post) ?_ (sumTo gs.size q) _ _ ⟨gs,w.drawn,sl,q,rfl,h,rfl⟩;rintro μ m t ⟨gs,d,sl,q,rfl,h,rfl⟩;have hr:=(hs d).1;obtain⟨i,g,d',jU,hi,hg,dJ⟩:=crowd_pick (P:=P) (w:=w.at d) (sl:=sl) (h.awake hr) ⟨0,a,h.main,hr⟩;rcases acz i with rfl|gh
 .obtain rfl:g=a:=by rw[h.main]at hi;exact(acr hi).symm
  obtain⟨_,v,es,Ce,UF,jz⟩:=hs d';have ue:=runT_many_ended (P:=P) (w:=(w.at d).at d') (sl:=jU) (i:=0) hi (show stepG P (0==0) g (w.at d')=_ from Ce);have hp:ez Ph.mU M Ro (w.at d') (w.at d') es:=⟨λ_ _ _=>rfl,ack _,rfl,rfl,rfl,λe he=>by
   rw[show grow M (w.at d') (w.at d')=M from cD rfl];exact UF e he⟩
  have h':=((h.at d').own (a':=g) hp).past;refine .inl ⟨_,_,_,dJ.trans ue,v,rfl,jz,h'.clean,h'.over,⟨λx hx=>?_,rfl⟩,λj x hx hj=>?_⟩
  .obtain⟨j,hj⟩:=List.mem_iff_getElem?.1 hx;rw[List.getElem?_drop]at hj;exact⟨_,(h.quit.old (1+j) x ab (by simpa[crowd]using hj)).leaves⟩
  .have hq:=h.quit.old j x ab hx;refine⟨q j,?_⟩;have e:(t++MemOp.ofEvents 0 g.frame.fn g.frame.place es).deaf j (t++MemOp.ofEvents 0 g.frame.fn g.frame.place es).size=Deaf t j:=
    Deaf_other t (g:=j) (g':=0) ab _ g_of_ofEvents
   rw[e];exact hq.hears _
 .obtain⟨jw,ops,q',h1,h2,h3,h4⟩:=(h.at d').slip (sl:=jU) hr gh hi hg;exact .inr ⟨_,_,sumTo jw.size q',dJ.trans h1,by rw[h2];exact h3,jw,d',jU,q',rfl,h4,rfl⟩
end
end
section
open Conc
open ConcN (sumTo upd sumTo_upd upd_ne upd_same CTag Vc pend)
open ConcR (g_of_ofEvents WgAt stA KK)
namespace Ph
variable {p:Ph}{ax:Loc->Prop}{V Ro M M':Nat->Prop}{gs:Array Goroutine}{a:Goroutine}{w:World}{t:Trace}{q:Nat->Nat}{Fin Anch:(Nat->Prop)->(Nat->Prop)->Goroutine->World->Prop}
theorem start {sl:Option (Nat×Nat)}(h:dD p.P ax V Ro M gs a w t q)(hJ:p.J=gs.size)(hT:p.il=t.size)(VT:V p.Wg)(Y6:V p.tk.block)(hB:p.Bs<w)(hle:∀b,M' b->M b)(Bh:∀b,p.Sp b->¬M' b/\¬Ro b)(hmr:∀b,M' b->¬Ro b)
  (jH:WgAt p.ty p.Wg w 0 0)(pa:p.jp w 0)(bw:∃cs,p.qc cs w)(OO:1<=p.n)(hs:p.Spawns Anch p.n Ro M' a w):∃μ,p.mc ax w.heap.size Fin Anch μ (crowd gs w sl) t:=by
 have gh:0<gs.size:=(acm.1 h.main).1;obtain⟨r,hr⟩:∃r,p.n=r+1:=⟨p.n-1,ab⟩;rw[hr]at hs;obtain⟨ρ,xN⟩:=hs;let MM:Nat->Nat->Prop:=λi b=>i=0/\M' b
 let RR:Nat->Nat->Prop:=λi b=>i=0/\Ro b
 have m0:MM 0=M':=by funext b;simp[MM]
 have r0:RR 0=Ro:=by funext b;simp[RR]
 let G:Gh:={gs:=gs,w:=w,sl:=sl,j:=0,D:=λ_=>.put [],tag:=.sp r 5,ρ:=ρ,x:=0,a:=a,M:=MM,Ro:=RR,R:=λi=>Rk.nat (q i),c:=0,st:=0,sm:=0}
 have O2:∀b,M' b\/Ro b->b<w:=λb hb=>h.lt b (hb.imp (hle b) id)
 refine⟨_,G,rfl,rfl,⟨by simp[G,hJ],acp _,h.main,?_,λi hi=>absurd hi (aco i),λi h0 hi=>?_,λk hk=>h.quit.above k (by rw[<-hJ];exact hk),⟨?_,?_,?_,?_,?_,?_,ack _⟩,?_,jH,pa,bw,?_,λi hi=>absurd hi (aco i),λx _ hx=>absurd hx (aco x),acp _⟩⟩
 .show p.fI Fin Anch (.sp r 5) 0 ρ 0 (Deaf t 0) (RR 0) (MM 0) a w;rw[h.past.hears,m0,r0];have e:p.n-(r+1)=0:=ab;have:=fI.skd (p:=p) (Fin:=Fin) (Anch:=Anch) (r:=r) ab xN;rw[e]at this;exact this
 .have aI:i<gs.size:=by rw[<-hJ];exact hi
  exact⟨gs[i],q i,acs aI,h.quit.old i _ h0 (acs aI),rfl⟩
 .rintro i k hne b ⟨rfl,_⟩ ⟨rfl,_⟩;exact hne rfl
 .rintro i k b ⟨rfl,h1⟩ ⟨rfl,h2⟩;exact hmr b h1 h2
 .intro i b hb;exact⟨λx=>(Bh b hb).1 x.2,λx=>(Bh b hb).2 x.2⟩
 .rintro i b (hb|hb)
  .exact O2 b (.inl hb.2)
  .exact O2 b (.inr hb.2)
 .rintro b (rfl|rfl|rfl)
  .exact h.JX _ VT
  .exact h.JX _ Y6
  .exact hB
 .rintro i b (hb|hb) l hl
  .exact h.jT b (.inl (hle b hb.2)) l hl
  .exact h.jT b (.inr hb.2) l hl
 .rw[hT];refine h.past.tr (λl hl=>?_) (λl hl=>.inl hl) (λi op hi=>by rw[hJ];exact h.who i op hi) (by show p.J-1+0+1=p.J;omega) (λk l hk=>⟨λx=>absurd x.1 ab,λx=>absurd x.1 ab⟩);rcases hl with hl|⟨a,rfl,hl⟩
  .exact .inl hl
  .refine .inr λi x hx e=>h.un i x hx ?_
   rw[e];show V a.block;rcases hl with hl|hl<;>rw[hl]<;>assumption
 .have:=Go.ConcN.Mode.opn (j:=0) (D:=bH λ_=>.put []) (tag:=.sp r 5) trivial (λi hi=>absurd hi (aco i)) (λvs e=>by cases e);simpa[Vc,sumTo,pend]using this
theorem phase {sl:Option (Nat×Nat)}(hR:p.jo)(cr:Geo p ax)(hn:p.n<2147483647)(OO:1<=p.n)(hL:p.L+p.n<4611686018427387904)(nj:∀Ro M g W,Anch Ro M g W->g.status=.running)
  (Qh:∀Ro M g W,Anch Ro M g W->p.I W->ET p.P true p.I p.dz Ro (p.AtW1 Fin Anch Ro) M g W)
  (h:dD p.P ax V Ro M gs a w t q)(hJ:p.J=gs.size)(hT:p.il=t.size)(VT:V p.Wg)(Y6:V p.tk.block)(hB:p.Bs<w)(hle:∀b,M' b->M b)(Bh:∀b,p.Sp b->¬M' b/\¬Ro b)(hmr:∀b,M' b->¬Ro b)
  (jH:WgAt p.ty p.Wg w 0 0)(pa:p.jp w 0)(bw:∃cs,p.qc cs w)(hs:p.Spawns Anch p.n Ro M' a w):
  ∃N jw w' jU t' a' qk fN seq vs Mr,runNT p.P N (crowd gs w sl) t=(.next (crowd jw w' jU),t')/\p.Out ax Fin jw w' t' a' qk fN seq vs Mr:=by
 obtain⟨μ,hI⟩:=start (Fin:=Fin) (sl:=sl) h hJ hT VT Y6 hB hle Bh hmr jH pa bw OO hs;exact IW hR cr h.low hn OO hL nj Qh μ _ t hI
theorem Out.lone {gs:Array Goroutine}{w:World}{t:Trace}{a:Goroutine}{Ro M:Nat->Prop}{seq:Nat->List Nat}{vs:Nat->List Value}{Mr:Nat->Nat->Prop}(h:p.Out ax Fin gs w t a Ro M seq vs Mr)(wc:∀l,ax l->l.low w.heap.size){M':Nat->Prop}(hM:∀b,M' b->b<w/\∀l,fg (·=b) l->¬p.Sh ax l):
  ∃q,dD p.P (p.Sh ax) (λ_=>False) (λ_=>False) M' gs a w t q:=by
 obtain⟨q,hq⟩:=h.quit;refine⟨q,h.main,hq,h.past,λi op hi=>by rw[h.size];exact h.who i op hi,λb hb=>hb.elim (λx=>(hM b x).1) False.elim,λb hb=>hb.elim (λx=>(hM b x).2) False.elim,λl hl=>?_,λi x hx hv=>?_,λb hb=>hb.elim,λb hb=>hb.elim⟩
 .rcases hl with hl|⟨a,rfl,hl⟩
  .exact wc l hl
  .show a.block<_;exact h.sp _ (hl.imp id .inl)
 .obtain⟨b,hb,_⟩:=hv.some;exact hb
end Ph
end
section
open Conc
section
variable {P:Program}{m:Bool}{I:World->Prop}{X:Event->Prop}{Ro:Nat->Prop}{Stop:(Nat->Prop)->Goroutine->World->Prop}{M:Nat->Prop}{g g':Goroutine}{W:World}
theorem ez.nil {es:Array Event}(h:∀e∈es,X e):ez X M Ro W W es:=⟨λ_ _ _=>rfl,ack _,rfl,rfl,rfl,λe he=>.inr (.inr (.inr (h e he)))⟩
theorem ET.k (hs:g.status=.running)(h:∀ai,aO (λb=>M b\/Ro b) W ai->I ai->(stepG P m g ai).goes λg' w' es=>(w'=ai/\∀e∈es,X e)/\ET P m I X Ro Stop M g' W):ET P m I X Ro Stop M g W:=by
 refine ET.step hs λai k i=>?_
 obtain⟨g',w',es,h1,⟨rfl,h2⟩,h3⟩:=goes_elim (h ai k i);have e:grow M w' w'=M:=cD rfl;exact⟨g',w',es,h1,ez.nil h2,by rw[e];exact h3.rely k⟩
theorem ET.c (h:∀ai,stepG P m g ai=.go g' ai #[])(k:ET P m I X Ro Stop M g' W)(hs:g.status=.running:=by rfl):ET P m I X Ro Stop M g W:=
 ET.k hs λai _ _=>by rw[h ai];exact⟨⟨rfl,λe he=>zO⟩,k⟩
theorem ET.sq {b:Frame}{a:Act}{k:List Item}{cs:List Frame}{x y:Code}(n:ET P m I X Ro Stop M (G (b.at a (.code x::.code y::k)) cs) W):ET P m I X Ro Stop M (G (b.at a (.code (.seq x y)::k)) cs) W:=ET.c (λ_=>stepG_seq) n
theorem ET.rg {b:Frame}{a:Act}{k:List Item}{cs:List Frame}{id:Nat}{ops:Array Oper}(n:ET P m I X Ro Stop M (G (b.at a (.inRegion ops (List.range ops.size)::k)) cs) W):ET P m I X Ro Stop M (G (b.at a (.code (.region id ops false)::k)) cs) W:=ET.c (λ_=>stepG_region) n
theorem ET.sr {b:Frame}{a:Act}{k:List Item}{cs:List Frame}{id:Nat}{ops:Array Oper}{y:Code}(n:ET P m I X Ro Stop M (G (b.at a (.inRegion ops (List.range ops.size)::.code y::k)) cs) W):ET P m I X Ro Stop M (G (b.at a (.code (.seq (.region id ops false) y)::k)) cs) W:=ET.sq (ET.rg n)
theorem ET.rn {b:Frame}{a:Act}{k:List Item}{cs:List Frame}{ops:Array Oper}(n:ET P m I X Ro Stop M (G (b.at a k) cs) W):ET P m I X Ro Stop M (G (b.at a (.inRegion ops []::k)) cs) W:=ET.c (λ_=>stepG_region_end) n
theorem ET.ns {b:Frame}{a:Act}{k:List Item}{cs:List Frame}{id:Nat}{ops aaK:Array Oper}{y:Code}(n:ET P m I X Ro Stop M (G (b.at a (.inRegion ops (List.range ops.size)::.code y::k)) cs) W):ET P m I X Ro Stop M (G (b.at a (.inRegion aaK []::.code (.seq (.region id ops false) y)::k)) cs) W:=ET.rn (ET.sr n)
theorem ET.sk {b:Frame}{a:Act}{k:List Item}{cs:List Frame}(n:ET P m I X Ro Stop M (G (b.at a k) cs) W):ET P m I X Ro Stop M (G (b.at a (.code .skip::k)) cs) W:=ET.c (λ_=>stepG_skip) n
theorem ET.rt {b:Frame}{a:Act}{k:List Item}{cs:List Frame}(n:ET P m I X Ro Stop M (G ({b.at a (.code .ret::k)with mode:=.returning}) cs) W):ET P m I X Ro Stop M (G (b.at a (.code .ret::k)) cs) W:=ET.c (λ_=>stepG_ret') n
theorem ET.o {b:Frame}{a:Act}{k:List Item}{cs:List Frame}{ops:Array Oper}{i:Nat}{rest:List Nat}{o:Oper}(ho:ops[i]?=some o)(hw:Region.wanted o (yielded ops a.tmps)=true)
  (h:∀(ai:World) (K:Act->World->Prop),(∀a' w',w'=ai->ET P m I X Ro Stop M (G (b.at a' (.inRegion ops rest::k)) cs) W->(he:(execOp a.eval o).events P ai #[]=#[]:=by simp[go_sem, *])->K a' w')->uponK o a K ((execOp a.eval o).run P ai))(hk:b.kind≠.early:=by k_ne):ET P m I X Ro Stop M (G (b.at a (.inRegion ops (i::rest)::k)) cs) W:=
 ET.k rfl λai _ _=>goes_oper_k ho hw hk λK hK=>h ai K λa' w' h1 h3 h2=>hK a' w' ⟨⟨h1,λe he=>by have:=mem_listed he;rw[h2]at this;simp at this⟩,h3⟩
theorem ET.kH {b:Frame}{a:Act}{c:Operand}{x y:Code}{k:List Item}{cs:List Frame}(h:a.eval c=.bool true)(n:ET P m I X Ro Stop M (G (b.at a (.code x::k)) cs) W):ET P m I X Ro Stop M (G (b.at a (.code (.cond c x y)::k)) cs) W:=ET.c (λ_=>stepG_cond h) n
theorem ET.gp {b:Frame}{a:Act}{c:Operand}{x y:Code}{k:List Item}{cs:List Frame}(h:a.eval c=.bool false)(n:ET P m I X Ro Stop M (G (b.at a (.code y::k)) cs) W):ET P m I X Ro Stop M (G (b.at a (.code (.cond c x y)::k)) cs) W:=ET.c (λ_=>stepG_cond h) n
end
end
section
open Conc RowKit
section
variable {P:Program}{m:Bool}{I:World->Prop}{X:Event->Prop}{Ro:Nat->Prop}{Stop:(Nat->Prop)->Goroutine->World->Prop}{M:Nat->Prop}{g g':Goroutine}{W:World}
theorem ET.p (hs:g.status=.running)(h:∀ai,aO (λb=>M b\/Ro b) W ai->I ai->(stepG P m g ai).goes λg' W' es=>ez X M Ro ai W' es/\ET P m I X Ro Stop (grow M ai W') g' W'):ET P m I X Ro Stop M g W:=
 ET.step hs λai k i=>by
  obtain⟨g',w',es,h1,h2,h3⟩:=goes_elim (h ai k i);exact⟨g',w',es,h1,h2,h3⟩
theorem ez.alloc (o:Obj){es:Array Event}(h:∀e∈es,DO X (grow M W (W.alloc o)) Ro e):ez X M Ro W (W.alloc o) es:=by
 refine⟨λb hb _=>?_,?_,rfl,rfl,rfl,h⟩
 .show(W.heap.push o)[b]?=_;rw[Array.getElem?_push,if_neg (acD hb)]
 .show _<=(W.heap.push o).size;simp
theorem ez.set {a:Addr}(v:Value)(ha:M a.block){es:Array Event}(h:∀e∈es,DO X M Ro e):ez X M Ro W (W.setCell a v) es:=by
 have hz:=(aside_setCell W a v).size;refine⟨λb _ hm=>Below.heap_setCell W a v b (λe=>hm (e▸ha)),Nat.le_of_eq hz.symm,(aside_setCell W a v).tape,(aside_setCell W a v).os,(aside_setCell W a v).output,λe he=>?_⟩;rw[show grow M W (W.setCell a v)=M from cD hz];exact h e he
theorem ez.stay {es:Array Event}(h:∀e∈es,DO X M Ro e):ez X M Ro W W es:=⟨λ_ _ _=>rfl,ack _,rfl,rfl,rfl,λe he=>by rw[show grow M W W=M from cD rfl];exact h e he⟩
section
variable {md:Region.Mode}{ops:Array Oper}
inductive JZ (md:Region.Mode)(ops:Array Oper):Array Bool->List Nat->Prop
 |nil {l:Array Bool}:Region.ready md ops l=[]->JZ md ops l []
 |cons {l:Array Bool} {i:Nat} {rest:List Nat}:i∈Region.ready md ops l->JZ md ops (l.setIfInBounds i true) rest->JZ md ops l (i::rest)
def Yn (ops:Array Oper)(l:Array Bool):Nat:=((List.range ops.size).filter λi=>!l.getD i true).length
theorem I2 {l:Array Bool}(h:Yn ops l=0):Region.ready md ops l=[]:=by
 have h':(List.range ops.size).filter (λi=>!l.getD i true)=[]:=List.eq_nil_of_length_eq_zero h;rw[List.filter_eq_nil_iff]at h';show(List.range ops.size).filter _=[];rw[List.filter_eq_nil_iff];intro i hi;have:=h' i hi;simp only[Bool.not_eq_true,Bool.not_eq_false']at this⊢;simp[this]
theorem I3 {l:Array Bool}{i:Nat}(h:i∈Region.ready md ops l):i<ops.size/\l.getD i true=false:=by
 have h':i∈(List.range ops.size).filter _:=h;rw[List.mem_filter]at h';obtain⟨h1,h2⟩:=h';simp only[Bool.and_eq_true,Bool.not_eq_true']at h2;exact⟨List.mem_range.1 h1,h2.1⟩
theorem yt {p q:Nat->Bool}:∀(xs:List Nat) (i:Nat),i∈xs->(∀x,q x=true->p x=true)->p i=true->q i=false->(xs.filter q).length<(xs.filter p).length
 |x::xs,i,hi,Xg,hp,hq=>by
  have le:∀ys:List Nat,(ys.filter q).length<=(ys.filter p).length:=by
   intro ys;induction ys with
   |nil=>simp
   |cons y ys ih=>
    rw[List.filter_cons,List.filter_cons];by_cases h:q y=true
    .simp[h,Xg y h,ih]
    .simp only[h];by_cases h':p y=true
     .simp[h'];omega
     .simp[h',ih]
  rcases List.mem_cons.1 hi with rfl|hm
  .rw[List.filter_cons,List.filter_cons];simp[hp,hq];exact Nat.lt_succ_of_le (le xs)
  .have ih:=yt xs i hm Xg hp hq;rw[List.filter_cons,List.filter_cons];by_cases h:q x=true
   .simp[h,Xg x h];exact ih
   .simp only[h];by_cases h':p x=true
    .simp[h'];omega
    .simp[h'];exact ih
theorem PW {l:Array Bool}{i:Nat}(h:i∈Region.ready md ops l):Yn ops (l.setIfInBounds i true)<Yn ops l:=by
 obtain⟨h1,h2⟩:=I3 h;have aI:i<l.size:=by
  rcases acu i l.size with h|h
  .exact h
  .simp[Array.getD_eq_getD_getElem?,Array.getElem?_eq_none h]at h2
 refine yt _ i (List.mem_range.2 h1) (λx hx=>?_) (by simp[h2]) (by simp[Array.getD_eq_getD_getElem?,aI]);by_cases e:i=x
 .subst e;simp[h2]
 .simpa[Array.getD_eq_getD_getElem?,Array.getElem?_setIfInBounds_ne e]using hx
theorem TI:∀(fuel t:Nat) (l:Array Bool),Yn ops l<=fuel->JZ md ops l (Region.linearise.go md ops fuel t l []):=by
 intro fuel;induction fuel with
 |zero=>intro t l h;simp only[Region.linearise.go,List.reverse_nil];exact .nil (I2 (Nat.le_zero.1 h))
 |succ fuel ih=>
  intro t l h;simp only[Region.linearise.go];change JZ md ops l (match(Region.ready md ops l)[t%(Region.ready md ops l).length]? with
   |some i=>Region.linearise.go md ops fuel (t/(Region.ready md ops l).length) (l.setIfInBounds i true) [i]
   |none=>[].reverse)
  cases hi:(Region.ready md ops l)[t%(Region.ready md ops l).length]? with
  |none=>
   refine .nil ?_;cases hr:Region.ready md ops l with
   |nil=>rfl
   |cons x xs=>
    rw[hr]at hi;have aI:t%(x::xs).length<(x::xs).length:=Nat.mod_lt _ aH;simp at hi;simp at aI;omega
  |some i=>
   have hm:=List.mem_of_getElem? hi;simp only[];rw[linearise_go_acc,List.reverse_singleton,List.singleton_append];exact .cons hm (ih _ _ (by have:=PW hm;omega))
theorem AK (t:Nat):JZ .any ops (Array.replicate ops.size false) (Region.schedule true ops t):=by
 simp only[Region.schedule,Bool.true_or,if_true];exact TI ops.size t _ (by unfold Yn;exact acn (List.length_filter_le _ _) aH)
end
theorem ET.drawn {b:Frame}{a:Act}{k:List Item}{cs:List Frame}{ops:Array Oper}{id:Nat}(hm:P.follows .mixedOrders=true)
  (h:∀order,JZ .any ops (Array.replicate ops.size false) order->ET P m I X Ro Stop M (G (b.at a (.inRegion ops order::k)) cs) W):ET P m I X Ro Stop M (G (b.at a (.code (.region id ops true)::k)) cs) W:=by
 refine ET.step rfl λai ab3 _=>⟨_,_,_,stepG_region_draw,⟨λ_ _ _=>rfl,ack _,rfl,rfl,rfl,λe he=>zO⟩,?_⟩
 rw[show grow M ai {ai with drawn:=ai.drawn+1}=M from cD rfl];refine ET.rely (h _ ?_) ⟨ab3.block,ab3.size,ab3.os,ab3.out⟩;rw[hm];exact AK _
end
section
variable [Gl]
noncomputable def qW (S:Nat->Prop):Ren:=open Classical in⟨λb=>if S b then some b else none,λb b' c h h'=>by
  by_cases x:S b
  .by_cases y:S b'
   .rw[if_pos x]at h;rw[if_pos y]at h';simp only[Option.some.injEq]at h h';omega
   .rw[if_neg y]at h';exact absurd h' aH
  .rw[if_neg x]at h;exact absurd h aH,λb c h=>by
  by_cases x:S b
  .rw[if_pos x]at h;simp only[Option.some.injEq]at h;rw[h]
  .rw[if_neg x]at h;exact absurd h aH⟩
theorem fD {S:Nat->Prop}{b d:Nat}:qW S b=some d<->S b/\b=d:=by
 classical
 show(if S b then some b else none)=some d<->_;by_cases x:S b
 .rw[if_pos x];simp[x]
 .rw[if_neg x];simp[x]
omit [Gl]
def Obj.freeze:Obj->Obj
 |.cells c e _=>.cells c e (0,c.size)
 |o=>o
noncomputable def fc (F:Nat->Prop)(W:World):World:=open Classical in{W with heap:=W.heap.mapIdx λb o=>if F b then Obj.freeze o else o}
theorem yN (F:Nat->Prop)(W:World)(b:Nat):(fc F W).heap[b]?=(W.heap[b]?).map λo=>open Classical in if F b then Obj.freeze o else o:=by
 simp[fc,Array.getElem?_mapIdx]
theorem iY (F:Nat->Prop)(W:World):(fc F W).heap.size=W.heap.size:=by simp[fc]
theorem fP {F:Nat->Prop}{W:World}{b:Nat}{cs:Array Value}{e:TypeId}{z:Nat×Nat}(h:W.heap[b]?=some (.cells cs e z)):∃z',(fc F W).heap[b]?=some (.cells cs e z')/\(F b->z'=(0,cs.size))/\(¬F b->z'=z):=by
 rw[yN,h];simp only[Option.map_some];by_cases hf:F b
 .rw[if_pos hf];exact⟨_,rfl,λ_=>rfl,λx=>absurd hf x⟩
 .rw[if_neg hf];exact⟨_,rfl,λx=>absurd x hf,λ_=>rfl⟩
theorem qG (F:Nat->Prop)(W:World)(a:Addr):(fc F W).cell? a=W.cell? a:=by
 simp only[World.cell?,yN];cases h:W.heap[a.block]? with
 |none=>rfl
 |some o=>
  simp only[Option.map_some];by_cases hf:F a.block
  .rw[if_pos hf];cases o<;>rfl
  .rw[if_neg hf]
variable [Gl]
structure qB (ok:Ctx)(S:Nat->Prop)(W:World):Prop where
 at_:∀b,S b->∃cs e,W.heap[b]?=some (.cells cs e (0,0))/\∀v∈cs,ar ok (qW S) v v
theorem nU {ok:Ctx}{ρ:Ren}{xs:Array Value}(h:∀v∈xs,ar ok ρ v v):aA ok ρ xs xs:=
 ⟨rfl,λi x x' h1 h2=>by rw[h1]at h2;cases h2;exact h x (Array.mem_of_getElem? h1)⟩
theorem qB.aaZ {ok:Ctx}{S F:Nat->Prop}{W:World}(h:qB ok S W)(hg:Gl.n<=W):bJ ok false (qW S) (re (fc F W) W.tape W.drawn) W:=by
 refine⟨λb d hb=>?_,rfl,rfl,by show _<=(fc F W).heap.size;rw[iY];exact hg,hg⟩;obtain⟨hs,rfl⟩:=fD.1 hb;obtain⟨cs,e,h1,h2⟩:=h.at_ b hs;obtain⟨z',h3,_⟩:=fP (F:=F) h1;exact⟨_,_,h3,h1,.cells (nU h2) (.inl rfl)⟩
theorem qB.self {ok:Ctx}{S F:Nat->Prop}{W:World}(h:qB ok S W)(hg:Gl.n<=W):bJ ok true (qW S) (fc F W) (fc F W):=by
 refine⟨λb d hb=>?_,rfl,rfl,by rw[iY];exact hg,by rw[iY];exact hg⟩;obtain⟨hs,rfl⟩:=fD.1 hb;obtain⟨cs,e,h1,h2⟩:=h.at_ b hs;obtain⟨z',h3,_⟩:=fP (F:=F) h1;exact⟨_,_,h3,h3,.cells (nU h2) (.inl rfl)⟩
omit [Gl] in
theorem yG {P0:Program}{f:FuncId}{xs:Array Value}:th (Frame.enter P0 f xs .normal) []:=by
 intro fr h;simp only[List.getLast?_singleton,Option.some.injEq]at h;subst h;rfl
section
variable {P0 P:Program}{m:Bool}{I:World->Prop}{X:Event->Prop}{Ro:Nat->Prop}{Stop:(Nat->Prop)->Goroutine->World->Prop}{M:Nat->Prop}{W:World}{ok:Ctx}{c:Frame}
 {b:Frame}{a:Act}{k:List Item}{cs:List Frame}{ops:Array Oper}{i:Nat}{rest:List Nat}{o:Oper}{f:FuncId}{fn:Func}{cd:Code}{args:Array Operand}{Vk:Array TypeId}
structure ZK (ok:Ctx)(S Ro M:Nat->Prop)(W:World)(Q:Value->World->Prop)(v':Value)(M':Nat->Prop)(W':World):Prop where
 own:∀b,M b->M' b
 lt:∀b,M' b->b<W'
 new:∀b,M' b->M b\/W.heap.size<=b
 ro:aO Ro W W'
 rest:aO (λb=>M b/\¬S b) W W'
 res:∃σ v V',ar ok σ v v'/\Q v V'/\bJ ok false σ V' W'/\(∀b,S b->σ b=some b)/\(∀b d,σ b=some d->(S b/\b=d)\/W.heap.size<=d)/\rL σ V' M' Ro
theorem ET.Ew (eh:dE P0 P0 ok)(hP:dE P0 P ok)(gY:∀f,ok.fn f=true->ok.bI f=true)(hF:jl P0 c)
  (ho:ops[i]?=some o)(hw:Region.wanted o (yielded ops a.tmps)=true)(hk:b.kind≠.early)(bf:o.op=.call {callee:=.value (.func f),args,argTypes:=Vk})
  (hf:P.funcs[f]?=some fn)(we:(fn.name== "runtime.NumGoroutine")=false)(hb:fn.body=some cd)(fw:ok.bI f=true)
  {Sp:Nat->Prop}(hI:Gg Sp I)(ub:∀b,Ro b->Sp b)(hN:xD Sp M W)(Ss:∀b,M b->b<W)(hg:Gl.n<=W)
  (S:Nat->Prop)(Q:World->Value->World->Prop)(hQ:∀W v w τ d,Q W v w->Q W v (re w τ d))(hS:∀b,S b->M b\/Ro b)(hcl:∀ai,aO (λb=>M b\/Ro b) W ai->qB ok S ai)
  (K3:∀x∈args.map a.eval,ar ok (qW S) x x)
  (hC:∀ai,aO (λb=>M b\/Ro b) W ai->I ai->∀τ d,Calls P0 f (args.map a.eval) (re (fc Ro ai) τ d) λe w'=>∃v,e=.returned v/\Q ai v w')
  (Iz:∀ai v' M' W',aO (λb=>M b\/Ro b) W ai->I ai->I W'->ZK ok S Ro M ai (Q ai) v' M' W'->ET P m I X Ro Stop M' (G (b.at (a.put o.dst v') (.inRegion ops rest::k)) cs) W'):
  ET P m I X Ro Stop M (G (b.at a (.inRegion ops (i::rest)::k)) cs) W:=by
 refine ET.p rfl λai ab3 pg=>goes_call ho hw hk bf hf we hb ⟨ez.stay (λe he=>zO),?_⟩
 rw[show grow M ai ai=M from cD rfl,<-enter_at _ hf hb];have Cf:Gl.n<=ai:=acn hg ab3.size;have hc:=hcl ai ab3;have Su:∀b,M b->b<ai:=λb hb=>acl (Ss b hb) ab3.size
 have my:fu P0 ok ⟨Frame.enter P0 f (args.map a.eval) .normal,[],fc Ro ai⟩:=⟨qW S,mq eh.toSame fw (nU K3),.nil,yG,hc.self Cf⟩;have hH:=Ea (Q:=Q ai) eh gY hF my (hC ai ab3 pg);have hIn:jF P0 P ok false c (b.at a (.inRegion ops (i::rest)::k)::cs) (Q ai) (qW S) ⟨Frame.enter P0 f (args.map a.eval) .normal,[],fc Ro ai⟩ (G (Frame.enter P f (args.map a.eval) .normal) (b.at a (.inRegion ops (i::rest)::k)::cs)) ai:=
  ⟨⟨_,[],rfl,mq hP.toSame fw (nU K3),.nil⟩,yG,hc.aaZ Cf,my,hH,Kb eh gY (hQ ai) my hH⟩
 have hh:rL (qW S) (re (fc Ro ai) ai.tape ai.drawn) M Ro:=by
  intro x d hx;obtain⟨hs,rfl⟩:=fD.1 hx;rcases hS x hs with h|h
  .exact .inl h
  .obtain⟨cs',e,h1,_⟩:=hc.at_ x hs;obtain⟨z',h3,h4,_⟩:=fP (F:=Ro) h1;rw[h4 h]at h3;exact .inr ⟨h,cs',e,h3⟩
 have nt:∀v',(b.at a (.inRegion ops (i::rest)::k)).finish v'=b.at (a.put o.dst v') (.inRegion ops rest::k):=λv'=>by rw[Frame.finish_at,ho];rfl
 refine ET.call eh hP gY (hQ ai) (r0:=b.at a (.inRegion ops (i::rest)::k)) (rest:=cs) (λ{σ v v' V' W' M'} h1 h2 h3 h4 h5 h6 h7 h8 h9 h10 Ac h12=>?_) hI ub (hN.rely ab3.size) Su pg hIn hh;rw[nt];refine Iz ai v' M' W' ab3 pg h10 ⟨h5,Ac,h12,h6,h7.mono λx hx=>⟨hx.1,λy e=>hx.2 (by have:=fD.1 e;exact this.2▸this.1)⟩,σ,v,V',h1,h2,h3,λx hx=>h8 _ _ (fD.2 ⟨hx,rfl⟩),λx d hx=>(h9 x d hx).imp (λe=>fD.1 e) id,h4⟩
end
end
end
