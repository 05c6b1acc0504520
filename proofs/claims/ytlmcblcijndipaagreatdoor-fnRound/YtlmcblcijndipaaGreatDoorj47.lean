import Derived.Test.YtlmcblcijndipaaGreatDoorj46
set_option linter.unnecessarySimpa false
set_option linter.unusedVariables false
set_option maxHeartbeats 4000000
set_option maxRecDepth 10000
namespace Go.Proofs.YtlmcblcijndipaaGreatDoor
open RowKit
def qd (w:World)(lo b n:Nat)(f:Nat->Mv):Prop:=lo<=b/\(∃cs,w.heap[b]?=some (.cells cs 31 (0,0))/\n*6<=cs.size)/\aM w b 0 n f
theorem qd.of {w:World}{lo b n c:Nat}{f:Nat->Mv}(h:w.ownsRow lo 31 6 (.slice b n c) n (cG f n)):qd w lo b n f:=by
 obtain⟨h1,h2,cs,h3,h4⟩:=L6 h;rw[dL]at h4;exact⟨h1,⟨cs,h3,h4⟩,dM h⟩
theorem qd.lt {w:World}{lo b n:Nat}{f:Nat->Mv}(h:qd w lo b n f):b<w:=by
 obtain⟨_,⟨cs,h1,_⟩,_⟩:=h;exact(acm.1 h1).1
theorem qd.same {w w':World}{lo b n:Nat}{f:Nat->Mv}(h:qd w lo b n f)(e:w'.heap[b]?=w.heap[b]?):qd w' lo b n f:=by
 obtain⟨h1,⟨cs,h2,h3⟩,h4⟩:=h;exact⟨h1,⟨cs,e.trans h2,h3⟩,dm h4 e⟩
theorem qd.ne {w:World}{lo b n:Nat}{f:Nat->Mv}(h:qd w lo b n f){Y:Nat}{x0 x1:Int}{v u:Value}(hy:am w Y x0 x1 v u):b≠Y:=λe=>by
 obtain⟨_,⟨cs,hc,_⟩,_⟩:=h;unfold am at hy;rw[<-e,hc]at hy;simp at hy
theorem qd.put {w:World}{lo b n:Nat}{f:Nat->Mv}(h:qd w lo b n f){k:Nat}(hk:k<n)(m:Mv):qd (eU w b (k*6) m) lo b n (λj=>if j=k then m else f j):=by
 obtain⟨h1,⟨cs,h2,h3⟩,h4⟩:=h;refine⟨h1,?_,Pt h4 h2 h3 hk m⟩;have g:=λ(W:World) (cs:Array Value) (hc:W.heap[b]?=some (.cells cs 31 (0,0))) (j:Nat) (v:Value)=>heap_setCell_same W b j _ _ v hc
 exact⟨_,g _ _ (g _ _ (g _ _ (g _ _ (g _ _ (g _ _ h2 _ _) _ _) _ _) _ _) _ _) _ _,by simpa using h3⟩
structure Sp (w:World)(lo b n:Nat)(f:Nat->Mv)(b' m:Nat)(t:Nat->Int):Prop where
 tK:n<=6
 mm:m<=6
 fit:∀i,i<n->ic (f i)
 om:qd w lo b n f
 ot:ky w lo b' m t
section
variable {w w':World}{lo AF b n:Nat}{f:Nat->Mv}{b' m:Nat}{t:Nat->Int}
theorem Sp.same (h:Sp w lo b n f b' m t)(e:∀k,lo<=k->k<w.heap.size->w'.heap[k]?=w.heap[k]?):Sp w' lo b n f b' m t:=
 ⟨h.tK,h.mm,h.fit,h.om.same (e b h.om.1 h.om.lt),h.ot.same (e b' h.ot.1 h.ot.lt)⟩
theorem Sp.mono (h:Sp w lo b n f b' m t)(hl:AF<=lo):Sp w AF b n f b' m t:=⟨h.tK,h.mm,h.fit,⟨acn hl h.om.1,h.om.2⟩,acn hl h.ot.1,h.ot.2⟩
theorem Sp.off {Y:Nat}{x0 x1:Int}{v u:Value}(h:Sp w lo b n f b' m t)(hy:am w Y x0 x1 v u)(e:∀k,k≠Y->w'.heap[k]?=w.heap[k]?):Sp w' lo b n f b' m t:=by
 refine⟨h.tK,h.mm,h.fit,h.om.same (e b (h.om.ne hy)),h.ot.same (e b' ?_)⟩;intro e';obtain⟨_,⟨cs,hc⟩,_⟩:=h.ot;unfold am at hy;rw[<-e',hc]at hy;simp at hy
theorem Sp.apart (h:Sp w lo b n f b' m t):b≠b':=λe=>by
 obtain⟨_,⟨cs,h1,_⟩,_⟩:=h.om;obtain⟨_,⟨cs',h2⟩,_⟩:=h.ot;rw[<-e,h1]at h2;simp at h2
end
structure Rx (R aC:Nat)(w:World)(N M:Nat)(q now shift:Int)(b n c:Nat)(f:Nat->Mv)(b' m d:Nat)(t:Nat->Int)(W:World):Prop where
 rd:Rd W R q
 but:fp R w W
 below:Below aC w W
 bx:am W N now shift (.slice b n c) (.slice b' m d)
 rs:am W M 0 0 () ()
 sp:Sp W w.heap.size b n f b' m t
section
variable {R aC N M:Nat}{w W W':World}{q q' now shift:Int}{b n c:Nat}{f:Nat->Mv}{b' m d:Nat}{t:Nat->Int}
theorem Rx.to (h:Rx R aC w N M q now shift b n c f b' m d t W)(hR:R<w)(hN:R<N)(hM:R<M)(r:Rd W' R q')(bu:fp R W W')(l:Below aC W W'):Rx R aC w N M q' now shift b n c f b' m d t W':=
 ⟨r,h.but.trans bu,h.below.trans l,h.bx.same (bu.block _ h.bx.lt ab),h.rs.same (bu.block _ h.rs.lt ab),h.sp.same λk hk hl=>bu.block k hl ab⟩
theorem Rx.grow (h:Rx R aC w N M q now shift b n c f b' m d t W)(h0:aC<=R)(bl:Below W W W'):Rx R aC w N M q now shift b n c f b' m d t W':=by
 have hr:=h.rd.lt;exact⟨h.rd.below bl,h.but.trans (fp.of bl),h.below.trans (bl.mono ab),h.bx.same (bl.block _ h.bx.lt),h.rs.same (bl.block _ h.rs.lt),h.sp.same λk _ hl=>bl.block k hl⟩
theorem Rx.turn (h:Rx R aC w N M q now shift b n c f b' m d t W)(h0:aC<=R)(hR:R<w){Y:Nat}(hY:w.heap.size<=Y)(j:Nat)(v:Value):Rd (W.setCell ⟨Y,j,none⟩ v) R q/\fp R w (W.setCell ⟨Y,j,none⟩ v)/\Below aC w (W.setCell ⟨Y,j,none⟩ v):=
 ⟨h.rd.set ab _ _,⟨by simpa using h.but.size,λi hi hne=>(acd _ _ _ _ cC).trans (h.but.block i hi hne)⟩,h.below.setCell cC _⟩
theorem Rx.Mo (h:Rx R aC w N M q now shift b n c f b' m d t W)(h0:aC<=R)(hR:R<w)(hN:w.heap.size<=N)(hM:N≠M)(x:Int):∃W',W.setCell N x=W'/\Rx R aC w N M q x shift b n c f b' m d t W':=by
 obtain⟨a1,a2,a3⟩:=h.turn h0 hR hN 0 (.int .i64 x);refine⟨_,rfl,a1,a2,a3,?_,h.rs.same (acd _ _ _ _ (by simpa usingλe=>hM e.symm)),h.sp.off h.bx (λk hk=>acd _ _ _ _ (by simpa using hk))⟩;have:=heap_setCell_same W N 0 _ _ x h.bx;simpa[am]using this
theorem Rx.Mp (h:Rx R aC w N M q now shift b n c f b' m d t W)(h0:aC<=R)(hR:R<w)(hN:w.heap.size<=N)(hM:N≠M)(x:Int):∃W',W.setCell ⟨N,1,none⟩ x=W'/\Rx R aC w N M q now x b n c f b' m d t W':=by
 obtain⟨a1,a2,a3⟩:=h.turn h0 hR hN 1 (.int .i64 x);refine⟨_,rfl,a1,a2,a3,?_,h.rs.same (acd _ _ _ _ (by simpa usingλe=>hM e.symm)),h.sp.off h.bx (λk hk=>acd _ _ _ _ (by simpa using hk))⟩;have:=heap_setCell_same W N 1 _ _ x h.bx;simpa[am]using this
theorem Rx.cut (h:Rx R aC w N M q now shift b n c f b' m d t W)(h0:aC<=R)(hR:R<w)(hN:w.heap.size<=N)(hM:N≠M){k:Nat}(hk:k<=m)(d':Nat):∃W',W.setCell ⟨N,3,none⟩ (.slice b' k d')=W'/\Rx R aC w N M q now shift b n c f b' k d' t W':=by
 obtain⟨a1,a2,a3⟩:=h.turn h0 hR hN 3 (.slice (some ⟨b',0,none⟩) k d');have s:=h.sp.off h.bx (w':=W.setCell ⟨N,3,none⟩ (.slice b' k d')) (λk hk=>acd _ _ _ _ (by simpa using hk));refine⟨_,rfl,a1,a2,a3,?_,h.rs.same (acd _ _ _ _ (by simpa usingλe=>hM e.symm)),⟨s.tK,by have:=s.mm;omega,s.fit,s.om,s.ot.1,s.ot.2.1,λi hi=>s.ot.2.2 i ab⟩⟩;have:=heap_setCell_same W N 3 _ _ (.slice b' k d') h.bx;simpa[am]using this
theorem ky.set {lo:Nat}(h:ky W lo b' m t){k:Nat}(hk:k<m)(x:Int):ky (W.setCell ⟨b',k,none⟩ x) lo b' m (λj=>if j=k then x else t j):=by
 obtain⟨h1,⟨cs,h2⟩,h3⟩:=h;exact⟨h1,⟨_,heap_setCell_same W b' k _ _ _ h2⟩,h3.set hk x⟩
theorem Rx.tick (h:Rx R aC w N M q now shift b n c f b' m d t W)(h0:aC<=R)(hR:R<w){k:Nat}(hk:k<m)(x:Int):∃W',W.setCell ⟨b',k,none⟩ x=W'/\Rx R aC w N M q now shift b n c f b' m d (λj=>if j=k then x else t j) W':=by
 have hb:=h.sp.ot.1;obtain⟨a1,a2,a3⟩:=h.turn h0 hR hb k (.int .i64 x);have ne:∀Y x0 x1 v u,am W Y x0 x1 v u->Y≠b':=λY x0 x1 v u hy e=>by
  obtain⟨_,⟨cs,hc⟩,_⟩:=h.sp.ot;unfold am at hy;rw[e,hc]at hy;simp at hy
 refine⟨_,rfl,a1,a2,a3,h.bx.same (acd _ _ _ _ (by simpa using ne _ _ _ _ _ h.bx)),h.rs.same (acd _ _ _ _ (by simpa using ne _ _ _ _ _ h.rs)),⟨h.sp.tK,h.sp.mm,h.sp.fit,h.sp.om.same (acd _ _ _ _ (by simpa using h.sp.apart)),h.sp.ot.set hk x⟩⟩
theorem Rx.Uc (h:Rx R aC w N M q now shift b n c f b' m d t W)(h0:aC<=R)(hR:R<w){k:Nat}(hk:k<m)(x:Int):Rx R aC w N M q now shift b n c f b' m d (λj=>if j=k then x else t j) (W.setCell ⟨b',k,none⟩ x):=by
 obtain⟨W',rfl,h⟩:=h.tick h0 hR hk x;exact h
theorem Rx.mv (h:Rx R aC w N M q now shift b n c f b' m d t W)(h0:aC<=R)(hR:R<w){k:Nat}(hk:k<n){x:Mv}(hx:ic x):Rx R aC w N M q now shift b n c (λj=>if j=k then x else f j) b' m d t (eU W b (k*6) x):=by
 have hb:=h.sp.om.1;have e:=pB W b (k*6) x;refine⟨h.rd.eU ab _ _,HU h.but hb _ _,uw h.below ab _ _,h.bx.same (e _ (h.sp.om.ne h.bx).symm),h.rs.same (e _ (h.sp.om.ne h.rs).symm),⟨h.sp.tK,h.sp.mm,λj hj=>?_,h.sp.om.put hk x,h.sp.ot.same (e _ h.sp.apart.symm)⟩⟩;by_cases q:j=k
 .simp only[if_pos q];exact hx
 .simp only[if_neg q];exact h.sp.fit j hj
theorem Rx.fin (h:Rx R aC w N M q now shift b n c f b' m d t W)(h0:aC<=R)(hR:R<w)(hM:w.heap.size<=M):∃W',((((W.setCell M now).setCell ⟨M,1,none⟩ shift).setCell ⟨M,2,none⟩ (.slice b n c)).setCell ⟨M,3,none⟩ (.slice b' m d))=W'/\am W' M now shift (.slice b n c) (.slice b' m d)/\Sp W' w.heap.size b n f b' m t/\Rd W' R q/\fp R w W'/\Below aC w W':=by
 obtain⟨W',e,k,cZ,hz,hn⟩:=bT h.rs h.below ab now shift (some ⟨b,0,none⟩) n c (some ⟨b',0,none⟩) m d;refine⟨W',e,k,h.sp.off h.rs hn,?_,⟨by rw[hz];exact h.but.size,λi hi hne=>(hn i ab).trans (h.but.block i hi hne)⟩,cZ⟩;rw[<-e];exact(((h.rd.set ab _ _).set ab _ _).set ab _ _).set ab _ _
end
def Qa (lo:Nat)(e:Ending)(w':World):Prop:=∃(now shift:Int) (b n c:Nat) (f:Nat->Mv) (b' m d:Nat) (t:Nat->Int),e=.returned (.agg #[.int .i64 now,.int .i64 shift,.slice (some ⟨b,0,none⟩) n c,.slice (some ⟨b',0,none⟩) m d])/\Sp w' lo b n f b' m t
theorem Kq (w:World)(cs:Array Value):∃W,w.alloc (.cells cs 3)=W/\W.heap[w.heap.size]?=some (.cells cs 3 (0,0))/\Below w.heap.size w W/\W.heap.size=w.heap.size+1:=
 ⟨_,rfl,heap_alloc_new w _,(aca _ w).alloc (ack _) _,aH⟩
theorem at2 (a b:Int)(k:Nat)(hk:k<2):∃v:Int,(#[.int .i64 a,.int .i64 b]:Array Value)[k]?=some (.int .i64 v):=by
 match k,hk with
 |0,_=>exact⟨a,rfl⟩
 |1,_=>exact⟨b,rfl⟩
theorem FM {lo:Nat}(R:Nat)(p:Int)(now shift:Int)(ao:Option Addr)(n c:Nat)(f:Nat->Mv)(bo:Option Addr)(d:Nat)(t:Nat->Int)(w:World)(aC:Nat)(h0:aC<=R)(hr:Rd w R p)(hp:p<=600000)(hB:nV w lo now shift ao n c f bo d t):
  Calls Tz.prog 82 #[.pointer (some ⟨R,0,none⟩),.agg #[.int .i64 now,.int .i64 shift,.slice ao n c,.slice bo n d]] w λe w'=>Qa w.heap.size e w'/\zJ R p 20 aC w w':=by
 have hR:=hr.lt;have h6:=hB.tK;have vb:=hB.now;have jh:=hB.sh;obtain⟨W0,iP⟩:∃W,W=(w.alloc (.cells #[.int .i64 now,.int .i64 shift,.slice ao n c,.slice bo n d] 29)).alloc (.cells #[.int .i64 0,.int .i64 0,.slice none 0 0,.slice none 0 0] 29):=⟨_,rfl⟩;have b0:Below w.heap.size w W0:=by rw[iP];exact((aca _ w).alloc (ack _) _).alloc aH _
 have tm:am W0 w.heap.size now shift (.slice ao n c) (.slice bo n d):=by rw[iP];exact(acb _ _ _ aH).trans (heap_alloc_new _ _)
 have qs:am W0 (w.heap.size+1) 0 0 (.slice none 0 0) (.slice none 0 0):=by rw[iP];exact di _ _ _
 have gI:W0.heap.size=w.heap.size+2:=by rw[iP];simp
 have HC:=fx now shift ao n c f bo n d t W0 ab ab (hB.below b0).A0 (hB.below b0).Jo;rw[iP]at HC;have hX:∀(w2 W3:World) (Bx cx Bi ci:Nat),Below W0.heap.size W0 w2->w2.ownsRow W0.heap.size 31 6 (.slice (some ⟨Bx,0,none⟩) n cx) n (cG f n)->w2.ownsRow W0.heap.size 3 1 (.slice (some ⟨Bi,0,none⟩) n ci) n (eN t n)->Below w2.heap.size w2 W3->am W3 w2.heap.size now shift (.slice (some ⟨Bx,0,none⟩) n cx) (.slice (some ⟨Bi,0,none⟩) n ci)->Rx R aC w w2.heap.size (w.heap.size+1) p now shift Bx n cx f Bi n ci t W3:=λw2 W3 Bx cx Bi ci b2 oM oI b3 k3=>by
  have z2:=b2.size;have B2:=b0.trans (b2.mono b0.size);have B3:=B2.trans (b3.mono B2.size);refine⟨hr.below B3,fp.of B3,B3.mono ab,k3,qs.same ((b3.block _ ab).trans (b2.block _ ab)),⟨h6,h6,λi hi=>(AI (hB.ok i hi)).fitting,qd.of (bG (ay oM (λB hB=>b3.block B (oM.lt B hB).2)) ab),ky.of (bG (ay oI (λB hB=>b3.block B (oI.lt B hB).2)) ab)⟩⟩
 by_cases hn:n=0
 .subst hn;go_enter Tz.func82,Tryz.ntmps82
  obtain⟨y0,y1,y2,y3,y4⟩:=tm.cells;go_wp2_with(first
   |(go_at_call 40;refine HC.mono ?_;clear HC;rintro e w2 ⟨⟨Bx,cx,Bi,ci,rfl,oM,oI⟩,b2⟩;rw[<-iP]at oM oI b2;obtain⟨W3,e3,k3,b3,z3⟩:=cI w2 now shift (some ⟨Bx,0,none⟩) 0 cx (some ⟨Bi,0,none⟩) 0 ci;have hS:=hX w2 W3 Bx cx Bi ci b2 oM oI b3 k3;have lN:=hS.bx.lt;have lN2:w.heap.size+1<w2.heap.size:=(by have:=b2.size;omega);obtain⟨p0,p1,p2,p3,p4⟩:=k3.cells;obtain⟨WL,eL,kL,bL,zL⟩:=Kq W3 #[.int .i64 (-1),.int .i64 10001];have Ux:=hS.grow h0 bL;have lz:R<W3.heap.size:=hS.rd.lt;have H2:=bg R p 2 WL aC h0 Ux.rd ab ab ab;clear z3 zL)
   |(go_at_call 34;refine H2.mono ?_;clear H2;rintro e w4 ⟨⟨z,rfl,l1,u1⟩,r4,t4,b4⟩;obtain⟨k,rfl⟩:∃k:Nat,z=(k:Int):=⟨z.toNat,ab⟩;have eu:=Ux.to hR ab ab r4 t4 b4;obtain⟨v,hv⟩:=at2 (-1) 10001 k ab;have hc:w4.cell? ⟨W3.heap.size,k,none⟩=some (.int .i64 v):=(cell_of_row _ _ _ _ _ _ ((t4.block _ (acm.1 kL).1 ab).trans kL)).trans hv;obtain⟨p0,p1,p2,p3,p4⟩:=eu.bx.cells;obtain⟨W5,e5,fM⟩:=eu.Mo h0 hR ab ab v;obtain⟨g0,g1,g2,g3,g4⟩:=fM.bx.cells;obtain⟨r0,r1,r2,r3,r4'⟩:=fM.rs.cells))
  obtain⟨W6,e6,k6,Cm,aaw,X_,V_⟩:=fM.fin h0 hR ab;rw[e6];obtain⟨q0,q1,q2,q3,q4⟩:=k6.cells;exact bodyPost_ret (v:=.agg #[.int .i64 v,.int .i64 shift,.slice (some ⟨Bx,0,none⟩) 0 cx,.slice (some ⟨Bi,0,none⟩) 0 ci]) (by simp[results,Tryz.f82,go_sem,q0,q1,q2,q3]) rfl ⟨⟨v,shift,Bx,0,cx,f,Bi,0,ci,t,rfl,Cm⟩,⟨_,ab,ab,aaw⟩,X_,V_⟩
 have Cg:¬(n:Int)=0:=ab;go_enter Tz.func82,Tryz.ntmps82
 refine lV [_,_,_,_] (λa' w'=>∃(k N b c2 b' d2:Nat),k<n/\n<=d2/\w.heap.size+1<N/\Rx R aC w N (w.heap.size+1) (p+1) now shift b n c2 f b' n d2 t w'/\gd a' (rW 78 [(0,.pointer (some ⟨R,0,none⟩)),(4,.pointer (some ⟨w.heap.size+1,0,none⟩)),(5,.pointer (some ⟨N,0,none⟩)),(6,.int .i64 k)])) ?_ ?_
 .simp only[aP];obtain⟨y0,y1,y2,y3,y4⟩:=tm.cells;go_wp2_with(first
   |(go_at_call 40;refine HC.mono ?_;clear HC;rintro e w2 ⟨⟨Bx,cx,Bi,ci,rfl,oM,oI⟩,b2⟩;rw[<-iP]at oM oI b2;have Np:=(ee oI).2.2;obtain⟨W3,e3,k3,b3,z3⟩:=cI w2 now shift (some ⟨Bx,0,none⟩) n cx (some ⟨Bi,0,none⟩) n ci;have hS:=hX w2 W3 Bx cx Bi ci b2 oM oI b3 k3;have lN2:w.heap.size+1<w2.heap.size:=(by have:=b2.size;omega);obtain⟨p0,p1,p2,p3,p4⟩:=k3.cells;have H2:=bg R p n W3 aC h0 hS.rd ab ab ab;clear z3)
   |(go_at_call 34;refine H2.mono ?_;clear H2;rintro e w4 ⟨⟨z,rfl,l1,u1⟩,r4,t4,b4⟩;obtain⟨k,rfl⟩:∃k:Nat,z=(k:Int):=⟨z.toNat,ab⟩;have eu:=hS.to hR ab ab r4 t4 b4))
  all_goals try(exfalso;omega)
  exact⟨k,_,_,_,_,_,ab,Np,lN2,eu,rfl,rfl⟩
 clear HC hX tm qs b0 iP gI Cg;rintro a' w1 ⟨k,N,b,c2,b',d2,hk,GF,hN,hS,ew⟩;obtain⟨u,rfl⟩:=ew.open;clear ew;refine lV [_] (λa' w'=>∃(nw sf:Int) (b2 n2 c2:Nat) (f2:Nat->Mv) (YA m2 d2:Nat) (t2:Nat->Int) (q:Int),p<=q/\q<=p+20/\Rx R aC w N (w.heap.size+1) q nw sf b2 n2 c2 f2 YA m2 d2 t2 w'/\gd a' (rW 78 [(4,.pointer (some ⟨w.heap.size+1,0,none⟩)),(5,.pointer (some ⟨N,0,none⟩))])) ?_ ?_
 .simp only[aP];have H5:=bg R (p+1) 5 w1 aC h0 hS.rd ab ab ab;have hkd:(k:Int)<=d2:=ab;have uZ:(0:Int)<=k:=ab;go_wp2_with(first
   |(go_at_call 34;refine H5.mono ?_;clear H5;rintro e w2 ⟨⟨z5,rfl,l5,u5⟩,r5,t5,b5⟩;have fM:=hS.to hR ab ab r5 t5 b5;obtain⟨p0,p1,p2,p3,p4⟩:=fM.bx.cells;obtain⟨WC,eC,hSC⟩:=fM.cut h0 hR ab ab (k:=k) ab d2;obtain⟨WL,eL,kL,bL,zL⟩:=Kq w2 #[.int .i64 (-1),.int .i64 6,.int .i64 7];have Ux:=fM.grow h0 bL;have lz:R<w2.heap.size:=fM.rd.lt;have HQ:=bg R (p+1+1) 3 WL aC h0 Ux.rd ab ab ab;clear zL)
   |(go_at_call 34;refine HQ.mono ?_;clear HQ;rintro e w4 ⟨⟨z,rfl,l1,u1⟩,r4,t4,b4⟩;obtain⟨j,rfl⟩:∃j:Nat,z=(j:Int):=⟨z.toNat,ab⟩;have eu:=Ux.to hR ab ab r4 t4 b4;obtain⟨v,hv,hv2⟩:=Vj (-1) 6 7 j ab;have hc:w4.cell? ⟨w2.heap.size,j,none⟩=some (.int .i64 v):=(cell_of_row _ _ _ _ _ _ ((t4.block _ (acm.1 kL).1 ab).trans kL)).trans hv;obtain⟨p0,p1,p2,p3,p4⟩:=eu.bx.cells;obtain⟨W6,e6,mT⟩:=eu.Mp h0 hR ab ab v))
  all_goals first
   |exact⟨_,_,_,_,_,_,_,_,_,_,_,ab,ab,mT,rfl,rfl⟩
   |exact⟨_,_,_,_,_,_,_,_,_,_,_,ab,ab,hSC,rfl,rfl⟩
   |skip
  all_goals
   clear HQ Ux kL bL eL eC hSC;have hD:=fM.grow h0 (aca _ _).drew;obtain⟨p0,p1,p2,p3,p4⟩:=hD.bx.cells;have lz2:=hD.rd.lt
  focus
   have H9:=bg R (p+1+1) 9 w2.drew aC h0 hD.rd ab ab ab;have Nu:IntKind.i64.wrap (now+1)=now+1:=gH;go_region_with(first|(go_at_call 34;refine H9.mono ?_;clear H9;rintro e w4 ⟨⟨z,rfl,l1,u1⟩,r4,t4,b4⟩;have eu:=hD.to hR ab ab r4 t4 b4;obtain⟨p0,p1,p2,p3,p4⟩:=eu.bx.cells;have QN:IntKind.i64.wrap (now+1+z)=now+1+z:=gH;obtain⟨W6,e6,mT⟩:=eu.Mo h0 hR ab ab (now+1+z)))
   all_goals
    go_wp2;exact⟨_,_,_,_,_,_,_,_,_,_,_,ab,ab,mT,rfl,rfl⟩
  focus
   obtain⟨_,⟨cs,hcs,iZ⟩,aq⟩:=hD.sp.om;obtain⟨c0,c1,Qd,c3,c4,c5⟩:=aq k hk;simp only[Nat.zero_add]at c0 c1 Qd c3 c4 c5;have WN:b<w2.drew.heap.size:=hD.sp.om.lt;have qo:(k:Int)<n:=ab;have Ve:=Je R (p+1+1) (f k) w2.drew aC h0 hD.rd ab (AI (hB.ok k hk));go_region_with(first|(go_at_call 54;refine Ve.mono ?_;clear Ve;rintro e w4 ⟨⟨m',rfl,Le⟩,⟨q4,hq4,hq5,r4⟩,t4,b4⟩;have eu:=hD.to hR ab ab r4 t4 b4;obtain⟨p0,p1,p2,p3,p4⟩:=eu.bx.cells;obtain⟨_,⟨cs4,SN,abM⟩,Cj⟩:=eu.sp.om;obtain⟨c0,c1,Qd,c3,c4,c5⟩:=Cj k hk;simp only[Nat.zero_add]at c0 c1 Qd c3 c4 c5;have fr:=λj=>frozen_of_row w4 _ j _ _ SN;have aan:b<w4.heap.size:=eu.sp.om.lt;have mT:=eu.mv h0 hR hk Le))
   all_goals
    go_wp2;exact⟨_,_,_,_,_,_,_,_,_,_,_,ab,ab,mT,rfl,rfl⟩
  focus
   obtain⟨_,⟨cs,hcs⟩,aq⟩:=hD.sp.ot;have tk:=aq k hk;simp only[Nat.zero_add]at tk;have WN:b'<w2.drew.heap.size:=hD.sp.ot.lt;have qo:(k:Int)<n:=ab;have H9:=bg R (p+1+1) 5 w2.drew aC h0 hD.rd ab ab ab;go_region_with(first|(go_at_call 34;refine H9.mono ?_;clear H9;rintro e w4 ⟨⟨z,rfl,l1,u1⟩,r4,t4,b4⟩;have eu:=hD.to hR ab ab r4 t4 b4;obtain⟨p0,p1,p2,p3,p4⟩:=eu.bx.cells;obtain⟨_,⟨cs4,SN⟩,Cj⟩:=eu.sp.ot;have tk:=Cj k hk;simp only[Nat.zero_add]at tk;have fr:=λj=>frozen_of_row w4 _ j _ _ SN;have aan:b'<w4.heap.size:=eu.sp.ot.lt;have mT:=λx=>eu.Uc h0 hR hk x))
   all_goals
    go_wp2;exact⟨_,_,_,_,_,_,_,_,_,_,_,ab,ab,mT _,rfl,rfl⟩
 rintro a' w2 ⟨nw,sf,b2,n2,c3,f2,YA,m2,d3,t2,q2,o0,Te,mu,ew⟩;clear u hS;obtain⟨u,rfl⟩:=ew.open;clear ew;obtain⟨y0,y1,y2,y3,y4⟩:=mu.bx.cells;obtain⟨r0,r1,r2,r3,r4⟩:=mu.rs.cells;go_wp2;obtain⟨W5,e5,k5,te,E6,EZ,EX⟩:=mu.fin h0 hR ab;rw[e5];obtain⟨q0',TP,q2',q3',q4'⟩:=k5.cells;exact bodyPost_ret (v:=.agg #[.int .i64 nw,.int .i64 sf,.slice (some ⟨b2,0,none⟩) n2 c3,.slice (some ⟨YA,0,none⟩) m2 d3]) (by simp[results,Tryz.f82,go_sem,q0',TP,q2',q3']) rfl ⟨⟨nw,sf,b2,n2,c3,f2,YA,m2,d3,t2,rfl,te⟩,⟨_,o0,Te,E6⟩,EZ,EX⟩
def D8 (lo:Nat)(e:Ending)(w':World):Prop:=(∃now shift:Int,e=.returned (.agg #[.int .i64 now,.int .i64 shift,(),()])/\(0<=now/\now<=10000)/\0<=shift/\shift<=6)\/Qa lo e w'
theorem RB {w:World}{lo:Nat}{now shift:Int}{ao:Option Addr}{n c:Nat}{f:Nat->Mv}{bo:Option Addr}{d:Nat}{t:Nat->Int}(h:nV w lo now shift ao n c f bo d t):D8 lo (.returned (.agg #[now,shift,.slice ao n c,.slice bo n d])) w:=by
 rcases h.mem with⟨rfl,rfl,rfl,rfl,rfl⟩|⟨b,b',rfl,rfl,o1,hd,o2⟩
 .exact .inl ⟨now,shift,rfl,h.now,h.sh⟩
 .exact .inr ⟨now,shift,b,n,c,f,b',n,d,t,rfl,h.tK,h.tK,λi hi=>(AI (h.ok i hi)).fitting,qd.of o1,o2⟩
theorem BE (R:Nat)(p:Int)(w:World)(aC:Nat)(h0:aC<=R)(hr:Rd w R p)(hp:p<=500000):
  Calls Tz.prog 53 #[.pointer R] w λe w'=>D8 (R+1) e w'/\zJ R p 450 aC w w':=by
 have hR:=hr.lt;obtain⟨W0,e0,k0,b0,z0⟩:=cI w 0 0 none 0 0 none 0 0;have HBK:=HH R p W0 aC h0 (hr.below b0) hp;go_enter Tz.func53,Tryz.ntmps53
 go_wp2_with(first
  |(go_at_call 81;refine HBK.mono ?_;clear HBK;rintro e w1 ⟨⟨nw,sf,ao,n,c,f,bo,d,t,rfl,qL⟩,⟨q1,E5,o0,r1⟩,t1,b1⟩;have fq:=t1.size;obtain⟨W2,e2,k2,b2,z2⟩:=cI w1 nw sf ao n c bo n d;have hS:Rs R aC w w1.heap.size w.heap.size q1 nw sf ao n c f bo d t W2:=⟨r1.below b2,((fp.of b0).trans t1).trans (fp.of b2),((b0.mono ab).trans b1).trans (b2.mono ab),k2,k0.same ((b2.block _ ab).trans (t1.block _ ab ab)),qL.below b2⟩;have e2h:Hid (w1.alloc (.cells #[.int .i64 nw,.int .i64 sf,.slice ao n c,.slice bo n d] 29)=W2):=e2;clear e2 z2;have H2:=bg R q1 16 W2 aC h0 hS.rd ab ab ab;rw[<-e2h.out]at H2)
  |(go_at_call 34;refine H2.mono ?_;clear H2;rintro e w3 ⟨⟨z3,rfl,l3,u3⟩,r3,t3,b3⟩;rw[e2h.out]at t3 b3;have pO:=hS.to ab ab r3 t3 b3;obtain⟨y0,y1,y2,y3,y4⟩:=pO.bx.cells;obtain⟨g0,g1,g2,g3,g4⟩:=pO.rs.cells;have Ve:=FM R (q1+1) nw sf ao n c f bo d t w3 aC h0 r3 ab pO.Ep)
  |(go_at_call 82;refine Ve.mono ?_;clear Ve;rintro e w4 ⟨⟨nw4,sf4,xw,n4,c4,f4,c_,m4,d4,t4',rfl,Bh⟩,⟨q4,hq4,hq5,r4⟩,t4,b4⟩;have eu:=pO.to ab ab r4 t4 b4;obtain⟨g0,g1,g2,g3,g4⟩:=eu.rs.cells))
 all_goals first
  |(obtain⟨W5,e5,k5,gi,qV,lJ⟩:=bT eu.rs eu.below ab nw4 sf4 (some ⟨xw,0,none⟩) n4 c4 (some ⟨c_,0,none⟩) m4 d4
    rw[e5];obtain⟨q0,TP,q2,q3,q4'⟩:=k5.cells;refine bodyPost_ret (v:=.agg #[nw4,sf4,.slice xw n4 c4,.slice c_ m4 d4]) (by simp[results,Tryz.f53,go_sem,q0,TP,q2,q3]) rfl ⟨.inr ⟨nw4,sf4,xw,n4,c4,f4,c_,m4,d4,t4',rfl,(Bh.off eu.rs lJ).mono (by have:=pO.rd.lt;omega)⟩,⟨q4,ab,ab,?_⟩,⟨by rw[qV];exact eu.but.size,λi hi hne=>(lJ i ab).trans (eu.but.block i hi hne)⟩,gi⟩;rw[<-e5];exact(((eu.rd.set ab _ _).set ab _ _).set ab _ _).set ab _ _)
  |(obtain⟨W5,e5,k5,K5,E6,EZ,EX⟩:=pO.fin h0 hR ab
    rw[e5];obtain⟨q0,TP,q2,q3,q4'⟩:=k5.cells;exact bodyPost_ret (v:=.agg #[nw,sf,.slice ao n c,.slice bo n d]) (by simp[results,Tryz.f53,go_sem,q0,TP,q2,q3]) rfl ⟨RB K5,⟨_,ab,ab,E6⟩,EZ,EX⟩)
structure Dx (R:Nat)(w:World)(N:Nat)(q now shift:Int)(b n c:Nat)(f:Nat->Mv)(b' m d:Nat)(t:Nat->Int)(W:World):Prop where
 rd:Rd W R q
 below:Below w w W
 bx:am W N now shift (.slice b n c) (.slice b' m d)
 rs:am W w.heap.size 0 0 () ()
 sp:Sp W (R+1) b n f b' m t
section
variable {R N:Nat}{w W W':World}{q q' now shift:Int}{b n c:Nat}{f:Nat->Mv}{b' m d:Nat}{t:Nat->Int}
end
theorem Aa {m:Mv}(h:ic m):m.Fits:=⟨by have:=h.name;unfold maxLen;omega,od h.aD,od h.ba,od h.late,od h.prom⟩
section
variable {w W:World}{now shift:Int}{ao:Option Addr}{n c:Nat}{f:Nat->Mv}{bo:Option Addr}{m d:Nat}{t:Nat->Int}{lo b b':Nat}
theorem Bq.same (h:Bq w now shift ao n c f bo m d t)(hz:w.heap.size<=W)(e:∀ad,ao=some ad\/bo=some ad->W.heap[ad.block]?=w.heap[ad.block]?):Bq W now shift ao n c f bo m d t:=
 ⟨h.n6,h.m6,⟨h.sm.1,λad had=>by obtain⟨b,rfl,hl,hr⟩:=h.sm.2 ad had;exact⟨b,rfl,acl hl hz,dm hr (e _ (.inl had))⟩⟩,⟨h.si.1,λad had=>by obtain⟨b,rfl,hl,hr⟩:=h.si.2 ad had;exact⟨b,rfl,acl hl hz,sz hr (e _ (.inr had))⟩⟩,h.two,h.fit⟩
theorem Sp.bq (h:Sp w lo b n f b' m t)(now shift:Int)(c d:Nat):Bq w now shift b n c f b' m d t:=
 ⟨h.tK,h.mm,⟨(λe=>nomatch e),λad e=>by cases e;exact⟨b,rfl,h.om.lt,h.om.2.2⟩⟩,⟨(λe=>nomatch e),λad e=>by cases e;exact⟨b',rfl,h.ot.lt,h.ot.2.2⟩⟩,(λe=>by rcases e with e|e<;>nomatch e),λi hi=>Aa (h.fit i hi)⟩
theorem RK (w:World)(f:Nat->Mv)(t:Nat->Int)(h1:0<=now/\now<=10000)(h2:0<=shift/\shift<=6):Bq w now shift none 0 0 f none 0 0 t:=
 ⟨ab,ab,⟨λ_=>⟨rfl,rfl⟩,λad e=>nomatch e⟩,⟨λ_=>⟨rfl,rfl⟩,λad e=>nomatch e⟩,λ_=>⟨rfl,rfl,h1,h2⟩,λi hi=>absurd hi (aco _)⟩
theorem Bq.at_ (h:Bq w now shift ao n c f bo m d t)(hn:0<n):∃b b',ao=some ⟨b,0,none⟩/\bo=some ⟨b',0,none⟩/\b<w.heap.size/\aM w b 0 n f/\b'<w.heap.size/\aB w b' 0 m t:=
 h.cases (λe=>absurd e ab) (λb b' e1 e2 h1 h2 h3 h4=>⟨b,b',e1,e2,h1,h2,h3,h4⟩)
end
theorem Ke {R:Nat}{e:Ending}{w':World}(h:D8 (R+1) e w'):∃(nw sf:Int) (ao:Option Addr) (n c:Nat) (f:Nat->Mv) (bo:Option Addr) (m d:Nat) (t:Nat->Int),e=.returned (.agg #[nw,sf,.slice ao n c,.slice bo m d])/\Bq w' nw sf ao n c f bo m d t/\∀ad,ao=some ad\/bo=some ad->R<ad.block/\ad.block<w'.heap.size:=by
 rcases h with⟨nw,sf,rfl,h1,h2⟩|⟨nw,sf,b,n,c,f,b',m,d,t,rfl,hs⟩
 .exact⟨nw,sf,none,0,0,λ_=>rH,none,0,0,λ_=>0,rfl,RK _ _ _ h1 h2,λad e=>by rcases e with e|e<;>nomatch e⟩
 .exact⟨nw,sf,_,n,c,f,_,m,d,t,rfl,hs.bq nw sf c d,λad e=>by rcases e with e|e<;>cases e<;>first|exact⟨hs.om.1,hs.om.lt⟩|exact⟨hs.ot.1,hs.ot.lt⟩⟩
structure Dq (R:Nat)(w:World)(N:Nat)(q now shift:Int)(ao:Option Addr)(n c:Nat)(f:Nat->Mv)(bo:Option Addr)(m d:Nat)(t:Nat->Int)(W:World):Prop where
 rd:Rd W R q
 below:Below w w W
 bx:am W N now shift (.slice ao n c) (.slice bo m d)
 rs:am W w.heap.size 0 0 () ()
 bq:Bq W now shift ao n c f bo m d t
 aw:∀ad,ao=some ad\/bo=some ad->ad.block≠R/\ad.block≠N/\ad.block≠w.heap.size
section
variable {R N:Nat}{w W W':World}{q q' now shift:Int}{ao:Option Addr}{n c:Nat}{f:Nat->Mv}{bo:Option Addr}{m d:Nat}{t:Nat->Int}
theorem Bq.lt (h:Bq W now shift ao n c f bo m d t){ad:Addr}(e:ao=some ad\/bo=some ad):ad.block<W:=by
 rcases e with e|e
 .obtain⟨b,rfl,hl,_⟩:=h.sm.2 ad e;exact hl
 .obtain⟨b,rfl,hl,_⟩:=h.si.2 ad e;exact hl
theorem Dq.to (h:Dq R w N q now shift ao n c f bo m d t W)(hR:w.heap.size<R)(hN:R<N)(r:Rd W' R q')(b:fp R W W')(l:Below w W W'):Dq R w N q' now shift ao n c f bo m d t W':=
 ⟨r,h.below.trans l,h.bx.same (b.block _ h.bx.lt ab),h.rs.same (b.block _ h.rs.lt ab),h.bq.same b.size λad e=>b.block _ (h.bq.lt e) (h.aw ad e).1,h.aw⟩
theorem Dq.grow (h:Dq R w N q now shift ao n c f bo m d t W)(b:Below W W W'):Dq R w N q now shift ao n c f bo m d t W':=
 ⟨h.rd.below b,h.below.trans (b.mono h.below.size),h.bx.same (b.block _ h.bx.lt),h.rs.same (b.block _ h.rs.lt),h.bq.same b.size λad e=>b.block _ (h.bq.lt e),h.aw⟩
theorem Dq.drew (h:Dq R w N q now shift ao n c f bo m d t W):Dq R w N q now shift ao n c f bo m d t W.drew:=h.grow ((aca _ W).drew)
theorem Dq.put (h:Dq R w N q now shift ao n c f bo m d t W)(hR:w.heap.size<R)(hN:R<N){pt fU:Int}{uI:Option Addr}{n' c':Nat}{f':Nat->Mv}{uJ:Option Addr}{m' d':Nat}{t':Nat->Int}(hb:Bq W pt fU uI n' c' f' uJ m' d' t')(aw:∀ad,uI=some ad\/uJ=some ad->N<ad.block):∃W',((((W.setCell N pt).setCell ⟨N,1,none⟩ fU).setCell ⟨N,2,none⟩ (.slice uI n' c')).setCell ⟨N,3,none⟩ (.slice uJ m' d'))=W'/\Dq R w N q pt fU uI n' c' f' uJ m' d' t' W':=by
 obtain⟨W',e,k,cZ,hz,hn⟩:=bT h.bx h.below ab pt fU uI n' c' uJ m' d';refine⟨W',e,?_,cZ,k,h.rs.same (hn _ ab),hb.same (Nat.le_of_eq hz.symm) λad e=>hn _ (by have:=aw ad e;omega),λad e=>by have:=aw ad e;omega⟩;rw[<-e];exact(((h.rd.set hN _ _).set hN _ _).set hN _ _).set hN _ _
theorem Dq.fin (h:Dq R w N q now shift ao n c f bo m d t W):∃W',((((W.setCell w.heap.size now).setCell ⟨w.heap.size,1,none⟩ shift).setCell ⟨w.heap.size,2,none⟩ (.slice ao n c)).setCell ⟨w.heap.size,3,none⟩ (.slice bo m d))=W'/\am W' w.heap.size now shift (.slice ao n c) (.slice bo m d)/\Bq W' now shift ao n c f bo m d t/\Below w w W'/\∀k,k≠w.heap.size->W'.heap[k]?=W.heap[k]?:=by
 obtain⟨W',e,k,cZ,hz,hn⟩:=bT h.rs h.below (ack _) now shift ao n c bo m d;exact⟨W',e,k,h.bq.same (Nat.le_of_eq hz.symm) λad e=>hn _ (h.aw ad e).2.2,cZ,hn⟩
end
theorem TD (R:Nat)(p:Int)(b l c:Nat)(w:World)(aC:Nat)(h0:aC<=R)(hr:Rd w R p)(hp:p<=1000000)(hl:0<l)(hl6:l<=6)(EV:b≠R)(hb:b<w)(hf:∀i,i<l->∃s,w.cell? ⟨b,i,none⟩=some (.string s)):
  Calls Tz.prog 36 #[.pointer R,.slice b l c] w λe w'=>(∃s,e=.returned (.string s))/\Rd w' R (p+1)/\fp R w w'/\Below aC w w':=by
 have H1:=bg R p l w aC h0 hr ab ab ab;go_enter Tz.func36,Tryz.ntmps36
 go_wp2_with(go_at_call 34;refine H1.mono ?_;clear H1;rintro e w1 ⟨⟨z,rfl,l1,u1⟩,r1,t1,b1⟩;obtain⟨k,rfl⟩:∃k:Nat,z=(k:Int):=⟨z.toNat,ab⟩;obtain⟨s,hs⟩:=hf k ab;have hc:w1.cell? ⟨b,k,none⟩=some (.string s):=(kG t1 hb EV).trans hs)
 go_ret;exact⟨⟨s,rfl⟩,r1,t1,b1⟩
theorem LQ (R:Nat)(q now shift:Int)(ao:Option Addr)(n c:Nat)(f:Nat->Mv)(bo:Option Addr)(m d:Nat)(t:Nat->Int)(w:World)(aC:Nat)(h0:aC<=R)(hr:Rd w R q)(hq:q<=500000)(hB:Bq w now shift ao n c f bo m d t)(aw:∀ad,ao=some ad->ad.block≠R):
  Calls Tz.prog 55 #[.pointer R,.agg #[now,shift,.slice ao n c,.slice bo m d]] w λe w'=>(∃s,e=.returned (.string s))/\zJ R q 2 aC w w':=by
 have hR:=hr.lt;have E4:=hr.low;have h6:=hB.n6;obtain⟨W0,e0,k0,b0,z0⟩:=cI w now shift ao n c bo m d;replace z0:Hid _:=z0;obtain⟨y0,y1,y2,y3,y4⟩:=k0.cells;have r0:=hr.below b0;have HT:∀W q',q<=q'->q'<=q+1->Rd W R q'->fp R w W->Below aC w W->Calls Tz.prog 36 #[.pointer R,.slice (some ⟨W.heap.size,0,none⟩) 3 3] (W.alloc (.cells #[.string ⟨#[122,122]⟩,.string ⟨#[97,49]⟩,.string ⟨#[]⟩] 9)) λe w'=>(∃s,e=.returned (.string s))/\zJ R q 2 aC w w':=λW q' h1 h2 r t b=>by
  have hl:=r.lt;have bA:=(aca W.heap.size W).alloc (ack _) (.cells #[.string ⟨#[122,122]⟩,.string ⟨#[97,49]⟩,.string ⟨#[]⟩] 9);refine(TD R q' W.heap.size 3 3 _ aC h0 (r.below bA) ab ab ab ab aH λi hi=>?_).mono ?_
  .rw[cell_of_row _ _ _ _ _ _ (heap_alloc_new W _)];match i,hi with
   |0,_=>exact⟨_,rfl⟩
   |1,_=>exact⟨_,rfl⟩
   |2,_=>exact⟨_,rfl⟩
  .rintro e w' ⟨hs,r',t',b'⟩;exact⟨hs,⟨_,ab,ab,r'⟩,(t.trans (fp.of bA)).trans t',(b.trans (bA.mono ab)).trans b'⟩
 go_enter Tz.func55,Tryz.ntmps55
 by_cases hn:n=0
 .have HT0:=HT W0 q ab ab r0 (fp.of b0) (b0.mono ab);replace HT:Hid _:=HT;subst hn;go_wp2_with(go_at_call 36;refine HT0.mono ?_;clear HT0;rintro e w2 ⟨⟨s,rfl⟩,hw⟩)
  go_ret;exact⟨⟨s,rfl⟩,hw⟩
 .have Cg:(0:Int)<n:=by omega
  obtain⟨b,b',rfl,rfl,lb,aq,lb',aK⟩:=hB.at_ ab;have EV:b≠R:=aw _ rfl;have HP:=bg R q 8 W0 aC h0 r0 ab ab ab;replace HT:Hid _:=HT;replace aw:Hid _:=aw;go_wp2_with(first
   |(go_at_call 34;refine HP.mono ?_;clear HP;rintro e w2 ⟨⟨z2,rfl,l2,u2⟩,r2,t2,b2⟩;have ZR:=HT.out w2 (q+1) ab ab r2 ((fp.of b0).trans t2) ((b0.mono ab).trans b2))
   |(go_at_call 36;refine ZR.mono ?_;clear ZR;rintro e w3 ⟨⟨s,rfl⟩,hw⟩))
  rotate_left
  .go_ret;exact⟨⟨s,rfl⟩,hw⟩
  clear ZR y0 y1 y2 y3 y4 e0;have bd:=(aca w2.heap.size w2).drew;have B2:=(b0.mono (show aC<=w by omega)).trans (b2.trans (bd.mono (by have:=t2.size;have:=z0.out;omega)));have T2:=((fp.of b0).trans t2).trans (fp.of (B:=R) bd);have k2:=k0.same ((bd.block _ (acl k0.lt t2.size)).trans (t2.block _ k0.lt ab));have QK:=dm aq (T2.block b lb EV);obtain⟨y0,y1,y2,y3,y4⟩:=k2.cells;have HQ:=bg R (q+1) n w2.drew aC h0 (r2.below bd) ab ab ab;have X':=acl lb T2.size;have c2:∀j,j<n->w2.drew.cell? ⟨b,j*6,none⟩=some (.string (f j).name):=λj hj=>by have:=(QK j hj).c0;simpa only[Nat.zero_add]using this
  clear t2 b2 r2 bd;go_region_held3 (λw'=>w'.cell? ⟨w.heap.size,2,none⟩=some (.slice b n c)/\∀j,j<n->w'.cell? ⟨b,j*6,none⟩=some (.string (f j).name)) (first|exact⟨y2,c2⟩|exact⟨g2,c0⟩|go_keep)
   (first|(go_at_call 34;refine HQ.mono ?_;clear HQ;rintro e w3 ⟨⟨z3,rfl,l3,u3⟩,r3,t3,b3⟩;obtain⟨k,rfl⟩:∃k:Nat,z3=(k:Int):=⟨z3.toNat,ab⟩;have qo:k<n:=ab;have c0:∀j,j<n->w3.cell? ⟨b,j*6,none⟩=some (.string (f j).name):=(λj hj=>by have:=(dm QK (t3.block b X' EV) j hj).c0;simpa only[Nat.zero_add]using this);obtain⟨g0,g1,g2,g3,g4⟩:=(k2.same (t3.block _ k2.lt ab)).cells))
  go_wp2;go_ret;exact⟨⟨_,rfl⟩,⟨_,ab,ab,r3⟩,T2.trans t3,B2.trans b3⟩
section
variable {w':World}{lo:Nat}{a0 a1:Int}{s2:Option Addr}{l c2:Nat}{F:Nat->Mv}{s3:Option Addr}{o c3:Nat}{T:Nat->Int}
theorem zI.bq (h:zI w' lo s2 l c2 F s3 o c3 T)(h0:0<=a0/\a0<=10000)(h1:0<=a1/\a1<=6)(hl:l<=6)(ho:o<=6)(hF:∀i,i<l->(F i).Fits):Bq w' a0 a1 s2 l c2 F s3 o c3 T:=
 ⟨hl,ho,h.src.1,h.src.2.1,λe=>⟨(h.src.2.2 e).1,(h.src.2.2 e).2,h0,h1⟩,hF⟩
theorem zI.low (h:zI w' lo s2 l c2 F s3 o c3 T):∀ad,s2=some ad\/s3=some ad->lo<=ad.block:=by
 rcases h with⟨rfl,rfl,_⟩|⟨b,b',rfl,rfl,o1,_,o2⟩
 .intro ad e;rcases e with e|e<;>nomatch e
 .intro ad e;rcases e with e|e<;>cases e
  .exact(qd.of o1).1
  .exact o2.1
end
def U7 (e:Ending)(w':World):Prop:=∃(now shift:Int) (ao:Option Addr) (n c:Nat) (f:Nat->Mv) (bo:Option Addr) (m d:Nat) (t:Nat->Int) (s:ByteArray),e=.returned (.tuple #[.agg #[now,shift,.slice ao n c,.slice bo m d],s])/\Bq w' now shift ao n c f bo m d t
def XM (K:Act->World->Prop)(Q:Exit->Act->World->Prop):Exit->Act->World->Prop
 |.normal=>K
 |.ret=>Q .ret
 |_=>λ_ _=>False
theorem P3 {P:Program}{Q:Exit->Act->World->Prop}{s T:Code}{a:Act}{w:World}(K:Act->World->Prop)(h:s.wp P (XM K Q) a w)(hK:∀a w,K a w->T.wp P Q a w):(s.seq T).wp P Q a w:=by
 refine wp_seq (Code.wp_mono (λe a' w' q=>?_) h);cases e with
 |normal=>exact hK _ _ q
 |ret=>exact q
 |_=>exact q.elim
theorem FI (a:Option Addr)(l cap:Nat)(cd:Nat->Int)(w:World)(h:ig w a l cd)(uP:l<=cap):
  Calls Tz.prog 24 #[.slice a l cap] w λe w'=>U7 e w'/\Below w w w':=by
 obtain⟨W0,e0,k0,b0,z0⟩:=cI w 0 0 none 0 0 none 0 0;have OI:ig W0 a l cd:=by
  obtain⟨h1,h2,h3⟩:=h;refine⟨h1,h2.imp id λ⟨b,off,e,hl,hr⟩=>⟨b,off,e,ab,λi hi=>(b0.cell (p:=⟨b,off+i,none⟩) hl).trans (hr i hi)⟩,h3⟩
 have HO:=CW a l cap cd W0 OI uP;go_enter Tz.func24,Tryz.ntmps24
 refine lV [_,_,_] (λa' w'=>∃(R N:Nat) (nw sf:Int) (ao:Option Addr) (n c:Nat) (f:Nat->Mv) (bo:Option Addr) (m d:Nat) (t:Nat->Int) (q:Int),q<=450/\w.heap.size<R/\R<N/\Dq R w N q nw sf ao n c f bo m d t w'/\gd a' (rW 73 [(2,.pointer w.heap.size),(3,.string ⟨#[]⟩),(4,.pointer R),(5,.pointer N)])) ?_ ?_
 .simp only[aP];go_wp2_with(first
   |(go_at_call 33;refine HO.mono ?_;clear HO;rintro e w1 ⟨rfl,r1,b1⟩;have z1:=b1.size;rw[z0]at r1;have lr1:=r1.lt;have Va:=BE (w.heap.size+1) 0 w1 w.heap.size ab r1 ab)
   |(go_at_call 53;refine Va.mono ?_;clear Va;rintro e w2 ⟨Sx,⟨q2,o0,Te,r2⟩,t2,b2⟩;obtain⟨nw,sf,ao,n,c,f,bo,m,d,t,rfl,W_,Y7⟩:=Ke Sx;have z2:=t2.size;obtain⟨W3,e3,k3,b3,z3⟩:=cI w2 nw sf ao n c bo m d))
  have B2:=(b0.trans (b1.mono b0.size)).trans b2;have xA:am W3 w.heap.size 0 0 () ():=k0.same ((b3.block _ ab).trans ((t2.block _ ab ab).trans (b1.block _ ab)));exact⟨w.heap.size+1,w2.heap.size,nw,sf,ao,n,c,f,bo,m,d,t,q2,ab,ab,ab,⟨r2.below b3,B2.trans (b3.mono B2.size),k3,xA,W_.same b3.size λad e=>b3.block _ (Y7 ad e).2,λad e=>by have:=Y7 ad e;omega⟩,rfl,rfl⟩
 clear HO OI h k0 b0 e0 z0;rintro a' w1 ⟨R,N,nw,sf,ao,n,c,f,bo,m,d,t,q,hq,hR,hN,hD,ew⟩;obtain⟨u,rfl⟩:=ew.open;clear ew;refine P3 (λa' w'=>∃(nw sf:Int) (ao:Option Addr) (n c:Nat) (f:Nat->Mv) (bo:Option Addr) (m d:Nat) (t:Nat->Int) (q:Int),q<=1000/\Dq R w N q nw sf ao n c f bo m d t w'/\gd a' (rW 73 [(2,.pointer w.heap.size),(4,.pointer R),(5,.pointer N)])) ?_ ?_
 .have H1:=bg R q 24 w1 w.heap.size ab hD.rd ab ab ab;go_wp2_with(go_at_call 34;refine H1.mono ?_;clear H1;rintro e w2 ⟨⟨z,rfl,lz,uz⟩,r2,t2,b2⟩;obtain⟨k,rfl⟩:∃k:Nat,z=(k:Int):=⟨z.toNat,ab⟩)
  have YS:=hD.to hR hN r2 t2 b2;have E4:=hD.rd.low;clear hD r2 t2 b2;go_loopw [6] (λx W=>∃(k:Nat) (nw sf:Int) (ao:Option Addr) (n c:Nat) (f:Nat->Mv) (bo:Option Addr) (m d:Nat) (t:Nat->Int) (q:Int),x=.int .i64 k/\k<=23/\q+7*k<=700/\Dq R w N q nw sf ao n c f bo m d t W) (λx _=>(intOf x).toNat)
  case atStart=>exact⟨k,_,_,_,_,_,_,_,_,_,_,_,rfl,ab,ab,YS⟩
  case round=>
   clear YS hq E4 lz uz;obtain⟨k,nw,sf,ao,n,c,f,bo,m,d,t,q,rfl,hk,hq,hD⟩:=hrel;obtain⟨y0,y1,y2,y3,y4⟩:=hD.bx.cells;have h6:=hD.bq.n6;have E4:=hD.rd.low;have HB:=hD.bq.sk;by_cases uZ:0<k;rotate_left
   .have nZ:¬(0:Int)<k:=by omega
    go_wp2;all_goals try(exfalso;omega)
    exact⟨_,_,_,_,_,_,_,_,_,_,_,ab,hD,rfl,rfl⟩
   have nZ:(0:Int)<k:=ab;have Nv:IntKind.i64.wrap ((k:Int)-1)=(k:Int)-1:=gH;cases hb:bp nw sf f n t m with
   |false=>
    rw[hb]at HB;go_wp2_with(go_at_call 39;refine HB.mono ?_;clear HB;rintro e w3 ⟨rfl,b3⟩;have KZ:=hD.grow b3;obtain⟨y0,y1,y2,y3,y4⟩:=KZ.bx.cells)
    all_goals try(exfalso;omega)
    exact⟨_,_,_,_,_,_,_,_,_,_,_,ab,KZ,rfl,rfl⟩
   |true=>
    rw[hb]at HB;by_cases hn:n=0
    .subst hn;go_wp2_with(go_at_call 39;refine HB.mono ?_;clear HB;rintro e w3 ⟨rfl,b3⟩;have KZ:=hD.grow b3;obtain⟨y0,y1,y2,y3,y4⟩:=KZ.bx.cells)
     all_goals try(exfalso;omega)
     exact⟨_,_,_,_,_,_,_,_,_,_,_,ab,KZ,rfl,rfl⟩
    .have Cg:(0:Int)<n:=by omega
     go_wp2_with(go_at_call 39;refine HB.mono ?_;clear HB;rintro e w3 ⟨rfl,b3⟩;have KZ:=hD.grow b3;obtain⟨y0,y1,y2,y3,y4⟩:=KZ.bx.cells)
     all_goals try(exfalso;omega)
     obtain⟨_,uR,_⟩:=cE hb;subst uR;clear hD y4;simp only[decide_eq_true (show 0<m by omega)];go_loopw [7] (λx W=>∃(i:Nat) (q':Int),x=.int .i64 i/\i<=m/\q'<=q+i/\Dq R w N q' nw sf ao m c f bo m d t W) (λx _=>(m-(intOf x)).toNat)
     case atStart=>exact⟨0,q,rfl,ab,ab,KZ⟩
     case round=>
      clear KZ y0 y1 y2 y3;obtain⟨i,q',rfl,hi,Zl,hD⟩:=hrel;obtain⟨y0,y1,y2,y3,y4⟩:=hD.bx.cells;have E4:=hD.rd.low;by_cases Qs:i<m
      .have aah:(i:Int)<m:=by omega
       have hwi:IntKind.i64.wrap ((i:Int)+1)=(i:Int)+1:=gH;obtain⟨b,b',hao,V8,lb,aq,lb',aK⟩:=hD.bq.at_ ab;subst hao V8;have tk:=aK i Qs;have ck:=(aq i Qs).c1;simp only[Nat.zero_add]at tk ck;have hne:=aE wr;have x0:=λx:aj wr=>x.cell y0
       have x2:=λx:aj wr=>x.cell y2
       have x3:=λx:aj wr=>x.cell y3
       have xt:=λx:aj wr=>x.cell tk
       by_cases ht:t i=nw
       .subst ht;cases hl:(f i).an with
        |false=>
         rw[hl]at ck;have xk:=λx:aj wr=>x.cell ck
         go_wp2;all_goals try(exfalso;omega)
         refine ah ?_;repeat(go_big_quiet_step (fail))
         refine wpQuiet_nil (ak ?_);intro w2 cH;go_wp2;go_roundw
         case rel=>exact⟨i+1,q',by first|rw[hwi]|(simp;done)|(simp;omega),ab,ab,hD.grow cH⟩
         case measure=>exact cf
        |true=>
         rw[hl]at ck;clear hne x0 x2 x3 xt tk ck;go_wp2;all_goals try(exfalso;omega)
         have hE:=hD.drew;have HP:=bg R q' 3 wr.drew w.heap.size ab hE.rd ab ab ab;clear y0 y1 y2 y3 y4;obtain⟨y0,y1,y2,y3,y4⟩:=hE.bx.cells;have tk:wr.drew.cell? ⟨b',0+i,none⟩=some (.int .i64 (t i)):=aK i Qs;have ck:wr.drew.cell? ⟨b,0+i*6+1,none⟩=some (.bool (f i).an):=(aq i Qs).c1;rw[hl]at ck;simp only[Nat.zero_add]at tk ck;go_region_held3 (λw'=>w'.cell? ⟨N,0,none⟩=some (.int .i64 (t i))/\w'.cell? ⟨N,2,none⟩=some (.slice (some ⟨b,0,none⟩) m c)/\w'.cell? ⟨N,3,none⟩=some (.slice (some ⟨b',0,none⟩) m d)/\w'.cell? ⟨b',i,none⟩=some (.int .i64 (t i))/\w'.cell? ⟨b,i*6+1,none⟩=some (.bool true)) (go_keep) (first|(go_at_call 34;refine HP.mono ?_;clear HP;rintro e w4 ⟨⟨z4,rfl,l4,u4⟩,r4,t4,b4⟩;have JK:=hE.to hR hN r4 t4 b4;clear r4 t4 b4;obtain⟨y0,y1,y2,y3,y4⟩:=JK.bx.cells;obtain⟨b6,e6,Zm⟩:=JK.bq.si.2 _ rfl;cases e6;have tk4:=Zm.2 i Qs;obtain⟨b5,e5,UN⟩:=JK.bq.sm.2 _ rfl;cases e5;have ck4:=(UN.2 i Qs).c1;have nk4:=(UN.2 i Qs).c0;rw[hl]at ck4;simp only[Nat.zero_add]at tk4 ck4 nk4;clear UN Zm))
         all_goals(obtain⟨g0,g1,g2,g3,g4⟩:=JK.rs.cells)
         all_goals(clear hE)
         go_wp2;rotate_left
         .go_roundw
          case rel=>exact⟨i+1,q'+1,by first|rw[hwi]|(simp;done)|(simp;omega),ab,ab,JK⟩
          case measure=>exact cf
         obtain⟨W9,e9,k9,KW,b9,n9⟩:=JK.fin;have x9:am W9.drew N _ _ _ _:=JK.bx.same (n9 N ab);obtain⟨v0,v1,v2,v3,v4⟩:=x9.cells;obtain⟨b5,e5,UN⟩:=KW.sm.2 _ rfl;cases e5;have nk9:W9.drew.cell? ⟨b,0+i*6,none⟩=some (.string (f i).name):=(UN.2 i Qs).c0;simp only[Nat.zero_add]at nk9;clear UN;replace n9:Hid _:=n9;go_region_held3 (λw'=>w'.cell? N=some (.int .i64 (t i))/\w'.cell? ⟨N,1,none⟩=some (.int .i64 sf)/\w'.cell? ⟨N,2,none⟩=some (.slice b m c)/\w'.cell? ⟨N,3,none⟩=some (.slice b' m d)/\w'.cell? ⟨b,i*6,none⟩=some (.string (f i).name)) (go_keep) (fail)
         go_wp2;obtain⟨q0,q1,q2,q3,q4⟩:=k9.cells;unfold XM;refine bodyPost_ret (v:=.tuple #[.agg #[.int .i64 (t i),sf,.slice b m c,.slice b' m d],.string (f i).name]) (by simp[results,Tryz.f24,go_sem,q0,q1,q2,q3]) rfl ⟨⟨_,_,_,_,_,f,_,_,_,t,_,rfl,KW.same (ack _) λ_ _=>rfl⟩,b9.drew⟩
       .have hd:Hid (decide (t i=nw)=false):=decide_eq_false ht;clear ht;go_wp2;all_goals try(exfalso;omega)
        have La:=hd.out;refine ah ?_;have GF:¬t i=nw:=of_decide_eq_false La;have hd3:(t i==nw)=false:=beq_false_of_ne GF;repeat(go_big_quiet_step (fail))
        refine wpQuiet_nil (ak ?_);intro w2 cH;go_wp2;go_roundw
        case rel=>exact⟨i+1,q',by first|rw[hwi]|(simp;done)|(simp;omega),ab,ab,hD.grow cH⟩
        case measure=>exact cf
      .have aah:¬(i:Int)<m:=by omega
       have HT:=F5 nw sf ao m c f bo m d t wr hD.bq;go_wp2_with(go_at_call 14;refine HT.mono ?_;clear HT;rintro e w6 ⟨⟨a0,a1,s2,l2,c2,F2,s3,o3,c3,T3,sa,js,sc,GL,YF,rfl,hO,hQ,-,-⟩,b6⟩;have hD6:=hD.grow b6;obtain⟨y0,y1,y2,y3,y4⟩:=hD6.bx.cells;obtain⟨g0,g1,g2,g3,g4,-⟩:=hO.facts ab ab hD.bq.fit;obtain⟨W7,e7,hD7⟩:=hD6.put hR hN (hQ.bq g0 g1 g2 g3 g4) (λad e=>by have:=hQ.low ad e;have:=hD.bx.lt;omega))
       go_roundw
       case rel=>exact⟨k-1,_,_,_,_,_,_,_,_,_,_,q',by first|(rw[Nv];congr 1;omega)|(congr 1;omega)|(simp;omega),ab,ab,hD7⟩
       case measure=>exact cf
 rintro a' w2 ⟨nw,sf,ao,n,c,f,bo,m,d,t,q,hq,hD,ew⟩;clear u;obtain⟨u,rfl⟩:=ew.open;clear ew;go_wp2;have hE:=hD.drew;have E4:=hD.rd.low;have HN:=LQ R q nw sf ao n c f bo m d t w2.drew w.heap.size ab hE.rd ab hE.bq λad e=>(hE.aw ad (.inl e)).1
 obtain⟨y0,y1,y2,y3,y4⟩:=hE.bx.cells;go_region_held3 (λw'=>w'.cell? N=some (.int .i64 nw)/\w'.cell? ⟨N,1,none⟩=some (.int .i64 sf)/\w'.cell? ⟨N,2,none⟩=some (.slice ao n c)/\w'.cell? ⟨N,3,none⟩=some (.slice bo m d)) (go_keep)
  (first|(go_at_call 55;refine HN.mono ?_;clear HN;rintro e w4 ⟨⟨s,rfl⟩,⟨q4,hq4,hq5,r4⟩,t4,b4⟩;have JK:=hE.to hR hN r4 t4 b4;clear r4 t4 b4;obtain⟨y0,y1,y2,y3,y4⟩:=JK.bx.cells;obtain⟨g0,g1,g2,g3,g4⟩:=JK.rs.cells;obtain⟨W9,e9,k9,KW,b9,n9⟩:=JK.fin;obtain⟨v0,v1,v2,v3,v4⟩:=(JK.bx.same (n9 N ab)).cells;replace n9:Hid _:=n9))
 go_wp2;obtain⟨q0,q1,q2,q3,q4⟩:=k9.cells;refine bodyPost_ret (v:=.tuple #[.agg #[nw,sf,.slice ao n c,.slice bo m d],s]) (by simp[results,Tryz.f24,go_sem,q0,q1,q2,q3]) rfl ⟨⟨_,_,_,_,_,f,_,_,_,t,_,rfl,KW⟩,b9⟩
theorem Js (a:Option Addr)(l cap:Nat)(cd:Nat->Int)(w:World)(h:ig w a l cd)(uP:l<=cap):
  Calls Tz.prog 28 #[.slice a l cap] w λe w'=>(∃(now shift:Int) (ao:Option Addr) (n c:Nat) (f:Nat->Mv) (bo:Option Addr) (m d:Nat) (t:Nat->Int),e=.returned (.agg #[now,shift,.slice ao n c,.slice bo m d])/\Bq w' now shift ao n c f bo m d t)/\Below w w w':=by
 obtain⟨W0,e0,k0,b0,z0⟩:=cI w 0 0 none 0 0 none 0 0;have OI:ig W0 a l cd:=by
  obtain⟨h1,h2,h3⟩:=h;refine⟨h1,h2.imp id λ⟨b,off,e,hl,hr⟩=>⟨b,off,e,ab,λi hi=>(b0.cell (p:=⟨b,off+i,none⟩) hl).trans (hr i hi)⟩,h3⟩
 have HO:=CW a l cap cd W0 OI uP;go_enter Tz.func28,Tryz.ntmps28
 go_wp2_with(first
  |(go_at_call 33;refine HO.mono ?_;clear HO;rintro e w1 ⟨rfl,r1,b1⟩;have z1:=b1.size;rw[z0]at r1;have lr1:=r1.lt;have Va:=BE (w.heap.size+1) 0 w1 w.heap.size ab r1 ab)
  |(go_at_call 53;refine Va.mono ?_;clear Va;rintro e w2 ⟨Sx,-,t2,b2⟩;obtain⟨nw,sf,ao,n,c,f,bo,m,d,t,rfl,W_,Y7⟩:=Ke Sx;have z2:=t2.size;have xA:am w2 w.heap.size 0 0 (.slice none 0 0) (.slice none 0 0):=k0.same ((t2.block _ ab ab).trans (b1.block _ ab));have B2:=(b0.trans (b1.mono b0.size)).trans b2;obtain⟨g0,g1,g2,g3,g4⟩:=xA.cells;obtain⟨W9,e9,k9,T_,hz9,hn9⟩:=bT xA B2 (ack _) nw sf ao n c bo m d))
 obtain⟨q0,q1,q2,q3,q4⟩:=k9.cells;refine bodyPost_ret (v:=.agg #[nw,sf,.slice ao n c,.slice bo m d]) (by simp[results,Tryz.f28,go_sem,q0,q1,q2,q3]) rfl ⟨⟨_,_,_,_,_,f,_,_,_,t,rfl,W_.same (Nat.le_of_eq hz9.symm) λad e=>hn9 _ (by have:=Y7 ad e;omega)⟩,T_⟩
