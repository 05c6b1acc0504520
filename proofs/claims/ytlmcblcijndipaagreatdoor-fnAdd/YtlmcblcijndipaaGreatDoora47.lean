import Derived.Test.YtlmcblcijndipaaGreatDoora46
set_option linter.defProp false
set_option linter.unnecessarySimpa false
set_option linter.unusedVariables false
set_option maxHeartbeats 4000000
set_option maxRecDepth 10000
namespace Go.Proofs.YtlmcblcijndipaaGreatDoor
open RowKit
variable {now q q' shift x0 x1:Int}{B N R Y b b' c d k l lo m n:Nat}{t:Nat->Int}{f:Nat->Mv}{ao bo:Option Addr}{p:Prop}{u v:Value}{W W' w w':World}
def qZ (w:World)(lo b n:Nat)(f:Nat->Mv):Prop:=lo<=b/\(∃cs,w.heap[b]?=some (.cells cs 31 (0,0))/\n*6<=cs.size)/\aI w b 0 n f
def qZ.of (h:w.ownsRow lo 31 6 (.slice b n c) n (aV f n)):qZ w lo b n f:=by
 let⟨h1,h2,cs,h3,h4⟩:=NR h;rw[bp]at h4;exact⟨h1,⟨cs,h3,h4⟩,dK h⟩
def qZ.lt (h:qZ w lo b n f):b<w:=by
 let⟨_,⟨cs,h1,_⟩,_⟩:=h;exact(ac7.1 h1).1
def qZ.same (h:qZ w lo b n f)(e:w'.heap[b]?=w.heap[b]?):qZ w' lo b n f:=by
 let⟨h1,⟨cs,h2,h3⟩,h4⟩:=h;exact⟨h1,⟨cs,e.trans h2,h3⟩,dL h4 e⟩
def qZ.ne (h:qZ w lo b n f)(hy:aH w Y x0 x1 v u):b≠Y:=λe=>by
 let⟨_,⟨cs,hc,_⟩,_⟩:=h;unfold aH at hy;rw[<-e,hc]at hy;simp at hy
def qZ.put (h:qZ w lo b n f)(hk:k<n)(m:Mv):qZ (fq w b (k*6) m) lo b n (λj=>if j=k then m else f j):=by
 let⟨h1,⟨cs,h2,h3⟩,h4⟩:=h;refine⟨h1,?_,Q5 h4 h2 h3 hk m⟩;have g:=λ(W:World) (cs:Array Value) (hc:W.heap[b]?=some (.cells cs 31 (0,0))) (j:Nat) (v:Value)=>heap_setCell_same W b j _ _ v hc
 exact⟨_,g _ _ (g _ _ (g _ _ (g _ _ (g _ _ (g _ _ h2 _ _) _ _) _ _) _ _) _ _) _ _,by simpa using h3⟩
structure Sp (w:World)(lo b n:Nat)(f:Nat->Mv)(b' m:Nat)(t:Nat->Int):Prop where
 vD:n<=6
 mm:m<=6
 fit:∀i,i<n->iz (f i)
 om:qZ w lo b n f
 ot:lI w lo b' m t
section
variable {Cw:Nat}
def Sp.same (h:Sp w lo b n f b' m t)(e:∀k,lo<=k->k<w.heap.size->w'.heap[k]?=w.heap[k]?):Sp w' lo b n f b' m t:=
 ⟨h.vD,h.mm,h.fit,h.om.same<|e b h.om.1 h.om.lt,h.ot.same<|e b' h.ot.1 h.ot.lt⟩
def Sp.mono (h:Sp w lo b n f b' m t)(hl:Cw<=lo):Sp w Cw b n f b' m t:=⟨h.vD,h.mm,h.fit,⟨ac8 hl h.om.1,h.om.2⟩,ac8 hl h.ot.1,h.ot.2⟩
def Sp.off (h:Sp w lo b n f b' m t)(hy:aH w Y x0 x1 v u)(e:∀k,k≠Y->w'.heap[k]?=w.heap[k]?):Sp w' lo b n f b' m t:=by
 refine⟨h.vD,h.mm,h.fit,h.om.same<|e b<|h.om.ne hy,h.ot.same<|e b' ?_⟩;intro e';let⟨_,⟨cs,hc⟩,_⟩:=h.ot;unfold aH at hy;rw[<-e',hc]at hy;simp at hy
def Sp.apart (h:Sp w lo b n f b' m t):b≠b':=λe=>by
 let⟨_,⟨cs,h1,_⟩,_⟩:=h.om;let⟨_,⟨cs',h2⟩,_⟩:=h.ot;rw[<-e,h1]at h2;simp at h2
end
structure Rx (R ay:Nat)(w:World)(N M:Nat)(q now shift:Int)(b n c:Nat)(f:Nat->Mv)(b' m d:Nat)(t:Nat->Int)(W:World):Prop where
 rd:Rd W R q
 but:fH R w W
 below:Below ay w W
 bx:aH W N now shift (.slice b n c) (.slice b' m d)
 rs:aH W M 0 0 () ()
 sp:Sp W w.heap.size b n f b' m t
 room:m<=d
 nb:-1<=now/\now<=10009
section
variable {ay M:Nat}
def Rx.to (h:Rx R ay w N M q now shift b n c f b' m d t W)(hR:R<w)(hN:R<N)(hM:R<M)(r:Rd W' R q')(bu:fH R W W')(l:Below ay W W'):Rx R ay w N M q' now shift b n c f b' m d t W':=
 ⟨r,h.but.trans bu,h.below.trans l,h.bx.same<|bu.block _ h.bx.lt aa,h.rs.same<|bu.block _ h.rs.lt aa,h.sp.same λk hk hl=>bu.block k hl aa,h.room,h.nb⟩
def Rx.grow (h:Rx R ay w N M q now shift b n c f b' m d t W)(h0:ay<=R)(bl:Below W W W'):Rx R ay w N M q now shift b n c f b' m d t W':=by
 have hr:=h.rd.lt;exact⟨h.rd.below bl,h.but.trans<|fH.of bl,h.below.trans<|bl.mono aa,h.bx.same<|bl.block _ h.bx.lt,h.rs.same<|bl.block _ h.rs.lt,h.sp.same λk _ hl=>bl.block k hl,h.room,h.nb⟩
def Rx.turn (h:Rx R ay w N M q now shift b n c f b' m d t W)(h0:ay<=R)(hR:R<w)(hY:w.heap.size<=Y)(j:Nat)(v:Value):Rd (W.setCell ⟨Y,j,none⟩ v) R q/\fH R w (W.setCell ⟨Y,j,none⟩ v)/\Below ay w (W.setCell ⟨Y,j,none⟩ v):=
 ⟨h.rd.set aa _ _,⟨by simpa using h.but.size,λi hi hne=>(acY _ _ _ _ cU).trans<|h.but.block i hi hne⟩,h.below.setCell cU _⟩
def Rx.Oe (h:Rx R ay w N M q now shift b n c f b' m d t W)(h0:ay<=R)(hR:R<w)(hN:w.heap.size<=N)(hM:N≠M)(x:Int)(hx:-1<=x/\x<=10009:=by omega):∃W',W.setCell N x=W'/\Rx R ay w N M q x shift b n c f b' m d t W':=by
 let⟨a1,a2,a3⟩:=h.turn h0 hR hN 0<|.int .i64 x;refine⟨_,rfl,a1,a2,a3,?_,h.rs.same<|acY _ _ _ _<|by simpa usingλe=>hM e.symm,h.sp.off h.bx λk hk=>acY _ _ _ _<|by simpa using hk,h.room,hx⟩;have:=heap_setCell_same W N 0 _ _ x h.bx;simpa[aH]using this
def Rx.Of (h:Rx R ay w N M q now shift b n c f b' m d t W)(h0:ay<=R)(hR:R<w)(hN:w.heap.size<=N)(hM:N≠M)(x:Int):∃W',W.setCell ⟨N,1,none⟩ x=W'/\Rx R ay w N M q now x b n c f b' m d t W':=by
 let⟨a1,a2,a3⟩:=h.turn h0 hR hN 1<|.int .i64 x;refine⟨_,rfl,a1,a2,a3,?_,h.rs.same<|acY _ _ _ _<|by simpa usingλe=>hM e.symm,h.sp.off h.bx λk hk=>acY _ _ _ _<|by simpa using hk,h.room,h.nb⟩;have:=heap_setCell_same W N 1 _ _ x h.bx;simpa[aH]using this
def Rx.cut (h:Rx R ay w N M q now shift b n c f b' m d t W)(h0:ay<=R)(hR:R<w)(hN:w.heap.size<=N)(hM:N≠M)(hk:k<=m)(d':Nat)(hd:k<=d':=by omega):∃W',W.setCell ⟨N,3,none⟩ (.slice b' k d')=W'/\Rx R ay w N M q now shift b n c f b' k d' t W':=by
 let⟨a1,a2,a3⟩:=h.turn h0 hR hN 3<|.slice (some ⟨b',0,none⟩) k d';have s:=h.sp.off h.bx (w':=W.setCell ⟨N,3,none⟩<|.slice b' k d') (λk hk=>acY _ _ _ _<|by simpa using hk);refine⟨_,rfl,a1,a2,a3,?_,h.rs.same<|acY _ _ _ _<|by simpa usingλe=>hM e.symm,⟨s.vD,by have:=s.mm;omega,s.fit,s.om,s.ot.1,s.ot.2.1,λi hi=>s.ot.2.2 i aa⟩,hd,h.nb⟩;have:=heap_setCell_same W N 3 _ _ (.slice b' k d') h.bx;simpa[aH]using this
def lI.set (h:lI W lo b' m t)(hk:k<m)(x:Int):lI (W.setCell ⟨b',k,none⟩ x) lo b' m (λj=>if j=k then x else t j):=by
 let⟨h1,⟨cs,h2⟩,h3⟩:=h;exact⟨h1,⟨_,heap_setCell_same W b' k _ _ _ h2⟩,h3.set hk x⟩
def Rx.tick (h:Rx R ay w N M q now shift b n c f b' m d t W)(h0:ay<=R)(hR:R<w)(hk:k<m)(x:Int):∃W',W.setCell ⟨b',k,none⟩ x=W'/\Rx R ay w N M q now shift b n c f b' m d (λj=>if j=k then x else t j) W':=by
 have hb:=h.sp.ot.1;let⟨a1,a2,a3⟩:=h.turn h0 hR hb k<|.int .i64 x;have ne:∀Y x0 x1 v u,aH W Y x0 x1 v u->Y≠b':=λY x0 x1 v u hy e=>by
  let⟨_,⟨cs,hc⟩,_⟩:=h.sp.ot;unfold aH at hy;rw[e,hc]at hy;simp at hy
 refine⟨_,rfl,a1,a2,a3,h.bx.same<|acY _ _ _ _<|by simpa using ne _ _ _ _ _ h.bx,h.rs.same<|acY _ _ _ _<|by simpa using ne _ _ _ _ _ h.rs,⟨h.sp.vD,h.sp.mm,h.sp.fit,h.sp.om.same<|acY _ _ _ _<|by simpa using h.sp.apart,h.sp.ot.set hk x⟩,h.room,h.nb⟩
def Rx.VO (h:Rx R ay w N M q now shift b n c f b' m d t W)(h0:ay<=R)(hR:R<w)(hk:k<m)(x:Int):Rx R ay w N M q now shift b n c f b' m d (λj=>if j=k then x else t j) (W.setCell ⟨b',k,none⟩ x):=by
 obtain⟨W',rfl,h⟩:=h.tick h0 hR hk x;exact h
def Rx.mv (h:Rx R ay w N M q now shift b n c f b' m d t W)(h0:ay<=R)(hR:R<w)(hk:k<n){x:Mv}(hx:iz x):Rx R ay w N M q now shift b n c (λj=>if j=k then x else f j) b' m d t (fq W b (k*6) x):=by
 have hb:=h.sp.om.1;have e:=p8 W b (k*6) x;refine⟨h.rd.fq aa _ _,JH h.but hb _ _,va h.below aa _ _,h.bx.same<|e _ (h.sp.om.ne h.bx).symm,h.rs.same<|e _ (h.sp.om.ne h.rs).symm,⟨h.sp.vD,h.sp.mm,λj hj=>?_,h.sp.om.put hk x,h.sp.ot.same<|e _ h.sp.apart.symm⟩,h.room,h.nb⟩;by_cases q:j=k
 .simp only[if_pos q];exact hx
 .simp only[if_neg q];exact h.sp.fit j hj
def Rx.fin (h:Rx R ay w N M q now shift b n c f b' m d t W)(h0:ay<=R)(hR:R<w)(hM:w.heap.size<=M):∃W',((((W.setCell M now).setCell ⟨M,1,none⟩ shift).setCell ⟨M,2,none⟩<|.slice b n c).setCell ⟨M,3,none⟩<|.slice b' m d)=W'/\aH W' M now shift (.slice b n c) (.slice b' m d)/\Sp W' w.heap.size b n f b' m t/\Rd W' R q/\fH R w W'/\Below ay w W':=by
 let⟨W',e,k,dw,hz,hn⟩:=bJ h.rs h.below aa now shift (some ⟨b,0,none⟩) n c (some ⟨b',0,none⟩) m d;refine⟨W',e,k,h.sp.off h.rs hn,?_,⟨by rw[hz];exact h.but.size,λi hi hne=>(hn i aa).trans<|h.but.block i hi hne⟩,dw⟩;rw[<-e];exact(((h.rd.set aa _ _).set aa _ _).set aa _ _).set aa _ _
end
def RP (lo:Nat)(e:Ending)(w':World):Prop:=∃(now shift:Int) (b n c:Nat) (f:Nat->Mv) (b' m d:Nat) (t:Nat->Int),e=.returned (.agg #[.int .i64 now,.int .i64 shift,.slice (some ⟨b,0,none⟩) n c,.slice (some ⟨b',0,none⟩) m d])/\Sp w' lo b n f b' m t/\m<=d/\-1<=now/\now<=10009
def LT (w:World)(cs:Array Value):∃W,w.alloc (.cells cs 3)=W/\W.heap[w.heap.size]?=some (.cells cs 3 (0,0))/\Below w.heap.size w W/\W.heap.size=w.heap.size+1:=
 ⟨_,rfl,heap_alloc_new w _,(acW _ w).alloc (ac5 _) _,aF⟩
def at2 (a b:Int)(k:Nat)(hk:k<2):∃v:Int,(#[.int .i64 a,.int .i64 b]:Array Value)[k]?=some (.int .i64 v)/\(v=a\/v=b):=by
 match k,hk with
 |0,_=>exact⟨a,rfl,.inl rfl⟩
 |1,_=>exact⟨b,rfl,.inr rfl⟩
def Hd (R:Nat)(p:Int)(now shift:Int)(ao:Option Addr)(n c:Nat)(f:Nat->Mv)(bo:Option Addr)(d:Nat)(t:Nat->Int)(w:World)(ay:Nat)(h0:ay<=R)(hr:Rd w R p)(hp:p<=600000)(hB:nB w lo now shift ao n c f bo d t):
  Calls Tz.prog 82 #[.pointer<|some ⟨R,0,none⟩,.agg #[.int .i64 now,.int .i64 shift,.slice ao n c,.slice bo n d]] w λe w'=>RP w.heap.size e w'/\Bj R p 20 ay w w':=by
 have hR:=hr.lt;have h6:=hB.vD;have IK:=hB.now;have ku:=hB.sh;obtain⟨W0,jh⟩:∃W,W=(w.alloc<|.cells #[.int .i64 now,.int .i64 shift,.slice ao n c,.slice bo n d] 29).alloc (.cells #[(0:Int),(0:Int),.slice none 0 0,.slice none 0 0] 29):=⟨_,rfl⟩;have b0:Below w.heap.size w W0:=by rw[jh];exact((acW _ w).alloc (ac5 _) _).alloc aF _
 have ww:aH W0 w.heap.size now shift (.slice ao n c) (.slice bo n d):=by rw[jh];exact(acX _ _ _ aF).trans<|heap_alloc_new _ _
 have qQ:aH W0 (w.heap.size+1) 0 0 (.slice none 0 0) (.slice none 0 0):=by rw[jh];exact dq _ _ _
 have gj:W0.heap.size=w.heap.size+2:=by rw[jh];simp
 have HC:=fK now shift ao n c f bo n d t W0 aa aa (hB.below b0).OC (hB.below b0).VK;rw[jh]at HC;have hX:∀(w2 W3:World) (Bx cx Bi ci:Nat),Below W0.heap.size W0 w2->w2.ownsRow W0.heap.size 31 6 (.slice (some ⟨Bx,0,none⟩) n cx) n (aV f n)->w2.ownsRow W0.heap.size 3 1 (.slice (some ⟨Bi,0,none⟩) n ci) n (dX t n)->Below w2.heap.size w2 W3->aH W3 w2.heap.size now shift (.slice (some ⟨Bx,0,none⟩) n cx) (.slice (some ⟨Bi,0,none⟩) n ci)->Rx R ay w w2.heap.size (w.heap.size+1) p now shift Bx n cx f Bi n ci t W3:=λw2 W3 Bx cx Bi ci b2 oM oI b3 k3=>by
  have z2:=b2.size;have B2:=b0.trans<|b2.mono b0.size;have B3:=B2.trans<|b3.mono B2.size;refine⟨hr.below B3,fH.of B3,B3.mono aa,k3,qQ.same<|(b3.block _ aa).trans<|b2.block _ aa,⟨h6,h6,λi hi=>(CB<|hB.ok i hi).fitting,qZ.of<|bY (az oM λB hB=>b3.block B (oM.lt B hB).2) aa,lI.of<|bY (az oI λB hB=>b3.block B (oI.lt B hB).2) aa⟩,(eN oI).2.2,by omega⟩
 by_cases hn:n=0
 .subst hn;go_enter Tz.func82,Tryz.ntmps82
  let⟨y0,y1,y2,y3,y4⟩:=ww.cells;go_wp2_with(first
   |(go_at_call 40;refine HC.mono ?_;clear HC;rintro e w2 ⟨⟨Bx,cx,Bi,ci,rfl,oM,oI⟩,b2⟩;rw[<-jh]at oM oI b2;let⟨W3,e3,k3,b3,z3⟩:=cr w2 now shift (some ⟨Bx,0,none⟩) 0 cx (some ⟨Bi,0,none⟩) 0 ci;have hS:=hX w2 W3 Bx cx Bi ci b2 oM oI b3 k3;have lN:=hS.bx.lt;have lN2:w.heap.size+1<w2.heap.size:=(by have:=b2.size;omega);let⟨p0,p1,p2,p3,p4⟩:=k3.cells;let⟨WL,eL,kL,bL,zL⟩:=LT W3 #[.int .i64 (-1),(10001:Int)];have Wn:=hS.grow h0 bL;have lz:R<W3.heap.size:=hS.rd.lt;have H2:=bG R p 2 WL ay h0 Wn.rd aa aa aa;clear z3 zL)
   |(go_at_call 34;refine H2.mono ?_;clear H2;rintro e w4 ⟨⟨z,rfl,l1,u1⟩,r4,t4,b4⟩;obtain⟨k,rfl⟩:∃k:Nat,z=(k:Int):=⟨z.toNat,aa⟩;have fe:=Wn.to hR aa aa r4 t4 b4;let⟨v,hv,UX⟩:=at2 (-1) 10001 k aa;have hc:w4.cell? ⟨W3.heap.size,k,none⟩=some (.int .i64 v):=(cell_of_row _ _ _ _ _ _<|(t4.block _ (ac7.1 kL).1 aa).trans kL).trans hv;let⟨p0,p1,p2,p3,p4⟩:=fe.bx.cells;let⟨W5,e5,gC⟩:=fe.Oe h0 hR aa aa v;let⟨g0,g1,g2,g3,g4⟩:=gC.bx.cells;let⟨r0,r1,r2,r3,r4'⟩:=gC.rs.cells))
  let⟨W6,e6,k6,DX,aba,aaM,aaJ⟩:=gC.fin h0 hR aa;rw[e6];let⟨q0,q1,q2,q3,q4⟩:=k6.cells;exact bodyPost_ret (v:=.agg #[.int .i64 v,.int .i64 shift,.slice (some ⟨Bx,0,none⟩) 0 cx,.slice (some ⟨Bi,0,none⟩) 0 ci]) (by simp[results,Tryz.f82,go_sem,q0,q1,q2,q3]) rfl ⟨⟨v,shift,Bx,0,cx,f,Bi,0,ci,t,rfl,DX,gC.room,gC.nb⟩,⟨_,aa,aa,aba⟩,aaM,aaJ⟩
 have Ln:¬(n:Int)=0:=aa;go_enter Tz.func82,Tryz.ntmps82
 refine lG [_,_,_,_] (λa' w'=>∃(k N b c2 b' d2:Nat),k<n/\n<=d2/\w.heap.size+1<N/\Rx R ay w N (w.heap.size+1) (p+1) now shift b n c2 f b' n d2 t w'/\gZ a' (rW 78 [(0,.pointer<|some ⟨R,0,none⟩),(4,.pointer<|some ⟨w.heap.size+1,0,none⟩),(5,.pointer<|some ⟨N,0,none⟩),(6,.int .i64 k)])) ?_ ?_
 .simp only[aD];let⟨y0,y1,y2,y3,y4⟩:=ww.cells;go_wp2_with(first
   |(go_at_call 40;refine HC.mono ?_;clear HC;rintro e w2 ⟨⟨Bx,cx,Bi,ci,rfl,oM,oI⟩,b2⟩;rw[<-jh]at oM oI b2;have O3:=(eN oI).2.2;let⟨W3,e3,k3,b3,z3⟩:=cr w2 now shift (some ⟨Bx,0,none⟩) n cx (some ⟨Bi,0,none⟩) n ci;have hS:=hX w2 W3 Bx cx Bi ci b2 oM oI b3 k3;have lN2:w.heap.size+1<w2.heap.size:=(by have:=b2.size;omega);let⟨p0,p1,p2,p3,p4⟩:=k3.cells;have H2:=bG R p n W3 ay h0 hS.rd aa aa aa;clear z3)
   |(go_at_call 34;refine H2.mono ?_;clear H2;rintro e w4 ⟨⟨z,rfl,l1,u1⟩,r4,t4,b4⟩;obtain⟨k,rfl⟩:∃k:Nat,z=(k:Int):=⟨z.toNat,aa⟩;have fe:=hS.to hR aa aa r4 t4 b4))
  all_goals try omega
  exact⟨k,_,_,_,_,_,aa,O3,lN2,fe,rfl,rfl⟩
 clear HC hX ww qQ b0 jh gj Ln;rintro a' w1 ⟨k,N,b,c2,b',d2,hk,Sf,hN,hS,fu⟩;obtain⟨u,rfl⟩:=fu.open;clear fu;refine lG [_] (λa' w'=>∃(nw sf:Int) (b2 n2 c2:Nat) (f2:Nat->Mv) (A' m2 d2:Nat) (t2:Nat->Int) (q:Int),p<=q/\q<=p+20/\Rx R ay w N (w.heap.size+1) q nw sf b2 n2 c2 f2 A' m2 d2 t2 w'/\gZ a' (rW 78 [(4,.pointer<|some ⟨w.heap.size+1,0,none⟩),(5,.pointer<|some ⟨N,0,none⟩)])) ?_ ?_
 .simp only[aD];have H5:=bG R (p+1) 5 w1 ay h0 hS.rd aa aa aa;have hkd:(k:Int)<=d2:=aa;have uE:(0:Int)<=k:=aa;go_wp2_with(first
   |(go_at_call 34;refine H5.mono ?_;clear H5;rintro e w2 ⟨⟨z5,rfl,l5,u5⟩,r5,t5,b5⟩;have gC:=hS.to hR aa aa r5 t5 b5;let⟨p0,p1,p2,p3,p4⟩:=gC.bx.cells;let⟨WC,eC,hSC⟩:=gC.cut h0 hR aa aa (k:=k) aa d2;let⟨WL,eL,kL,bL,zL⟩:=LT w2 #[.int .i64 (-1),(6:Int),(7:Int)];have Wn:=gC.grow h0 bL;have lz:R<w2.heap.size:=gC.rd.lt;have HQ:=bG R (p+1+1) 3 WL ay h0 Wn.rd aa aa aa;clear zL)
   |(go_at_call 34;refine HQ.mono ?_;clear HQ;rintro e w4 ⟨⟨z,rfl,l1,u1⟩,r4,t4,b4⟩;obtain⟨j,rfl⟩:∃j:Nat,z=(j:Int):=⟨z.toNat,aa⟩;have fe:=Wn.to hR aa aa r4 t4 b4;let⟨v,hv,UX⟩:=Xt (-1) 6 7 j aa;have hc:w4.cell? ⟨w2.heap.size,j,none⟩=some (.int .i64 v):=(cell_of_row _ _ _ _ _ _<|(t4.block _ (ac7.1 kL).1 aa).trans kL).trans hv;let⟨p0,p1,p2,p3,p4⟩:=fe.bx.cells;let⟨W6,e6,pb⟩:=fe.Of h0 hR aa aa v))
  all_goals first
   |exact⟨_,_,_,_,_,_,_,_,_,_,_,aa,aa,pb,rfl,rfl⟩
   |exact⟨_,_,_,_,_,_,_,_,_,_,_,aa,aa,hSC,rfl,rfl⟩
   |skip
  all_goals
   clear HQ Wn kL bL eL eC hSC;have hD:=gC.grow h0 (acW _ _).drew;let⟨p0,p1,p2,p3,p4⟩:=hD.bx.cells;have lz2:=hD.rd.lt
  focus
   have H9:=bG R (p+1+1) 9 w2.drew ay h0 hD.rd aa aa aa;have FE:IntKind.i64.wrap (now+1)=now+1:=hZ;go_region_with(first|(go_at_call 34;refine H9.mono ?_;clear H9;rintro e w4 ⟨⟨z,rfl,l1,u1⟩,r4,t4,b4⟩;have fe:=hD.to hR aa aa r4 t4 b4;let⟨p0,p1,p2,p3,p4⟩:=fe.bx.cells;have GG:IntKind.i64.wrap (now+1+z)=now+1+z:=hZ;let⟨W6,e6,pb⟩:=fe.Oe h0 hR aa aa<|now+1+z))
   all_goals
    go_wp2;exact⟨_,_,_,_,_,_,_,_,_,_,_,aa,aa,pb,rfl,rfl⟩
  focus
   let⟨_,⟨cs,hcs,jQ⟩,aq⟩:=hD.sp.om;let⟨c0,c1,R2,c3,c4,c5⟩:=aq k hk;simp only[Nat.zero_add]at c0 c1 R2 c3 c4 c5;have YN:b<w2.drew.heap.size:=hD.sp.om.lt;have tD:(k:Int)<n:=aa;have Xl:=A1 R (p+1+1) (f k) w2.drew ay h0 hD.rd aa<|CB<|hB.ok k hk;go_region_with(first|(go_at_call 54;refine Xl.mono ?_;clear Xl;rintro e w4 ⟨⟨m',rfl,J7⟩,⟨q4,hq4,hq5,r4⟩,t4,b4⟩;have fe:=hD.to hR aa aa r4 t4 b4;let⟨p0,p1,p2,p3,p4⟩:=fe.bx.cells;let⟨_,⟨cs4,Uz,acx⟩,DV⟩:=fe.sp.om;let⟨c0,c1,R2,c3,c4,c5⟩:=DV k hk;simp only[Nat.zero_add]at c0 c1 R2 c3 c4 c5;have fr:=λj=>frozen_of_row w4 _ j _ _ Uz;have aa3:b<w4.heap.size:=fe.sp.om.lt;have pb:=fe.mv h0 hR hk J7))
   all_goals
    go_wp2;exact⟨_,_,_,_,_,_,_,_,_,_,_,aa,aa,pb,rfl,rfl⟩
  focus
   let⟨_,⟨cs,hcs⟩,aq⟩:=hD.sp.ot;have tk:=aq k hk;simp only[Nat.zero_add]at tk;have YN:b'<w2.drew.heap.size:=hD.sp.ot.lt;have tD:(k:Int)<n:=aa;have H9:=bG R (p+1+1) 5 w2.drew ay h0 hD.rd aa aa aa;go_region_with(first|(go_at_call 34;refine H9.mono ?_;clear H9;rintro e w4 ⟨⟨z,rfl,l1,u1⟩,r4,t4,b4⟩;have fe:=hD.to hR aa aa r4 t4 b4;let⟨p0,p1,p2,p3,p4⟩:=fe.bx.cells;let⟨_,⟨cs4,Uz⟩,DV⟩:=fe.sp.ot;have tk:=DV k hk;simp only[Nat.zero_add]at tk;have fr:=λj=>frozen_of_row w4 _ j _ _ Uz;have aa3:b'<w4.heap.size:=fe.sp.ot.lt;have pb:=λx=>fe.VO h0 hR hk x))
   all_goals
    go_wp2;exact⟨_,_,_,_,_,_,_,_,_,_,_,aa,aa,pb _,rfl,rfl⟩
 rintro a' w2 ⟨nw,sf,b2,n2,c3,f2,A',m2,d3,t2,q2,qj,Sz,oR,fu⟩;clear u hS;obtain⟨u,rfl⟩:=fu.open;clear fu;let⟨y0,y1,y2,y3,y4⟩:=oR.bx.cells;let⟨r0,r1,r2,r3,r4⟩:=oR.rs.cells;go_wp2;let⟨W5,e5,k5,tE,GC,Gt,Gr⟩:=oR.fin h0 hR aa;rw[e5];let⟨q0',Vs,ZY,q3',q4'⟩:=k5.cells;exact bodyPost_ret (v:=.agg #[.int .i64 nw,.int .i64 sf,.slice (some ⟨b2,0,none⟩) n2 c3,.slice (some ⟨A',0,none⟩) m2 d3]) (by simp[results,Tryz.f82,go_sem,q0',Vs,ZY,q3']) rfl ⟨⟨nw,sf,b2,n2,c3,f2,A',m2,d3,t2,rfl,tE,oR.room,oR.nb⟩,⟨_,qj,Sz,GC⟩,Gt,Gr⟩
def FJ (lo:Nat)(e:Ending)(w':World):Prop:=(∃now shift:Int,e=.returned (.agg #[.int .i64 now,.int .i64 shift,(),()])/\(0<=now/\now<=10000)/\0<=shift/\shift<=6)\/RP lo e w'
def Tq (h:nB w lo now shift ao n c f bo d t):FJ lo (.returned<|.agg #[now,shift,.slice ao n c,.slice bo n d]) w:=by
 rcases h.mem with⟨rfl,rfl,rfl,rfl,rfl⟩|⟨b,b',rfl,rfl,o1,hd,o2⟩
 .exact .inl ⟨now,shift,rfl,h.now,h.sh⟩
 .exact .inr ⟨now,shift,b,n,c,f,b',n,d,t,rfl,⟨h.vD,h.vD,λi hi=>(CB<|h.ok i hi).fitting,qZ.of o1,o2⟩,hd,by have:=h.now;omega⟩
def Dw (R:Nat)(p:Int)(w:World)(ay:Nat)(h0:ay<=R)(hr:Rd w R p)(hp:p<=500000):
  Calls Tz.prog 53 #[.pointer R] w λe w'=>FJ (R+1) e w'/\Bj R p 450 ay w w':=by
 have hR:=hr.lt;let⟨W0,e0,k0,b0,z0⟩:=cr w 0 0 none 0 0 none 0 0;have HBK:=JF R p W0 ay h0 (hr.below b0) hp;go_enter Tz.func53,Tryz.ntmps53
 go_wp2_with(first
  |(go_at_call 81;refine HBK.mono ?_;clear HBK;rintro e w1 ⟨⟨nw,sf,ao,n,c,f,bo,d,t,rfl,rr⟩,⟨q1,DS,qj,r1⟩,t1,b1⟩;have eO:=t1.size;let⟨W2,e2,k2,b2,z2⟩:=cr w1 nw sf ao n c bo n d;have hS:Rs R ay w w1.heap.size w.heap.size q1 nw sf ao n c f bo d t W2:=⟨r1.below b2,((fH.of b0).trans t1).trans<|fH.of b2,((b0.mono aa).trans b1).trans<|b2.mono aa,k2,k0.same<|(b2.block _ aa).trans<|t1.block _ aa aa,rr.below b2⟩;have e2h:Hid (w1.alloc (.cells #[.int .i64 nw,.int .i64 sf,.slice ao n c,.slice bo n d] 29)=W2):=e2;clear e2 z2;have H2:=bG R q1 16 W2 ay h0 hS.rd aa aa aa;rw[<-e2h.out]at H2)
  |(go_at_call 34;refine H2.mono ?_;clear H2;rintro e w3 ⟨⟨z3,rfl,l3,u3⟩,r3,t3,b3⟩;rw[e2h.out]at t3 b3;have vu:=hS.to aa aa r3 t3 b3;let⟨y0,y1,y2,y3,y4⟩:=vu.bx.cells;let⟨g0,g1,g2,g3,g4⟩:=vu.rs.cells;have Xl:=Hd R (q1+1) nw sf ao n c f bo d t w3 ay h0 r3 aa vu.F0)
  |(go_at_call 82;refine Xl.mono ?_;clear Xl;rintro e w4 ⟨⟨nw4,sf4,Tu,n4,c4,f4,bi4,m4,d4,t4',rfl,FD,aa6⟩,⟨q4,hq4,hq5,r4⟩,t4,b4⟩;have fe:=vu.to aa aa r4 t4 b4;let⟨g0,g1,g2,g3,g4⟩:=fe.rs.cells))
 all_goals first
  |(let⟨W5,e5,k5,ix,rF,mo⟩:=bJ fe.rs fe.below aa nw4 sf4 (some ⟨Tu,0,none⟩) n4 c4 (some ⟨bi4,0,none⟩) m4 d4
    rw[e5];let⟨q0,Vs,q2,q3,q4'⟩:=k5.cells;refine bodyPost_ret (v:=.agg #[nw4,sf4,.slice Tu n4 c4,.slice bi4 m4 d4]) (by simp[results,Tryz.f53,go_sem,q0,Vs,q2,q3]) rfl ⟨.inr ⟨nw4,sf4,Tu,n4,c4,f4,bi4,m4,d4,t4',rfl,(FD.off fe.rs mo).mono (by have:=vu.rd.lt;omega),aa6⟩,⟨q4,aa,aa,?_⟩,⟨by rw[rF];exact fe.but.size,λi hi hne=>(mo i aa).trans<|fe.but.block i hi hne⟩,ix⟩;rw[<-e5];exact(((fe.rd.set aa _ _).set aa _ _).set aa _ _).set aa _ _)
  |(let⟨W5,e5,k5,MH,GC,Gt,Gr⟩:=vu.fin h0 hR aa
    rw[e5];let⟨q0,Vs,q2,q3,q4'⟩:=k5.cells;exact bodyPost_ret (v:=.agg #[nw,sf,.slice ao n c,.slice bo n d]) (by simp[results,Tryz.f53,go_sem,q0,Vs,q2,q3]) rfl ⟨Tq MH,⟨_,aa,aa,GC⟩,Gt,Gr⟩)
def sK {m:Mv}(h:iz m):m.Fits:=⟨by have:=h.name;unfold maxLen;omega,oL h.ap,oL h.aW,oL h.late,oL h.prom⟩
def Bq.same (h:Bq w now shift ao n c f bo m d t)(hz:w.heap.size<=W)(e:∀ad,ao=some ad\/bo=some ad->W.heap[ad.block]?=w.heap[ad.block]?):Bq W now shift ao n c f bo m d t:=
 ⟨h.n6,h.m6,⟨h.sm.1,λad had=>by obtain⟨b,rfl,hl,hr⟩:=h.sm.2 ad had;exact⟨b,rfl,ac6 hl hz,dL hr<|e _<|.inl had⟩⟩,⟨h.si.1,λad had=>by obtain⟨b,rfl,hl,hr⟩:=h.si.2 ad had;exact⟨b,rfl,ac6 hl hz,xE hr<|e _<|.inr had⟩⟩,h.two,h.fit⟩
def Sp.bq (h:Sp w lo b n f b' m t)(now shift:Int)(c d:Nat):Bq w now shift b n c f b' m d t:=
 ⟨h.vD,h.mm,⟨(λe=>nomatch e),λad e=>by cases e;exact⟨b,rfl,h.om.lt,h.om.2.2⟩⟩,⟨(λe=>nomatch e),λad e=>by cases e;exact⟨b',rfl,h.ot.lt,h.ot.2.2⟩⟩,(λe=>by rcases e with e|e<;>nomatch e),λi hi=>sK<|h.fit i hi⟩
def TC (w:World)(f:Nat->Mv)(t:Nat->Int)(h1:0<=now/\now<=10000)(h2:0<=shift/\shift<=6):Bq w now shift none 0 0 f none 0 0 t:=
 ⟨aa,aa,⟨λ_=>⟨rfl,rfl⟩,λad e=>nomatch e⟩,⟨λ_=>⟨rfl,rfl⟩,λad e=>nomatch e⟩,λ_=>⟨rfl,rfl,h1,h2⟩,λi hi=>absurd hi<|ac9 _⟩
def Bq.at_ (h:Bq w now shift ao n c f bo m d t)(hn:0<n):∃b b',ao=some ⟨b,0,none⟩/\bo=some ⟨b',0,none⟩/\b<w.heap.size/\aI w b 0 n f/\b'<w.heap.size/\aA w b' 0 m t:=
 h.cases (λe=>absurd e aa) (λb b' e1 e2 h1 h2 h3 h4=>⟨b,b',e1,e2,h1,h2,h3,h4⟩)
def LI {e:Ending}(h:FJ (R+1) e w'):∃(nw sf:Int) (ao:Option Addr) (n c:Nat) (f:Nat->Mv) (bo:Option Addr) (m d:Nat) (t:Nat->Int),e=.returned (.agg #[nw,sf,.slice ao n c,.slice bo m d])/\Bq w' nw sf ao n c f bo m d t/\(∀ad,ao=some ad\/bo=some ad->R<ad.block/\ad.block<w'.heap.size)/\m<=d/\-1<=nw/\nw<=10009:=by
 rcases h with⟨nw,sf,rfl,h1,h2⟩|⟨nw,sf,b,n,c,f,b',m,d,t,rfl,hs,II⟩
 .exact⟨nw,sf,none,0,0,λ_=>sw,none,0,0,λ_=>0,rfl,TC _ _ _ h1 h2,(λad e=>by rcases e with e|e<;>nomatch e),ac5 _,by omega⟩
 .exact⟨nw,sf,_,n,c,f,_,m,d,t,rfl,hs.bq nw sf c d,(λad e=>by rcases e with e|e<;>cases e<;>first|exact⟨hs.om.1,hs.om.lt⟩|exact⟨hs.ot.1,hs.ot.lt⟩),II⟩
structure Dq (R:Nat)(w:World)(N:Nat)(q now shift:Int)(ao:Option Addr)(n c:Nat)(f:Nat->Mv)(bo:Option Addr)(m d:Nat)(t:Nat->Int)(W:World):Prop where
 rd:Rd W R q
 below:Below w w W
 bx:aH W N now shift (.slice ao n c) (.slice bo m d)
 rs:aH W w.heap.size 0 0 () ()
 bq:Bq W now shift ao n c f bo m d t
 aw:∀ad,ao=some ad\/bo=some ad->ad.block≠R/\ad.block≠N/\ad.block≠w.heap.size
def Bq.lt (h:Bq W now shift ao n c f bo m d t){ad:Addr}(e:ao=some ad\/bo=some ad):ad.block<W:=by
 rcases e with e|e
 .obtain⟨b,rfl,hl,_⟩:=h.sm.2 ad e;exact hl
 .obtain⟨b,rfl,hl,_⟩:=h.si.2 ad e;exact hl
def Dq.to (h:Dq R w N q now shift ao n c f bo m d t W)(hR:w.heap.size<R)(hN:R<N)(r:Rd W' R q')(b:fH R W W')(l:Below w W W'):Dq R w N q' now shift ao n c f bo m d t W':=
 ⟨r,h.below.trans l,h.bx.same<|b.block _ h.bx.lt aa,h.rs.same<|b.block _ h.rs.lt aa,h.bq.same b.size λad e=>b.block _ (h.bq.lt e) (h.aw ad e).1,h.aw⟩
def Dq.grow (h:Dq R w N q now shift ao n c f bo m d t W)(b:Below W W W'):Dq R w N q now shift ao n c f bo m d t W':=
 ⟨h.rd.below b,h.below.trans<|b.mono h.below.size,h.bx.same<|b.block _ h.bx.lt,h.rs.same<|b.block _ h.rs.lt,h.bq.same b.size λad e=>b.block _<|h.bq.lt e,h.aw⟩
def Dq.drew (h:Dq R w N q now shift ao n c f bo m d t W):Dq R w N q now shift ao n c f bo m d t W.drew:=h.grow<|(acW _ W).drew
def Dq.fin (h:Dq R w N q now shift ao n c f bo m d t W):∃W',((((W.setCell w.heap.size now).setCell ⟨w.heap.size,1,none⟩ shift).setCell ⟨w.heap.size,2,none⟩<|.slice ao n c).setCell ⟨w.heap.size,3,none⟩<|.slice bo m d)=W'/\aH W' w.heap.size now shift (.slice ao n c) (.slice bo m d)/\Bq W' now shift ao n c f bo m d t/\Below w w W'/\∀k,k≠w.heap.size->W'.heap[k]?=W.heap[k]?:=by
 let⟨W',e,k,dw,hz,hn⟩:=bJ h.rs h.below (ac5 _) now shift ao n c bo m d;exact⟨W',e,k,h.bq.same (Nat.le_of_eq hz.symm) λad e=>hn _ (h.aw ad e).2.2,dw,hn⟩
def Vg (R:Nat)(p:Int)(b l c:Nat)(w:World)(ay:Nat)(h0:ay<=R)(hr:Rd w R p)(hp:p<=1000000)(hl:0<l)(hl6:l<=6)(Gq:b≠R)(hb:b<w)(hf:∀i,i<l->∃s,w.cell? ⟨b,i,none⟩=some (.string s)):
  Calls Tz.prog 36 #[.pointer R,.slice b l c] w λe w'=>(∃s,e=.returned (.string s))/\Rd w' R (p+1)/\fH R w w'/\Below ay w w':=by
 have H1:=bG R p l w ay h0 hr aa aa aa;go_enter Tz.func36,Tryz.ntmps36
 go_wp2_with(go_at_call 34;refine H1.mono ?_;clear H1;rintro e w1 ⟨⟨z,rfl,l1,u1⟩,r1,t1,b1⟩;obtain⟨k,rfl⟩:∃k:Nat,z=(k:Int):=⟨z.toNat,aa⟩;let⟨s,hs⟩:=hf k aa;have hc:w1.cell? ⟨b,k,none⟩=some (.string s):=(kW t1 hb Gq).trans hs)
 go_ret;exact⟨⟨s,rfl⟩,r1,t1,b1⟩
def Nz (R:Nat)(q now shift:Int)(ao:Option Addr)(n c:Nat)(f:Nat->Mv)(bo:Option Addr)(m d:Nat)(t:Nat->Int)(w:World)(ay:Nat)(h0:ay<=R)(hr:Rd w R q)(hq:q<=500000)(hB:Bq w now shift ao n c f bo m d t)(aw:∀ad,ao=some ad->ad.block≠R):
  Calls Tz.prog 55 #[.pointer R,.agg #[now,shift,.slice ao n c,.slice bo m d]] w λe w'=>(∃s,e=.returned (.string s))/\Bj R q 2 ay w w':=by
 have hR:=hr.lt;have Ka:=hr.low;have h6:=hB.n6;let⟨W0,e0,k0,b0,z0⟩:=cr w now shift ao n c bo m d;replace z0:Hid _:=z0;let⟨y0,y1,y2,y3,y4⟩:=k0.cells;have r0:=hr.below b0;have HT:∀W q',q<=q'->q'<=q+1->Rd W R q'->fH R w W->Below ay w W->Calls Tz.prog 36 #[.pointer R,.slice (some ⟨W.heap.size,0,none⟩) 3 3] (W.alloc<|.cells #[.string ⟨#[122,122]⟩,.string ⟨#[97,49]⟩,.string ⟨#[]⟩] 9) λe w'=>(∃s,e=.returned (.string s))/\Bj R q 2 ay w w':=λW q' h1 h2 r t b=>by
  have hl:=r.lt;have bA:=(acW W.heap.size W).alloc (ac5 _)<|.cells #[.string ⟨#[122,122]⟩,.string ⟨#[97,49]⟩,.string ⟨#[]⟩] 9;refine(Vg R q' W.heap.size 3 3 _ ay h0 (r.below bA) aa aa aa aa aF λi hi=>?_).mono ?_
  .rw[cell_of_row _ _ _ _ _ _ (heap_alloc_new W _)];match i,hi with
   |0,_=>exact⟨_,rfl⟩
   |1,_=>exact⟨_,rfl⟩
   |2,_=>exact⟨_,rfl⟩
  .rintro e w' ⟨hs,r',t',b'⟩;exact⟨hs,⟨_,aa,aa,r'⟩,(t.trans<|fH.of bA).trans t',(b.trans<|bA.mono aa).trans b'⟩
 go_enter Tz.func55,Tryz.ntmps55
 by_cases hn:n=0
 .have HT0:=HT W0 q aa aa r0 (fH.of b0)<|b0.mono aa;replace HT:Hid _:=HT;subst hn;go_wp2_with(go_at_call 36;refine HT0.mono ?_;clear HT0;rintro e w2 ⟨⟨s,rfl⟩,hw⟩)
  go_ret;exact⟨⟨s,rfl⟩,hw⟩
 .have Ln:(0:Int)<n:=by omega
  obtain⟨b,b',rfl,rfl,lb,aq,lb',aU⟩:=hB.at_ aa;have Gq:b≠R:=aw _ rfl;have HP:=bG R q 8 W0 ay h0 r0 aa aa aa;replace HT:Hid _:=HT;replace aw:Hid _:=aw;go_wp2_with(first
   |(go_at_call 34;refine HP.mono ?_;clear HP;rintro e w2 ⟨⟨z2,rfl,l2,u2⟩,r2,t2,b2⟩;have HT2:=HT.out w2 (q+1) aa aa r2 ((fH.of b0).trans t2)<|(b0.mono aa).trans b2)
   |(go_at_call 36;refine HT2.mono ?_;clear HT2;rintro e w3 ⟨⟨s,rfl⟩,hw⟩))
  rotate_left
  .go_ret;exact⟨⟨s,rfl⟩,hw⟩
  clear HT2 y0 y1 y2 y3 y4 e0;have bd:=(acW w2.heap.size w2).drew;have B2:=(b0.mono (show ay<=w by omega)).trans<|b2.trans<|bd.mono (by have:=t2.size;have:=z0.out;omega);have T2:=((fH.of b0).trans t2).trans<|fH.of (B:=R) bd;have k2:=k0.same<|(bd.block _<|ac6 k0.lt t2.size).trans<|t2.block _ k0.lt aa;have SD:=dL aq<|T2.block b lb Gq;let⟨y0,y1,y2,y3,y4⟩:=k2.cells;have HQ:=bG R (q+1) n w2.drew ay h0 (r2.below bd) aa aa aa;have aaL:=ac6 lb T2.size;have c2:∀j,j<n->w2.drew.cell? ⟨b,j*6,none⟩=some (.string (f j).name):=λj hj=>by have:=(SD j hj).c0;simpa only[Nat.zero_add]using this
  clear t2 b2 r2 bd;go_region_held3 (λw'=>w'.cell? ⟨w.heap.size,2,none⟩=some (.slice b n c)/\∀j,j<n->w'.cell? ⟨b,j*6,none⟩=some (.string (f j).name)) (first|exact⟨y2,c2⟩|exact⟨g2,c0⟩|go_keep)
   (first|(go_at_call 34;refine HQ.mono ?_;clear HQ;rintro e w3 ⟨⟨z3,rfl,l3,u3⟩,r3,t3,b3⟩;obtain⟨k,rfl⟩:∃k:Nat,z3=(k:Int):=⟨z3.toNat,aa⟩;have tD:k<n:=aa;have c0:∀j,j<n->w3.cell? ⟨b,j*6,none⟩=some (.string (f j).name):=(λj hj=>by have:=(dL SD (t3.block b aaL Gq) j hj).c0;simpa only[Nat.zero_add]using this);let⟨g0,g1,g2,g3,g4⟩:=(k2.same<|t3.block _ k2.lt aa).cells))
  go_wp2;go_ret;exact⟨⟨_,rfl⟩,⟨_,aa,aa,r3⟩,T2.trans t3,B2.trans b3⟩
section
variable {a0 a1:Int}{s2:Option Addr}{c2:Nat}{F:Nat->Mv}{s3:Option Addr}{o c3:Nat}{T:Nat->Int}
end
def abH (e:Ending)(w':World):Prop:=∃(now shift:Int) (ao:Option Addr) (n c:Nat) (f:Nat->Mv) (bo:Option Addr) (m d:Nat) (t:Nat->Int) (s:ByteArray),e=.returned (.tuple #[.agg #[now,shift,.slice ao n c,.slice bo m d],s])/\Bq w' now shift ao n c f bo m d t
def acF (K:Act->World->Prop)(Q:Exit->Act->World->Prop):Exit->Act->World->Prop
 |.normal=>K
 |.ret=>Q .ret
 |_=>λ_ _=>False
def Iy {a:Option Addr}{cd:Nat->Int}(h:iB w a l cd)(b:Below w w W):iB W a l cd:=by
 let⟨h1,h2,h3⟩:=h;exact⟨h1,h2.imp id λ⟨b',off,e,hl,hr⟩=>⟨b',off,e,ac6 hl b.size,λi hi=>(b.cell (p:=⟨b',off+i,none⟩) hl).trans<|hr i hi⟩,h3⟩
def JO (a:Option Addr)(l cap:Nat)(cd:Nat->Int)(w:World)(h:iB w a l cd)(vy:l<=cap):
  Calls Tz.prog 23 #[.slice a l cap] w λe w'=>(∃(now shift:Int) (ao:Option Addr) (n c:Nat) (f:Nat->Mv) (bo:Option Addr) (m d:Nat) (t:Nat->Int) (name:ByteArray),e=.returned (.tuple #[.agg #[.int .i64 now,.int .i64 shift,.slice ao n c,.slice bo m d],.string name])/\Bq w' now shift ao n c f bo m d t/\m<=d)/\Below w w w':=by
 let⟨W0,e0,k0,b0,z0⟩:=cr w 0 0 none 0 0 none 0 0;have HO:=Ey a l cap cd W0 (Iy h b0) vy;go_enter Tz.func23,Tryz.ntmps23
 go_wp2_with(first
  |(go_at_call 33;refine HO.mono ?_;clear HO;rintro e w1 ⟨rfl,r1,b1⟩;have z1:=b1.size;rw[z0]at r1;have lr1:=r1.lt;have Xi:=Dw (w.heap.size+1) 0 w1 w.heap.size aa r1 aa)
  |(go_at_call 53;refine Xi.mono ?_;clear Xi;rintro e w2 ⟨ME,⟨q2,qj,Sz,r2⟩,t2,b2⟩;obtain⟨nw,sf,ao,n,c,f,bo,m,d,t,rfl,Yh,Ql,II⟩:=LI ME;have z2:=t2.size;let⟨W3,e3,k3,b3,z3⟩:=cr w2 nw sf ao n c bo m d))
 have B2:=(b0.trans<|b1.mono b0.size).trans b2;have xr:aH W3 w.heap.size 0 0 () ():=k0.same<|(b3.block _ aa).trans<|(t2.block _ aa aa).trans<|b1.block _ aa;have hD:Dq (w.heap.size+1) w w2.heap.size q2 nw sf ao n c f bo m d t W3:=⟨r2.below b3,B2.trans<|b3.mono B2.size,k3,xr,Yh.same b3.size λad e=>b3.block _ (Ql ad e).2,λad e=>by have:=Ql ad e;omega⟩;have hR:w.heap.size<w.heap.size+1:=aa;have hN:w.heap.size+1<w2.heap.size:=aa;clear Yh Ql e3 k3 b3 z3 ME r2 t2 b2 B2 xr k0 b0 e0 z0 b1 r1;have hE:=hD.drew;have Ka:=hD.rd.low;have HN:=Nz (w.heap.size+1) q2 nw sf ao n c f bo m d t W3.drew w.heap.size aa hE.rd aa hE.bq λad e=>(hE.aw ad<|.inl e).1
 let⟨y0,y1,y2,y3,y4⟩:=hE.bx.cells;go_region_held3 (λw'=>w'.cell? w2.heap.size=some (.int .i64 nw)/\w'.cell? ⟨w2.heap.size,1,none⟩=some (.int .i64 sf)/\w'.cell? ⟨w2.heap.size,2,none⟩=some (.slice ao n c)/\w'.cell? ⟨w2.heap.size,3,none⟩=some (.slice bo m d)) (go_keep)
  (first|(go_at_call 55;refine HN.mono ?_;clear HN;rintro e w4 ⟨⟨s,rfl⟩,⟨q4,hq4,hq5,r4⟩,t4,b4⟩;have We:=hE.to hR hN r4 t4 b4;clear r4 t4 b4;let⟨y0,y1,y2,y3,y4⟩:=We.bx.cells;let⟨g0,g1,g2,g3,g4⟩:=We.rs.cells;let⟨W9,e9,k9,O0,b9,n9⟩:=We.fin;let⟨v0,v1,v2,v3,v4⟩:=(We.bx.same<|n9 _<|aa).cells;replace n9:Hid _:=n9))
 go_wp2;let⟨q0,q1,ZY,q3,q4'⟩:=k9.cells;refine bodyPost_ret (v:=.tuple #[.agg #[nw,sf,.slice ao n c,.slice bo m d],s]) (by simp[results,Tryz.f23,go_sem,q0,q1,ZY,q3]) rfl ⟨⟨_,_,_,_,_,f,_,_,_,t,_,rfl,O0,II.1⟩,b9⟩
def Ha (W:World)(B:Nat)(m:Mv):World:=(((((W.setCell B m.name).setCell ⟨B,1,none⟩ m.aj).setCell ⟨B,2,none⟩ m.ap).setCell ⟨B,3,none⟩ m.aW).setCell ⟨B,4,none⟩ m.late).setCell ⟨B,5,none⟩ m.prom
def xY {m0:Mv}(hm:bf W B m0)(m:Mv):bf (Ha W B m) B m:=by
 have:=heap_setCell_same _ _ 5 _ _ m.prom<|heap_setCell_same _ _ 4 _ _ m.late<|heap_setCell_same _ _ 3 _ _ m.aW<|heap_setCell_same _ _ 2 _ _ m.ap<|heap_setCell_same _ _ 1 _ _ m.aj<|heap_setCell_same W B 0 _ _ m.name hm;simpa[bf,Ha]using this
def fL (W:World)(B:Nat)(m:Mv)(h:k≠B):(Ha W B m).heap[k]?=W.heap[k]?:=by
 have e:∀(W:World) (o:Nat) (v:Value),(W.setCell ⟨B,o,none⟩ v).heap[k]?=W.heap[k]?:=λW o v=>acY _ _ _ _<|by simpa using h
 unfold Ha;rw[e,e,e,e,e,e]
def AP (W:World)(B:Nat)(m:Mv):(Ha W B m).heap.size=W.heap.size:=by
 simp[Ha]
def Dq.mv (h:Dq R w N q now shift ao n c f bo m d t W)(hR:w.heap.size<R)(hN:R<N)(hB:N<B)(aw:∀ad,ao=some ad\/bo=some ad->ad.block<N)(x:Mv):Dq R w N q now shift ao n c f bo m d t (Ha W B x):=by
 refine⟨?_,?_,h.bx.same<|fL _ _ _ aa,h.rs.same<|fL _ _ _ aa,h.bq.same (Nat.le_of_eq (AP _ _ _).symm) λad e=>fL _ _ _ (by have:=aw ad e;omega),h.aw⟩
 .have l:R<B:=aa;exact(((((h.rd.set l _ _).set l _ _).set l _ _).set l _ _).set l _ _).set l _ _
 .have l:w.heap.size<=B:=aa;exact(((((h.below.setCell l _).setCell l _).setCell l _).setCell l _).setCell l _).setCell l _
def svQ (h:p:=by intro w' hSw;let⟨s0,s1,s2,s3,s4,s5,s6,s7,s8,s9⟩:=hSw;go_simp):p:=h
def Bo (h:p:=by
  refine iX 8 rfl λK hK=>?_;let⟨z0,z1,z2,z3,z4,z5⟩:=dN kt;have fr:=kt.frozen;obtain⟨W8,e8,E8,M8,k8⟩:∃W8,(((((Wt.setCell ⟨B,0,none⟩<|.string x.name).setCell ⟨B,1,none⟩<|.bool x.aj).setCell ⟨B,2,none⟩<|.int .i64 x.ap).setCell ⟨B,3,none⟩<|.int .i64 x.aW).setCell ⟨B,4,none⟩<|.int .i64 x.late).setCell ⟨B,5,none⟩ (.int .i64 x.prom)=W8/\Dq _ w N q6 nw sf ao n c f bo m d t W8/\bf W8 (w.heap.size+1) _/\bf W8 B x:=⟨_,rfl,Et.mv hR hN uB aw x,Mt.keep<|fL _ _ _ aa,xY kt x⟩;go_simp
  refine hK.out _ _ ⟨E8.bx.cells.1,E8.bx.cells.2.1⟩ λhHeld=>?_;refine wpAnyH_done bD ?_ _;exact⟨_,N,B,nw,sf,ao,n,c,f,bo,m,d,t,q6,x,s,aa,aa,hN,uB,aw,awR,E8,M8,k8,hdr,Pa,rfl,rfl⟩):p:=h
def LF (a:Option Addr)(l cap:Nat)(cd:Nat->Int)(w:World)(h:iB w a l cd)(vy:l<=cap):
  Calls Tz.prog 22 #[.slice a l cap] w λe w'=>(∃(now shift:Int) (ao:Option Addr) (n c:Nat) (f:Nat->Mv) (bo:Option Addr) (m d:Nat) (t:Nat->Int) (q:Mv),e=.returned (.tuple #[.agg #[.int .i64 now,.int .i64 shift,.slice ao n c,.slice bo m d],.agg #[.string q.name,.bool q.aj,.int .i64 q.ap,.int .i64 q.aW,.int .i64 q.late,.int .i64 q.prom]])/\Bq w' now shift ao n c f bo m d t/\q.Fits)/\Below w w w':=by
 let⟨W0,e0,k0,b0,z0⟩:=cr w 0 0 none 0 0 none 0 0;let⟨W1,e1,km,bm,zm⟩:=nJ W0 ⟨⟨#[]⟩,false,0,0,0,0⟩;simp only at e1;have Xv:=b0.trans<|bm.mono b0.size;rw[z0]at km;have HO:=Ey a l cap cd W1 (Iy h Xv) vy;go_enter Tz.func22,Tryz.ntmps22
 refine lG [_,_,_,_] (λa' w'=>∃(R N B:Nat) (nw sf:Int) (ao:Option Addr) (n c:Nat) (f:Nat->Mv) (bo:Option Addr) (m d:Nat) (t:Nat->Int) (q:Int) (x:Mv) (s:ByteArray),q<=600/\w.heap.size+1<R/\R<N/\N<B/\(∀ad,ao=some ad\/bo=some ad->ad.block<N)/\(∀ad,ao=some ad\/bo=some ad->R<ad.block)/\Dq R w N q nw sf ao n c f bo m d t w'/\bf w' (w.heap.size+1) ⟨⟨#[]⟩,false,0,0,0,0⟩/\bf w' B x/\Dl x s/\s.size<=8/\gZ a' (rW 26 [(2,.pointer w.heap.size),(3,.pointer<|some ⟨w.heap.size+1,0,none⟩),(4,.pointer R),(5,.pointer N),(6,.pointer B)])) ?_ ?_
 .simp only[aD];go_wp2_with(first
   |(go_at_call 33;refine HO.mono ?_;clear HO;rintro e w1 ⟨rfl,r1,b1⟩;have z1:=b1.size;rw[zm,z0]at r1;have lr1:=r1.lt;have Xi:=Dw (w.heap.size+1+1) 0 w1 w.heap.size aa r1 aa)
   |(go_at_call 53;refine Xi.mono ?_;clear Xi;rintro e w2 ⟨ME,⟨q2,qj,Sz,r2⟩,t2,b2⟩;obtain⟨nw,sf,ao,n,c,f,bo,m,d,t,rfl,Yh,Ql,II⟩:=LI ME;clear ME;have z2:=t2.size;let⟨W3,e3,k3,b3,z3⟩:=cr w2 nw sf ao n c bo m d))
  have B2:=(Xv.trans<|b1.mono Xv.size).trans b2;have xr:aH W3 w.heap.size 0 0 () ():=k0.same<|(b3.block _ aa).trans<|(t2.block _ aa aa).trans<|(b1.block _ aa).trans<|bm.block _ aa;have hM:bf W3 (w.heap.size+1) _:=km.keep<|(b3.block _ aa).trans<|(t2.block _ aa aa).trans<|b1.block _ aa;have hD:Dq (w.heap.size+1+1) w w2.heap.size q2 nw sf ao n c f bo m d t W3:=⟨r2.below b3,B2.trans<|b3.mono B2.size,k3,xr,Yh.same b3.size λad e=>b3.block _ (Ql ad e).2,λad e=>by have:=Ql ad e;omega⟩;have aw:∀ad,ao=some ad\/bo=some ad->ad.block<w2.heap.size:=λad e=>(Ql ad e).2
  have awR:∀ad,ao=some ad\/bo=some ad->w.heap.size+1+1<ad.block:=λad e=>(Ql ad e).1
  have hR:w.heap.size<w.heap.size+1+1:=aa;have hN:w.heap.size+1+1<w2.heap.size:=aa;have Kh:w2.heap.size<W3.heap.size:=aa;have Dc:=II.2;clear Yh Ql e3 k3 b3 z3 r2 t2 b2 B2 xr k0 b0 e0 z0 b1 r1 II km bm zm e1 Xv z1 z2 lr1;have hE:=hD.drew;have BR:bf W3.drew (w.heap.size+1) _:=hM;have Ka:=hD.rd.low;clear hD hM;generalize hNN:w2.heap.size=N at*;refine wp_region_held_drew (S:=λw'=>w'.cell? N=some (.int .i64 nw)/\w'.cell? ⟨N,1,none⟩=some (.int .i64 sf)) bD ⟨hE.bx.cells.1,hE.bx.cells.2.1⟩ λhHeld=>?_;refine aO 0 (.pointer<|some ⟨w.heap.size+1+1,0,none⟩) 11 rfl zI hHeld ?_;refine aO 1 (.pointer<|some ⟨w.heap.size+1+1,0,none⟩) 12 rfl zI hHeld ?_;refine aO 4 (.pointer<|some ⟨N,0,none⟩) 15 rfl zI hHeld ?_;refine aO 5 (.int .i64 nw) 16 rfl zI hHeld ?_;refine NW 2 7 rfl rfl (λK hK=>?_) λK hK=>?_
  .go_simp
   go_at_call 37
   refine(qm _).mono ?_;rintro e w4 ⟨rfl,⟨cs,hcs,O8⟩,b4⟩;have E4:=hE.grow b4;have M4:=BR.keep<|b4.block _ BR.lt;refine hK.out _ _ ⟨E4.bx.cells.1,E4.bx.cells.2.1⟩ λhHeld=>?_;clear hK K;refine NW 3 7 rfl rfl (λK hK=>?_) λK hK=>?_
   .go_simp
    go_at_call 36
    refine(tZ (w.heap.size+1+1) q2 _ cs w4 w.heap.size aa E4.rd aa (by have:=hE.bx.lt;first|omega|(simp;omega)) hcs O8).mono ?_;rintro e w5 ⟨⟨s,rfl,Pa⟩,r5,t5,b5⟩;have E5:=E4.to hR hN r5 t5 b5;have M5:=M4.but t5 aa;refine hK.out _ _ ⟨E5.bx.cells.1,E5.bx.cells.2.1⟩ λhHeld=>?_;clear hK K;refine NW 6 7 rfl rfl (λK hK=>?_) λK hK=>?_
    .go_simp
     go_at_call 35
     refine(lg (w.heap.size+1+1) (q2+1) s nw w5 w.heap.size aa E5.rd aa Dc.1 Dc.2).mono ?_;rintro e w6 ⟨⟨x,rfl,hdr⟩,⟨q6,l6,v6,r6⟩,t6,b6⟩;have E6:=E5.to hR hN r6 t6 b6;have M6:=M5.but t6 aa;refine hK.out _ _ ⟨E6.bx.cells.1,E6.bx.cells.2.1⟩ λhHeld=>?_;clear hK K;refine iX 7 rfl λK hK=>?_;obtain⟨Wa,ea,ka,ba,-⟩:=nJ w6 ⟨⟨#[]⟩,false,0,0,0,0⟩;simp only at ea;go_simp
     have Ea:=E6.grow ba;have Ma:=M6.keep<|ba.block _ M6.lt;have uB:N<w6.heap.size:=E6.bx.lt;refine hK.out _ _ ⟨Ea.bx.cells.1,Ea.bx.cells.2.1⟩ λhHeld=>?_;clear hK K;have Et:=Ea;have Mt:=Ma;have kt:=ka;revert Et Mt kt uB;generalize w6.heap.size=B;generalize Wa=Wt;intro uB Et Mt kt;exact Bo
    .obtain⟨Wa,ea,ka,ba,-⟩:=nJ w5 ⟨⟨#[]⟩,false,0,0,0,0⟩;simp only at ea;go_simp
     have Ea:=E5.grow ba;have Ma:=M5.keep<|ba.block _ M5.lt;have uB:N<w5.heap.size:=E5.bx.lt;refine hK.out _ _ ⟨Ea.bx.cells.1,Ea.bx.cells.2.1⟩ λhHeld=>?_;clear hK K;refine iX 6 rfl λK hK=>?_;go_simp
     go_at_call 35
     refine(lg (w.heap.size+1+1) (q2+1) s nw Wa w.heap.size aa Ea.rd aa Dc.1 Dc.2).mono ?_;rintro e w6 ⟨⟨x,rfl,hdr⟩,⟨q6,l6,v6,r6⟩,t6,b6⟩;have E6:=Ea.to hR hN r6 t6 b6;have M6:=Ma.but t6 aa;have k6:=ka.but t6 aa;refine hK.out _ _ ⟨E6.bx.cells.1,E6.bx.cells.2.1⟩ λhHeld=>?_;clear hK K;have Et:=E6;have Mt:=M6;have kt:=k6;revert Et Mt kt uB;generalize w5.heap.size=B;generalize w6=Wt;intro uB Et Mt kt;exact Bo
   .obtain⟨Wa,ea,ka,ba,-⟩:=nJ w4 ⟨⟨#[]⟩,false,0,0,0,0⟩;simp only at ea;go_simp
    have Ea:=E4.grow ba;have Ma:=M4.keep<|ba.block _ M4.lt;have uB:N<w4.heap.size:=E4.bx.lt;refine hK.out _ _ ⟨Ea.bx.cells.1,Ea.bx.cells.2.1⟩ λhHeld=>?_;clear hK K;refine iX 3 rfl λK hK=>?_;go_simp
    go_at_call 36
    refine(tZ (w.heap.size+1+1) q2 _ cs Wa w.heap.size aa Ea.rd aa (by have:=hE.bx.lt;first|omega|(simp;omega)) ((ba.block _ (ac7.1 hcs).1).trans hcs) O8).mono ?_;rintro e w5 ⟨⟨s,rfl,Pa⟩,r5,t5,b5⟩;have E5:=Ea.to hR hN r5 t5 b5;have M5:=Ma.but t5 aa;have k5:=ka.but t5 aa;refine hK.out _ _ ⟨E5.bx.cells.1,E5.bx.cells.2.1⟩ λhHeld=>?_;clear hK K;refine iX 6 rfl λK hK=>?_;go_simp
    go_at_call 35
    refine(lg (w.heap.size+1+1) (q2+1) s nw w5 w.heap.size aa E5.rd aa Dc.1 Dc.2).mono ?_;rintro e w6 ⟨⟨x,rfl,hdr⟩,⟨q6,l6,v6,r6⟩,t6,b6⟩;have E6:=E5.to hR hN r6 t6 b6;have M6:=M5.but t6 aa;have k6:=k5.but t6 aa;refine hK.out _ _ ⟨E6.bx.cells.1,E6.bx.cells.2.1⟩ λhHeld=>?_;clear hK K;have Et:=E6;have Mt:=M6;have kt:=k6;revert Et Mt kt uB;generalize w4.heap.size=B;generalize w6=Wt;intro uB Et Mt kt;exact Bo
  .obtain⟨Wa,ea,ka,ba,-⟩:=nJ W3.drew ⟨⟨#[]⟩,false,0,0,0,0⟩;simp only at ea;go_simp
   have Ea:=hE.grow ba;have Ma:=BR.keep<|ba.block _ BR.lt;have uB:N<W3.drew.heap.size:=hE.bx.lt;refine hK.out _ _ ⟨Ea.bx.cells.1,Ea.bx.cells.2.1⟩ λhHeld=>?_;clear hK K;replace ka:bf Wa W3.heap.size _:=ka;replace uB:N<W3.heap.size:=uB;have hlw:=Ea.bx.lt;refine iX 2 rfl λK hK=>?_;go_simp
   go_at_call 37
   refine(qm _).mono ?_;rintro e w4 ⟨rfl,⟨cs,hcs,O8⟩,b4⟩;have E4:=Ea.grow b4;have M4:=Ma.keep<|b4.block _ Ma.lt;have k4:=ka.keep<|b4.block _ ka.lt;refine hK.out _ _ ⟨E4.bx.cells.1,E4.bx.cells.2.1⟩ λhHeld=>?_;clear hK K;refine iX 3 rfl λK hK=>?_;go_simp
   go_at_call 36
   refine(tZ (w.heap.size+1+1) q2 _ cs w4 w.heap.size aa E4.rd aa (by omega) hcs O8).mono ?_;rintro e w5 ⟨⟨s,rfl,Pa⟩,r5,t5,b5⟩;have E5:=E4.to hR hN r5 t5 b5;have M5:=M4.but t5 aa;have k5:=k4.but t5 aa;refine hK.out _ _ ⟨E5.bx.cells.1,E5.bx.cells.2.1⟩ λhHeld=>?_;clear hK K;refine iX 6 rfl λK hK=>?_;go_simp
   go_at_call 35
   refine(lg (w.heap.size+1+1) (q2+1) s nw w5 w.heap.size aa E5.rd aa Dc.1 Dc.2).mono ?_;rintro e w6 ⟨⟨x,rfl,hdr⟩,⟨q6,l6,v6,r6⟩,t6,b6⟩;have E6:=E5.to hR hN r6 t6 b6;have M6:=M5.but t6 aa;have k6:=k5.but t6 aa;refine hK.out _ _ ⟨E6.bx.cells.1,E6.bx.cells.2.1⟩ λhHeld=>?_;clear hK K;have Et:=E6;have Mt:=M6;have kt:=k6;revert Et Mt kt uB;generalize W3.heap.size=B;generalize w6=Wt;intro uB Et Mt kt;exact Bo
 clear HO h e0 k0 b0 z0 e1 km bm zm Xv;rintro a' w2 ⟨R,N,B,nw,sf,ao,n,c,f,bo,m,d,t,q,x,s,hq,hR1,hN,hB,aw,awR,hD,hM,kB,hdr,Pa,fu⟩;obtain⟨u,rfl⟩:=fu.open;clear fu;have hR:w.heap.size<R:=aa;refine lG [_] (λa' w'=>∃(q:Int) (x:Mv),x.Fits/\Dq R w N q nw sf ao n c f bo m d t w'/\bf w' (w.heap.size+1) ⟨⟨#[]⟩,false,0,0,0,0⟩/\bf w' B x/\gZ a' (rW 26 [(2,.pointer w.heap.size),(3,.pointer<|some ⟨w.heap.size+1,0,none⟩),(4,.pointer R),(5,.pointer N),(6,.pointer B)])) ?_ ?_
 .have Ka:=hD.rd.low;have H1:=bG R q 10 w2 w.heap.size aa hD.rd aa aa aa;simp only[aD];go_wp2_with(first
   |(go_at_call 34;refine H1.mono ?_;clear H1;rintro e w3 ⟨⟨z,rfl,lz,uz⟩,r3,t3,b3⟩;have M_:=hD.to hR hN r3 t3 b3;have Sb:=hM.but t3 (by omega);have kB3:=kB.but t3 (by omega);let⟨d0,d1,d2,d3,d4,d5⟩:=dN kB3;have HS:=A1 R (q+1) x w3 w.heap.size (by omega) r3 (by omega)<|Good.of hdr Pa)
   |(go_at_call 54;refine HS.mono ?_;clear HS;rintro e w4 ⟨⟨x',rfl,gE⟩,⟨q4,l4,v4,r4⟩,t4,b4⟩;have We:=M_.to hR hN r4 t4 b4;have Wj:=Sb.but t4 (by omega);have kB4:=kB3.but t4 (by omega);let⟨y0,y1,y2,y3,y4,y5⟩:=dN kB4;have fr:=kB4.frozen;obtain⟨W8,e8,E8,M8,k8⟩:∃W8,(((((w4.setCell ⟨B,0,none⟩<|.string x'.name).setCell ⟨B,1,none⟩<|.bool x'.aj).setCell ⟨B,2,none⟩<|.int .i64 x'.ap).setCell ⟨B,3,none⟩<|.int .i64 x'.aW).setCell ⟨B,4,none⟩<|.int .i64 x'.late).setCell ⟨B,5,none⟩ (.int .i64 x'.prom)=W8/\Dq R w N q4 nw sf ao n c f bo m d t W8/\bf W8 (w.heap.size+1) _/\bf W8 B x':=⟨_,rfl,We.mv hR hN hB aw x',Wj.keep<|fL _ _ _<|by omega,xY kB4 x'⟩))
  .exact⟨_,x',sK gE,E8,M8,k8,rfl,rfl⟩
  .exact⟨_,x,hdr.fits Pa,M_,Sb,kB3,rfl,rfl⟩
 clear hD hM kB hdr Pa hq s x w2 q u;rintro a' w2 ⟨q,x,hx,hD,hM,kB,fu⟩;obtain⟨u,rfl⟩:=fu.open;clear fu;go_wp2;have hE:=hD.drew;have kE:bf w2.drew B x:=kB;have mE:bf w2.drew (w.heap.size+1) _:=hM;clear hD hM kB;let⟨y0,y1,y2,y3,y4⟩:=hE.bx.cells;let⟨d0,d1,d2,d3,d4,d5⟩:=dN kE;refine wp_region_held_drew (S:=λw'=>w'.cell? N=some (.int .i64 nw)/\w'.cell? ⟨N,1,none⟩=some (.int .i64 sf)/\w'.cell? ⟨N,2,none⟩=some (.slice ao n c)/\w'.cell? ⟨N,3,none⟩=some (.slice bo m d)/\Tf B x w') bD ⟨y0,y1,y2,y3,dN kE⟩ λhHeld=>?_;generalize w2.drew=wd at*;let⟨W9,e9,k9,O0,b9,n9⟩:=hE.fin;let⟨g0,g1,g2,g3,g4⟩:=hE.rs.cells;have x9:=hE.bx.same (n9 N<|by omega);have k9B:=kE.keep (n9 B<|by omega);have m9:=mE.keep (n9 (w.heap.size+1)<|by omega);refine aO 0 (.agg #[.int .i64 nw,.int .i64 sf,.slice ao n c,.slice bo m d]) 24 rfl svQ hHeld ?_;refine aO 1 (.agg #[.string x.name,.bool x.aj,.int .i64 x.ap,.int .i64 x.aW,.int .i64 x.late,.int .i64 x.prom]) 25 rfl svQ hHeld ?_;replace n9:Hid _:=n9;refine iX 2 rfl λK hK=>?_;go_simp
 refine hK.out _ _ ⟨x9.cells.1,x9.cells.2.1,x9.cells.2.2.1,x9.cells.2.2.2.1,dN k9B⟩ λhHeld=>?_;clear hK K y0 y1 y2 y3 y4 d0 d1 d2 d3 d4 d5 g0 g1 g2 g3 g4 e9;let⟨d0,d1,d2,d3,d4,d5⟩:=dN m9;have fr:=m9.frozen;obtain⟨W8,e8,b8,B8,q8,M8⟩:∃W8,(((((W9.setCell ⟨w.heap.size+1,0,none⟩<|.string x.name).setCell ⟨w.heap.size+1,1,none⟩<|.bool x.aj).setCell ⟨w.heap.size+1,2,none⟩<|.int .i64 x.ap).setCell ⟨w.heap.size+1,3,none⟩<|.int .i64 x.aW).setCell ⟨w.heap.size+1,4,none⟩<|.int .i64 x.late).setCell ⟨w.heap.size+1,5,none⟩ (.int .i64 x.prom)=W8/\Below w w W8/\aH W8 w.heap.size nw sf (.slice ao n c) (.slice bo m d)/\Bq W8 nw sf ao n c f bo m d t/\bf W8 (w.heap.size+1) x:=⟨_,rfl,by
  have l:w.heap.size<=w.heap.size+1:=by omega
  exact(((((b9.setCell l _).setCell l _).setCell l _).setCell l _).setCell l _).setCell l _,k9.same (fL _ _ _<|by omega),O0.same (Nat.le_of_eq (AP _ _ _).symm) (λad e=>fL _ _ _ (by have:=awR ad e;omega)),xY m9 x⟩
 have x8:aH W8 N _ _ _ _:=x9.same<|e8▸fL W9 (w.heap.size+1) x (by omega);have y8:bf W8 B x:=k9B.keep<|e8▸fL W9 (w.heap.size+1) x (by omega);refine iX 3 rfl λK hK=>?_;go_simp
 refine hK.out _ _ ⟨x8.cells.1,x8.cells.2.1,x8.cells.2.2.1,x8.cells.2.2.2.1,dN y8⟩ λhHeld=>?_;clear hK K d0 d1 d2 d3 d4 d5 fr e8;refine wpAnyH_done bD ?_ _;go_wp2;let⟨q0,q1,q2,q3,q4⟩:=B8.cells;let⟨m0,m1,m2,m3,m4,m5⟩:=dN M8;refine bodyPost_ret (v:=.tuple #[.agg #[.int .i64 nw,.int .i64 sf,.slice ao n c,.slice bo m d],.agg #[.string x.name,.bool x.aj,.int .i64 x.ap,.int .i64 x.aW,.int .i64 x.late,.int .i64 x.prom]]) (by simp[results,Tryz.f22,go_sem,q0,q1,q2,q3,m0,m1,m2,m3,m4,m5]) rfl ⟨⟨_,_,_,_,_,f,_,_,_,t,x,rfl,q8,hx⟩,b8⟩
