import Derived.Test.YtlmcblcijndipaaGreatM50
import Derived.Test.YtlmcblcijndipaaGreatM33
import Derived.Deep.RegionWith
import Derived.Deep.RegionHeld3
import Derived.Test.YtlmcblcijndipaaGreatM46
set_option linter.unusedVariables false
set_option linter.unnecessarySimpa false
set_option linter.unusedSectionVars false
set_option maxHeartbeats 4000000
set_option maxRecDepth 100000
namespace Go.Proofs.YtlmcblcijndipaaGreat
open Go Go.RowKit
def iC (w:World)(lo b n:Nat)(f:Nat->Mv):Prop:=lo<=b/\(∃cs,w.heap[b]?=some (.cells cs 42 (0,0))/\n*6<=cs.size)/\aw w b 0 n f
theorem iC.of {w:World}{lo b n c:Nat}{f:Nat->Mv}(h:w.ownsRow lo 42 6 (.slice (some ⟨b,0,none⟩) n c) n (aS f n)):iC w lo b n f:=by
 obtain⟨h1,h2,cs,h3,h4⟩:=xI h;rw[bH]at h4;exact⟨h1,⟨cs,h3,h4⟩,bI h⟩
theorem iC.lt {w:World}{lo b n:Nat}{f:Nat->Mv}(h:iC w lo b n f):b<w.heap.size:=by
 obtain⟨_,⟨cs,h1,_⟩,_⟩:=h;exact(Array.getElem?_eq_some_iff.1 h1).1
theorem iC.same {w w':World}{lo b n:Nat}{f:Nat->Mv}(h:iC w lo b n f)(e:w'.heap[b]?=w.heap[b]?):iC w' lo b n f:=by
 obtain⟨h1,⟨cs,h2,h3⟩,h4⟩:=h;exact⟨h1,⟨cs,e.trans h2,h3⟩,aZ h4 e⟩
theorem iC.ne {w:World}{lo b n:Nat}{f:Nat->Mv}(h:iC w lo b n f){Y:Nat}{x0 x1:Int}{v u:Value}(hy:ar w Y x0 x1 v u):b≠Y:=λe=>by
 obtain⟨_,⟨cs,hc,_⟩,_⟩:=h;unfold ar at hy;rw[<-e,hc]at hy;simp at hy
theorem iC.put {w:World}{lo b n:Nat}{f:Nat->Mv}(h:iC w lo b n f){k:Nat}(hk:k<n)(m:Mv):iC (setMv w b (k*6) m) lo b n (λj=>if j=k then m else f j):=by
 obtain⟨h1,⟨cs,h2,h3⟩,h4⟩:=h;refine⟨h1,?_,za h4 h2 h3 hk m⟩;have g:=λ(W:World) (cs:Array Value) (hc:W.heap[b]?=some (.cells cs 42 (0,0))) (j:Nat) (v:Value)=>heap_setCell_same W b j _ _ v hc
 exact⟨_,g _ _ (g _ _ (g _ _ (g _ _ (g _ _ (g _ _ h2 _ _) _ _) _ _) _ _) _ _) _ _,by simpa using h3⟩
theorem xJ {w:World}{b n k:Nat}{h:Nat->Mv}(hr:aw w b 0 n h)(hk:k<n)(x:Int):aw (w.setCell ⟨b,k*6+4,none⟩ (.int .i64 x)) b 0 n (λi=>if i=k then{h k with late:=x}else h i):=λi hi=>by
 obtain⟨c0,c1,c2,c3,c4,c5⟩:=hr i hi;have o:∀j,j≠k*6+4->(w.setCell ⟨b,k*6+4,none⟩ (.int .i64 x)).cell? ⟨b,j,none⟩=w.cell? ⟨b,j,none⟩:=λj hj=>World.cell?_setCell_other _ _ _ _ (by simpa using hj)
 by_cases e:i=k
 .subst e;simp only[if_true];exact⟨(o _ (by omega)).trans c0,(o _ (by omega)).trans c1,(o _ (by omega)).trans c2,(o _ (by omega)).trans c3,by rw[Nat.zero_add]at c4⊢;exact World.cell?_setCell_same' _ _ _ (by rw[c4];rfl),(o _ (by omega)).trans c5⟩
 .simp only[if_neg e];exact⟨(o _ (by omega)).trans c0,(o _ (by omega)).trans c1,(o _ (by omega)).trans c2,(o _ (by omega)).trans c3,(o _ (by omega)).trans c4,(o _ (by omega)).trans c5⟩
theorem iC.late {w:World}{lo b n:Nat}{f:Nat->Mv}(h:iC w lo b n f){k:Nat}(hk:k<n)(x:Int):iC (w.setCell ⟨b,k*6+4,none⟩ (.int .i64 x)) lo b n (λi=>if i=k then{f k with late:=x}else f i):=by
 obtain⟨h1,⟨cs,h2,h3⟩,h4⟩:=h;exact⟨h1,⟨_,heap_setCell_same w b (k*6+4) _ _ _ h2,by simpa using h3⟩,xJ h4 hk x⟩
structure Sp (w:World)(lo b n:Nat)(f:Nat->Mv)(b' m:Nat)(t:Nat->Int):Prop where
 six:n<=6
 mm:m<=6
 fit:∀i,i<n->eu (f i)
 om:iC w lo b n f
 ot:gh w lo b' m t
section
variable {w w':World}{lo lo' b n:Nat}{f:Nat->Mv}{b' m:Nat}{t:Nat->Int}
theorem Sp.same (h:Sp w lo b n f b' m t)(e:∀k,lo<=k->k<w.heap.size->w'.heap[k]?=w.heap[k]?):Sp w' lo b n f b' m t:=
 ⟨h.six,h.mm,h.fit,h.om.same (e b h.om.1 h.om.lt),h.ot.same (e b' h.ot.1 h.ot.lt)⟩
theorem Sp.mono (h:Sp w lo b n f b' m t)(hl:lo'<=lo):Sp w lo' b n f b' m t:=⟨h.six,h.mm,h.fit,⟨Nat.le_trans hl h.om.1,h.om.2⟩,Nat.le_trans hl h.ot.1,h.ot.2⟩
theorem Sp.off {Y:Nat}{x0 x1:Int}{v u:Value}(h:Sp w lo b n f b' m t)(hy:ar w Y x0 x1 v u)(e:∀k,k≠Y->w'.heap[k]?=w.heap[k]?):Sp w' lo b n f b' m t:=by
 refine⟨h.six,h.mm,h.fit,h.om.same (e b (h.om.ne hy)),h.ot.same (e b' ?_)⟩;intro e';obtain⟨_,⟨cs,hc⟩,_⟩:=h.ot;unfold ar at hy;rw[<-e',hc]at hy;simp at hy
theorem Sp.apart (h:Sp w lo b n f b' m t):b≠b':=λe=>by
 obtain⟨_,⟨cs,h1,_⟩,_⟩:=h.om;obtain⟨_,⟨cs',h2⟩,_⟩:=h.ot;rw[<-e,h1]at h2;simp at h2
end
structure Rx (R n₀:Nat)(w:World)(N M:Nat)(q now shift:Int)(b n c:Nat)(f:Nat->Mv)(b' m d:Nat)(t:Nat->Int)(W:World):Prop where
 rd:Rd W R q
 but:dg R w W
 below:Below n₀ w W
 bx:ar W N now shift (.slice (some ⟨b,0,none⟩) n c) (.slice (some ⟨b',0,none⟩) m d)
 rs:ar W M 0 0 (.slice none 0 0) (.slice none 0 0)
 sp:Sp W w.heap.size b n f b' m t
section
variable {R n₀ N M:Nat}{w W W':World}{q q' now shift:Int}{b n c:Nat}{f:Nat->Mv}{b' m d:Nat}{t:Nat->Int}
theorem Rx.to (h:Rx R n₀ w N M q now shift b n c f b' m d t W)(hR:R<w.heap.size)(hN:R<N)(hM:R<M)(r:Rd W' R q')(bu:dg R W W')(l:Below n₀ W W'):Rx R n₀ w N M q' now shift b n c f b' m d t W':=
 ⟨r,h.but.trans bu,h.below.trans l,h.bx.same (bu.block _ h.bx.lt (by omega)),h.rs.same (bu.block _ h.rs.lt (by omega)),h.sp.same λk hk hl=>bu.block k hl (by omega)⟩
theorem Rx.grow (h:Rx R n₀ w N M q now shift b n c f b' m d t W)(h0:n₀<=R)(bl:Below W.heap.size W W'):Rx R n₀ w N M q now shift b n c f b' m d t W':=by
 have hr:=h.rd.lt;exact⟨h.rd.below bl,h.but.trans (dg.of bl),h.below.trans (bl.mono (by omega)),h.bx.same (bl.block _ h.bx.lt),h.rs.same (bl.block _ h.rs.lt),h.sp.same λk _ hl=>bl.block k hl⟩
theorem Rx.turn (h:Rx R n₀ w N M q now shift b n c f b' m d t W)(h0:n₀<=R)(hR:R<w.heap.size){Y:Nat}(hY:w.heap.size<=Y)(j:Nat)(v:Value):Rd (W.setCell ⟨Y,j,none⟩ v) R q/\dg R w (W.setCell ⟨Y,j,none⟩ v)/\Below n₀ w (W.setCell ⟨Y,j,none⟩ v):=
 ⟨h.rd.set (by omega) _ _,⟨by simpa using h.but.size,λi hi hne=>(Below.heap_setCell _ _ _ _ (by simp;omega)).trans (h.but.block i hi hne)⟩,h.below.setCell (by simp;omega) _⟩
theorem Rx.setNow (h:Rx R n₀ w N M q now shift b n c f b' m d t W)(h0:n₀<=R)(hR:R<w.heap.size)(hN:w.heap.size<=N)(hM:N≠M)(x:Int):∃W',W.setCell ⟨N,0,none⟩ (.int .i64 x)=W'/\Rx R n₀ w N M q x shift b n c f b' m d t W':=by
 obtain⟨a1,a2,a3⟩:=h.turn h0 hR hN 0 (.int .i64 x);refine⟨_,rfl,a1,a2,a3,?_,h.rs.same (Below.heap_setCell _ _ _ _ (by simpa usingλe=>hM e.symm)),h.sp.off h.bx (λk hk=>Below.heap_setCell _ _ _ _ (by simpa using hk))⟩;have:=heap_setCell_same W N 0 _ _ (.int .i64 x) h.bx;simpa[ar]using this
theorem Rx.setShift (h:Rx R n₀ w N M q now shift b n c f b' m d t W)(h0:n₀<=R)(hR:R<w.heap.size)(hN:w.heap.size<=N)(hM:N≠M)(x:Int):∃W',W.setCell ⟨N,1,none⟩ (.int .i64 x)=W'/\Rx R n₀ w N M q now x b n c f b' m d t W':=by
 obtain⟨a1,a2,a3⟩:=h.turn h0 hR hN 1 (.int .i64 x);refine⟨_,rfl,a1,a2,a3,?_,h.rs.same (Below.heap_setCell _ _ _ _ (by simpa usingλe=>hM e.symm)),h.sp.off h.bx (λk hk=>Below.heap_setCell _ _ _ _ (by simpa using hk))⟩;have:=heap_setCell_same W N 1 _ _ (.int .i64 x) h.bx;simpa[ar]using this
theorem Rx.cut (h:Rx R n₀ w N M q now shift b n c f b' m d t W)(h0:n₀<=R)(hR:R<w.heap.size)(hN:w.heap.size<=N)(hM:N≠M){k:Nat}(hk:k<=m)(d':Nat):∃W',W.setCell ⟨N,3,none⟩ (.slice (some ⟨b',0,none⟩) k d')=W'/\Rx R n₀ w N M q now shift b n c f b' k d' t W':=by
 obtain⟨a1,a2,a3⟩:=h.turn h0 hR hN 3 (.slice (some ⟨b',0,none⟩) k d');have s:=h.sp.off h.bx (w':=W.setCell ⟨N,3,none⟩ (.slice (some ⟨b',0,none⟩) k d')) (λk hk=>Below.heap_setCell _ _ _ _ (by simpa using hk));refine⟨_,rfl,a1,a2,a3,?_,h.rs.same (Below.heap_setCell _ _ _ _ (by simpa usingλe=>hM e.symm)),⟨s.six,by have:=s.mm;omega,s.fit,s.om,s.ot.1,s.ot.2.1,λi hi=>s.ot.2.2 i (by omega)⟩⟩;have:=heap_setCell_same W N 3 _ _ (.slice (some ⟨b',0,none⟩) k d') h.bx;simpa[ar]using this
theorem gh.set {lo:Nat}(h:gh W lo b' m t){k:Nat}(hk:k<m)(x:Int):gh (W.setCell ⟨b',k,none⟩ (.int .i64 x)) lo b' m (λj=>if j=k then x else t j):=by
 obtain⟨h1,⟨cs,h2⟩,h3⟩:=h;exact⟨h1,⟨_,heap_setCell_same W b' k _ _ _ h2⟩,h3.set hk x⟩
theorem Rx.tick (h:Rx R n₀ w N M q now shift b n c f b' m d t W)(h0:n₀<=R)(hR:R<w.heap.size){k:Nat}(hk:k<m)(x:Int):∃W',W.setCell ⟨b',k,none⟩ (.int .i64 x)=W'/\Rx R n₀ w N M q now shift b n c f b' m d (λj=>if j=k then x else t j) W':=by
 have hb:=h.sp.ot.1;obtain⟨a1,a2,a3⟩:=h.turn h0 hR hb k (.int .i64 x);have ne:∀Y x0 x1 v u,ar W Y x0 x1 v u->Y≠b':=λY x0 x1 v u hy e=>by
  obtain⟨_,⟨cs,hc⟩,_⟩:=h.sp.ot;unfold ar at hy;rw[e,hc]at hy;simp at hy
 refine⟨_,rfl,a1,a2,a3,h.bx.same (Below.heap_setCell _ _ _ _ (by simpa using ne _ _ _ _ _ h.bx)),h.rs.same (Below.heap_setCell _ _ _ _ (by simpa using ne _ _ _ _ _ h.rs)),⟨h.sp.six,h.sp.mm,h.sp.fit,h.sp.om.same (Below.heap_setCell _ _ _ _ (by simpa using h.sp.apart)),h.sp.ot.set hk x⟩⟩
theorem Rx.tickAt (h:Rx R n₀ w N M q now shift b n c f b' m d t W)(h0:n₀<=R)(hR:R<w.heap.size){k:Nat}(hk:k<m)(x:Int):Rx R n₀ w N M q now shift b n c f b' m d (λj=>if j=k then x else t j) (W.setCell ⟨b',k,none⟩ (.int .i64 x)):=by
 obtain⟨W',rfl,h⟩:=h.tick h0 hR hk x;exact h
theorem Rx.mv (h:Rx R n₀ w N M q now shift b n c f b' m d t W)(h0:n₀<=R)(hR:R<w.heap.size){k:Nat}(hk:k<n){x:Mv}(hx:eu x):Rx R n₀ w N M q now shift b n c (λj=>if j=k then x else f j) b' m d t (setMv W b (k*6) x):=by
 have hb:=h.sp.om.1;have e:=jg W b (k*6) x;refine⟨h.rd.setMv (by omega) _ _,vH h.but hb _ _,mc h.below (by omega) _ _,h.bx.same (e _ (h.sp.om.ne h.bx).symm),h.rs.same (e _ (h.sp.om.ne h.rs).symm),⟨h.sp.six,h.sp.mm,λj hj=>?_,h.sp.om.put hk x,h.sp.ot.same (e _ h.sp.apart.symm)⟩⟩;by_cases q:j=k
 .simp only[if_pos q];exact hx
 .simp only[if_neg q];exact h.sp.fit j hj
theorem Rx.fin (h:Rx R n₀ w N M q now shift b n c f b' m d t W)(h0:n₀<=R)(hR:R<w.heap.size)(hM:w.heap.size<=M):∃W',((((W.setCell ⟨M,0,none⟩ (.int .i64 now)).setCell ⟨M,1,none⟩ (.int .i64 shift)).setCell ⟨M,2,none⟩ (.slice (some ⟨b,0,none⟩) n c)).setCell ⟨M,3,none⟩ (.slice (some ⟨b',0,none⟩) m d))=W'/\ar W' M now shift (.slice (some ⟨b,0,none⟩) n c) (.slice (some ⟨b',0,none⟩) m d)/\Sp W' w.heap.size b n f b' m t/\Rd W' R q/\dg R w W'/\Below n₀ w W':=by
 obtain⟨W',e,k,hb',hz,hn⟩:=bg h.rs h.below (by omega) now shift (some ⟨b,0,none⟩) n c (some ⟨b',0,none⟩) m d;refine⟨W',e,k,h.sp.off h.rs hn,?_,⟨by rw[hz];exact h.but.size,λi hi hne=>(hn i (by omega)).trans (h.but.block i hi hne)⟩,hb'⟩;rw[<-e];exact(((h.rd.set (by omega) _ _).set (by omega) _ _).set (by omega) _ _).set (by omega) _ _
end
def zy (lo:Nat)(e:Ending)(w':World):Prop:=∃(now shift:Int) (b n c:Nat) (f:Nat->Mv) (b' m d:Nat) (t:Nat->Int),e=.returned (.agg #[.int .i64 now,.int .i64 shift,.slice (some ⟨b,0,none⟩) n c,.slice (some ⟨b',0,none⟩) m d])/\Sp w' lo b n f b' m t
theorem xK (w:World)(cs:Array Value):∃W,w.alloc (.cells cs 3)=W/\W.heap[w.heap.size]?=some (.cells cs 3 (0,0))/\Below w.heap.size w W/\W.heap.size=w.heap.size+1:=
 ⟨_,rfl,heap_alloc_new w _,(Below.refl _ w).alloc (Nat.le_refl _) _,by simp⟩
theorem BO (a b:Int)(k:Nat)(hk:k<2):∃v:Int,(#[.int .i64 a,.int .i64 b]:Array Value)[k]?=some (.int .i64 v):=by
 match k,hk with
 |0,_=>exact⟨a,rfl⟩
 |1,_=>exact⟨b,rfl⟩
theorem tU {lo:Nat}(R:Nat)(p:Int)(now shift:Int)(ao:Option Addr)(n c:Nat)(f:Nat->Mv)(bo:Option Addr)(d:Nat)(t:Nat->Int)(w:World)(n₀:Nat)(h0:n₀<=R)(hr:Rd w R p)(hp:p<=600000)(hB:iE w lo now shift ao n c f bo d t):
  Calls Tryz0.prog 74 #[.pointer (some ⟨R,0,none⟩),.agg #[.int .i64 now,.int .i64 shift,.slice ao n c,.slice bo n d]] w λe w'=>zy w.heap.size e w'/\qF R p 20 n₀ w w':=by
 have hR:=hr.lt;have h6:=hB.six;have hnw:=hB.now;have hsh:=hB.sh;obtain⟨W0,hW0⟩:∃W,W=(w.alloc (.cells #[.int .i64 now,.int .i64 shift,.slice ao n c,.slice bo n d] 38)).alloc (.cells #[.int .i64 0,.int .i64 0,.slice none 0 0,.slice none 0 0] 38):=⟨_,rfl⟩;have b0:Below w.heap.size w W0:=by rw[hW0];exact((Below.refl _ w).alloc (Nat.le_refl _) _).alloc (by simp) _
 have bk0:ar W0 w.heap.size now shift (.slice ao n c) (.slice bo n d):=by rw[hW0];exact(Below.heap_alloc _ _ _ (by simp)).trans (heap_alloc_new _ _)
 have rs0:ar W0 (w.heap.size+1) 0 0 (.slice none 0 0) (.slice none 0 0):=by rw[hW0];exact be _ _ _
 have hz0:W0.heap.size=w.heap.size+2:=by rw[hW0];simp
 have HC:=cU now shift ao n c f bo n d t W0 (by omega) (by omega) (hB.below b0).srcM (hB.below b0).srcI;rw[hW0]at HC;have hX:∀(w2 W3:World) (Bx cx Bi ci:Nat),Below W0.heap.size W0 w2->w2.ownsRow W0.heap.size 42 6 (.slice (some ⟨Bx,0,none⟩) n cx) n (aS f n)->w2.ownsRow W0.heap.size 3 1 (.slice (some ⟨Bi,0,none⟩) n ci) n (dh t n)->Below w2.heap.size w2 W3->ar W3 w2.heap.size now shift (.slice (some ⟨Bx,0,none⟩) n cx) (.slice (some ⟨Bi,0,none⟩) n ci)->Rx R n₀ w w2.heap.size (w.heap.size+1) p now shift Bx n cx f Bi n ci t W3:=λw2 W3 Bx cx Bi ci b2 oM oI b3 k3=>by
  have z2:=b2.size;have B2:=b0.trans (b2.mono b0.size);have B3:=B2.trans (b3.mono B2.size);refine⟨hr.below B3,dg.of B3,B3.mono (by omega),k3,rs0.same ((b3.block _ (by omega)).trans (b2.block _ (by omega))),⟨h6,h6,λi hi=>(qH (hB.ok i hi)).fitting,iC.of (aU (ai oM (λB hB=>b3.block B (oM.lt B hB).2)) (by omega)),gh.of (aU (ai oI (λB hB=>b3.block B (oI.lt B hB).2)) (by omega))⟩⟩
 by_cases hn:n=0
 .subst hn;go_enter Tryz0.func74,Tryz.ntmps74
  obtain⟨y0,y1,y2,y3,y4⟩:=bk0.cells;go_wp2_with(first
   |(go_at_call 131;refine HC.mono ?_;clear HC;rintro e w2 ⟨⟨Bx,cx,Bi,ci,rfl,oM,oI⟩,b2⟩;rw[<-hW0]at oM oI b2;obtain⟨W3,e3,k3,b3,z3⟩:=dN w2 now shift (some ⟨Bx,0,none⟩) 0 cx (some ⟨Bi,0,none⟩) 0 ci;have hS:=hX w2 W3 Bx cx Bi ci b2 oM oI b3 k3;have lN:=hS.bx.lt;have lN2:w.heap.size+1<w2.heap.size:=(by have:=b2.size;omega);obtain⟨p0,p1,p2,p3,p4⟩:=k3.cells;obtain⟨WL,eL,kL,bL,zL⟩:=xK W3 #[.int .i64 (-1),.int .i64 10001];have hSL:=hS.grow h0 bL;have lz:R<W3.heap.size:=hS.rd.lt;have H2:=aH R p 2 WL n₀ h0 hSL.rd (by omega) (by omega) (by omega);clear z3 zL)
   |(go_at_call 22;refine H2.mono ?_;clear H2;rintro e w4 ⟨⟨z,rfl,l1,u1⟩,r4,t4,b4⟩;obtain⟨k,rfl⟩:∃k:Nat,z=(k:Int):=⟨z.toNat,(by omega)⟩;have hS4:=hSL.to hR (by omega) (by omega) r4 t4 b4;obtain⟨v,hv⟩:=BO (-1) 10001 k (by omega);have hc:w4.cell? ⟨W3.heap.size,k,none⟩=some (.int .i64 v):=(cell_of_row _ _ _ _ _ _ ((t4.block _ (Array.getElem?_eq_some_iff.1 kL).1 (by omega)).trans kL)).trans hv;obtain⟨p0,p1,p2,p3,p4⟩:=hS4.bx.cells;obtain⟨W5,e5,hS5⟩:=hS4.setNow h0 hR (by omega) (by omega) v;obtain⟨g0,g1,g2,g3,g4⟩:=hS5.bx.cells;obtain⟨r0,r1,r2,r3,r4'⟩:=hS5.rs.cells))
  obtain⟨W6,e6,k6,hs6,hrd6,hbt6,hbl6⟩:=hS5.fin h0 hR (by omega);rw[e6];obtain⟨q0,q1,q2,q3,q4⟩:=k6.cells;exact bodyPost_ret (v:=.agg #[.int .i64 v,.int .i64 shift,.slice (some ⟨Bx,0,none⟩) 0 cx,.slice (some ⟨Bi,0,none⟩) 0 ci]) (by simp[results,Tryz.f74,go_sem,q0,q1,q2,q3]) rfl ⟨⟨v,shift,Bx,0,cx,f,Bi,0,ci,t,rfl,hs6⟩,⟨_,by omega,by omega,hrd6⟩,hbt6,hbl6⟩
 have hn':¬(n:Int)=0:=by omega
 go_enter Tryz0.func74,Tryz.ntmps74
 refine gi [_,_,_,_] (λa' w'=>∃(k N b c2 b' d2:Nat),k<n/\n<=d2/\w.heap.size+1<N/\Rx R n₀ w N (w.heap.size+1) (p+1) now shift b n c2 f b' n d2 t w'/\bX a' (λu=>#[.pointer (some ⟨R,0,none⟩),u 1,u 2,u 3,.pointer (some ⟨w.heap.size+1,0,none⟩),.pointer (some ⟨N,0,none⟩),.int .i64 k,u 7,u 8,u 9,u 10,u 11,u 12,u 13,u 14,u 15,u 16,u 17,u 18,u 19,u 20,u 21,u 22,u 23,u 24,u 25,u 26,u 27,u 28,u 29,u 30,u 31,u 32,u 33,u 34,u 35,u 36,u 37,u 38,u 39,u 40,u 41,u 42,u 43,u 44,u 45,u 46,u 47,u 48,u 49,u 50,u 51,u 52,u 53,u 54,u 55,u 56,u 57,u 58,u 59,u 60,u 61,u 62,u 63,u 64,u 65,u 66,u 67,u 68,u 69,u 70,u 71,u 72,u 73,u 74,u 75,u 76,u 77])) ?_ ?_
 .simp only[aK];obtain⟨y0,y1,y2,y3,y4⟩:=bk0.cells;go_wp2_with(first
   |(go_at_call 131;refine HC.mono ?_;clear HC;rintro e w2 ⟨⟨Bx,cx,Bi,ci,rfl,oM,oI⟩,b2⟩;rw[<-hW0]at oM oI b2;have hci:=(cj oI).2.2;obtain⟨W3,e3,k3,b3,z3⟩:=dN w2 now shift (some ⟨Bx,0,none⟩) n cx (some ⟨Bi,0,none⟩) n ci;have hS:=hX w2 W3 Bx cx Bi ci b2 oM oI b3 k3;have lN2:w.heap.size+1<w2.heap.size:=(by have:=b2.size;omega);obtain⟨p0,p1,p2,p3,p4⟩:=k3.cells;have H2:=aH R p n W3 n₀ h0 hS.rd (by omega) (by omega) (by omega);clear z3)
   |(go_at_call 22;refine H2.mono ?_;clear H2;rintro e w4 ⟨⟨z,rfl,l1,u1⟩,r4,t4,b4⟩;obtain⟨k,rfl⟩:∃k:Nat,z=(k:Int):=⟨z.toNat,(by omega)⟩;have hS4:=hS.to hR (by omega) (by omega) r4 t4 b4))
  all_goals first|(exfalso;omega)|skip
  exact⟨k,_,_,_,_,_,by omega,hci,lN2,hS4,rfl,rfl⟩
 clear HC hX bk0 rs0 b0 hW0 hz0 hn';rintro a' w1 ⟨k,N,b,c2,b',d2,hk,hd2,hN,hS,hfr⟩;obtain⟨u,rfl⟩:=hfr.open;clear hfr;refine gi [_] (λa' w'=>∃(nw sf:Int) (b2 n2 c2:Nat) (f2:Nat->Mv) (b2' m2 d2:Nat) (t2:Nat->Int) (q:Int),p<=q/\q<=p+20/\Rx R n₀ w N (w.heap.size+1) q nw sf b2 n2 c2 f2 b2' m2 d2 t2 w'/\bX a' (λu=>#[u 0,u 1,u 2,u 3,.pointer (some ⟨w.heap.size+1,0,none⟩),.pointer (some ⟨N,0,none⟩),u 6,u 7,u 8,u 9,u 10,u 11,u 12,u 13,u 14,u 15,u 16,u 17,u 18,u 19,u 20,u 21,u 22,u 23,u 24,u 25,u 26,u 27,u 28,u 29,u 30,u 31,u 32,u 33,u 34,u 35,u 36,u 37,u 38,u 39,u 40,u 41,u 42,u 43,u 44,u 45,u 46,u 47,u 48,u 49,u 50,u 51,u 52,u 53,u 54,u 55,u 56,u 57,u 58,u 59,u 60,u 61,u 62,u 63,u 64,u 65,u 66,u 67,u 68,u 69,u 70,u 71,u 72,u 73,u 74,u 75,u 76,u 77])) ?_ ?_
 .simp only[aK];have H5:=aH R (p+1) 5 w1 n₀ h0 hS.rd (by omega) (by omega) (by omega);have hkd:(k:Int)<=d2:=by omega
  have hk0:(0:Int)<=k:=by omega
  go_wp2_with(first
   |(go_at_call 22;refine H5.mono ?_;clear H5;rintro e w2 ⟨⟨z5,rfl,l5,u5⟩,r5,t5,b5⟩;have hS5:=hS.to hR (by omega) (by omega) r5 t5 b5;obtain⟨p0,p1,p2,p3,p4⟩:=hS5.bx.cells;obtain⟨WC,eC,hSC⟩:=hS5.cut h0 hR (by omega) (by omega) (k:=k) (by omega) d2;obtain⟨WL,eL,kL,bL,zL⟩:=xK w2 #[.int .i64 (-1),.int .i64 6,.int .i64 7];have hSL:=hS5.grow h0 bL;have lz:R<w2.heap.size:=hS5.rd.lt;have HQ:=aH R (p+1+1) 3 WL n₀ h0 hSL.rd (by omega) (by omega) (by omega);clear zL)
   |(go_at_call 22;refine HQ.mono ?_;clear HQ;rintro e w4 ⟨⟨z,rfl,l1,u1⟩,r4,t4,b4⟩;obtain⟨j,rfl⟩:∃j:Nat,z=(j:Int):=⟨z.toNat,(by omega)⟩;have hS4:=hSL.to hR (by omega) (by omega) r4 t4 b4;obtain⟨v,hv,hv2⟩:=AM (-1) 6 7 j (by omega);have hc:w4.cell? ⟨w2.heap.size,j,none⟩=some (.int .i64 v):=(cell_of_row _ _ _ _ _ _ ((t4.block _ (Array.getElem?_eq_some_iff.1 kL).1 (by omega)).trans kL)).trans hv;obtain⟨p0,p1,p2,p3,p4⟩:=hS4.bx.cells;obtain⟨W6,e6,hS6⟩:=hS4.setShift h0 hR (by omega) (by omega) v))
  all_goals first
   |exact⟨_,_,_,_,_,_,_,_,_,_,_,by omega,by omega,hS6,rfl,rfl⟩
   |exact⟨_,_,_,_,_,_,_,_,_,_,_,by omega,by omega,hSC,rfl,rfl⟩
   |skip
  all_goals
   clear HQ hSL kL bL eL eC hSC;have hD:=hS5.grow h0 (Below.refl _ _).drew;obtain⟨p0,p1,p2,p3,p4⟩:=hD.bx.cells;have lz2:=hD.rd.lt
  focus
   have H9:=aH R (p+1+1) 9 w2.drew n₀ h0 hD.rd (by omega) (by omega) (by omega);have hw1:IntKind.i64.wrap (now+1)=now+1:=by rw[IntKind.wrap_i64];omega
   go_region_with(first|(go_at_call 22;refine H9.mono ?_;clear H9;rintro e w4 ⟨⟨z,rfl,l1,u1⟩,r4,t4,b4⟩;have hS4:=hD.to hR (by omega) (by omega) r4 t4 b4;obtain⟨p0,p1,p2,p3,p4⟩:=hS4.bx.cells;have hw2:IntKind.i64.wrap (now+1+z)=now+1+z:=(by rw[IntKind.wrap_i64];omega);obtain⟨W6,e6,hS6⟩:=hS4.setNow h0 hR (by omega) (by omega) (now+1+z)))
   all_goals
    go_wp2;exact⟨_,_,_,_,_,_,_,_,_,_,_,by omega,by omega,hS6,rfl,rfl⟩
  focus
   obtain⟨_,⟨cs,hcs,hsz⟩,hrow⟩:=hD.sp.om;obtain⟨c0,c1,c2',c3,c4,c5⟩:=hrow k hk;simp only[Nat.zero_add]at c0 c1 c2' c3 c4 c5;have hlb:b<w2.drew.heap.size:=hD.sp.om.lt;have hkn:(k:Int)<n:=by omega
   have HSP:=vA R (p+1+1) (f k) w2.drew n₀ h0 hD.rd (by omega) (qH (hB.ok k hk));go_region_with(first|(go_at_call 44;refine HSP.mono ?_;clear HSP;rintro e w4 ⟨⟨m',rfl,hf'⟩,⟨q4,hq4,hq5,r4⟩,t4,b4⟩;have hS4:=hD.to hR (by omega) (by omega) r4 t4 b4;obtain⟨p0,p1,p2,p3,p4⟩:=hS4.bx.cells;obtain⟨_,⟨cs4,hcs4,hsz4⟩,hrow4⟩:=hS4.sp.om;obtain⟨c0,c1,c2',c3,c4,c5⟩:=hrow4 k hk;simp only[Nat.zero_add]at c0 c1 c2' c3 c4 c5;have fr:=λj=>frozen_of_row w4 _ j _ _ hcs4;have hlb4:b<w4.heap.size:=hS4.sp.om.lt;have hS6:=hS4.mv h0 hR hk hf'))
   all_goals
    go_wp2;exact⟨_,_,_,_,_,_,_,_,_,_,_,by omega,by omega,hS6,rfl,rfl⟩
  focus
   obtain⟨_,⟨cs,hcs⟩,hrow⟩:=hD.sp.ot;have tk:=hrow k hk;simp only[Nat.zero_add]at tk;have hlb:b'<w2.drew.heap.size:=hD.sp.ot.lt;have hkn:(k:Int)<n:=by omega
   have H9:=aH R (p+1+1) 5 w2.drew n₀ h0 hD.rd (by omega) (by omega) (by omega);go_region_with(first|(go_at_call 22;refine H9.mono ?_;clear H9;rintro e w4 ⟨⟨z,rfl,l1,u1⟩,r4,t4,b4⟩;have hS4:=hD.to hR (by omega) (by omega) r4 t4 b4;obtain⟨p0,p1,p2,p3,p4⟩:=hS4.bx.cells;obtain⟨_,⟨cs4,hcs4⟩,hrow4⟩:=hS4.sp.ot;have tk:=hrow4 k hk;simp only[Nat.zero_add]at tk;have fr:=λj=>frozen_of_row w4 _ j _ _ hcs4;have hlb4:b'<w4.heap.size:=hS4.sp.ot.lt;have hS6:=λx=>hS4.tickAt h0 hR hk x))
   all_goals
    go_wp2;exact⟨_,_,_,_,_,_,_,_,_,_,_,by omega,by omega,hS6 _,rfl,rfl⟩
 rintro a' w2 ⟨nw,sf,b2,n2,c3,f2,b2',m2,d3,t2,q2,hq2,hq3,hS2,hfr⟩;clear u hS;obtain⟨u,rfl⟩:=hfr.open;clear hfr;obtain⟨y0,y1,y2,y3,y4⟩:=hS2.bx.cells;obtain⟨r0,r1,r2,r3,r4⟩:=hS2.rs.cells;go_wp2;obtain⟨W5,e5,k5,hs5,hrd5,hbt5,hbl5⟩:=hS2.fin h0 hR (by omega);rw[e5];obtain⟨q0',q1',q2',q3',q4'⟩:=k5.cells;exact bodyPost_ret (v:=.agg #[.int .i64 nw,.int .i64 sf,.slice (some ⟨b2,0,none⟩) n2 c3,.slice (some ⟨b2',0,none⟩) m2 d3]) (by simp[results,Tryz.f74,go_sem,q0',q1',q2',q3']) rfl ⟨⟨nw,sf,b2,n2,c3,f2,b2',m2,d3,t2,rfl,hs5⟩,⟨_,hq2,hq3,hrd5⟩,hbt5,hbl5⟩
def oh (lo:Nat)(e:Ending)(w':World):Prop:=(∃now shift:Int,e=.returned (.agg #[.int .i64 now,.int .i64 shift,.slice none 0 0,.slice none 0 0])/\(0<=now/\now<=10000)/\0<=shift/\shift<=6)\/zy lo e w'
theorem Ar {w:World}{lo:Nat}{now shift:Int}{ao:Option Addr}{n c:Nat}{f:Nat->Mv}{bo:Option Addr}{d:Nat}{t:Nat->Int}(h:iE w lo now shift ao n c f bo d t):oh lo (.returned (.agg #[.int .i64 now,.int .i64 shift,.slice ao n c,.slice bo n d])) w:=by
 rcases h.mem with⟨rfl,rfl,rfl,rfl,rfl⟩|⟨b,b',rfl,rfl,o1,hd,o2⟩
 .exact .inl ⟨now,shift,rfl,h.now,h.sh⟩
 .exact .inr ⟨now,shift,b,n,c,f,b',n,d,t,rfl,h.six,h.six,λi hi=>(qH (h.ok i hi)).fitting,iC.of o1,o2⟩
theorem xL (R:Nat)(p:Int)(w:World)(n₀:Nat)(h0:n₀<=R)(hr:Rd w R p)(hp:p<=500000):
  Calls Tryz0.prog 39 #[.pointer (some ⟨R,0,none⟩)] w λe w'=>oh (R+1) e w'/\qF R p 450 n₀ w w':=by
 have hR:=hr.lt;obtain⟨W0,e0,k0,b0,z0⟩:=dN w 0 0 none 0 0 none 0 0;have HBK:=vG R p W0 n₀ h0 (hr.below b0) hp;go_enter Tryz0.func39,Tryz.ntmps39
 go_wp2_with(first
  |(go_at_call 73;refine HBK.mono ?_;clear HBK;rintro e w1 ⟨⟨nw,sf,ao,n,c,f,bo,d,t,rfl,hbok⟩,⟨q1,hq1,hq2,r1⟩,t1,b1⟩;have hz1:=t1.size;obtain⟨W2,e2,k2,b2,z2⟩:=dN w1 nw sf ao n c bo n d;have hS:Rs R n₀ w w1.heap.size w.heap.size q1 nw sf ao n c f bo d t W2:=⟨r1.below b2,((dg.of b0).trans t1).trans (dg.of b2),((b0.mono (by omega)).trans b1).trans (b2.mono (by omega)),k2,k0.same ((b2.block _ (by omega)).trans (t1.block _ (by omega) (by omega))),hbok.below b2⟩;have e2h:Hid (w1.alloc (.cells #[.int .i64 nw,.int .i64 sf,.slice ao n c,.slice bo n d] 38)=W2):=e2;clear e2 z2;have H2:=aH R q1 16 W2 n₀ h0 hS.rd (by omega) (by omega) (by omega);rw[<-e2h.out]at H2)
  |(go_at_call 22;refine H2.mono ?_;clear H2;rintro e w3 ⟨⟨z3,rfl,l3,u3⟩,r3,t3,b3⟩;rw[e2h.out]at t3 b3;have hS3:=hS.to (by omega) (by omega) r3 t3 b3;obtain⟨y0,y1,y2,y3,y4⟩:=hS3.bx.cells;obtain⟨g0,g1,g2,g3,g4⟩:=hS3.rs.cells;have HSP:=tU R (q1+1) nw sf ao n c f bo d t w3 n₀ h0 r3 (by omega) hS3.bok)
  |(go_at_call 74;refine HSP.mono ?_;clear HSP;rintro e w4 ⟨⟨nw4,sf4,b4',n4,c4,f4,bi4,m4,d4,t4',rfl,hsp⟩,⟨q4,hq4,hq5,r4⟩,t4,b4⟩;have hS4:=hS3.to (by omega) (by omega) r4 t4 b4;obtain⟨g0,g1,g2,g3,g4⟩:=hS4.rs.cells))
 all_goals first
  |(obtain⟨W5,e5,k5,hb5,hz5,hn5⟩:=bg hS4.rs hS4.below (by omega) nw4 sf4 (some ⟨b4',0,none⟩) n4 c4 (some ⟨bi4,0,none⟩) m4 d4
    rw[e5];obtain⟨q0,q1',q2,q3,q4'⟩:=k5.cells;refine bodyPost_ret (v:=.agg #[.int .i64 nw4,.int .i64 sf4,.slice (some ⟨b4',0,none⟩) n4 c4,.slice (some ⟨bi4,0,none⟩) m4 d4]) (by simp[results,Tryz.f39,go_sem,q0,q1',q2,q3]) rfl ⟨.inr ⟨nw4,sf4,b4',n4,c4,f4,bi4,m4,d4,t4',rfl,(hsp.off hS4.rs hn5).mono (by have:=hS3.rd.lt;omega)⟩,⟨q4,by omega,by omega,?_⟩,⟨by rw[hz5];exact hS4.but.size,λi hi hne=>(hn5 i (by omega)).trans (hS4.but.block i hi hne)⟩,hb5⟩;rw[<-e5];exact(((hS4.rd.set (by omega) _ _).set (by omega) _ _).set (by omega) _ _).set (by omega) _ _)
  |(obtain⟨W5,e5,k5,hbk5,hrd5,hbt5,hbl5⟩:=hS3.fin h0 hR (by omega)
    rw[e5];obtain⟨q0,q1',q2,q3,q4'⟩:=k5.cells;exact bodyPost_ret (v:=.agg #[.int .i64 nw,.int .i64 sf,.slice ao n c,.slice bo n d]) (by simp[results,Tryz.f39,go_sem,q0,q1',q2,q3]) rfl ⟨Ar hbk5,⟨_,by omega,by omega,hrd5⟩,hbt5,hbl5⟩)
structure Dx (R:Nat)(w:World)(N:Nat)(q now shift:Int)(b n c:Nat)(f:Nat->Mv)(b' m d:Nat)(t:Nat->Int)(W:World):Prop where
 rd:Rd W R q
 below:Below w.heap.size w W
 bx:ar W N now shift (.slice (some ⟨b,0,none⟩) n c) (.slice (some ⟨b',0,none⟩) m d)
 rs:ar W w.heap.size 0 0 (.slice none 0 0) (.slice none 0 0)
 sp:Sp W (R+1) b n f b' m t
section
variable {R N:Nat}{w W W':World}{q q' now shift:Int}{b n c:Nat}{f:Nat->Mv}{b' m d:Nat}{t:Nat->Int}
theorem Dx.to (h:Dx R w N q now shift b n c f b' m d t W)(hR:w.heap.size<R)(hN:R<N)(r:Rd W' R q')(bu:dg R W W')(l:Below w.heap.size W W'):Dx R w N q' now shift b n c f b' m d t W':=
 ⟨r,h.below.trans l,h.bx.same (bu.block _ h.bx.lt (by omega)),h.rs.same (bu.block _ h.rs.lt (by omega)),h.sp.same λk hk hl=>bu.block k hl (by omega)⟩
theorem Dx.drew (h:Dx R w N q now shift b n c f b' m d t W):Dx R w N q now shift b n c f b' m d t W.drew:=⟨h.rd.drew,h.below.drew,h.bx,h.rs,h.sp.same λ_ _ _=>rfl⟩
theorem Dx.late (h:Dx R w N q now shift b n c f b' m d t W)(hR:w.heap.size<R){k:Nat}(hk:k<n){x:Int}(hx:-9223372036854775808<=x/\x<=9223372036854775807):Dx R w N q now shift b n c (λi=>if i=k then{f k with late:=x}else f i) b' m d t (W.setCell ⟨b,k*6+4,none⟩ (.int .i64 x)):=by
 have hb:=h.sp.om.1;refine⟨h.rd.set (by omega) _ _,h.below.setCell (by simp;omega) _,h.bx.same (Below.heap_setCell _ _ _ _ (by simpa using(h.sp.om.ne h.bx).symm)),h.rs.same (Below.heap_setCell _ _ _ _ (by simpa using(h.sp.om.ne h.rs).symm)),⟨h.sp.six,h.sp.mm,λj hj=>?_,h.sp.om.late hk x,h.sp.ot.same (Below.heap_setCell _ _ _ _ (by simpa using h.sp.apart.symm))⟩⟩;by_cases e:j=k
 .subst e;simp only[if_true];obtain⟨a1,a2,a3,a4,a5⟩:=h.sp.fit j hj;exact⟨a1,a2,a3,hx,a5⟩
 .simp only[if_neg e];exact h.sp.fit j hj
end
theorem vI {R:Nat}{p:Int}{w:World}{n₀:Nat}(h:Calls Tryz0.prog 39 #[.pointer (some ⟨R,0,none⟩)] w λe w'=>oh (R+1) e w'/\qF R p 450 n₀ w w'):
  Calls Tryz0.prog 39 #[.pointer (some ⟨R,0,none⟩)] w λe w'=>∃(nw sf:Int) (ao:Option Addr) (n c:Nat) (bo:Option Addr) (m d:Nat),e=.returned (.agg #[.int .i64 nw,.int .i64 sf,.slice ao n c,.slice bo m d])/\((ao=none/\bo=none/\n=0/\c=0/\m=0/\d=0/\(0<=nw/\nw<=10000)/\0<=sf/\sf<=6)\/∃(b b':Nat) (f:Nat->Mv) (t:Nat->Int),ao=some ⟨b,0,none⟩/\bo=some ⟨b',0,none⟩/\Sp w' (R+1) b n f b' m t)/\qF R p 450 n₀ w w':=
 h.mono λe w' h=>by
  obtain⟨⟨nw,sf,rfl,h1,h2⟩|⟨nw,sf,b,n,c,f,b',m,d,t,rfl,hs⟩,hw⟩:=h
  .exact⟨nw,sf,none,0,0,none,0,0,rfl,.inl ⟨rfl,rfl,rfl,rfl,rfl,rfl,h1,h2⟩,hw⟩
  .exact⟨nw,sf,_,n,c,_,m,d,rfl,.inr ⟨b,b',f,t,rfl,rfl,hs⟩,hw⟩
theorem zc (y:Int):-9223372036854775808<=IntKind.i64.wrap y/\IntKind.i64.wrap y<=9223372036854775807:=by rw[IntKind.wrap_i64];omega
theorem vJ (a:Option Addr)(l cap:Nat)(cd:Nat->Int)(w:World)(h:jf w a l cd)(hcap:l<=cap):
  Calls Tryz0.prog 14 #[.slice a l cap] w λe w'=>oh w.heap.size e w'/\Below w.heap.size w w':=by
 obtain⟨W0,e0,k0,b0,z0⟩:=dN w 0 0 none 0 0 none 0 0;have hc0:jf W0 a l cd:=by
  obtain⟨h1,h2,h3⟩:=h;refine⟨h1,h2.imp id λ⟨b,off,e,hl,hr⟩=>⟨b,off,e,by omega,λi hi=>(b0.cell (p:=⟨b,off+i,none⟩) hl).trans (hr i hi)⟩,h3⟩
 have HO:=xC a l cap cd W0 hc0 hcap;go_enter Tryz0.func14,Tryz.ntmps14
 refine gi [_,_,_] (λa' w'=>∃(R N:Nat) (nw sf:Int),w.heap.size<R/\R<N/\Below w.heap.size w w'/\ar w' w.heap.size 0 0 (.slice none 0 0) (.slice none 0 0)/\bX a' (λu=>#[u 0,u 1,.pointer (some ⟨w.heap.size,0,none⟩),.pointer (some ⟨R,0,none⟩),.pointer (some ⟨N,0,none⟩),u 5,u 6,u 7,u 8,u 9,u 10,u 11,u 12,u 13,u 14,u 15,u 16,u 17,u 18,u 19,u 20,u 21,u 22,u 23,u 24,u 25,u 26,u 27,u 28,u 29,u 30,u 31,u 32,u 33,u 34,u 35,u 36,u 37,u 38,u 39,u 40,u 41,u 42,u 43,u 44,u 45,u 46,u 47,u 48,u 49,u 50,u 51,u 52,u 53,u 54,u 55,u 56,u 57,u 58])/\((ar w' N nw sf (.slice none 0 0) (.slice none 0 0)/\(0<=nw/\nw<=10000)/\0<=sf/\sf<=6)\/∃(b n c:Nat) (f:Nat->Mv) (b' m d:Nat) (t:Nat->Int) (q:Int),q<=1000/\Dx R w N q nw sf b n c f b' m d t w')) ?_ ?_
 .simp only[aK];go_wp2_with(first
   |(go_at_call 20;refine HO.mono ?_;clear HO;rintro e w1 ⟨rfl,r1,b1⟩;have z1:=b1.size;rw[z0]at r1;have lr1:=r1.lt;have HAN:=xL (w.heap.size+1) 0 w1 w.heap.size (by omega) r1 (by omega))
   |(go_at_call 39;refine(vI HAN).mono ?_;clear HAN;rintro e w2 ⟨nw,sf,ao,n,c,bo,m,d,rfl,hcase,⟨q2,hq2,hq3,r2⟩,t2,b2⟩;have z2:=t2.size;obtain⟨W3,e3,k3,b3,z3⟩:=dN w2 nw sf ao n c bo m d))
  have B1:=b0.trans (b1.mono b0.size);have B2:=B1.trans b2;have B3:=B2.trans (b3.mono B2.size);have hrs:ar W3 w.heap.size 0 0 (.slice none 0 0) (.slice none 0 0):=k0.same ((b3.block _ (by omega)).trans ((t2.block _ (by omega) (by omega)).trans (b1.block _ (by omega))));refine⟨w.heap.size+1,w2.heap.size,nw,sf,by omega,by omega,B3,hrs,⟨rfl,rfl⟩,?_⟩;rcases hcase with⟨rfl,rfl,rfl,rfl,rfl,rfl,h1,h2⟩|⟨b,b',f,t,rfl,rfl,hs⟩
  .exact .inl ⟨k3,h1,h2⟩
  .exact .inr ⟨b,n,c,f,b',m,d,t,q2,by omega,⟨r2.below b3,B3,k3,hrs,hs.same λk _ hl=>b3.block k hl⟩⟩
 clear HO hc0 h k0 b0 e0;rintro a' w1 ⟨R,N,nw,sf,hR,hN,hb,hrs,hfr,hcase⟩;obtain⟨u,rfl⟩:=hfr.open;clear hfr;rcases hcase with⟨hbx,hnw,hsf⟩|⟨b,n,c,f,b',m,d,t,q,hq,hD⟩
 .obtain⟨y0,y1,y2,y3,y4⟩:=hbx.cells;obtain⟨r0,r1,r2,r3,r4⟩:=hrs.cells;go_wp2;obtain⟨W9,e9,k9,hb9,hz9,hn9⟩:=bg hrs hb (Nat.le_refl _) nw sf none 0 0 none 0 0;rw[e9];obtain⟨q0,q1,q2,q3,q4⟩:=k9.cells;exact bodyPost_ret (v:=.agg #[.int .i64 nw,.int .i64 sf,.slice none 0 0,.slice none 0 0]) (by simp[results,Tryz.f14,go_sem,q0,q1,q2,q3]) rfl ⟨.inl ⟨nw,sf,rfl,hnw,hsf⟩,hb9⟩
 .clear hrs hb;obtain⟨y0,y1,y2,y3,y4⟩:=hD.bx.cells;obtain⟨r0,r1,r2,r3,r4⟩:=hD.rs.cells;have hq0:=hD.rd.low;by_cases hn:n=0
  .subst hn;go_wp2
   (obtain⟨W9,e9,k9,hb9,hz9,hn9⟩:=bg hD.rs hD.below (Nat.le_refl _) nw sf (some ⟨b,0,none⟩) 0 c (some ⟨b',0,none⟩) m d;rw[e9];obtain⟨q0,q1,q2,q3,q4⟩:=k9.cells;exact bodyPost_ret (v:=.agg #[.int .i64 nw,.int .i64 sf,.slice (some ⟨b,0,none⟩) 0 c,.slice (some ⟨b',0,none⟩) m d]) (by simp[results,Tryz.f14,go_sem,q0,q1,q2,q3]) rfl ⟨.inr ⟨nw,sf,b,0,c,_,b',m,d,t,rfl,(hD.sp.off hD.rs hn9).mono (by omega)⟩,hb9⟩)
  .have hn':(0:Int)<n:=by omega
   have h6:=hD.sp.six;by_cases hm:m=n
   .subst hm;have HP2:=aH R q 2 w1 w.heap.size (by omega) hD.rd (by omega) (by omega) (by omega);go_wp2_with(first
     |(go_at_call 22;refine HP2.mono ?_;clear HP2;rintro e w2 ⟨⟨z2,rfl,l2,u2⟩,r2',t2,b2⟩;have hD2:=hD.to hR hN r2' t2 b2;obtain⟨y0,y1,y2,y3,y4⟩:=hD2.bx.cells;obtain⟨r0,r1,r2,r3,r4⟩:=hD2.rs.cells;have HPN:=aH R (q+1) m w2 w.heap.size (by omega) hD2.rd (by omega) (by omega) (by omega))
     |(go_at_call 22;refine HPN.mono ?_;clear HPN;rintro e w3 ⟨⟨z3,rfl,l3,u3⟩,r3',t3,b3⟩;obtain⟨k,rfl⟩:∃k:Nat,z3=(k:Int):=⟨z3.toNat,(by omega)⟩;have hD3:=hD2.to hR hN r3' t3 b3))
    rotate_left
    ·(obtain⟨W9,e9,k9,hb9,hz9,hn9⟩:=bg hD2.rs hD2.below (Nat.le_refl _) nw sf (some ⟨b,0,none⟩) m c (some ⟨b',0,none⟩) m d;rw[e9];obtain⟨q0,q1,q2,q3,q4⟩:=k9.cells;exact bodyPost_ret (v:=.agg #[.int .i64 nw,.int .i64 sf,.slice (some ⟨b,0,none⟩) m c,.slice (some ⟨b',0,none⟩) m d]) (by simp[results,Tryz.f14,go_sem,q0,q1,q2,q3]) rfl ⟨.inr ⟨nw,sf,b,m,c,_,b',m,d,t,rfl,(hD2.sp.off hD2.rs hn9).mono (by omega)⟩,hb9⟩)
    have hk:k<m:=by omega
    have hkm:(k:Int)<m:=by omega
    have hE:=hD3.drew;obtain⟨y0,y1,y2,y3,y4⟩:=hE.bx.cells;have tk:=hE.sp.ot.2.2 k hk;simp only[Nat.zero_add]at tk;have lb:=hE.sp.om.lt;have lb':=hE.sp.ot.lt;have H9:=aH R (q+1+1) 9 w3.drew w.heap.size (by omega) hE.rd (by omega) (by omega) (by omega);go_region_held3 (λw'=>w'.cell? ⟨N,2,none⟩=some (.slice (some ⟨b,0,none⟩) m c)/\w'.cell? ⟨N,3,none⟩=some (.slice (some ⟨b',0,none⟩) m d)/\w'.cell? ⟨b',k,none⟩=some (.int .i64 (t k))) (go_keep)
     (first|(go_at_call 22;refine H9.mono ?_;clear H9;rintro e w4 ⟨⟨z4,rfl,l4,u4⟩,r4',t4,b4⟩;have hD4:=hE.to hR hN r4' t4 b4;obtain⟨y0,y1,y2,y3,y4⟩:=hD4.bx.cells;have tk4:=hD4.sp.ot.2.2 k hk;simp only[Nat.zero_add]at tk4;obtain⟨x,hx⟩:∃x,IntKind.i64.wrap (t k+z4)=x:=⟨_,rfl⟩;have hxb:-9223372036854775808<=x/\x<=9223372036854775807:=hx▸zc _;have c4:=(hD4.sp.om.2.2 k hk).c4;simp only[Nat.zero_add]at c4;obtain⟨cs,hcs,hsz⟩:=hD4.sp.om.2.1;have fr:=λj=>frozen_of_row w4 _ j _ _ hcs;have hD5:=hD4.late hR hk hxb;obtain⟨W5,e5⟩:∃W,w4.setCell ⟨b,k*6+4,none⟩ (.int .i64 x)=W:=⟨_,rfl⟩;rw[e5]at hD5;obtain⟨g0,g1,g2,g3,g4⟩:=hD5.bx.cells;have tk5:=hD5.sp.ot.2.2 k hk;simp only[Nat.zero_add]at tk5))
    all_goals
     have c5:=(hD5.sp.om.2.2 k hk).c4;simp only[Nat.zero_add,if_true]at c5;obtain⟨cs5,hcs5,hsz5⟩:=hD5.sp.om.2.1;have fr5:=λj=>frozen_of_row W5 _ j _ _ hcs5
     have lb5:=hD5.sp.om.lt;have hD6:=hD5.late hR hk (x:=10000) (by omega);obtain⟨W6,e6⟩:∃W,W5.setCell ⟨b,k*6+4,none⟩ (.int .i64 10000)=W:=⟨_,rfl⟩;rw[e6]at hD6;obtain⟨h0',h1',h2',h3',h4'⟩:=hD6.bx.cells;obtain⟨r0,r1,r2,r3,r4⟩:=hD5.rs.cells;obtain⟨v0,v1,v2,v3,v4⟩:=hD6.rs.cells;by_cases hgt:10000<x
     .go_wp2;all_goals first|(exfalso;omega)|skip
      (obtain⟨W9,e9,k9,hb9,hz9,hn9⟩:=bg hD6.rs hD6.below (Nat.le_refl _) nw sf (some ⟨b,0,none⟩) m c (some ⟨b',0,none⟩) m d;rw[e9];obtain⟨q0,q1,q2,q3,q4⟩:=k9.cells;exact bodyPost_ret (v:=.agg #[.int .i64 nw,.int .i64 sf,.slice (some ⟨b,0,none⟩) m c,.slice (some ⟨b',0,none⟩) m d]) (by simp[results,Tryz.f14,go_sem,q0,q1,q2,q3]) rfl ⟨.inr ⟨nw,sf,b,m,c,_,b',m,d,t,rfl,(hD6.sp.off hD6.rs hn9).mono (by omega)⟩,hb9⟩)
     .go_wp2;all_goals first|(exfalso;omega)|skip
      (obtain⟨W9,e9,k9,hb9,hz9,hn9⟩:=bg hD5.rs hD5.below (Nat.le_refl _) nw sf (some ⟨b,0,none⟩) m c (some ⟨b',0,none⟩) m d;rw[e9];obtain⟨q0,q1,q2,q3,q4⟩:=k9.cells;exact bodyPost_ret (v:=.agg #[.int .i64 nw,.int .i64 sf,.slice (some ⟨b,0,none⟩) m c,.slice (some ⟨b',0,none⟩) m d]) (by simp[results,Tryz.f14,go_sem,q0,q1,q2,q3]) rfl ⟨.inr ⟨nw,sf,b,m,c,_,b',m,d,t,rfl,(hD5.sp.off hD5.rs hn9).mono (by omega)⟩,hb9⟩)
   .have hm':¬(m:Int)=n:=by omega
    go_wp2;all_goals first|(exfalso;omega)|skip
    (obtain⟨W9,e9,k9,hb9,hz9,hn9⟩:=bg hD.rs hD.below (Nat.le_refl _) nw sf (some ⟨b,0,none⟩) n c (some ⟨b',0,none⟩) m d;rw[e9];obtain⟨q0,q1,q2,q3,q4⟩:=k9.cells;exact bodyPost_ret (v:=.agg #[.int .i64 nw,.int .i64 sf,.slice (some ⟨b,0,none⟩) n c,.slice (some ⟨b',0,none⟩) m d]) (by simp[results,Tryz.f14,go_sem,q0,q1,q2,q3]) rfl ⟨.inr ⟨nw,sf,b,n,c,_,b',m,d,t,rfl,(hD.sp.off hD.rs hn9).mono (by omega)⟩,hb9⟩)
end Go.Proofs.YtlmcblcijndipaaGreat
namespace Go.Proofs.YtlmcblcijndipaaGreat
open Go Go.Conc Go.RowKit
section
variable [Gl]{ok:Ctx}{c:Frame}{Q:Value->World->Prop}
theorem vK (E:dm Tryz0.prog ok c Dr24)(hW:ok.inn 19=true)(hSB:ok.inn 6=true)(hbt:ok.inn 24=false){r0:Frame}{cs:List Frame}{V:World}(hr0:ok.inn r0.fn=true)
  {b n cap b' cap' p:Nat}{f:Nat->Mv}{t:Nat->Int}{now shift:Int}(hm:ap f n=true)(hf:cZ f t n)(hp:p<n)(hbs:b<V.heap.size)(hrow:aw V b 0 n f)(hbs':b'<V.heap.size)(hrow':ak V b' 0 n t)
  (hcont:∀V',Bl V.heap.size V V'->az Tryz0.prog ok c Dr24 Q ⟨r0.finish (.bool (bd f n t p).isSome),cs,V'⟩):
  az Tryz0.prog ok c Dr24 Q ⟨Frame.enter Tryz0.prog 19 #[.agg #[.int .i64 now,.int .i64 shift,.slice (some ⟨b,0,none⟩) n cap,.slice (some ⟨b',0,none⟩) n cap'],.int .i64 p] .normal,r0::cs,V⟩:=by
 have hE:=enter_at (P:=Tryz0.prog) #[.agg #[.int .i64 now,.int .i64 shift,.slice (some ⟨b,0,none⟩) n cap,.slice (some ⟨b',0,none⟩) n cap'],.int .i64 p] Tryz0.func19 rfl;simp only[Tryz.ntmps19,List.size_toArray,List.length_cons,List.length_nil,Nat.reduceAdd,Nat.reduceSub,Array.replicate_succ,Array.replicate_zero,List.push_toArray,List.append_toArray,List.nil_append,List.cons_append]at hE;rw[hE];clear hE;have h6:=aR hm;have hlen:=dr f t p n;have htop:∀(x:Bool) (a':Act) (w':World) (todo:List Item),(x=(bd f n t p).isSome/\Bl V.heap.size V w'/\a'.defers=[]/\a'.tmps[4]?=some (.bool x))->az Tryz0.prog ok c Dr24 Q ⟨{(base 19).at a' todo with mode:=.returning},r0::cs,w'⟩:=by
  rintro x a' w' todo ⟨rfl,h1,h2,h3⟩;refine az.leave E hr0 (v:=.bool (bd f n t p).isSome) (λτ d=>⟨rfl,h2,rfl,_,Tryz0.func19,?_⟩) (hcont _ h1);have:=results_tmp (fn:=Tryz.f19) rfl a'.tmps Tryz0.prog (re w' τ d);rw[fu h3]at this;exact this
 refine az.chainM E hW [_,_,_,_] _ (λa' w'=>t p+6<=(f p).late/\Bl V.heap.size V w'/\∃BL cL,aw w' BL 0 (ah f t p n).length (bz (eR (ah f t p n)) (t p+4))/\aM w' BL/\bX a' (λu=>#[u 0,u 1,u 2,u 3,u 4,u 5,.slice (some ⟨BL,0,none⟩) (ah f t p n).length cL,u 7,u 8,u 9,u 10,u 11,u 12,u 13,u 14,u 15,u 16,u 17,u 18,u 19,u 20,u 21,u 22,u 23,u 24,u 25,u 26,u 27,u 28,u 29,u 30,u 31,u 32,u 33,u 34,u 35,u 36,u 37,u 38,u 39,u 40,u 41,u 42,u 43,u 44,u 45,u 46,u 47,u 48,u 49,u 50,u 51,u 52,u 53,u 54,u 55,u 56,u 57,u 58,u 59,u 60,u 61,u 62,u 63,u 64,u 65,u 66,u 67,u 68,u 69,u 70,u 71,u 72,u 73,u 74,u 75,u 76,u 77,u 78,u 79,u 80,u 81,u 82,u 83,u 84,u 85,u 86,u 87,u 88])) (λa' w'=>false=(bd f n t p).isSome/\Bl V.heap.size V w'/\a'.defers=[]/\a'.tmps[4]?=some (.bool false)) ?_ ?_ (λa' w' todo hh=>htop false a' w' todo hh)
 .intro τ d;have hrw0:aw (re V τ d) b 0 n f:=aZ hrow rfl;have hrw0':ak (re V τ d) b' 0 n t:=λi hi=>hrow' i hi
  have hbl0:∀W,Below (re V τ d).heap.size (re V τ d) W->Bl V.heap.size V W:=λW h=>Bl.ofR h
  have hbs0:b<(re V τ d).heap.size:=hbs;have hbs0':b'<(re V τ d).heap.size:=hbs';revert hrw0 hrw0' hbl0 hbs0 hbs0';generalize re V τ d=w;intro hrw hrw' hbl hb hb';clear htop hcont hrow hrow' hbs hbs';have hokp:=Mv.ok_bd (aE hm p hp);have hsp:=cY (hf.1 p hp);have hpn:(p:Int)<n:=by omega
  obtain⟨iM,hI,hz0,hi1,hi2⟩:=ep;obtain⟨WB,eB,kB,bB,zB⟩:=dN w now shift (some ⟨b,0,none⟩) n cap (some ⟨b',0,none⟩) n cap';have tpB:=hrw'.below bB hb' p hp;simp only[Nat.zero_add]at tpB;have lbB:=Nat.lt_of_lt_of_le hb' bB.size;obtain⟨y0,y1,y2,y3,y4⟩:=kB.cells;obtain⟨WE,eE,kE,bE,zE⟩:∃W,WB.alloc (.cells #[] 42)=W/\W.heap[WB.heap.size]?=some (.cells #[] 42 (0,0))/\Below WB.heap.size WB W/\W.heap.size=WB.heap.size+1:=⟨_,rfl,heap_alloc_new WB _,(Below.refl _ WB).alloc (Nat.le_refl _) _,by simp⟩;have BE:=bB.trans (bE.mono bB.size);have kBE:=kB.same (bE.block _ kB.lt);have oE:WE.ownsRow (w.heap.size+1) 42 6 (.slice (some ⟨WB.heap.size,0,none⟩) 0 0) 0 (aS (eR (wL f t p 0)) 0):=⟨rfl,.inr ⟨WB.heap.size,0,#[],rfl,by omega,kE,Nat.le_refl _,Nat.zero_le _,rfl,rfl⟩⟩;have pE:fV WE (.slice (some ⟨WB.heap.size,0,none⟩) 0 0):=λB hB=>by
   simp only[Value.ownBlock,Option.some.injEq]at hB;subst hB;exact⟨#[],_,kE,λv hv=>by simp at hv⟩
  obtain⟨B0,hB0⟩:∃B0,WB.heap.size=B0:=⟨_,rfl⟩;rw[hB0]at oE pE;clear zB zE kE;have hw6:IntKind.i64.wrap (t p+6)=t p+6:=by rw[IntKind.wrap_i64];omega
  have hw4:IntKind.i64.wrap (t p+4)=t p+4:=by rw[IntKind.wrap_i64];omega
  simp only[aK];go_wp2;go_loopw [6,7,8] (λv x _ W=>∃(k BL cL:Nat),v=.slice (some ⟨BL,0,none⟩) (wL f t p k).length cL/\x=.int .i64 k/\k<=n/\(¬t p+6<=(f p).late->k<=p)/\Below w.heap.size w W/\ar W w.heap.size now shift (.slice (some ⟨b,0,none⟩) n cap) (.slice (some ⟨b',0,none⟩) n cap')/\W.ownsRow (w.heap.size+1) 42 6 (.slice (some ⟨BL,0,none⟩) (wL f t p k).length cL) (wL f t p k).length (aS (eR (wL f t p k)) (wL f t p k).length)/\fV W (.slice (some ⟨BL,0,none⟩) (wL f t p k).length cL)) (λ_ x _ _=>n-(intOf x).toNat)
  case atStart=>exact⟨0,B0,0,rfl,rfl,Nat.zero_le _,λ_=>Nat.zero_le _,BE,kBE,oE,pE⟩
  case round=>
   clear oE pE BE kBE bE bB kB y0 y1 y2 y3 y4 tpB lbB eE eB hB0;obtain⟨k,BL,cL,rfl,rfl,hk,hkp0,hBr,bkr,ow,pl⟩:=hrel;obtain⟨y0,y1,y2,y3,y4⟩:=bkr.cells;have hlw:(wL f t p k).length<=k:=by rw[qz];exact dr f t p k
   by_cases hlt:k<n
   .have hlt':(k:Int)<n:=by omega
    obtain⟨c0,c1,c2,c3,c4,c5⟩:=hrw.below hBr hb k hlt;simp only[Nat.zero_add]at c0 c1 c2 c3 c4 c5;have lb:=Nat.lt_of_lt_of_le hb hBr.size;have lb':=Nat.lt_of_lt_of_le hb' hBr.size;have b1:=Mv.ok_bd (aE hm k hlt);have s1:=cY (hf.1 k hlt);obtain⟨Wm,em,hM,bm,zm⟩:=qJ wr (f k);have hBm:=hBr.trans (bm.mono hBr.size);have bkm:=bkr.same (bm.block _ bkr.lt);have tkm:=hrw'.below hBm hb' k hlt;simp only[Nat.zero_add]at tkm;have lbm:=Nat.lt_of_lt_of_le hb hBm.size;have lbm':=Nat.lt_of_lt_of_le hb' hBm.size;obtain⟨x0,x1,x2,x3,x4⟩:=bkm.cells;obtain⟨a0,a1,a2,a3,a4,a5⟩:=fh hM;have fm:=hM.frozen;have owm:=ai ow (λB hB=>bm.block B (ow.lt B hB).2);have plm:=pl.same (λB hB hl=>bm.block B hl);have zmh:Hid (Wm.heap.size=wr.heap.size+1):=zm;clear zm;have hset:∀(W:World) (j:Nat) (v:Value) (i:Nat),i≠wr.heap.size->(W.setCell ⟨wr.heap.size,j,none⟩ v).heap[i]?=W.heap[i]?:=λW j v i hi=>Below.heap_setCell _ _ _ _ (by simpa using hi)
    have hown:∀Wq,Below wr.heap.size wr Wq->Below w.heap.size w Wq/\ar Wq w.heap.size now shift (.slice (some ⟨b,0,none⟩) n cap) (.slice (some ⟨b',0,none⟩) n cap')/\Wq.ownsRow (w.heap.size+1) 42 6 (.slice (some ⟨BL,0,none⟩) (wL f t p k).length cL) (wL f t p k).length (aS (eR (wL f t p k)) (wL f t p k).length)/\fV Wq (.slice (some ⟨BL,0,none⟩) (wL f t p k).length cL):=λWq h=>⟨hBr.trans (h.mono hBr.size),bkr.same (h.block _ bkr.lt),ai ow (λB hB=>h.block B (ow.lt B hB).2),pl.same (λB hB hl=>h.block B hl)⟩
    have hL:(k=p/\¬t p+6<=(f p).late)\/(k≠p/\t k<t p)\/(k=p/\t p+6<=(f p).late)\/(k≠p/\¬t k<t p/\t k<t p+4)\/(k≠p/\¬t k<t p/\¬t k<t p+4/\(f k).prom=-1/\(f k).est<t p+4)\/(k≠p/\¬t k<t p/\¬t k<t p+4/\(f k).prom=-1/\¬(f k).est<t p+4)\/k≠p/\¬t k<t p/\¬t k<t p+4/\¬(f k).prom=-1:=by omega
    have hcn:∀m:Mv,m.est<=m.late->¬m.late<m.est:=λm h=>by omega
    rcases hL with⟨rfl,hle⟩|⟨hkp,hsk⟩|⟨rfl,hle⟩|⟨hkp,hns,hso⟩|⟨hkp,hns,hso,hpr,hes⟩|⟨hkp,hns,hso,hpr,hes⟩|⟨hkp,hns,hso,hpr⟩
    .obtain⟨Wa,ea⟩:∃W,Wm.setCell ⟨wr.heap.size,5,none⟩ (.int .i64 (-1))=W:=⟨_,rfl⟩;have hMa:aP Wa wr.heap.size {f k with prom:=-1}:=by rw[<-ea];exact hM.prom (-1)
     obtain⟨d0,d1,d2,d3,d4,d5⟩:=fh hMa;have fa:=hMa.frozen;obtain⟨Wq,eq⟩:∃W,Wa.setCell ⟨wr.heap.size,3,none⟩ (.int .i64 (t k+6))=W:=⟨_,rfl⟩;have hMq:aP Wq wr.heap.size (fP (f k) (t k)):=by rw[<-eq];exact hMa.est (t k+6)
     have bq:Below wr.heap.size wr Wq:=by rw[<-eq,<-ea];exact(bm.setCell (Nat.le_refl _) _).setCell (Nat.le_refl _) _
     have hcnd:(f k).late<t k+6:=by omega
     obtain⟨hBq,bkq,owq,plq⟩:=hown Wq bq;obtain⟨g0,g1,g2,g3,g4,g5⟩:=fh hMq;simp only[fP]at g0 g1 g2 g3 g4 g5;have hno:=od (f:=f) (n:=n) (t:=t) hle;have hbl':=hbl _ hBq;go_wp2;all_goals first|(exfalso;omega)|skip
     exact⟨hbl',rfl,rfl⟩
    .have hkq':¬(k:Int)=p:=by omega
     obtain⟨hBq,bkq,owq,plq⟩:=hown Wm bm;go_wp2;all_goals first|(exfalso;omega)|skip
     go_roundw
     case rel=>exact⟨k+1,BL,cL,by rw[qA hsk],by go_num,by omega,λh=>by have:=hkp0 h;omega,hBq,bkq,by rw[qA hsk];exact owq,by rw[qA hsk];exact plq⟩
     case measure=>simp[intOf];omega
    focus
     obtain⟨Wa,ea⟩:∃W,Wm.setCell ⟨wr.heap.size,5,none⟩ (.int .i64 (-1))=W:=⟨_,rfl⟩;have hMa:aP Wa wr.heap.size {f k with prom:=-1}:=by rw[<-ea];exact hM.prom (-1)
     obtain⟨d0,d1,d2,d3,d4,d5⟩:=fh hMa;have fa:=hMa.frozen;obtain⟨Wq,eq⟩:∃W,Wa.setCell ⟨wr.heap.size,3,none⟩ (.int .i64 (t k+6))=W:=⟨_,rfl⟩;obtain⟨m',hm'⟩:∃m',fP (f k) (t k)=m':=⟨_,rfl⟩;have hMq:aP Wq wr.heap.size m':=by rw[<-eq,<-hm'];exact hMa.est (t k+6)
     have bq:Below wr.heap.size wr Wq:=by rw[<-eq,<-ea];exact(bm.setCell (Nat.le_refl _) _).setCell (Nat.le_refl _) _
     have hval:bw (bK f t k k) (t k+4)=m':=(Ak f t k).trans hm';have hns:¬t k<t k:=by omega
     have hcnd:¬m'.late<m'.est:=by subst hm';exact hcn _ hle
     have hpk:¬t k+6<=(f k).late->k+1<=k:=λh=>absurd hle h
    rotate_left;focus
     have hkq':¬(k:Int)=p:=by omega
     have hpk:¬t p+6<=(f p).late->k+1<=p:=λh=>by have:=hkp0 h;omega
     obtain⟨Wq,eq⟩:∃W,Wm.setCell ⟨wr.heap.size,5,none⟩ (.int .i64 (t k))=W:=⟨_,rfl⟩;obtain⟨m',hm'⟩:∃m',({f k with prom:=t k}:Mv)=m':=⟨_,rfl⟩;have hMq:aP Wq wr.heap.size m':=by rw[<-eq,<-hm'];exact hM.prom (t k)
     have bq:Below wr.heap.size wr Wq:=by rw[<-eq];exact bm.setCell (Nat.le_refl _) _
     have hval:bw (bK f t p k) (t p+4)=m':=(Al hkp hso (by omega)).trans hm';have hcnd:¬m'.late<m'.est:=by subst hm';exact hcn _ (show(f k).est<=(f k).late by omega)
    rotate_left;focus
     have hpr0:(f k).prom<0:=by omega
     have hkq':¬(k:Int)=p:=by omega
     have hpk:¬t p+6<=(f p).late->k+1<=p:=λh=>by have:=hkp0 h;omega
     obtain⟨Wq,eq⟩:∃W,Wm.setCell ⟨wr.heap.size,3,none⟩ (.int .i64 (t p+4))=W:=⟨_,rfl⟩;obtain⟨m',hm'⟩:∃m',({f k with est:=t p+4}:Mv)=m':=⟨_,rfl⟩;have hMq:aP Wq wr.heap.size m':=by rw[<-eq,<-hm'];exact hM.est (t p+4)
     have bq:Below wr.heap.size wr Wq:=by rw[<-eq];exact bm.setCell (Nat.le_refl _) _
     have hval:bw (bK f t p k) (t p+4)=m':=(Bc hkp hso hpr hes).trans hm';have hcnd:¬m'.late<m'.est:=by subst hm';exact hcn _ (show t p+4<=(f k).late by omega)
     clear hpr
    rotate_left;focus
     obtain⟨m',hm'⟩:∃m',m'=f k:=⟨_,rfl⟩;have hpr0:m'.prom<0:=by rw[hm'];omega
     have hes0:¬m'.est<t p+4:=by rw[hm'];exact hes
     have hval0:=xz (f:=f) hkp hso (λh=>hes h.2);clear hpr hes
    rotate_left;focus
     obtain⟨m',hm'⟩:∃m',m'=f k:=⟨_,rfl⟩;have hpr0:¬m'.prom<0:=by rw[hm'];omega
     have hval0:=xz (f:=f) hkp hso (λh=>hpr h.1);clear hpr
    rotate_left 4;iterate 2
     focus
      have hkq':¬(k:Int)=p:=by omega
      have hpk:¬t p+6<=(f p).late->k+1<=p:=λh=>by have:=hkp0 h;omega
      obtain⟨Wq,eq⟩:∃W,W=Wm:=⟨_,rfl⟩;have hMq:aP Wq wr.heap.size m':=by rw[eq,hm'];exact hM
      have bq:Below wr.heap.size wr Wq:=by rw[eq];exact bm
      have hval:bw (bK f t p k) (t p+4)=m':=hval0.trans hm'.symm;have hcnd:¬m'.late<m'.est:=by subst hm';exact hcn _ (show(f k).est<=(f k).late by omega)
      clear hval0 a0 a1 a2 a3 a4 a5 hm';subst eq
     rotate_left
    all_goals
     obtain⟨hBq,bkq,owq,plq⟩:=hown Wq bq;have hkeep:=yQ (f:=f) (t:=t) hns;rw[hval]at hkeep;obtain⟨g0,g1,g2,g3,g4,g5⟩:=fh hMq;obtain⟨WF,eF,hF,bF,zF⟩:=qJ Wq m';have hBF:=hBq.trans (bF.mono hBq.size);have bkF:=bkq.same (bF.block _ bkq.lt);have owF:=ai owq (λB hB=>bF.block B (owq.lt B hB).2);have plF:=plq.same (λB hB hl=>bF.block B hl);have zF0:w.heap.size+1<=WF.heap.size:=Nat.le_trans bkq.lt bF.size;clear hval hcn hown bm bkr ow pl owm plm zF hBq bkq owq plq hBm bkm;go_wp2_with(at_builtin;refine gM rfl (.tmp 79) (.tmp 81) 23 rfl (w.heap.size+1) 42 iM _ 6 56 aG hI hz0 hi1 hi2 rfl (by decide) _ _ _ (by rfl) owF plF ⟨Wq.heap.size,0,none⟩ 1 1 (Mv.cells m').toList (by rfl) rfl (oF hF) (eh _) (pF _) jd (by unfold maxLen;omega) (by omega) zF0 ?_;intro v8 w8 ho8 hg8 hp8 _;obtain⟨B8,c8,rfl⟩:=eN ho8)
     all_goals first|(exfalso;omega)|skip
     have hB8:Below w.heap.size w w8:=hBF.grown hg8 hBF.size (λq hq=>by have:=(owF.lt q hq).1;omega);have bk8:=bkF.same (hg8.block _ bkF.lt (λe=>by have:=(owF.lt _ e.symm).1;omega));go_roundw
     case rel=>exact⟨k+1,B8,c8,by rw[hkeep,List.length_append,List.length_singleton],by go_num,by omega,hpk,hB8,bk8,by rw[hkeep,List.length_append,List.length_singleton,n8];exact ho8,by rw[hkeep,List.length_append,List.length_singleton];exact hp8⟩
     case measure=>simp[intOf];omega
   .have hlt':¬(k:Int)<n:=by omega
    obtain rfl:k=n:=by omega
    have hle:t p+6<=(f p).late:=by
     by_cases h:t p+6<=(f p).late
     .exact h
     .have:=hkp0 h;omega
    have rw1:=bI ow;have rw2:aw wr BL 0 (ah f t p k).length (bz (eR (ah f t p k)) (t p+4)):=by
     rw[qz]at rw1;exact rw1.fcongr λi hi=>AL f t p k hi
    have plr:=pl BL rfl;rw[qz];go_wp2;all_goals first|(exfalso;omega)|skip
    have hbl':=hbl _ hBr;first
     |exact⟨hbl',BL,rw2,plr,cL,rfl,rfl⟩
     |exact⟨hle,hbl',BL,cL,rw2,plr,rfl,rfl⟩
     |trace_state
 rintro a' w1 ⟨hle,hb1,BL,cL,dO,plL,hfr⟩;obtain⟨u,rfl⟩:=hfr.open;clear hfr;have hz1:=hb1.size;have hB1:=plL.lt;have hR:=tM hm hf hp hle;refine az.seq E hW (az.region E hW ?_);rw[bJ];refine az.opsFrom E hW 0 1 (by simp) (λa' w'=>(∃τ d,w'=re w1 τ d)/\bX a' (λu=>#[u 0,u 1,u 2,u 3,u 4,u 5,u 6,u 7,u 8,u 9,u 10,u 11,u 12,u 13,u 14,u 15,u 16,u 17,u 18,u 19,u 20,u 21,u 22,u 23,u 24,u 25,u 26,u 27,u 28,u 29,u 30,u 31,u 32,u 33,u 34,u 35,u 36,u 37,u 38,u 39,u 40,u 41,u 42,u 43,u 44,u 45,u 46,u 47,u 48,u 49,u 50,u 51,u 52,u 53,u 54,u 55,u 56,u 57,u 58,u 59,u 60,u 61,u 62,u 63,u 64,u 65,u 66,u 67,u 68,u 69,u 70,u 71,u 72,u 73,u 74,u 75,u 76,u 77,u 78,u 79,u 80,u 81,u 82,u 83,.slice (some ⟨BL,0,none⟩) (ah f t p n).length cL,u 85,u 86,u 87,u 88])) ?_ ?_
 .intro τ d;clear htop hcont;simp only[List.drop_zero,List.take_succ_cons,List.take_zero];go_wp2;exact⟨⟨τ,d,rfl⟩,rfl,rfl⟩
 rintro a' w' ⟨⟨τ1,d1,rfl⟩,hfr⟩;clear u;obtain⟨u,rfl⟩:=hfr.open;clear hfr;refine az.bestOp E hSB hbt hW (i:=1) rfl rfl (B:=BL) (off:=0) (n:=(ah f t p n).length) (cap:=cL) (f:=bz (eR (ah f t p n)) (t p+4)) (shift:=6) (λw=>by simp[execOp,resolve,invoke,Act.eval,go_sem]) (by omega) hB1 (aZ dO rfl) (jW plL rfl) (jX _ _ 6) ?_;intro v V2 hpost;obtain⟨v5,rfl,t5,hb2'⟩:=qx hpost;have hb2:Bl w1.heap.size w1 V2:=⟨hb2'.size,hb2'.block⟩;rw[<-hR];obtain⟨bb,hbb⟩:∃bb,(bd f n t p).isSome=bb:=⟨_,rfl⟩;rw[hbb];clear hpost hb2' t5;refine az.opsFrom E hW 2 5 (by simp) (λa' w'=>(∃τ d,w'=re V2 τ d)/\bX a' (λu=>#[u 0,u 1,u 2,u 3,u 4,u 5,u 6,u 7,u 8,u 9,.bool bb,u 11,u 12,u 13,u 14,u 15,u 16,u 17,u 18,u 19,u 20,u 21,u 22,u 23,u 24,u 25,u 26,u 27,u 28,u 29,u 30,u 31,u 32,u 33,u 34,u 35,u 36,u 37,u 38,u 39,u 40,u 41,u 42,u 43,u 44,u 45,u 46,u 47,u 48,u 49,u 50,u 51,u 52,u 53,u 54,u 55,u 56,u 57,u 58,u 59,u 60,u 61,u 62,u 63,u 64,u 65,u 66,u 67,u 68,u 69,u 70,u 71,u 72,u 73,u 74,u 75,u 76,u 77,u 78,u 79,u 80,u 81,u 82,u 83,u 84,u 85,u 86,u 87,u 88])) ?_ ?_
 .intro τ d;clear htop hcont;simp only[List.drop_succ_cons,List.drop_zero,List.take_succ_cons,List.take_zero,Act.put];go_wp2;exact⟨⟨τ,d,rfl⟩,rfl,rfl⟩
 rintro a' w' ⟨⟨τ2,d2,rfl⟩,hfr⟩;clear u;obtain⟨u,rfl⟩:=hfr.open;clear hfr;refine az.regionEnd E hW ?_;have hb02:Bl V.heap.size V V2:=hb1.trans hb2 hz1;refine az.last E hW [_] (λa' w'=>bb=(bd f n t p).isSome/\Bl V.heap.size V w'/\a'.defers=[]/\a'.tmps[4]?=some (.bool bb)) ?_ (λa' w' todo hh=>htop bb a' w' todo hh);intro τ d;clear htop hcont;simp only[aK];go_wp2;first
  |exact⟨hbb.symm,⟨hb02.size,hb02.block⟩,rfl,rfl⟩
  |(left;exact⟨by first|rfl|trivial,hbb.symm,⟨hb02.size,hb02.block⟩,by first|rfl|trivial,by first|rfl|simp⟩)
  |trace_state
end
def pN (w:World)(lo:Nat)(now shift:Int)(ao:Option Addr)(n c:Nat)(bo:Option Addr)(m d:Nat):Prop:=(ao=none/\bo=none/\n=0/\c=0/\m=0/\d=0/\(0<=now/\now<=10000)/\0<=shift/\shift<=6)\/∃(b b':Nat) (f:Nat->Mv) (t:Nat->Int),ao=some ⟨b,0,none⟩/\bo=some ⟨b',0,none⟩/\Sp w lo b n f b' m t
theorem As {w:World}{lo:Nat}{e:Ending}(h:oh lo e w):∃(now shift:Int) (ao:Option Addr) (n c:Nat) (bo:Option Addr) (m d:Nat),e=.returned (.agg #[.int .i64 now,.int .i64 shift,.slice ao n c,.slice bo m d])/\pN w lo now shift ao n c bo m d:=by
 obtain⟨nw,sf,rfl,h1,h2⟩|⟨nw,sf,b,n,c,f,b',m,d,t,rfl,hs⟩:=h
 .exact⟨nw,sf,none,0,0,none,0,0,rfl,.inl ⟨rfl,rfl,rfl,rfl,rfl,rfl,h1,h2⟩⟩
 .exact⟨nw,sf,_,n,c,_,m,d,rfl,.inr ⟨b,b',f,t,rfl,rfl,hs⟩⟩
theorem pN.same {w w':World}{lo:Nat}{now shift:Int}{ao:Option Addr}{n c:Nat}{bo:Option Addr}{m d:Nat}(h:pN w lo now shift ao n c bo m d)(e:∀k,k<w.heap.size->w'.heap[k]?=w.heap[k]?):pN w' lo now shift ao n c bo m d:=by
 rcases h with h|⟨b,b',f,t,e1,e2,hs⟩
 .exact .inl h
 .exact .inr ⟨b,b',f,t,e1,e2,hs.same λk _ hk=>e k hk⟩
structure Bd (w:World)(now shift:Int)(ao:Option Addr)(n c:Nat)(bo:Option Addr)(m d:Nat)(f:Nat->Mv)(t:Nat->Int)(sb bb:Bool):Prop where
 six:n<=6
 su:∀W,Bl w.heap.size w W->Calls Tryz0.prog 16 #[.agg #[.int .i64 now,.int .i64 shift,.slice ao n c,.slice bo m d]] W λe w'=>e=.returned (.bool sb)/\Below W.heap.size W w'
 ib:∀W,Bl w.heap.size w W->Calls Tryz0.prog 17 #[.agg #[.int .i64 now,.int .i64 shift,.slice ao n c,.slice bo m d]] W λe w'=>e=.returned (.bool bb)/\Below W.heap.size W w'
 sk:∀W,Bl w.heap.size w W->Calls Tryz0.prog 18 #[.agg #[.int .i64 now,.int .i64 shift,.slice ao n c,.slice bo m d]] W λe w'=>e=.returned (.bool bb)/\Below W.heap.size W w'
 no:bb=false->sb=false
 yes:bb=true->(sb=true<->pD f n t)
 row:bb=true->0<n->∃b b',ao=some ⟨b,0,none⟩/\bo=some ⟨b',0,none⟩/\m=n/\ap f n=true/\cZ f t n/\b<w.heap.size/\aw w b 0 n f/\b'<w.heap.size/\ak w b' 0 n t
theorem At (w:World){now shift:Int}(h0:0<=now/\now<=10000)(h1:0<=shift/\shift<=6)(f:Nat->Mv)(t:Nat->Int):Bd w now shift none 0 0 none 0 0 f t true true:=
 ⟨by omega,λW _=>qD now shift W h0 h1,λW _=>ld now shift W h0 h1,λW _=>iu now shift W h0 h1,(λh=>nomatch h),λ_=>⟨λ_ p hp=>absurd hp (Nat.not_lt_zero _),λ_=>rfl⟩,λ_ h=>absurd h (Nat.not_lt_zero _)⟩
theorem tV {w w':World}{b n:Nat}{t:Nat->Int}(h:ak w b 0 n t)(e:w'.heap[b]?=w.heap[b]?):ak w' b 0 n t:=λi hi=>by
 have:=h i hi;simp only[World.cell?,e]at this⊢;exact this
theorem xM {m:Mv}(h:eu m):m.Fits:=⟨by have:=h.name;unfold maxLen;omega,iA h.wake,iA h.est,iA h.late,iA h.prom⟩
theorem AN {w:World}{lo b n:Nat}{f:Nat->Mv}{b' m:Nat}{t:Nat->Int}(h:Sp w lo b n f b' m t)(now shift:Int)(c d:Nat):Bd w now shift (some ⟨b,0,none⟩) n c (some ⟨b',0,none⟩) m d f t (eG now shift f n t m) (bc now shift f n t m):=by
 have h6:=h.six;have hn:n<=1048576:=by omega
 have hm:m<=maxLen:=by have:=h.mm;unfold maxLen;omega
 have lb:=h.om.lt;have lb':=h.ot.lt;have r1:∀W,Bl w.heap.size w W->aw W b 0 n f:=λW hb=>aZ h.om.2.2 (hb.block b lb)
 have r2:∀W,Bl w.heap.size w W->ak W b' 0 m t:=λW hb=>tV h.ot.2.2 (hb.block b' lb')
 have hf:∀i,i<n->(f i).Fits:=λi hi=>xM (h.fit i hi)
 refine⟨h6,λW hb=>ir now shift b n c f b' m d t W hn hm (Nat.lt_of_lt_of_le lb hb.size) (r1 W hb) hf (Nat.lt_of_lt_of_le lb' hb.size) (r2 W hb),λW hb=>kX now shift b 0 n c f b' 0 m d t W hn hm (Nat.lt_of_lt_of_le lb hb.size) (r1 W hb) (Nat.lt_of_lt_of_le lb' hb.size) (r2 W hb),λW hb=>iq now shift b 0 n c f b' 0 m d t W hn hm (Nat.lt_of_lt_of_le lb hb.size) (r1 W hb) hf (Nat.lt_of_lt_of_le lb' hb.size) (r2 W hb),oa,λhy=>⟨λhs=>?_,λhs=>lJ hy hs⟩,λhy _=>?_⟩
 .apply Classical.byContradiction;intro hc;rw[lK hc]at hs;cases hs
 .obtain⟨hm,hmn,hf⟩:=dD hy;subst hmn;exact⟨b,b',rfl,rfl,rfl,hm,hf,lb,r1 w (Bl.refl _ _),lb',r2 w (Bl.refl _ _)⟩
section
variable [Gl]{ok:Ctx}{c:Frame}{Q:Value->World->Prop}
theorem az.loneOp {P₀:Program}{Dr:FuncId->Array Value->World->(Value->World->Prop)->Prop}(E:dm P₀ ok c Dr){fb:Frame}{a:Act}{k:List Item}{cs:List Frame}{V:World}(hb:ok.inn fb.fn=true){ops:Array Oper}{i:Nat}{r:List Nat}{o:Oper}(ho:ops[i]?=some o)(hw:Region.wanted o (yielded ops a.tmps)=true){f:FuncId}{xs:Array Value}(hx:∀w,(execOp a.eval o).run P₀ w=.ok (.enter f xs) w){v:Value}
  (hc:∀τ d,Calls P₀ f xs (re V τ d) λe w'=>e=.returned v/\Below (re V τ d).heap.size (re V τ d) w')(hcont:∀V',Bl V.heap.size V V'->az P₀ ok c Dr Q ⟨fb.at (a.put o.dst v) (.inRegion ops r::k),cs,V'⟩):az P₀ ok c Dr Q ⟨fb.at a (.inRegion ops (i::r)::k),cs,V⟩:=by
 refine az.ops E hb i [o] r (λa' w'=>a'=a.put o.dst v/\Bl V.heap.size V w') (λj hj=>?_) (λτ d=>?_) (λa' w' h=>?_)
 .simp only[List.length_singleton,Nat.lt_one_iff]at hj;subst hj;simp[ho]
 .unfold wpList;rw[if_pos hw];left;unfold Oper.wp;rw[hx];refine(hc τ d).mono ?_;rintro e w' ⟨rfl,h⟩;exact⟨rfl,rfl,Bl.ofR h⟩
 .obtain⟨rfl,h⟩:=h;exact hcont w' h
theorem az.sureAny (E:dm Tryz0.prog ok c Dr24)(hSu:ok.inn 15=true)(hRo:ok.inn 40=true)(hPl:ok.inn 76=true)(hSB:ok.inn 6=true)(hbt:ok.inn 24=false){fb:Frame}{a:Act}{k:List Item}{cs:List Frame}{V:World}(hb:ok.inn fb.fn=true){ops:Array Oper}{i:Nat}{r:List Nat}{o:Oper}(ho:ops[i]?=some o)(hw:Region.wanted o (yielded ops a.tmps)=true)
  {lo:Nat}{now shift:Int}{ao:Option Addr}{n c0:Nat}{bo:Option Addr}{m d0:Nat}(hx:∀w,(execOp a.eval o).run Tryz0.prog w=.ok (.enter 15 #[.agg #[.int .i64 now,.int .i64 shift,.slice ao n c0,.slice bo m d0]]) w)(h:pN V lo now shift ao n c0 bo m d0)
  (hcont:∀f t sb bb V',Bl V.heap.size V V'->Bd V' now shift ao n c0 bo m d0 f t sb bb->az Tryz0.prog ok c Dr24 Q ⟨fb.at (a.put o.dst (.bool sb)) (.inRegion ops r::k),cs,V'⟩):az Tryz0.prog ok c Dr24 Q ⟨fb.at a (.inRegion ops (i::r)::k),cs,V⟩:=by
 rcases h with⟨rfl,rfl,rfl,rfl,rfl,rfl,h0,h1⟩|⟨b,b',f,t,rfl,rfl,hs⟩
 .exact az.loneOp E hb ho hw hx (λτ d=>qE now shift _ h0 h1) (λV' hv=>hcont (λ_=>⟨ByteArray.empty,false,0,0,0,0⟩) (λ_=>0) true true V' hv (At V' h0 h1 _ _))
 .have h6:=hs.six;have hmm:=hs.mm;exact az.enterOp E ho hw hSu hx (yN E hSu hRo hPl hSB hbt (r0:=fb.at a (.inRegion ops (i::r)::k)) hb (by omega) (by unfold maxLen;omega) hs.om.lt hs.om.2.2 hs.ot.lt hs.ot.2.2 (λV' hv=>by rw[fO ho];exact hcont f t _ _ V' hv (AN (hs.same λk _ hk=>hv.block k hk) now shift c0 d0)))
theorem az.wroundOp (E:dm Tryz0.prog ok c Dr24)(hW:ok.inn 19=true)(hSB:ok.inn 6=true)(hbt:ok.inn 24=false){fb:Frame}{a:Act}{k:List Item}{cs:List Frame}{V:World}(hb:ok.inn fb.fn=true){ops:Array Oper}{i:Nat}{r:List Nat}{o:Oper}(ho:ops[i]?=some o)(hw:Region.wanted o (yielded ops a.tmps)=true)
  {b n cap b' cap' p:Nat}{f:Nat->Mv}{t:Nat->Int}{now shift:Int}(hx:∀w,(execOp a.eval o).run Tryz0.prog w=.ok (.enter 19 #[.agg #[.int .i64 now,.int .i64 shift,.slice (some ⟨b,0,none⟩) n cap,.slice (some ⟨b',0,none⟩) n cap'],.int .i64 p]) w)
  (hm:ap f n=true)(hf:cZ f t n)(hp:p<n)(hbs:b<V.heap.size)(hrow:aw V b 0 n f)(hbs':b'<V.heap.size)(hrow':ak V b' 0 n t)
  (hcont:∀V',Bl V.heap.size V V'->az Tryz0.prog ok c Dr24 Q ⟨fb.at (a.put o.dst (.bool (bd f n t p).isSome)) (.inRegion ops r::k),cs,V'⟩):az Tryz0.prog ok c Dr24 Q ⟨fb.at a (.inRegion ops (i::r)::k),cs,V⟩:=
 az.enterOp E ho hw hW hx (vK E hW hSB hbt (r0:=fb.at a (.inRegion ops (i::r)::k)) hb hm hf hp hbs hrow hbs' hrow' (λV' hv=>by rw[fO ho];exact hcont V' hv))
theorem vN (E:dm Tryz0.prog ok c Dr24)(hL:ok.inn 4=true)(hW:ok.inn 19=true)(hSu:ok.inn 15=true)(hRo:ok.inn 40=true)(hPl:ok.inn 76=true)(hSB:ok.inn 6=true)(hbt:ok.inn 24=false){V:World}{a:Option Addr}{l cap:Nat}{cd:Nat->Int}(h:jf V a l cd)(hcap:l<=cap):
  az Tryz0.prog ok c Dr24 (λv V'=>v=.bool true/\Bl V.heap.size V V') ⟨Frame.enter Tryz0.prog 4 #[.slice a l cap] .normal,[],V⟩:=by
 have hE:=enter_at (P:=Tryz0.prog) #[.slice a l cap] Tryz0.func4 rfl;simp only[Tryz.ntmps4,List.size_toArray,List.length_cons,List.length_nil,Nat.reduceAdd,Nat.reduceSub,Array.replicate_succ,Array.replicate_zero,List.push_toArray,List.append_toArray,List.nil_append,List.cons_append]at hE;rw[hE];clear hE;have htop:∀(a':Act) (w':World) (todo:List Item),(Bl V.heap.size V w'/\a'.defers=[]/\a'.tmps[2]?=some (.bool true))->az Tryz0.prog ok c Dr24 (λv V'=>v=.bool true/\Bl V.heap.size V V') ⟨{(base 4).at a' todo with mode:=.returning},[],w'⟩:=by
  rintro a' w' todo ⟨h1,h2,h3⟩;refine az.ends (λτ d=>⟨rfl,.bool true,⟨rfl,h2,rfl,_,Tryz0.func4,?_⟩,rfl,⟨h1.size,h1.block⟩⟩) ⟨_,2,Tryz0.func4,rfl⟩;have:=results_tmp (fn:=Tryz.f4) rfl a'.tmps Tryz0.prog (re w' τ d);rw[fu h3]at this;exact this
 refine az.chain E hL [_,_,_] _ (λa' w'=>Bl V.heap.size V w'/\∃(B3:Nat) (now shift:Int) (ao:Option Addr) (n c0:Nat) (bo:Option Addr) (m d0:Nat),ar w' B3 now shift (.slice ao n c0) (.slice bo m d0)/\pN w' V.heap.size now shift ao n c0 bo m d0/\bX a' (λu=>#[u 0,u 1,u 2,.pointer (some ⟨B3,0,none⟩),u 4,u 5,u 6,u 7,u 8,u 9,u 10,u 11,u 12,u 13,u 14,u 15,u 16,u 17,u 18,u 19,u 20,u 21,u 22,u 23,u 24,u 25,u 26,u 27,u 28,u 29,u 30,u 31,u 32,u 33,u 34,u 35,u 36,u 37,u 38,u 39,u 40,u 41,u 42,u 43,u 44,u 45,u 46,u 47,u 48,u 49,u 50,u 51])) (λa' w'=>Bl V.heap.size V w'/\a'.defers=[]/\a'.tmps[2]?=some (.bool true)) ?_ ?_ (λa' w' todo hh=>htop a' w' todo hh)
 .intro τ d;have h':jf (re V τ d) a l cd:=h;have hn:=h.1;unfold maxLen at hn;have H1:=vJ a l cap cd (re V τ d) h' hcap;clear htop h h';simp only[aK];go_wp2_with(go_at_call 14;refine H1.mono ?_;clear H1;rintro e w1 ⟨hany,b1⟩;obtain⟨now,shift,ao,n,c0,bo,m,d0,rfl,hk⟩:=As hany;obtain⟨W3,e3,k3,b3,z3⟩:=dN w1 now shift ao n c0 bo m d0)
  .right;refine⟨by first|rfl|trivial,⟨Nat.le_refl _,λ_ _=>rfl⟩,?_⟩;first|exact⟨rfl,rfl⟩|simp
  .left;exact⟨by first|rfl|trivial,Bl.ofR (b1.trans (b3.mono b1.size)),w1.heap.size,now,shift,ao,n,c0,bo,m,d0,k3,hk.same b3.block,rfl,rfl⟩
 rintro a' w1 ⟨hb1,B3,now,shift,ao,n,c0,bo,m,d0,bk1,hk1,hfr⟩;obtain⟨u,rfl⟩:=hfr.open;clear hfr;have hz1:=hb1.size;refine az.seq E hL (az.region E hL ?_);rw[bJ];refine az.opsFrom E hL 0 1 (by simp) (λa' w'=>(∃τ d,w'=re w1 τ d)/\bX a' (λu=>#[u 0,u 1,u 2,.pointer (some ⟨B3,0,none⟩),u 4,u 5,u 6,u 7,u 8,u 9,u 10,u 11,.agg #[.int .i64 now,.int .i64 shift,.slice ao n c0,.slice bo m d0],u 13,u 14,u 15,u 16,u 17,u 18,u 19,u 20,u 21,u 22,u 23,u 24,u 25,u 26,u 27,u 28,u 29,u 30,u 31,u 32,u 33,u 34,u 35,u 36,u 37,u 38,u 39,u 40,u 41,u 42,u 43,u 44,u 45,u 46,u 47,u 48,u 49,u 50,u 51])) ?_ ?_
 .intro τ d;have bk0:ar (re w1 τ d) B3 now shift (.slice ao n c0) (.slice bo m d0):=bk1;obtain⟨y0,y1,y2,y3,y4⟩:=bk0.cells;clear htop;simp only[List.drop_zero,List.take_succ_cons,List.take_zero];go_wp2;exact⟨⟨τ,d,rfl⟩,rfl,rfl⟩
 rintro a' w' ⟨⟨τ1,d1,rfl⟩,hfr⟩;clear u;obtain⟨u,rfl⟩:=hfr.open;clear hfr;refine az.sureAny E hSu hRo hPl hSB hbt hL (i:=1) rfl rfl (lo:=V.heap.size) (now:=now) (shift:=shift) (ao:=ao) (n:=n) (c0:=c0) (bo:=bo) (m:=m) (d0:=d0) (λw=>by simp[execOp,resolve,invoke,Act.eval,go_sem]) (hk1.same λ_ _=>rfl) ?_;intro f t sb bb V2 hb2' hBd;have hb2:Bl w1.heap.size w1 V2:=⟨hb2'.size,hb2'.block⟩;clear hb2' hk1;refine az.opsFrom E hL 2 1 (by simp) (λa' w'=>(∃τ d,w'=re V2 τ d)/\bX a' (λu=>#[u 0,u 1,u 2,.pointer (some ⟨B3,0,none⟩),.bool sb,u 5,u 6,u 7,u 8,u 9,u 10,u 11,u 12,u 13,u 14,u 15,u 16,u 17,u 18,u 19,u 20,u 21,u 22,u 23,u 24,u 25,u 26,u 27,u 28,u 29,u 30,u 31,u 32,u 33,u 34,u 35,u 36,u 37,u 38,u 39,u 40,u 41,u 42,u 43,u 44,u 45,u 46,u 47,u 48,u 49,u 50,u 51])) ?_ ?_
 .intro τ d;clear htop hBd;simp only[List.drop_succ_cons,List.drop_zero,List.take_succ_cons,List.take_zero,Act.put];go_wp2;exact⟨⟨τ,d,rfl⟩,rfl,rfl⟩
 rintro a' w' ⟨⟨τ2,d2,rfl⟩,hfr⟩;clear u;obtain⟨u,rfl⟩:=hfr.open;clear hfr;refine az.regionEnd E hL ?_;have hz2:=hb2.size;have hb02:Bl V.heap.size V V2:=hb1.trans hb2 hz1;have bk2:=bk1.same (hb2.block _ bk1.lt);clear bk1 hb1 hb2 hz1 hz2;refine az.chainM E hL [_,_,_] _ (λa' w'=>bb=true/\Bl V2.heap.size V2 w'/\bX a' (λu=>#[u 0,u 1,u 2,.pointer (some ⟨B3,0,none⟩),.bool sb,.bool true,u 6,u 7,u 8,u 9,u 10,u 11,u 12,u 13,u 14,u 15,u 16,u 17,u 18,u 19,u 20,u 21,u 22,u 23,u 24,u 25,u 26,u 27,u 28,u 29,u 30,u 31,u 32,u 33,u 34,u 35,u 36,u 37,u 38,u 39,u 40,u 41,u 42,u 43,u 44,u 45,u 46,u 47,u 48,u 49,u 50,u 51])) (λa' w'=>Bl V.heap.size V w'/\a'.defers=[]/\a'.tmps[2]?=some (.bool true)) ?_ ?_ (λa' w' todo hh=>htop a' w' todo hh)
 .intro τ d;have bk0:ar (re (re V2 τ2 d2) τ d) B3 now shift (.slice ao n c0) (.slice bo m d0):=bk2;have hbl:∀W,Below (re (re V2 τ2 d2) τ d).heap.size (re (re V2 τ2 d2) τ d) W->Bl V2.heap.size V2 W:=λW h=>⟨h.size,h.block⟩
  revert bk0 hbl;generalize re (re V2 τ2 d2) τ d=w;intro bk0 hbl;have hne:=ax w;obtain⟨y0,y1,y2,y3,y4⟩:=bk0.cells;have x0:=λx:af w=>x.cell y0
  have x1:=λx:af w=>x.cell y1
  have x2:=λx:af w=>x.cell y2
  have x3:=λx:af w=>x.cell y3
  have HS:=λx:af w=>hBd.su x.at_ (hbl _ x.below)
  have HI:=λx:af w=>hBd.ib x.at_ (hbl _ x.below)
  have HK:=λx:af w=>hBd.sk x.at_ (hbl _ x.below)
  have HK2:=λW (h:Below w.heap.size w W)=>hBd.sk W (hbl _ h)
  have hno:=hBd.no;clear htop hBd bk2;simp only[aK];cases sb<;>cases bb<;>first|(have hno:=hno rfl;cases hno;done)|skip
  all_goals
   go_wp2;refine ac (by kernel_rfl) (by kernel_rfl) ?_;repeat(go_big_quiet_step (first|(go_at_call 16;exact aF (HS _))|(go_at_call 17;exact aF (HI _))|(go_at_call 18;exact aF (HK _))))
   refine wpQuiet_nil (ag ?_);intro w2 hb2;clear HS HI HK x0 x1 x2 x3;have bk3:=bk0.same (hb2.block _ bk0.lt);obtain⟨z0,z1,z2,z3,z4⟩:=bk3.cells;have HK:=HK2 w2 hb2;go_wp2_with(go_at_call 18;refine HK.mono ?_;clear HK;rintro e w3 ⟨rfl,b3⟩;have hB3:=hb2.trans (b3.mono hb2.size))
   first
    |exact⟨hb02.trans (hbl _ hB3) hb02.size,rfl,rfl⟩
    |exact⟨trivial,hbl _ hB3,rfl,rfl⟩
    |exact⟨rfl,hbl _ hB3,rfl,rfl⟩
 rintro a' w9 ⟨hbb,hb9,hfr⟩;obtain⟨u,rfl⟩:=hfr.open;clear hfr;have h6:=hBd.six;have hyes:=hBd.yes hbb;have hrow:=hBd.row hbb;clear hBd;refine az.seq E hL ?_;refine az.chain E hL [_] _ (λa' w'=>Bl V2.heap.size V2 w'/\∃(k:Nat) (al:Bool),k=0/\al=true/\bX a' (λu=>#[u 0,u 1,u 2,.pointer (some ⟨B3,0,none⟩),.bool sb,.bool al,.int .i64 k,u 7,u 8,u 9,u 10,u 11,u 12,u 13,u 14,u 15,u 16,u 17,u 18,u 19,u 20,u 21,u 22,u 23,u 24,u 25,u 26,u 27,u 28,u 29,u 30,u 31,u 32,u 33,u 34,u 35,u 36,u 37,u 38,u 39,u 40,u 41,u 42,u 43,u 44,u 45,u 46,u 47,u 48,u 49,u 50,u 51])) (λ_ _=>False) ?_ ?_ (λ_ _ _ hh=>hh.elim)
 .intro τ d;clear htop;simp only[aK];go_wp2;left;exact⟨by first|rfl|trivial,⟨hb9.size,hb9.block⟩,0,true,rfl,rfl,rfl,rfl⟩
 rintro a' w' ⟨hb10,k,al,rfl,rfl,hfr⟩;refine az.block E hL (az.loop E hL ?_);refine az.loopInd E hL (λj a' w'=>∃(k:Nat) (al:Bool),k+j=n/\Bl V2.heap.size V2 w'/\(al=true<->∀p,p<k->(f p).lands=true->(bd f n t p).isSome=true)/\bX a' (λu=>#[u 0,u 1,u 2,.pointer (some ⟨B3,0,none⟩),.bool sb,.bool al,.int .i64 k,u 7,u 8,u 9,u 10,u 11,u 12,u 13,u 14,u 15,u 16,u 17,u 18,u 19,u 20,u 21,u 22,u 23,u 24,u 25,u 26,u 27,u 28,u 29,u 30,u 31,u 32,u 33,u 34,u 35,u 36,u 37,u 38,u 39,u 40,u 41,u 42,u 43,u 44,u 45,u 46,u 47,u 48,u 49,u 50,u 51])) ?_ n a' _ ⟨0,true,by omega,hb10,⟨λ_ p hp=>absurd hp (Nat.not_lt_zero _),λ_=>rfl⟩,hfr⟩;clear hfr u a' hb10 hb9 w' w9;rintro j a' W ⟨k,al,hkj,hbW,hall,hfr⟩ IH;obtain⟨u,rfl⟩:=hfr.open;clear hfr;have hzW:=hbW.size;have bkW:=bk2.same (hbW.block B3 bk2.lt);have hbVW:Bl V.heap.size V W:=hb02.trans hbW hb02.size;refine az.seq E hL ?_;refine az.chain E hL [_] _ (λa' w'=>(∃τ d,w'=re W τ d)/\bX a' (λu=>#[u 0,u 1,u 2,.pointer (some ⟨B3,0,none⟩),.bool sb,.bool al,.int .i64 k,u 7,u 8,u 9,u 10,u 11,u 12,u 13,u 14,u 15,u 16,u 17,u 18,u 19,u 20,u 21,u 22,u 23,u 24,u 25,u 26,u 27,u 28,u 29,u 30,u 31,u 32,u 33,.bool (decide (k<n)),u 35,u 36,u 37,u 38,u 39,u 40,u 41,u 42,u 43,u 44,u 45,u 46,u 47,u 48,u 49,u 50,u 51])) (λ_ _=>False) ?_ ?_ (λ_ _ _ hh=>hh.elim)
 .intro τ d;have bk0:ar (re W τ d) B3 now shift (.slice ao n c0) (.slice bo m d0):=bkW;obtain⟨y0,y1,y2,y3,y4⟩:=bk0.cells;clear htop IH;simp only[aK];go_wp2;left;exact⟨by first|rfl|trivial,⟨τ,d,rfl⟩,rfl,rfl⟩
 rintro a' w' ⟨⟨τ3,d3,rfl⟩,hfr⟩;clear u;obtain⟨u,rfl⟩:=hfr.open;clear hfr;refine az.cond E hL (t:=decide (k<n)) rfl ?_;by_cases hlt:k<n
 .rw[if_pos (by simpa using hlt)];obtain⟨b,b',rfl,rfl,hmn,hm,hf,lb,row,lb',row'⟩:=hrow (by omega);replace hmn:=hmn.symm;subst hmn;clear hrow;have hlt':(k:Int)<n:=by omega
  have lbW:b<W.heap.size:=by omega
  have lbW':b'<W.heap.size:=by omega
  have rowW:aw W b 0 n f:=aZ row (hbW.block b lb);have rowW':ak W b' 0 n t:=tV row' (hbW.block b' lb');clear row row';refine az.skip E hL (az.seq E hL (az.block E hL (az.seq E hL (az.region E hL ?_))));rw[bJ];obtain⟨la,hla⟩:∃la,(f k).lands=la:=⟨_,rfl⟩;refine az.opsFrom E hL 0 7 (by simp) (λa' w'=>(∃τ d,w'=re W τ d)/\bX a' (λu=>#[u 0,u 1,u 2,.pointer (some ⟨B3,0,none⟩),.bool sb,.bool al,.int .i64 k,u 7,u 8,u 9,u 10,u 11,u 12,u 13,u 14,u 15,u 16,u 17,u 18,u 19,u 20,u 21,u 22,u 23,u 24,u 25,u 26,u 27,u 28,u 29,u 30,u 31,u 32,u 33,u 34,u 35,u 36,u 37,u 38,u 39,u 40,u 41,u 42,.bool la,u 44,u 45,u 46,u 47,u 48,u 49,u 50,u 51])) ?_ ?_
  .intro τ d;have bk0:ar (re (re W τ3 d3) τ d) B3 now shift (.slice (some ⟨b,0,none⟩) n c0) (.slice (some ⟨b',0,none⟩) n d0):=bkW;obtain⟨y0,y1,y2,y3,y4⟩:=bk0.cells;obtain⟨z0,z1,z2,z3,z4,z5⟩:=(aZ (w':=re (re W τ3 d3) τ d) rowW rfl) k hlt;simp only[Nat.zero_add]at z0 z1 z2 z3 z4 z5;rw[hla]at z1;clear htop IH;simp only[List.drop_zero,List.take_succ_cons,List.take_zero];go_wp2;exact⟨⟨τ,d,rfl⟩,rfl,rfl⟩
  rintro a' w' ⟨⟨τ4,d4,rfl⟩,hfr⟩;clear u;obtain⟨u,rfl⟩:=hfr.open;clear hfr;cases la with
  |true=>
   refine az.opsFrom E hL 7 2 (by simp) (λa' w'=>(∃τ d,w'=re W τ d)/\bX a' (λu=>#[u 0,u 1,u 2,.pointer (some ⟨B3,0,none⟩),.bool sb,.bool al,.int .i64 k,u 7,u 8,u 9,u 10,u 11,u 12,u 13,u 14,u 15,u 16,u 17,u 18,u 19,u 20,u 21,u 22,u 23,u 24,u 25,u 26,u 27,u 28,u 29,u 30,u 31,u 32,u 33,u 34,u 35,u 36,u 37,u 38,u 39,u 40,u 41,u 42,.bool true,.agg #[.int .i64 now,.int .i64 shift,.slice (some ⟨b,0,none⟩) n c0,.slice (some ⟨b',0,none⟩) n d0],.int .i64 k,u 46,u 47,u 48,u 49,u 50,u 51])) ?_ ?_
   .intro τ d;have bk0:ar (re (re W τ4 d4) τ d) B3 now shift (.slice (some ⟨b,0,none⟩) n c0) (.slice (some ⟨b',0,none⟩) n d0):=bkW;obtain⟨y0,y1,y2,y3,y4⟩:=bk0.cells;clear htop IH;simp only[List.drop_succ_cons,List.drop_zero,List.take_succ_cons,List.take_zero];go_wp2;exact⟨⟨τ,d,rfl⟩,rfl,rfl⟩
   rintro a' w' ⟨⟨τ5,d5,rfl⟩,hfr⟩;clear u;obtain⟨u,rfl⟩:=hfr.open;clear hfr;refine az.wroundOp E hW hSB hbt hL (i:=9) rfl rfl (b:=b) (n:=n) (cap:=c0) (b':=b') (cap':=d0) (p:=k) (f:=f) (t:=t) (now:=now) (shift:=shift) (λw=>by simp[execOp,resolve,invoke,Act.eval,go_sem]) hm hf hlt (by show b<W.heap.size;omega) (aZ rowW rfl) (by show b'<W.heap.size;omega) (tV rowW' rfl) ?_;intro V3 hb3';have hb3:Bl W.heap.size W V3:=⟨hb3'.size,hb3'.block⟩;clear hb3';obtain⟨br,hbr⟩:∃br,(bd f n t k).isSome=br:=⟨_,rfl⟩;rw[hbr];refine az.opsFrom E hL 10 2 (by simp) (λa' w'=>(∃τ d,w'=re V3 τ d)/\bX a' (λu=>#[u 0,u 1,u 2,.pointer (some ⟨B3,0,none⟩),.bool sb,.bool al,.int .i64 k,u 7,u 8,u 9,u 10,u 11,u 12,u 13,u 14,u 15,u 16,u 17,u 18,u 19,u 20,u 21,u 22,u 23,u 24,u 25,u 26,u 27,u 28,u 29,u 30,u 31,u 32,u 33,u 34,u 35,u 36,u 37,u 38,u 39,u 40,u 41,u 42,u 43,u 44,u 45,u 46,u 47,.bool (!br),u 49,u 50,u 51])) ?_ ?_
   .intro τ d;clear htop IH;simp only[List.drop_succ_cons,List.drop_zero,List.take_succ_cons,List.take_zero,Act.put];go_wp2;exact⟨⟨τ,d,rfl⟩,rfl,rfl⟩
   rintro a' w' ⟨⟨τ6,d6,rfl⟩,hfr⟩;clear u;obtain⟨u,rfl⟩:=hfr.open;clear hfr;refine az.regionEnd E hL ?_;have hb23:Bl V2.heap.size V2 V3:=hbW.trans hb3 hzW;refine az.cond E hL (t:=!br) rfl ?_;cases br with
   |false=>
    rw[if_pos (show(!false)=true from rfl)];refine az.region E hL ?_;rw[bJ];refine az.opsFrom E hL 0 1 (by simp) (λa' w'=>(∃τ d,w'=re V3 τ d)/\bX a' (λu=>#[u 0,u 1,u 2,.pointer (some ⟨B3,0,none⟩),.bool sb,.bool false,.int .i64 k,u 7,u 8,u 9,u 10,u 11,u 12,u 13,u 14,u 15,u 16,u 17,u 18,u 19,u 20,u 21,u 22,u 23,u 24,u 25,u 26,u 27,u 28,u 29,u 30,u 31,u 32,u 33,u 34,u 35,u 36,u 37,u 38,u 39,u 40,u 41,u 42,u 43,u 44,u 45,u 46,u 47,u 48,u 49,u 50,u 51])) ?_ ?_
    .intro τ d;clear htop IH;simp only[List.drop_zero,List.take_succ_cons,List.take_zero];go_wp2;exact⟨⟨τ,d,rfl⟩,rfl,rfl⟩
    rintro a' w' ⟨⟨τ8,d8,rfl⟩,hfr⟩;clear u;obtain⟨u,rfl⟩:=hfr.open;clear hfr;refine az.regionEnd E hL (az.inBlock E hL ?_);refine az.region E hL ?_;rw[bJ];refine az.opsFrom E hL 0 3 (by simp) (λa' w'=>(∃τ d,w'=re V3 τ d)/\∃k':Nat,k'=k+1/\bX a' (λu=>#[u 0,u 1,u 2,.pointer (some ⟨B3,0,none⟩),.bool sb,.bool false,.int .i64 (k':Nat),u 7,u 8,u 9,u 10,u 11,u 12,u 13,u 14,u 15,u 16,u 17,u 18,u 19,u 20,u 21,u 22,u 23,u 24,u 25,u 26,u 27,u 28,u 29,u 30,u 31,u 32,u 33,u 34,u 35,u 36,u 37,u 38,u 39,u 40,u 41,u 42,u 43,u 44,u 45,u 46,u 47,u 48,u 49,u 50,u 51])) ?_ ?_
    .intro τ d;have hwr:IntKind.i64.wrap ((k:Int)+1)=(k:Int)+1:=by rw[IntKind.wrap_i64];omega
     clear htop IH;simp only[List.drop_zero,List.take_succ_cons,List.take_zero];go_wp2;first|exact⟨⟨τ,d,rfl⟩,k+1,rfl,rfl,by simp⟩|exact⟨⟨τ,d,rfl⟩,rfl,by simp⟩|exact⟨⟨τ,d,rfl⟩,rfl,rfl⟩
    rintro a' w' ⟨⟨τ7,d7,rfl⟩,k',rfl,hfr⟩;refine az.regionEnd E hL (IH (j-1) (by omega) _ _ ⟨k+1,false,by omega,⟨hb23.size,hb23.block⟩,⟨(λh=>nomatch h),λh=>?_⟩,hfr⟩);have:=h k (by omega) hla;rw[hbr]at this;cases this
   |true=>
    rw[if_neg (show¬(!true)=true by simp)];refine az.skip E hL (az.inBlock E hL ?_);refine az.region E hL ?_;rw[bJ];refine az.opsFrom E hL 0 3 (by simp) (λa' w'=>(∃τ d,w'=re V3 τ d)/\∃k':Nat,k'=k+1/\bX a' (λu=>#[u 0,u 1,u 2,.pointer (some ⟨B3,0,none⟩),.bool sb,.bool al,.int .i64 (k':Nat),u 7,u 8,u 9,u 10,u 11,u 12,u 13,u 14,u 15,u 16,u 17,u 18,u 19,u 20,u 21,u 22,u 23,u 24,u 25,u 26,u 27,u 28,u 29,u 30,u 31,u 32,u 33,u 34,u 35,u 36,u 37,u 38,u 39,u 40,u 41,u 42,u 43,u 44,u 45,u 46,u 47,u 48,u 49,u 50,u 51])) ?_ ?_
    .intro τ d;have hwr:IntKind.i64.wrap ((k:Int)+1)=(k:Int)+1:=by rw[IntKind.wrap_i64];omega
     clear htop IH;simp only[List.drop_zero,List.take_succ_cons,List.take_zero];go_wp2;first|exact⟨⟨τ,d,rfl⟩,k+1,rfl,rfl,by simp⟩|exact⟨⟨τ,d,rfl⟩,rfl,by simp⟩|exact⟨⟨τ,d,rfl⟩,rfl,rfl⟩
    rintro a' w' ⟨⟨τ7,d7,rfl⟩,k',rfl,hfr⟩;refine az.regionEnd E hL (IH (j-1) (by omega) _ _ ⟨k+1,al,by omega,⟨hb23.size,hb23.block⟩,⟨λh p hp hl=>?_,λh=>hall.2 λp hp hl=>h p (by omega) hl⟩,hfr⟩);by_cases e:p=k
    .subst e;exact hbr
    .exact hall.1 h p (by omega) hl
  |false=>
   refine az.opsFrom E hL 7 5 (by simp) (λa' w'=>(∃τ d,w'=re W τ d)/\bX a' (λu=>#[u 0,u 1,u 2,.pointer (some ⟨B3,0,none⟩),.bool sb,.bool al,.int .i64 k,u 7,u 8,u 9,u 10,u 11,u 12,u 13,u 14,u 15,u 16,u 17,u 18,u 19,u 20,u 21,u 22,u 23,u 24,u 25,u 26,u 27,u 28,u 29,u 30,u 31,u 32,u 33,u 34,u 35,u 36,u 37,u 38,u 39,u 40,u 41,u 42,u 43,u 44,u 45,u 46,u 47,.bool false,u 49,u 50,u 51])) ?_ ?_
   .intro τ d;clear htop IH;simp only[List.drop_succ_cons,List.drop_zero,List.take_succ_cons,List.take_zero];go_wp2;exact⟨⟨τ,d,rfl⟩,rfl,rfl⟩
   rintro a' w' ⟨⟨τ5,d5,rfl⟩,hfr⟩;clear u;obtain⟨u,rfl⟩:=hfr.open;clear hfr;refine az.regionEnd E hL ?_;refine az.cond E hL (t:=false) rfl ?_;rw[if_neg (show¬false=true by simp)];refine az.skip E hL (az.inBlock E hL ?_);refine az.region E hL ?_;rw[bJ];refine az.opsFrom E hL 0 3 (by simp) (λa' w'=>(∃τ d,w'=re W τ d)/\∃k':Nat,k'=k+1/\bX a' (λu=>#[u 0,u 1,u 2,.pointer (some ⟨B3,0,none⟩),.bool sb,.bool al,.int .i64 (k':Nat),u 7,u 8,u 9,u 10,u 11,u 12,u 13,u 14,u 15,u 16,u 17,u 18,u 19,u 20,u 21,u 22,u 23,u 24,u 25,u 26,u 27,u 28,u 29,u 30,u 31,u 32,u 33,u 34,u 35,u 36,u 37,u 38,u 39,u 40,u 41,u 42,u 43,u 44,u 45,u 46,u 47,u 48,u 49,u 50,u 51])) ?_ ?_
   .intro τ d;have hwr:IntKind.i64.wrap ((k:Int)+1)=(k:Int)+1:=by rw[IntKind.wrap_i64];omega
    clear htop IH;simp only[List.drop_zero,List.take_succ_cons,List.take_zero];go_wp2;first|exact⟨⟨τ,d,rfl⟩,k+1,rfl,rfl,by simp⟩|exact⟨⟨τ,d,rfl⟩,rfl,by simp⟩|exact⟨⟨τ,d,rfl⟩,rfl,rfl⟩
   rintro a' w' ⟨⟨τ7,d7,rfl⟩,k',rfl,hfr⟩;refine az.regionEnd E hL (IH (j-1) (by omega) _ _ ⟨k+1,al,by omega,⟨hbW.size,hbW.block⟩,⟨λh p hp hl=>?_,λh=>hall.2 λp hp hl=>h p (by omega) hl⟩,hfr⟩);by_cases e:p=k
   .subst e;rw[hla]at hl;cases hl
   .exact hall.1 h p (by omega) hl
 .rw[if_neg (by simpa using hlt)];have hkn:k=n:=by omega
  subst hkn;have hals:al=sb:=by
   rw[Bool.eq_iff_iff,hall,hyes];exact Iff.rfl
  refine az.exit E hL (k':=_) rfl ?_;refine az.last E hL [_] (λa' w'=>Bl V.heap.size V w'/\a'.defers=[]/\a'.tmps[2]?=some (.bool true)) ?_ (λa' w' todo hh=>htop a' w' todo hh);intro τ d;subst hals;clear htop IH hall hyes;simp only[aK];cases al;all_goals
   go_wp2;first
    |exact⟨hbVW.size,hbVW.block⟩
    |(left;exact⟨by first|rfl|trivial,⟨hbVW.size,hbVW.block⟩,by first|rfl|trivial,by first|rfl|simp⟩)
    |trace_state
end
end Go.Proofs.YtlmcblcijndipaaGreat
