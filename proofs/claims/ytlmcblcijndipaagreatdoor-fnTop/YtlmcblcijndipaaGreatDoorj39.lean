import Derived.Test.YtlmcblcijndipaaGreatDoorj38
import Derived.Test.YtlmcblcijndipaaGreatDoorj27
import Derived.Deep.RegionWith
set_option linter.defProp false
set_option linter.unusedVariables false
set_option maxHeartbeats 4000000
set_option maxRecDepth 10000
namespace Go.Proofs.YtlmcblcijndipaaGreatDoor
open RowKit
variable {p q:Int}{xs:List Value}{m:Mv}{Bm Br R b cr n:Nat}{v:Value}{W w w':World}
section
variable {B:Nat}
def Rd.drew (hr:Rd w R p):Rd w.drew R p:=by
 let⟨⟨a,n,cap,c,hR,hn,am,hc⟩,DC⟩:=hr;refine⟨⟨a,n,cap,c,hR,hn,?_,hc⟩,DC⟩;rcases am with h|⟨b,off,rfl,PV,am⟩
 .exact .inl h
 .exact .inr ⟨b,off,rfl,PV,λi hi=>am i hi⟩
def tV (w:World)(a:Option Addr)(n:Nat)(c:Nat->Int):Prop:=n<=maxLen/\(n=0\/∃b off,a=some ⟨b,off,none⟩/\b<w.heap.size/\sL w b off n c)/\∀i,i<n->0<=c i/\c i<=255
def OF (a:Option Addr)(n cap:Nat)(c:Nat->Int)(w:World)(h:tV w a n c)(xE:n<=cap):
  Calls Tz.prog 33 #[.slice a n cap] w λe w'=>e=.returned (.pointer w.heap.size)/\Rd w' w.heap.size 0/\Below w w w':=by
 let⟨hn,am,hc⟩:=h;unfold maxLen at hn;have hB:∀o,Below w w (w.alloc o):=λo=>(acU _ _).alloc (ac3 _) _
 by_cases hl:n<=2000
 .go_enter Tz.func33,Tryz.ntmps33
  go_wp2;go_ret;refine⟨rfl,⟨⟨a,n,cap,c,heap_alloc_new _ _,hl,?_,hc⟩,Int.le_refl _⟩,hB _⟩;rcases am with h|⟨b,off,rfl,hb,am⟩
  .exact .inl h
  .exact .inr ⟨b,off,rfl,hb,λi hi=>((hB _).cell (p:=⟨b,off+i,none⟩) hb).trans<|am i hi⟩
 .obtain⟨b,off,rfl,hb,lP⟩:∃b off,a=some ⟨b,off,none⟩/\b<w.heap.size/\sL w b off n c:=by rcases am with h|h;omega;exact h
  have h2:(2000:Int)<=cap:=ab;go_enter Tz.func33,Tryz.ntmps33
  go_wp2;go_ret;exact⟨rfl,⟨⟨some ⟨b,off,none⟩,2000,cap,c,heap_alloc_new _ _,ac3 _,.inr ⟨b,off,rfl,hb,λi hi=>((hB _).cell (p:=⟨b,off+i,none⟩) hb).trans<|lP i ab⟩,λi hi=>hc i ab⟩,Int.le_refl _⟩,hB _⟩
structure Mo (m:Mv)(s:ByteArray):Prop where
 name:m.name=s
 ap:1<=m.ap/\m.ap<=3
 span:0<=m.bF/\m.bF<=m.late/\m.late<=10000
 prom:m.prom=-1
structure Yk (R:Nat)(p:Int)(k:Int)(cr:Nat)(w w':World):Prop where
 rd:∃q,p<=q/\q<=p+k/\Rd w' R q
 but:ja R w w'
 below:Below cr w w'
def Rd.set (hr:Rd w R p)(h:R<B)(o:Nat)(v:Value):Rd (w.setCell ⟨B,o,none⟩ v) R p:=by
 let⟨⟨a,n,cap,c,hR,hn,am,hc⟩,DC⟩:=hr;refine⟨⟨a,n,cap,c,(acW w _ v R cH).trans hR,hn,?_,hc⟩,DC⟩;rcases am with h'|⟨b,off,rfl,PV,am⟩
 .exact .inl h'
 .exact .inr ⟨b,off,rfl,PV,λi hi=>by rw[World.cell?_setCell_other _ _ _ _ zj];exact am i hi⟩
structure ru (R Br Bm:Nat)(cr:Nat)(w:World)(m:Mv)(q:Int)(W:World):Prop where
 mv:dw W Bm m
 res:∃m0,dw W Br m0
 rd:Rd W R q
 but:∀k,k<w.heap.size->k≠R->W.heap[k]?=w.heap[k]?
 below:Below cr w W
def ru.drew (h:ru R Br Bm cr w m q W):ru R Br Bm cr w m q W.drew:=⟨h.mv,h.res,h.rd.drew,h.but,h.below.drew⟩
def ru.pick {W':World}(h:ru R Br Bm cr w m q W)(hr:R<w)(h1:R<Br)(h2:Br<Bm)(hz:w.heap.size<=Br)(hRd:Rd W' R (q+1))(hb:ja R W W')(hB:Below cr W W'):ru R Br Bm cr w m (q+1) W':=by
 have lm:Bm<W:=(ac5.1 h.mv).1;let⟨m0,rK⟩:=h.res;exact⟨(hb.block Bm lm ab).trans h.mv,⟨m0,(hb.block Br ab ab).trans rK⟩,hRd,λk hk hne=>(hb.block k ab hne).trans<|h.but k hk hne,h.below.trans hB⟩
def ru.late (h:ru R Br Bm cr w m q W)(h0:cr<=R)(h1:R<Br)(h2:Br<Bm)(hz:w.heap.size<=Br)(x:Int):ru R Br Bm cr w {m with late:=x} q (W.setCell ⟨Bm,4,none⟩ x):=by
 let⟨m0,rK⟩:=h.res;refine⟨?_,⟨m0,(acW W _ _ Br cH).trans rK⟩,h.rd.set ab _ _,λk hk hne=>(acW W _ _ k cH).trans<|h.but k hk hne,h.below.setCell cH _⟩;have:=heap_setCell_same W Bm 4 _ _ x h.mv;simpa[dw]using this
def ru.bF (h:ru R Br Bm cr w m q W)(h0:cr<=R)(h1:R<Br)(h2:Br<Bm)(hz:w.heap.size<=Br)(x:Int):ru R Br Bm cr w {m with bF:=x} q (W.setCell ⟨Bm,3,none⟩ x):=by
 let⟨m0,rK⟩:=h.res;refine⟨?_,⟨m0,(acW W _ _ Br cH).trans rK⟩,h.rd.set ab _ _,λk hk hne=>(acW W _ _ k cH).trans<|h.but k hk hne,h.below.setCell cH _⟩;have:=heap_setCell_same W Bm 3 _ _ x h.mv;simpa[dw]using this
def Fr (W:World)(B o:Nat)(m:Mv)(k:Nat)(h:k≠B):(nz W B o m).heap[k]?=W.heap[k]?:=by
 unfold nz;rw[acW _ _ _ _ qJ,acW _ _ _ _ qJ,acW _ _ _ _ qJ,acW _ _ _ _ qJ,acW _ _ _ _ qJ,acW _ _ _ _ qJ]
def Rd.nz (h:Rd W R q)(hB:R<B)(o:Nat)(m:Mv):Rd (nz W B o m) R q:=
 (((((h.set hB _ _).set hB _ _).set hB _ _).set hB _ _).set hB _ _).set hB _ _
def ru.went (h:ru R Br Bm cr w m q W)(h0:cr<=R)(h1:R<Br)(hz:w.heap.size<=Br)(m':Mv)(hq:p<=q/\q<=p+7):Yk R p 7 cr w (nz W Br 0 m'):=
 ⟨⟨q,hq.1,hq.2,h.rd.nz h1 _ _⟩,⟨by have:=h.below.size;simpa[nz]using this,λk hk hne=>(Fr W Br 0 m' k ab).trans<|h.but k hk hne⟩,Fq h.below ab 0 m'⟩
def Hm (R:Nat)(p:Int)(s:ByteArray)(now:Int)(w:World)(cr:Nat)(h0:cr<=R)(hr:Rd w R p)(hp:p<=900000)(XF:0<=now)(L9:now<=10000):
  Calls Tz.prog 35 #[.pointer R,s,now] w λe w'=>(∃m:Mv,e=.returned (.agg #[.string m.name,.bool m.ak,.int .i64 m.ap,.int .i64 m.bF,.int .i64 m.late,.int .i64 m.prom])/\Mo m s)/\Yk R p 7 cr w w':=by
 have hz:=hr.lt;have H1:=gt R p 5 (w.alloc<|.cells #[ByteArray.empty,false,(0:Int),(0:Int),(0:Int),(0:Int)] 31) cr h0 (hr.below<|(acU _ _).alloc (ac3 _) _) ab ab ab;go_enter Tz.func35,Tryz.ntmps35
 go_wp2_with(first
  |(go_at_call 34;refine H1.mono ?_;clear H1;rintro e w1 ⟨⟨z1,rfl,l1,u1⟩,r1,t1,b1⟩;have H2:=gt R _ 3 w1 cr h0 r1 ab ab ab)
  |(go_at_call 34;refine H2.mono ?_;clear H2;rintro e w2 ⟨⟨z2,rfl,l2,u2⟩,r2,t2,b2⟩;have H3:=gt R _ 16 w2 cr h0 r2 ab ab ab)
  |(go_at_call 34;refine H3.mono ?_;clear H3;rintro e w3 ⟨⟨z3,rfl,l3,u3⟩,r3,t3,b3⟩))
 have eG:=t1.size;have ga:=t2.size;have Oa:=t3.size;simp at eG;have hS:ru R w.heap.size w3.heap.size cr w ⟨s,decide (z1<3),1+z2,now+z3,0,-1⟩ (p+1+1+1) (w3.alloc<|.cells #[s,.bool<|decide (z1<3),.int .i64<|1+z2,.int .i64<|now+z3,(0:Int),.int .i64 (-1)] 31):=by
  have bA:Below w3 w3 (w3.alloc<|.cells #[s,.bool<|decide (z1<3),.int .i64<|1+z2,.int .i64<|now+z3,(0:Int),.int .i64 (-1)] 31):=(acU _ _).alloc (ac3 _) _;have b0:Below w w (w.alloc<|.cells #[ByteArray.empty,false,(0:Int),(0:Int),(0:Int),(0:Int)] 31):=(acU _ _).alloc (ac3 _) _;have t03:=t1.trans<|t2.trans t3;refine⟨heap_alloc_new _ _,⟨⟨ByteArray.empty,false,0,0,0,0⟩,?_⟩,r3.below bA,λk hk hne=>?_,?_⟩
  .exact(bA.block w.heap.size ab).trans ((t03.block w.heap.size aG ab).trans<|heap_alloc_new _ _)
  .exact(bA.block k ab).trans ((t03.block k cH hne).trans<|b0.block k hk)
  .exact(b0.mono ab).trans (b1.trans<|b2.trans<|b3.trans<|bA.mono ab)
 revert hS;obtain⟨Br,gD⟩:∃Br,Br=w.heap.size:=⟨_,rfl⟩;obtain⟨Bm,YP⟩:∃Bm,Bm=w3.heap.size:=⟨_,rfl⟩;rw[<-YP];rw[<-gD];generalize (w3.alloc<|.cells #[.string s,.bool<|decide (z1<3),.int .i64<|1+z2,.int .i64<|now+z3,(0:Int),.int .i64 (-1)] 31)=W4;intro hS;have g1:R<Br:=ab;have g2:Br<Bm:=ab;have g3:w.heap.size<=Br:=ab;clear gD YP eG ga Oa r1 r2 r3 t1 t2 t3 b1 b2 b3;let⟨c0,c1,c2,c3,c4,c5⟩:=hS.mv.at_;simp only[Nat.zero_add]at c0 c1 c2 c3 c4 c5;have HP:=gt R _ 20 W4.drew cr h0 hS.drew.rd ab ab ab;go_region_held3 (λw'=>w'.cell? ⟨Bm,3,none⟩=some (.int .i64<|now+z3)) (go_keep)
  (first|(go_at_call 34;refine HP.mono ?_;clear HP;rintro e w5 ⟨⟨z4,rfl,l4,u4⟩,r5,t5,b5⟩;have Ed:=hS.drew.pick hz g1 g2 g3 r5 t5 b5;let⟨d0,d1,d2,d3,d4,d5⟩:=Ed.mv.at_;simp only[Nat.zero_add]at d0 d1 d2 d3 d4 d5;have f5:=Ed.mv.frozen 4;have d34:∀v,(w5.setCell ⟨Bm,4,none⟩ v).cell? ⟨Bm,3,none⟩=some (.int .i64<|now+z3):=λv=>(World.cell?_setCell_other _ _ _ _ aG).trans d3;have xP:IntKind.i64.wrap (now+z3+z4)=now+z3+z4:=ia))
 have Rh:=Ed.late h0 g1 g2 g3<|now+z3+z4;revert Rh;generalize w5.setCell ⟨Bm,4,none⟩ (.int .i64<|now+z3+z4)=W6;intro Rh;clear Ed d0 d1 d2 d3 d4 d5 f5 d34 xP r5 t5 b5 hS c0 c1 c2 c3 c4 c5;obtain⟨L,hL⟩:∃L,now+z3+z4=L:=⟨_,rfl⟩;rw[hL]at Rh;try rw[hL]
 have H7:=gt R _ 3 W6 cr h0 Rh.rd ab ab ab;go_wp2_with(first
  |(go_at_call 34;refine H7.mono ?_;clear H7;rintro e w7 ⟨⟨z5,rfl,l5,u5⟩,r7,t7,b7⟩;have L5:=Rh.pick hz g1 g2 g3 r7 t7 b7;have H8:=gt R _ 30 w7 cr h0 L5.rd ab ab ab)
  |(go_at_call 34;refine H8.mono ?_;clear H8;rintro e w8 ⟨⟨z6,rfl,l6,u6⟩,r8,t8,b8⟩;have Az:=L5.pick hz g1 g2 g3 r8 t8 b8;let⟨d0,d1,d2,d3,d4,d5⟩:=Az.mv.at_;simp only[Nat.zero_add]at d0 d1 d2 d3 d4 d5;have f4:=Az.mv.frozen 4;have f3:=Az.mv.frozen 3;let⟨m0,rK⟩:=Az.res;let⟨k0,k1,k2,k3,k4,k5⟩:=rK.at_;simp only[Nat.zero_add]at k0 k1 k2 k3 k4 k5;have fr:=rK.frozen))
 focus
  clear H8;let⟨c0,c1,c2,c3,c4,c5⟩:=L5.mv.at_;simp only[Nat.zero_add]at c0 c1 c2 c3 c4 c5;have HP:=gt R _ 40 w7.drew cr h0 L5.drew.rd ab ab ab;have hwa:IntKind.i64.wrap (now+z3+20)=now+z3+20:=ia;go_region_held3 (λw'=>w'.cell? ⟨Bm,3,none⟩=some (.int .i64<|now+z3)) (go_keep)
   (first|(go_at_call 34;refine HP.mono ?_;clear HP;rintro e w5 ⟨⟨z7,rfl,l7,u7⟩,r5,t5,b5⟩;have Ed:=L5.drew.pick hz g1 g2 g3 r5 t5 b5;let⟨d0,d1,d2,d3,d4,d5⟩:=Ed.mv.at_;simp only[Nat.zero_add]at d0 d1 d2 d3 d4 d5;have f5:=Ed.mv.frozen 4;have d34:∀v,(w5.setCell ⟨Bm,4,none⟩ v).cell? ⟨Bm,3,none⟩=some (.int .i64<|now+z3):=λv=>(World.cell?_setCell_other _ _ _ _ aG).trans d3;have xP:IntKind.i64.wrap (now+z3+20+z7)=now+z3+20+z7:=ia))
  have Ta:=Ed.late h0 g1 g2 g3<|now+z3+20+z7;revert Ta;generalize w5.setCell ⟨Bm,4,none⟩ (.int .i64<|now+z3+20+z7)=W9;intro Ta;clear Ed d0 d1 d2 d3 d4 d5 f5 d34 xP r5 t5 b5 c0 c1 c2 c3 c4 c5;clear hL;obtain⟨L,hL⟩:∃L,now+z3+20+z7=L:=⟨_,rfl⟩;rw[hL]at Ta;try rw[hL]
  have H8:=gt R _ 30 W9 cr h0 Ta.rd ab ab ab;go_wp2_with(first
   |(go_at_call 34;refine H8.mono ?_;clear H8;rintro e w8 ⟨⟨z6,rfl,l6,u6⟩,r8,t8,b8⟩;have Az:=Ta.pick hz g1 g2 g3 r8 t8 b8;let⟨d0,d1,d2,d3,d4,d5⟩:=Az.mv.at_;simp only[Nat.zero_add]at d0 d1 d2 d3 d4 d5;have f4:=Az.mv.frozen 4;have f3:=Az.mv.frozen 3;let⟨m0,rK⟩:=Az.res;let⟨k0,k1,k2,k3,k4,k5⟩:=rK.at_;simp only[Nat.zero_add]at k0 k1 k2 k3 k4 k5;have fr:=rK.frozen))
 all_goals first
  |(exfalso;omega)
  |(have hx:(z6==0)=false/\L<=10000:=⟨by assumption,ab⟩;let⟨m1,nK⟩:=(Az).res;have q:=yK (w8) Br 0 ⟨s,decide (z1<3),1+z2,now+z3,L,-1⟩ _ _ nK aG;let⟨q0,q1,q2,q3,q4,q5⟩:=q;simp only[Nat.zero_add]at q0 q1 q2 q3 q4 q5;change bodyPost _ _ _ _ _ (nz (w8) Br 0 ⟨s,decide (z1<3),1+z2,now+z3,L,-1⟩);exact bodyPost_ret (v:=.agg #[.string s,.bool<|decide (z1<3),.int .i64<|1+z2,.int .i64<|now+z3,.int .i64<|L,.int .i64 (-1)]) (by simp[results,Tryz.results35,go_sem,q0,q1,q2,q3,q4,q5]) rfl ⟨⟨⟨s,decide (z1<3),1+z2,now+z3,L,-1⟩,rfl,⟨rfl,Kf,Kf,rfl⟩⟩,(Az).went h0 g1 g3 _ ab⟩)
  |(have hx:((z6==0)=true\/10000<L)/\now+z3<=10000:=⟨by first|exact .inl (by assumption)|exact .inr ab,ab⟩;let⟨m1,nK⟩:=(Az.late h0 g1 g2 g3 10000).res;have q:=yK (w8.setCell ⟨Bm,4,none⟩<|.int .i64 10000) Br 0 ⟨s,decide (z1<3),1+z2,now+z3,10000,-1⟩ _ _ nK aG;let⟨q0,q1,q2,q3,q4,q5⟩:=q;simp only[Nat.zero_add]at q0 q1 q2 q3 q4 q5;change bodyPost _ _ _ _ _ (nz (w8.setCell ⟨Bm,4,none⟩<|.int .i64 10000) Br 0 ⟨s,decide (z1<3),1+z2,now+z3,10000,-1⟩);exact bodyPost_ret (v:=.agg #[.string s,.bool<|decide (z1<3),.int .i64<|1+z2,.int .i64<|now+z3,.int .i64<|10000,.int .i64 (-1)]) (by simp[results,Tryz.results35,go_sem,q0,q1,q2,q3,q4,q5]) rfl ⟨⟨⟨s,decide (z1<3),1+z2,now+z3,10000,-1⟩,rfl,⟨rfl,Kf,Kf,rfl⟩⟩,(Az.late h0 g1 g2 g3 10000).went h0 g1 g3 _ ab⟩)
  |(have hx:((z6==0)=true\/10000<L)/\10000<now+z3:=⟨by first|exact .inl (by assumption)|exact .inr ab,ab⟩;let⟨m1,nK⟩:=((Az.late h0 g1 g2 g3 10000).bF h0 g1 g2 g3 10000).res;have q:=yK ((w8.setCell ⟨Bm,4,none⟩<|.int .i64 10000).setCell ⟨Bm,3,none⟩<|.int .i64 10000) Br 0 ⟨s,decide (z1<3),1+z2,10000,10000,-1⟩ _ _ nK aG;let⟨q0,q1,q2,q3,q4,q5⟩:=q;simp only[Nat.zero_add]at q0 q1 q2 q3 q4 q5;change bodyPost _ _ _ _ _ (nz ((w8.setCell ⟨Bm,4,none⟩<|.int .i64 10000).setCell ⟨Bm,3,none⟩<|.int .i64 10000) Br 0 ⟨s,decide (z1<3),1+z2,10000,10000,-1⟩);exact bodyPost_ret (v:=.agg #[.string s,.bool<|decide (z1<3),.int .i64<|1+z2,.int .i64<|10000,.int .i64<|10000,.int .i64 (-1)]) (by simp[results,Tryz.results35,go_sem,q0,q1,q2,q3,q4,q5]) rfl ⟨⟨⟨s,decide (z1<3),1+z2,10000,10000,-1⟩,rfl,⟨rfl,Kf,Kf,rfl⟩⟩,((Az.late h0 g1 g2 g3 10000).bF h0 g1 g2 g3 10000).went h0 g1 g3 _ ab⟩)
end
def Cb (h:ja R w w')(hb:Below cr w w'):w.grownBy w' (some R):=
 ⟨hb.os,hb.tape,hb.output,h.size,λk hk hne=>h.block k hk λe=>hne<|by rw[e]⟩
def JG {base:Nat}{T:TypeId}{size:Nat}(h:w.ownsRow base T size v n xs)(hR:R<base)(hb:ja R w w')(hB:Below cr w w'):w'.ownsRow base T size v n xs:=by
 refine h.kept (Cb hb hB) ?_;obtain⟨_,h2|⟨g,cap,cur,h2,h3,_⟩⟩:=h
 .left;rw[h2.1];rfl
 .right;rw[h2];simp[Value.ownBlock];omega
def Nms (cs:Array Value):Prop:=∀i,i<6->∃s:ByteArray,cs[i]?=some (.string s)/\s.size<=8
def K5 (w:World):
  Calls Tz.prog 37 #[] w λe w'=>e=.returned (.slice (some ⟨w.heap.size,0,none⟩) 6 6)/\(∃cs,w'.heap[w.heap.size]?=some (.cells cs 9 (0,0))/\Nms cs)/\Below w.heap.size w w':=by
 go_enter Tz.func37,Tryz.ntmps37
 go_wp2;go_ret;refine⟨rfl,⟨_,heap_alloc_new _ _,λi hi=>?_⟩,(acU _ _).alloc (ac3 _) _⟩;match i,hi with
 |0,_=>exact⟨_,rfl,bd⟩
 |1,_=>exact⟨_,rfl,bd⟩
 |2,_=>exact⟨_,rfl,bd⟩
 |3,_=>exact⟨_,rfl,bd⟩
 |4,_=>exact⟨_,rfl,bd⟩
 |5,_=>exact⟨_,rfl,bd⟩
structure Ds (R Bn cr:Nat)(w:World)(v:Value)(n:Nat)(f:Nat->Mv)(q:Int)(W:World):Prop where
 own:W.ownsRow w.heap.size 31 6 v n (eh f n)
 nm:∃cs,W.heap[Bn]?=some (.cells cs 9 (0,0))/\Nms cs
 rd:Rd W R q
 but:ja R w W
 below:Below cr w W
 pl:uG W v
def dw.but (h:dw w b m)(hb:ja R w w')(hne:b≠R):dw w' b m:=(hb.block b (ac5.1 h).1 hne).trans h
def dw.lt (h:dw w b m):b<w.heap.size:=(ac5.1 h).1
def MT {o:Nat}(hb:ja R w w')(ay:b<w.heap.size)(hne:b≠R):w'.cell? ⟨b,o,none⟩=w.cell? ⟨b,o,none⟩:=ac0 (a:=⟨b,o,none⟩)<|hb.block b ay hne
structure Ms (R Bn cr:Nat)(w:World)(v:Value)(n:Nat)(f:Nat->Mv)(q:Int)(Bm:Nat)(m:Mv)(W:World):Prop where
 ds:Ds R Bn cr w v n f q W
 mv:dw W Bm m
 lo:w.heap.size<=Bm
 nn:Bm≠Bn
 no:v.ownBlock≠some Bm
structure Good (m:Mv):Prop where
 name:m.name.size<=8
 ap:1<=m.ap/\m.ap<=3
 span:0<=m.bF/\m.bF<=m.late/\m.late<=10000
 prom:-1<=m.prom/\m.prom<=10000
def Rd.Hp (hr:Rd w R p)(ay:R<n)(hb:Below n w w'):Rd w' R p:=by
 let⟨⟨a,m,cap,c,hR,hn,am,hc⟩,DC⟩:=hr;refine⟨⟨a,m,cap,c,(hb.block R ay).trans hR,hn,?_,hc⟩,DC⟩;rcases am with h|⟨b,off,rfl,PV,am⟩
 .exact .inl h
 .exact .inr ⟨b,off,rfl,PV,λi hi=>(hb.cell (p:=⟨b,off+i,none⟩) cH).trans<|am i hi⟩
structure aaj (m:Mv):Prop where
 name:m.name.size<=8
 ap:-9223372036854775808<=m.ap/\m.ap<=9223372036854775807
 bF:-9223372036854775808<=m.bF/\m.bF<=9223372036854775807
 late:-9223372036854775808<=m.late/\m.late<=9223372036854775807
 prom:-9223372036854775808<=m.prom/\m.prom<=9223372036854775807
def abS:Nat->ByteArray
 |0=>⟨#[]⟩
 |1=>⟨#[65]⟩
 |2=>⟨#[122,122]⟩
 |_=>⟨#[97,49]⟩
section
variable {off base:Nat}{f:Nat->Mv}
def Hr (f:Nat->Mv)(n:Nat):∀u∈eh f n,u.oneCell'=true:=λu hu=>by
 unfold eh at hu;rw[List.mem_flatMap]at hu;let⟨j,_,hj⟩:=hu;exact yl (f j) u hj
def Hg {T:Nat->Int}(h:aA w b off n T):∀(j:Nat) (u:Value),(ee T n)[j]?=some u->w.cell? ((⟨b,off,none⟩:Addr).add j)=some u:=λj u hu=>by
 have hj:j<n:=by rcases adb j n with h|h;exact h;rw[ade (by rw[eN];exact h)]at hu;cases hu
 rw[dY hj]at hu;rw[pA,h j hj];exact hu
def Hs (h:aJ w b off n f):∀(j:Nat) (u:Value),(eh f n)[j]?=some u->w.cell? ((⟨b,off,none⟩:Addr).add j)=some u:=λj u hu=>by
 have hj:j<n*6:=by rcases adb j (n*6)with h|h;exact h;rw[ade (by rw[jq];exact h)]at hu;cases hu
 have h1:j/6<n:=ab;have h2:j%6<6:=Nat.mod_lt _ ab;have h3:j=j/6*6+j%6:=ab;rw[h3,se f n _ _ h1 h2]at hu;rw[pA];let⟨c0,c1,c2,c3,c4,c5⟩:=h (j/6) h1;have key:∀r,r=j%6->(f<|j/6).cells.toList[r]?=some u->w.cell? ⟨b,off+j/6*6+r,none⟩=some u:=λr hr XQ=>by
  have hr6:r<6:=ab;match r,hr6 with
  |0,_=>rw[Nat.add_zero,c0];exact XQ
  |1,_=>rw[c1];exact XQ
  |2,_=>rw[c2];exact XQ
  |3,_=>rw[c3];exact XQ
  |4,_=>rw[c4];exact XQ
  |5,_=>rw[c5];exact XQ
 have:=key (j%6) rfl hu;rw[show off+j=off+j/6*6+j%6 by omega];exact this
def Ep:(Tz.prog.info? 9).map (λi=>(i.zero,i.size,i.bytes))=some (some<|.string ByteArray.empty,1,16):=bj
def Of:(Tz.prog.info? 3).map (λi=>(i.zero,i.size,i.bytes))=some (some<|.int .i64 0,1,8):=bj
def xd (now shift:Int)(b off n cap:Nat)(f:Nat->Mv)(b' aZ m cap':Nat)(t:Nat->Int)(w:World)(hn:n<=1048576)(hm:m<=1048576)(bz:b<w)(am:aJ w b off n f)(bu:b'<w)(aP:aA w b' aZ m t):
  Calls Tz.prog 69 #[QD now shift (.slice (some ⟨b,off,none⟩) n cap)<|.slice (some ⟨b',aZ,none⟩) m cap'] w λe w'=>(∃v u,e=.returned (QD now shift v u)/\w'.ownsRow w.heap.size 31 6 v n (eh f n)/\w'.ownsRow w.heap.size 3 1 u m (ee t m))/\Below w w w':=by
 let⟨iM,hI,gE,eG,ga⟩:=info_parts wj;let⟨i0,I4,KP,F8,G8⟩:=info_parts Of;have qp:∀o1 o2,Below w w ((w.alloc o1).alloc o2):=λo1 o2=>((acU _ w).alloc (ac3 _) _).alloc aG _
 have hN1:∀c2 T2 o3,((w.alloc<|.cells c2 T2).alloc o3).heap[w.heap.size]?=some (.cells c2 T2 (0,0)):=λc2 T2 o3=>(acV _ _ _ aG).trans<|heap_alloc_new w<|.cells c2 T2
 have Nu:∀o1 c2 T2,((w.alloc o1).alloc<|.cells c2 T2).heap[w.heap.size+1]?=some (.cells c2 T2 (0,0)):=λo1 c2 T2=>by have:=heap_alloc_new (w.alloc o1)<|.cells c2 T2;simpa using this
 go_enter Tz.func69,Tryz.ntmps69
 go_wp2_with(first
  |(at_builtin;refine wpList_append_own _ rfl (.const<|.slice none 0 0) (.tmp 4) 23 rfl (w.heap.size+1+1) 31 iM _ 6 56 (Tz.aE Tryz.underlying23) hI gE eG ga rfl bd (.slice none 0 0) 0 [] bD ⟨rfl,.inl ⟨rfl,rfl⟩⟩ ⟨b,off,none⟩ n cap (eh f n) bD (by rw[jq]) (Hs<|am.below (qp _ _) bz) (Hr f n) ie ab aG ?_;intro v1 w1 zd mw _;simp only[Nat.zero_add,List.nil_append]at zd;obtain⟨av,cv,rfl⟩:=gr zd;have g0:=(mw.block w.heap.size cH DW).trans<|hN1 _ _ _;have g1:=(mw.block (w.heap.size+1) aG DW).trans<|Nu _ _ _;have B1:=(qp _ _).grown mw (qp _ _).size (λq hq=>by simp[Value.ownBlock]at hq);have s1:=mw.size;simp at s1;have k2:=cell_of_row w1 _ 2 _ _ _ g0;have k3:=cell_of_row w1 _ 3 _ _ _ g0;have kf:=λj=>frozen_of_row w1 _ j _ _ g0;simp at k2 k3;have g0':=heap_setCell_same w1 _ 2 _ _ (.slice av n cv) g0;simp at g0';have o1':=ew (w':=w1.setCell ⟨w.heap.size,2,none⟩<|.slice av n cv) zd λB hB=>acW w1 _ _ B (by have:=(zd.lt B hB).1;simp;omega);have Q5:=(acW w1 ⟨w.heap.size,2,none⟩ (.slice av n cv) (w.heap.size+1) aG).trans g1;have B1':=B1.setCell (p:=⟨w.heap.size,2,none⟩) aG<|.slice av n cv)
  |(at_builtin;refine wpList_append_own _ rfl (.const<|.slice none 0 0) (.tmp 8) 27 rfl (w.heap.size+1+1) 3 i0 _ 1 8 (Tz.aE Tryz.underlying27) I4 KP F8 G8 rfl bd (.slice none 0 0) 0 [] bD ⟨rfl,.inl ⟨rfl,rfl⟩⟩ ⟨b',aZ,none⟩ m cap' (ee t m) bD zk (Hg<|aP.below B1' bu) (jo t m) ie ab cH ?_;intro u2 w2 qN jT _;simp only[Nat.zero_add,List.nil_append]at qN;obtain⟨au,cu,rfl⟩:=gr qN;have h0:=(jT.block w.heap.size cH DW).trans g0';have h1:=(jT.block (w.heap.size+1) cH DW).trans Q5;have B2:=B1'.grown jT B1'.size (λq hq=>by simp[Value.ownBlock]at hq);have s2:=jT.size;simp at s2;have o2:=ew (w':=w2) o1' λB hB=>jT.block B (o1'.lt B hB).2 DW;have p0:=cell_of_row w2 _ 0 _ _ _ h0;have p1:=cell_of_row w2 _ 1 _ _ _ h0;have p2:=cell_of_row w2 _ 2 _ _ _ h0;have p3:=cell_of_row w2 _ 3 _ _ _ h0;have pf:=λj=>frozen_of_row w2 _ j _ _ h0;have r0:=cell_of_row w2 _ 0 _ _ _ h1;have r1:=cell_of_row w2 _ 1 _ _ _ h1;have r2:=cell_of_row w2 _ 2 _ _ _ h1;have r3:=cell_of_row w2 _ 3 _ _ _ h1;have rf:=λj=>frozen_of_row w2 _ j _ _ h1;simp at p0 p1 p2 p3 r0 r1 r2 r3))
 have eW:∀q,q≠w.heap.size->q≠w.heap.size+1->(((((w2.setCell ⟨w.heap.size,3,none⟩<|.slice au m cu).setCell ⟨w.heap.size+1,0,none⟩ now).setCell ⟨w.heap.size+1,1,none⟩ shift).setCell ⟨w.heap.size+1,2,none⟩<|.slice av n cv).setCell ⟨w.heap.size+1,3,none⟩<|.slice au m cu).heap[q]?=w2.heap[q]?:=λq h1 h2=>by
  rw[acW _ _ _ _ (by simpa using h2),acW _ _ _ _ (by simpa using h2),acW _ _ _ _ (by simpa using h2),acW _ _ _ _ (by simpa using h2),acW _ _ _ _ (by simpa using h1)]
 refine bodyPost_ret (v:=QD now shift (.slice av n cv)<|.slice au m cu) (by simp[results,Tryz.results69,go_sem,r0,r1,r2,r3]) rfl ⟨⟨_,_,rfl,?_,?_⟩,?_⟩
 .exact iQ (ew o2 λB hB=>eW B (by have:=(o2.lt B hB).1;omega) (by have:=(o2.lt B hB).1;omega)) ab
 .exact iQ (ew qN λB hB=>eW B (by have:=(qN.lt B hB).1;omega) (by have:=(qN.lt B hB).1;omega)) ab
 .exact((((B2.setCell aG _).setCell aG _).setCell aG _).setCell aG _).setCell aG _
def EH (now shift tick:Int)(b off n cap:Nat)(f:Nat->Mv)(b' aZ cap':Nat)(t:Nat->Int)(w:World)(hn:n<=6)(bz:b<w)(am:aJ w b off n f)(bu:b'<w)(aP:aA w b' aZ n t):
  Calls Tz.prog 47 #[QD now shift (.slice (some ⟨b,off,none⟩) n cap)<|.slice (some ⟨b',aZ,none⟩) n cap',tick] w λe w'=>(∃s,e=.returned s/\w'.ownsRow w.heap.size 9 1 s (gone tick t n).length (ng f<|gone tick t n))/\Below w w w':=by
 let⟨iS,hI,gE,eG,ga⟩:=info_parts Ep;have bA:=jG w now shift (some ⟨b,off,none⟩) n cap (some ⟨b',aZ,none⟩) n cap';have hA:=pC w now shift (some ⟨b,off,none⟩) n cap (some ⟨b',aZ,none⟩) n cap';go_enter Tz.func47,Tryz.ntmps47
 go_wp2;go_loopw [5,11] (λs x W=>∃k:Nat,k<=n/\x=.int .i64 k/\rr W w.heap.size now shift (some ⟨b,off,none⟩) n cap (some ⟨b',aZ,none⟩) n cap'/\W.ownsRow (w.heap.size+1) 9 1 s (gone tick t k).length (ng f<|gone tick t k)/\w.heap.size+1<=W.heap.size/\Below w w W) (λ_ x _=>n-(intOf x).toNat)
 case atStart=>exact⟨0,ac8 _,rfl,hA,⟨rfl,.inl ⟨rfl,rfl⟩⟩,aG,bA⟩
 case round=>
  obtain⟨k,hk,rfl,hb,ho,hs,hB⟩:=hrel;by_cases ay:k<n
  .have dq:(k:Int)<n:=by omega
   let⟨c0,c1,c2,c3,c4,c5⟩:=am.below hB bz k ay;have fH:=aP.below hB bu k ay;have Je:=D9 tick t k;have bM:=fG wr<|f k;let⟨m0,m1,m2,m3,m4,m5⟩:=jH wr<|f k;simp only[Nat.zero_add]at m0 m1 m2 m3 m4 m5;have hbm:=hb.below bM ab;have hrm:(cR wr<|f k).cell? ⟨b',aZ+k,none⟩=some (.int .i64<|t k):=(bM.cell (p:=⟨b',aZ+k,none⟩)<|ac4 bu hB.size).trans fH;have hom:=ew (w':=cR wr<|f k) ho λB Q9=>bM.block B (ho.lt B Q9).2;let⟨g0,g1,g2,g3⟩:=hbm;by_cases qU:t k=tick
   .have D:(t k==tick)=true:=by simpa using qU
    have Un:Hid (gone tick t (k+1)=gone tick t k++[k]):=by
     have h:gone tick t (k+1)=gone tick t k++[k]:=by simp only[gone];rw[if_pos qU]
     exact h
    have bO:Below (cR wr<|f k).heap.size (cR wr<|f k) ((cR wr<|f k).alloc<|.cells #[.string (f k).name] 9):=(acU _ _).alloc (ac3 _) _;have NQ:=ew (w':=(cR wr<|f k).alloc<|.cells #[.string (f k).name] 9) hom λB Q9=>bO.block B (hom.lt B Q9).2;have Vu:((cR wr<|f k).alloc<|.cells #[.string (f k).name] 9).heap[wr.heap.size+1]?=some (.cells #[.string (f k).name] 9 (0,0)):=by have:=heap_alloc_new (cR wr<|f k)<|.cells #[.string (f k).name] 9;simpa using this
    clear qU;go_wp2_with(at_builtin;refine wpList_append_own _ rfl (.tmp 23) (.tmp 26) 24 rfl (w.heap.size+1) 9 iS _ 1 16 (Tz.aE Tryz.underlying24) hI gE eG ga rfl bd _ (gone tick t k).length (ng f<|gone tick t k) bD NQ _ 1 1 [.string (f k).name] bD rfl (fN Vu) t9 ie ab cH ?_;intro s5 w5 F7 Ja _)
    have TJ:∀B,Value.ownBlock _=some B->w.heap.size+1<=B:=λB Q9=>(ho.lt B Q9).1
    have BO:Below w w ((cR wr<|f k).alloc<|.cells #[.string (f k).name] 9):=(hB.trans<|bM.mono hB.size).trans<|bO.mono (by have:=hB.size;simp;omega);have jQ:=(((rr.mk g0 g1 g2 g3).below bO cH).same (w':=w5)<|Ja.block w.heap.size cH (λe=>by have:=TJ w.heap.size e.symm;omega));refine⟨⟨k+1,ab,aG,jQ,by rw[Un.out,List.length_append,GN];exact F7,by have:=Ja.size;simp at this;omega,BO.grown Ja BO.size (λq hq=>by have:=TJ q hq;omega)⟩,bZ⟩
   .have D:(t k==tick)=false:=by simpa using qU
    have Un:Hid (gone tick t (k+1)=gone tick t k):=by
     have h:gone tick t (k+1)=gone tick t k:=by simp only[gone];rw[if_neg qU]
     exact h
    clear qU;go_wp2;refine⟨⟨k+1,ab,aG,⟨g0,g1,g2,g3⟩,by rw[Un.out];exact hom,cH,hB.trans<|bM.mono hB.size⟩,bZ⟩
  .have tS:k=n:=by omega
   subst tS;go_wp2;go_ret;exact⟨⟨_,rfl,iQ ho ab⟩,hB⟩
end
