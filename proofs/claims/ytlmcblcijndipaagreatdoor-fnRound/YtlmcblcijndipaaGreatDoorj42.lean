import Derived.Test.YtlmcblcijndipaaGreatDoorj41
import Derived.Deep.RegionWith
set_option linter.unusedVariables false
set_option maxHeartbeats 4000000
set_option maxRecDepth 10000
namespace Go.Proofs.YtlmcblcijndipaaGreatDoor
section
open RowKit
variable {w:World}{R:Nat}{p:Int}
def rK (w:World)(b off n:Nat)(c:Nat->Int):Prop:=∀i,i<n->w.cell? ⟨b,off+i,none⟩=some (.int .u8 (c i))
structure Rd (w:World)(R:Nat)(p:Int):Prop where
 mk::
 at_:∃(a:Option Addr) (n cap:Nat) (c:Nat->Int),w.heap[R]?=some (.cells #[.slice a n cap,p] 102 (0,0))/\n<=2000/\(n=0\/∃b off,a=some ⟨b,off,none⟩/\b<R/\rK w b off n c)/\∀i,i<n->0<=c i/\c i<=255
 low:0<=p
theorem P4 (x y:Int)(hx:0<=x)(GS:x<9223372036854775808)(hy:0<=y)(D0:y<9223372036854775808):0<=bits .xor .i64 x y:=by
 obtain⟨a,rfl⟩:∃a:Nat,x=(a:Int):=⟨x.toNat,ab⟩;obtain⟨b,rfl⟩:∃b:Nat,y=(b:Int):=⟨y.toNat,ab⟩;have hx:a ^^^ b<2^63:=Nat.xor_lt_two_pow ab ab;have h1:(BitVec.ofInt 64 (a:Int)).toNat=a:=by
  rw[BitVec.ofInt_natCast,BitVec.toNat_ofNat];exact Nat.mod_eq_of_lt ab
 have h2:(BitVec.ofInt 64 (b:Int)).toNat=b:=by
  rw[BitVec.ofInt_natCast,BitVec.toNat_ofNat];exact Nat.mod_eq_of_lt ab
 show 0<=IntKind.i64.wrap ((BitVec.ofInt 64 (a:Int) ^^^ BitVec.ofInt 64 (b:Int)).toNat:Int);rw[BitVec.toNat_xor,h1,h2,IntKind.wrap_i64];omega
theorem PU (x m:Int)(hx:0<=x)(hm:1<=m):0<=x.tmod m/\x.tmod m<m:=by
 rw[Int.tmod_eq_emod_of_nonneg hx];exact⟨Int.emod_nonneg _ ab,Int.emod_lt_of_pos _ ab⟩
theorem Rd.below {w':World}(hr:Rd w R p)(hb:Below w w w'):Rd w' R p:=by
 obtain⟨⟨a,n,cap,c,hR,hn,aq,hc⟩,DY⟩:=hr;have aI:R<w:=(acm.1 hR).1;refine⟨⟨a,n,cap,c,(hb.block R aI).trans hR,hn,?_,hc⟩,DY⟩;rcases aq with h|⟨b,off,rfl,EV,aq⟩
 .exact .inl h
 .exact .inr ⟨b,off,rfl,EV,λi hi=>(hb.cell (p:=⟨b,off+i,none⟩) cC).trans (aq i hi)⟩
theorem Rd.lt (hr:Rd w R p):R<w:=by
 obtain⟨⟨a,n,cap,c,hR,_⟩,_⟩:=hr;exact(acm.1 hR).1
theorem Pp (hr:Rd w R p)(aC:Nat)(h0:aC<=R):Rd (w.setCell ⟨R,1,none⟩ (.int .i64 (p+1))) R (p+1)/\fp R w (w.setCell ⟨R,1,none⟩ (.int .i64 (p+1)))/\Below aC w (w.setCell ⟨R,1,none⟩ (.int .i64 (p+1))):=by
 obtain⟨⟨a,n,cap,c,hR,hn,aq,hc⟩,DY⟩:=hr;refine⟨⟨⟨a,n,cap,c,?_,hn,?_,hc⟩,ab⟩,(fp.refl R w).setCell _ _,(aca aC w).setCell h0 _⟩
 .have:=heap_setCell_same w R 1 _ _ (.int .i64 (p+1)) hR;simpa using this
 .rcases aq with h|⟨b,off,rfl,hb,aq⟩
  .exact .inl h
  .exact .inr ⟨b,off,rfl,hb,λi hi=>by rw[World.cell?_setCell_other _ _ _ _ qf];exact aq i hi⟩
theorem bg (R:Nat)(p:Int)(m:Int)(w:World)(aC:Nat)(h0:aC<=R)(hr:Rd w R p)(hp:p<=1000000)(hm:1<=m)(lY:m<=100000):
  Calls Tz.prog 34 #[.pointer R,m] w λe w'=>(∃z:Int,e=.returned (.int .i64 z)/\0<=z/\z<m)/\Rd w' R (p+1)/\fp R w w'/\Below aC w w':=by
 obtain⟨⟨a,n,cap,c,hR,hn,aq,hc⟩,DY⟩:=hr;have c0:w.cell? R=some (.slice a n cap):=by rw[cell_of_row _ _ _ _ _ _ hR];rfl
 have c1:w.cell? ⟨R,1,none⟩=some (.int .i64 p):=by rw[cell_of_row _ _ _ _ _ _ hR];rfl
 have f1:w.frozen? ⟨R,1,none⟩=false:=frozen_of_row w _ 1 _ _ hR;obtain⟨qj,bF,cH⟩:=Pp ⟨⟨a,n,cap,c,hR,hn,aq,hc⟩,DY⟩ aC h0;have Yv:Hid (Rd (w.setCell ⟨R,1,none⟩ (.int .i64 (p+1))) R (p+1)):=qj;have d0:(w.setCell ⟨R,1,none⟩ (.int .i64 (p+1))).cell? R=some (.slice a n cap):=by rw[World.cell?_setCell_other _ _ _ _ aH];exact c0
 have d1:(w.setCell ⟨R,1,none⟩ (.int .i64 (p+1))).cell? ⟨R,1,none⟩=some (.int .i64 (p+1)):=World.cell?_setCell_same' _ _ _ (by rw[c1];rfl);clear qj;by_cases S3:n=0
 .subst S3;go_enter Tz.func34,Tryz.ntmps34
  go_wp2;go_ret;exact⟨⟨0,rfl,ab,ab⟩,Yv.out,bF,cH⟩
 .obtain⟨b,off,rfl,EV,uc⟩:∃b off,a=some ⟨b,off,none⟩/\b<R/\rK w b off n c:=by rcases aq with h|h;exact absurd h S3;exact h
  have SJ:rK (w.setCell ⟨R,1,none⟩ (.int .i64 (p+1))) b off n c:=λi hi=>by rw[World.cell?_setCell_other _ _ _ _ qf];exact uc i hi
  have Qz:(0:Int)<n:=ab;have hnz:((n:Int)==0)=false:=cC;have hmz:¬m<1:=ab;by_cases aI:p<n
  .obtain⟨q,hq⟩:∃q:Nat,p=(q:Int):=⟨p.toNat,ab⟩;subst hq;have hqn:q<n:=ab;have e0:=SJ q hqn;obtain⟨z0,z1⟩:=hc q hqn;have gI:0<=c q%m:=Int.emod_nonneg _ ab;have fq:c q%m<m:=Int.emod_lt_of_pos _ ab;have HZ:Hid (0<=c q%m/\c q%m<m):=by
    have h:0<=c q%m/\c q%m<m:=⟨gI,fq⟩;exact h
   clear gI fq;go_enter Tz.func34,Tryz.ntmps34
   go_wp2;go_ret;exact⟨⟨c q%m,rfl,HZ.out.1,HZ.out.2⟩,Yv.out,bF,cH⟩
  .obtain⟨j1,hj1⟩:∃j1:Nat,p%(n:Int)=(j1:Int):=⟨(p%(n:Int)).toNat,by have:=Int.emod_nonneg p (show(n:Int)≠0 by omega);omega⟩;obtain⟨j2,hj2⟩:∃j2:Nat,(p*7+3)%(n:Int)=(j2:Int):=⟨((p*7+3)%(n:Int)).toNat,by have:=Int.emod_nonneg (p*7+3) (show(n:Int)≠0 by omega);omega⟩;have JS:j1<n:=by have:=Int.emod_lt_of_pos p Qz;omega
   have Qt:j2<n:=by have:=Int.emod_lt_of_pos (p*7+3) Qz;omega
   have ON:(j1:Int)<n:=ab;have abx:(j2:Int)<n:=ab;obtain⟨x0,x1⟩:=hc j1 JS;obtain⟨y0,y1⟩:=hc j2 Qt;have E4:0<=p/(n:Int):=Int.ediv_nonneg DY ab;have E5:p/(n:Int)<=p:=Int.ediv_le_self _ DY;have hne:=aE (w.setCell ⟨R,1,none⟩ (.int .i64 (p+1)));have g0:=λx:aj (w.setCell ⟨R,1,none⟩ (.int .i64 (p+1)))=>x.cell d0
   have g1:=λx:aj (w.setCell ⟨R,1,none⟩ (.int .i64 (p+1)))=>x.cell (SJ j1 JS)
   have g2:=λx:aj (w.setCell ⟨R,1,none⟩ (.int .i64 (p+1)))=>x.cell (SJ j2 Qt)
   go_enter Tz.func34,Tryz.ntmps34
   go_wp2;refine ah ?_;repeat(go_big_quiet_step (fail))
   refine wpQuiet_nil (ak ?_);intro w2 gZ;go_wp2;go_ret;have hX0:0<=c j1*131+c j2*1117+p*29+p/(n:Int)*53:=ab;have hX1:c j1*131+c j2*1117+p*29+p/(n:Int)*53<1000000000:=ab;have hz:=PU _ m (P4 _ ((c j1*131+c j2*1117+p*29+p/(n:Int)*53)/64) hX0 ab ab ab) hm;have WQ:R<(w.setCell ⟨R,1,none⟩ (.int .i64 (p+1))).heap.size:=Yv.out.lt;exact⟨⟨_,rfl,hz.1,hz.2⟩,Yv.out.below gZ,bF.trans (fp.of gZ),cH.trans (gZ.mono ab)⟩
end
section
open RowKit
variable {w W:World}{R B Br Bm aC:Nat}{p q:Int}{m:Mv}
theorem Rd.drew (hr:Rd w R p):Rd w.drew R p:=by
 obtain⟨⟨a,n,cap,c,hR,hn,aq,hc⟩,DY⟩:=hr;refine⟨⟨a,n,cap,c,hR,hn,?_,hc⟩,DY⟩;rcases aq with h|⟨b,off,rfl,EV,aq⟩
 .exact .inl h
 .exact .inr ⟨b,off,rfl,EV,λi hi=>aq i hi⟩
def ig (w:World)(a:Option Addr)(n:Nat)(c:Nat->Int):Prop:=n<=maxLen/\(n=0\/∃b off,a=some ⟨b,off,none⟩/\b<w.heap.size/\rK w b off n c)/\∀i,i<n->0<=c i/\c i<=255
theorem CW (a:Option Addr)(n cap:Nat)(c:Nat->Int)(w:World)(h:ig w a n c)(uP:n<=cap):
  Calls Tz.prog 33 #[.slice a n cap] w λe w'=>e=.returned (.pointer w.heap.size)/\Rd w' w.heap.size 0/\Below w w w':=by
 obtain⟨hn,aq,hc⟩:=h;unfold maxLen at hn;have hB:∀o,Below w w (w.alloc o):=λo=>(aca _ _).alloc (ack _) _
 by_cases hl:n<=2000
 .go_enter Tz.func33,Tryz.ntmps33
  go_wp2;go_ret;refine⟨rfl,⟨⟨a,n,cap,c,heap_alloc_new _ _,hl,?_,hc⟩,Int.le_refl _⟩,hB _⟩;rcases aq with h|⟨b,off,rfl,hb,aq⟩
  .exact .inl h
  .exact .inr ⟨b,off,rfl,hb,λi hi=>((hB _).cell (p:=⟨b,off+i,none⟩) hb).trans (aq i hi)⟩
 .obtain⟨b,off,rfl,hb,uc⟩:∃b off,a=some ⟨b,off,none⟩/\b<w.heap.size/\rK w b off n c:=by rcases aq with h|h;omega;exact h
  have h2:(2000:Int)<=cap:=ab;go_enter Tz.func33,Tryz.ntmps33
  go_wp2;go_ret;exact⟨rfl,⟨⟨some ⟨b,off,none⟩,2000,cap,c,heap_alloc_new _ _,ack _,.inr ⟨b,off,rfl,hb,λi hi=>((hB _).cell (p:=⟨b,off+i,none⟩) hb).trans (uc i ab)⟩,λi hi=>hc i ab⟩,Int.le_refl _⟩,hB _⟩
structure J5 (m:Mv)(s:ByteArray):Prop where
 name:m.name=s
 aD:1<=m.aD/\m.aD<=3
 span:0<=m.ba/\m.ba<=m.late/\m.late<=10000
 prom:m.prom=-1
structure zJ (R:Nat)(p:Int)(k:Int)(aC:Nat)(w w':World):Prop where
 rd:∃q,p<=q/\q<=p+k/\Rd w' R q
 but:fp R w w'
 below:Below aC w w'
theorem Rd.set (hr:Rd w R p)(h:R<B)(o:Nat)(v:Value):Rd (w.setCell ⟨B,o,none⟩ v) R p:=by
 obtain⟨⟨a,n,cap,c,hR,hn,aq,hc⟩,DY⟩:=hr;refine⟨⟨a,n,cap,c,(acd w _ v R cC).trans hR,hn,?_,hc⟩,DY⟩;rcases aq with h'|⟨b,off,rfl,EV,aq⟩
 .exact .inl h'
 .exact .inr ⟨b,off,rfl,EV,λi hi=>by rw[World.cell?_setCell_other _ _ _ _ qf];exact aq i hi⟩
structure gG (R Br Bm:Nat)(aC:Nat)(w:World)(m:Mv)(q:Int)(W:World):Prop where
 mv:cJ W Bm m
 res:∃m0,cJ W Br m0
 rd:Rd W R q
 but:∀k,k<w.heap.size->k≠R->W.heap[k]?=w.heap[k]?
 below:Below aC w W
theorem gG.drew (h:gG R Br Bm aC w m q W):gG R Br Bm aC w m q W.drew:=⟨h.mv,h.res,h.rd.drew,h.but,h.below.drew⟩
theorem gG.pick {W':World}(h:gG R Br Bm aC w m q W)(hr:R<w)(h1:R<Br)(h2:Br<Bm)(hz:w.heap.size<=Br)(K_:Rd W' R (q+1))(hb:fp R W W')(hB:Below aC W W'):gG R Br Bm aC w m (q+1) W':=by
 have lm:Bm<W:=(acm.1 h.mv).1;obtain⟨m0,iJ⟩:=h.res;exact⟨(hb.block Bm lm ab).trans h.mv,⟨m0,(hb.block Br ab ab).trans iJ⟩,K_,λk hk hne=>(hb.block k ab hne).trans (h.but k hk hne),h.below.trans hB⟩
theorem gG.late (h:gG R Br Bm aC w m q W)(h0:aC<=R)(h1:R<Br)(h2:Br<Bm)(hz:w.heap.size<=Br)(x:Int):gG R Br Bm aC w {m with late:=x} q (W.setCell ⟨Bm,4,none⟩ x):=by
 obtain⟨m0,iJ⟩:=h.res;refine⟨?_,⟨m0,(acd W _ _ Br cC).trans iJ⟩,h.rd.set ab _ _,λk hk hne=>(acd W _ _ k cC).trans (h.but k hk hne),h.below.setCell cC _⟩;have:=heap_setCell_same W Bm 4 _ _ x h.mv;simpa[cJ]using this
theorem gG.ba (h:gG R Br Bm aC w m q W)(h0:aC<=R)(h1:R<Br)(h2:Br<Bm)(hz:w.heap.size<=Br)(x:Int):gG R Br Bm aC w {m with ba:=x} q (W.setCell ⟨Bm,3,none⟩ x):=by
 obtain⟨m0,iJ⟩:=h.res;refine⟨?_,⟨m0,(acd W _ _ Br cC).trans iJ⟩,h.rd.set ab _ _,λk hk hne=>(acd W _ _ k cC).trans (h.but k hk hne),h.below.setCell cC _⟩;have:=heap_setCell_same W Bm 3 _ _ x h.mv;simpa[cJ]using this
theorem pB (W:World)(B o:Nat)(m:Mv)(k:Nat)(h:k≠B):(eU W B o m).heap[k]?=W.heap[k]?:=by
 unfold eU;rw[acd _ _ _ _ qg,acd _ _ _ _ qg,acd _ _ _ _ qg,acd _ _ _ _ qg,acd _ _ _ _ qg,acd _ _ _ _ qg]
theorem Rd.eU (h:Rd W R q)(hB:R<B)(o:Nat)(m:Mv):Rd (eU W B o m) R q:=
 (((((h.set hB _ _).set hB _ _).set hB _ _).set hB _ _).set hB _ _).set hB _ _
theorem gG.went (h:gG R Br Bm aC w m q W)(h0:aC<=R)(h1:R<Br)(hz:w.heap.size<=Br)(m':Mv)(hq:p<=q/\q<=p+7):zJ R p 7 aC w (eU W Br 0 m'):=
 ⟨⟨q,hq.1,hq.2,h.rd.eU h1 _ _⟩,⟨by have:=h.below.size;simpa[eU]using this,λk hk hne=>(pB W Br 0 m' k ab).trans (h.but k hk hne)⟩,uw h.below ab 0 m'⟩
theorem Fo (R:Nat)(p:Int)(s:ByteArray)(now:Int)(w:World)(aC:Nat)(h0:aC<=R)(hr:Rd w R p)(hp:p<=900000)(S3:0<=now)(OO:now<=10000):
  Calls Tz.prog 35 #[.pointer R,s,now] w λe w'=>(∃m:Mv,e=.returned (.agg #[.string m.name,.bool m.an,.int .i64 m.aD,.int .i64 m.ba,.int .i64 m.late,.int .i64 m.prom])/\J5 m s)/\zJ R p 7 aC w w':=by
 have hz:=hr.lt;have H1:=bg R p 5 (w.alloc (.cells #[ByteArray.empty,false,.int .i64 0,.int .i64 0,.int .i64 0,.int .i64 0] 31)) aC h0 (hr.below ((aca _ _).alloc (ack _) _)) ab ab ab;go_enter Tz.func35,Tryz.ntmps35
 go_wp2_with(first
  |(go_at_call 34;refine H1.mono ?_;clear H1;rintro e w1 ⟨⟨z1,rfl,l1,u1⟩,r1,t1,b1⟩;have H2:=bg R _ 3 w1 aC h0 r1 ab ab ab)
  |(go_at_call 34;refine H2.mono ?_;clear H2;rintro e w2 ⟨⟨z2,rfl,l2,u2⟩,r2,t2,b2⟩;have H3:=bg R _ 16 w2 aC h0 r2 ab ab ab)
  |(go_at_call 34;refine H3.mono ?_;clear H3;rintro e w3 ⟨⟨z3,rfl,l3,u3⟩,r3,t3,b3⟩))
 have fq:=t1.size;have iF:=t2.size;have LA:=t3.size;simp at fq;have hS:gG R w.heap.size w3.heap.size aC w ⟨s,decide (z1<3),1+z2,now+z3,0,-1⟩ (p+1+1+1) (w3.alloc (.cells #[s,.bool (decide (z1<3)),.int .i64 (1+z2),.int .i64 (now+z3),.int .i64 0,.int .i64 (-1)] 31)):=by
  have bA:Below w3 w3 (w3.alloc (.cells #[s,.bool (decide (z1<3)),.int .i64 (1+z2),.int .i64 (now+z3),.int .i64 0,.int .i64 (-1)] 31)):=(aca _ _).alloc (ack _) _;have b0:Below w w (w.alloc (.cells #[ByteArray.empty,false,.int .i64 0,.int .i64 0,.int .i64 0,.int .i64 0] 31)):=(aca _ _).alloc (ack _) _;have t03:=t1.trans (t2.trans t3);refine⟨heap_alloc_new _ _,⟨⟨ByteArray.empty,false,0,0,0,0⟩,?_⟩,r3.below bA,λk hk hne=>?_,?_⟩
  .exact(bA.block w.heap.size ab).trans ((t03.block w.heap.size aH ab).trans (heap_alloc_new _ _))
  .exact(bA.block k ab).trans ((t03.block k cC hne).trans (b0.block k hk))
  .exact(b0.mono ab).trans (b1.trans (b2.trans (b3.trans (bA.mono ab))))
 revert hS;obtain⟨Br,fK⟩:∃Br,Br=w.heap.size:=⟨_,rfl⟩;obtain⟨Bm,VK⟩:∃Bm,Bm=w3.heap.size:=⟨_,rfl⟩;rw[<-VK];rw[<-fK];generalize (w3.alloc (.cells #[.string s,.bool (decide (z1<3)),.int .i64 (1+z2),.int .i64 (now+z3),.int .i64 0,.int .i64 (-1)] 31))=W4;intro hS;have g1:R<Br:=ab;have g2:Br<Bm:=ab;have g3:w.heap.size<=Br:=ab;clear fK VK fq iF LA r1 r2 r3 t1 t2 t3 b1 b2 b3;obtain⟨c0,c1,c2,c3,c4,c5⟩:=hS.mv.at_;simp only[Nat.zero_add]at c0 c1 c2 c3 c4 c5;have HP:=bg R _ 20 W4.drew aC h0 hS.drew.rd ab ab ab;go_region_held3 (λw'=>w'.cell? ⟨Bm,3,none⟩=some (.int .i64 (now+z3))) (go_keep)
  (first|(go_at_call 34;refine HP.mono ?_;clear HP;rintro e w5 ⟨⟨z4,rfl,l4,u4⟩,r5,t5,b5⟩;have fM:=hS.drew.pick hz g1 g2 g3 r5 t5 b5;obtain⟨d0,d1,d2,d3,d4,d5⟩:=fM.mv.at_;simp only[Nat.zero_add]at d0 d1 d2 d3 d4 d5;have f5:=fM.mv.frozen 4;have d34:∀v,(w5.setCell ⟨Bm,4,none⟩ v).cell? ⟨Bm,3,none⟩=some (.int .i64 (now+z3)):=λv=>(World.cell?_setCell_other _ _ _ _ aH).trans d3;have Ao:IntKind.i64.wrap (now+z3+z4)=now+z3+z4:=gH))
 have mT:=fM.late h0 g1 g2 g3 (now+z3+z4);revert mT;generalize w5.setCell ⟨Bm,4,none⟩ (.int .i64 (now+z3+z4))=W6;intro mT;clear fM d0 d1 d2 d3 d4 d5 f5 d34 Ao r5 t5 b5 hS c0 c1 c2 c3 c4 c5;obtain⟨L,hL⟩:∃L,now+z3+z4=L:=⟨_,rfl⟩;rw[hL]at mT;try rw[hL]
 have H7:=bg R _ 3 W6 aC h0 mT.rd ab ab ab;go_wp2_with(first
  |(go_at_call 34;refine H7.mono ?_;clear H7;rintro e w7 ⟨⟨z5,rfl,l5,u5⟩,r7,t7,b7⟩;have vW:=mT.pick hz g1 g2 g3 r7 t7 b7;have H8:=bg R _ 30 w7 aC h0 vW.rd ab ab ab)
  |(go_at_call 34;refine H8.mono ?_;clear H8;rintro e w8 ⟨⟨z6,rfl,l6,u6⟩,r8,t8,b8⟩;have yO:=vW.pick hz g1 g2 g3 r8 t8 b8;obtain⟨d0,d1,d2,d3,d4,d5⟩:=yO.mv.at_;simp only[Nat.zero_add]at d0 d1 d2 d3 d4 d5;have f4:=yO.mv.frozen 4;have f3:=yO.mv.frozen 3;obtain⟨m0,iJ⟩:=yO.res;obtain⟨k0,k1,k2,k3,k4,k5⟩:=iJ.at_;simp only[Nat.zero_add]at k0 k1 k2 k3 k4 k5;have fr:=iJ.frozen))
 focus
  clear H8;obtain⟨c0,c1,c2,c3,c4,c5⟩:=vW.mv.at_;simp only[Nat.zero_add]at c0 c1 c2 c3 c4 c5;have HP:=bg R _ 40 w7.drew aC h0 vW.drew.rd ab ab ab;have hwa:IntKind.i64.wrap (now+z3+20)=now+z3+20:=gH;go_region_held3 (λw'=>w'.cell? ⟨Bm,3,none⟩=some (.int .i64 (now+z3))) (go_keep)
   (first|(go_at_call 34;refine HP.mono ?_;clear HP;rintro e w5 ⟨⟨z7,rfl,l7,u7⟩,r5,t5,b5⟩;have fM:=vW.drew.pick hz g1 g2 g3 r5 t5 b5;obtain⟨d0,d1,d2,d3,d4,d5⟩:=fM.mv.at_;simp only[Nat.zero_add]at d0 d1 d2 d3 d4 d5;have f5:=fM.mv.frozen 4;have d34:∀v,(w5.setCell ⟨Bm,4,none⟩ v).cell? ⟨Bm,3,none⟩=some (.int .i64 (now+z3)):=λv=>(World.cell?_setCell_other _ _ _ _ aH).trans d3;have Ao:IntKind.i64.wrap (now+z3+20+z7)=now+z3+20+z7:=gH))
  have Qk:=fM.late h0 g1 g2 g3 (now+z3+20+z7);revert Qk;generalize w5.setCell ⟨Bm,4,none⟩ (.int .i64 (now+z3+20+z7))=W9;intro Qk;clear fM d0 d1 d2 d3 d4 d5 f5 d34 Ao r5 t5 b5 c0 c1 c2 c3 c4 c5;clear hL;obtain⟨L,hL⟩:∃L,now+z3+20+z7=L:=⟨_,rfl⟩;rw[hL]at Qk;try rw[hL]
  have H8:=bg R _ 30 W9 aC h0 Qk.rd ab ab ab;go_wp2_with(first
   |(go_at_call 34;refine H8.mono ?_;clear H8;rintro e w8 ⟨⟨z6,rfl,l6,u6⟩,r8,t8,b8⟩;have yO:=Qk.pick hz g1 g2 g3 r8 t8 b8;obtain⟨d0,d1,d2,d3,d4,d5⟩:=yO.mv.at_;simp only[Nat.zero_add]at d0 d1 d2 d3 d4 d5;have f4:=yO.mv.frozen 4;have f3:=yO.mv.frozen 3;obtain⟨m0,iJ⟩:=yO.res;obtain⟨k0,k1,k2,k3,k4,k5⟩:=iJ.at_;simp only[Nat.zero_add]at k0 k1 k2 k3 k4 k5;have fr:=iJ.frozen))
 all_goals first
  |(exfalso;omega)
  |(have hx:(z6==0)=false/\L<=10000:=⟨by assumption,ab⟩;obtain⟨m1,lY⟩:=(yO).res;have q:=gu (w8) Br 0 ⟨s,decide (z1<3),1+z2,now+z3,L,-1⟩ _ _ lY aH;obtain⟨q0,q1,q2,q3,q4,q5⟩:=q;simp only[Nat.zero_add]at q0 q1 q2 q3 q4 q5;change bodyPost _ _ _ _ _ (eU (w8) Br 0 ⟨s,decide (z1<3),1+z2,now+z3,L,-1⟩);exact bodyPost_ret (v:=.agg #[.string s,.bool (decide (z1<3)),.int .i64 (1+z2),.int .i64 (now+z3),.int .i64 (L),.int .i64 (-1)]) (by simp[results,Tryz.results35,go_sem,q0,q1,q2,q3,q4,q5]) rfl ⟨⟨⟨s,decide (z1<3),1+z2,now+z3,L,-1⟩,rfl,⟨rfl,Er,Er,rfl⟩⟩,(yO).went h0 g1 g3 _ ab⟩)
  |(have hx:((z6==0)=true\/10000<L)/\now+z3<=10000:=⟨by first|exact .inl (by assumption)|exact .inr ab,ab⟩;obtain⟨m1,lY⟩:=(yO.late h0 g1 g2 g3 10000).res;have q:=gu (w8.setCell ⟨Bm,4,none⟩ (.int .i64 10000)) Br 0 ⟨s,decide (z1<3),1+z2,now+z3,10000,-1⟩ _ _ lY aH;obtain⟨q0,q1,q2,q3,q4,q5⟩:=q;simp only[Nat.zero_add]at q0 q1 q2 q3 q4 q5;change bodyPost _ _ _ _ _ (eU (w8.setCell ⟨Bm,4,none⟩ (.int .i64 10000)) Br 0 ⟨s,decide (z1<3),1+z2,now+z3,10000,-1⟩);exact bodyPost_ret (v:=.agg #[.string s,.bool (decide (z1<3)),.int .i64 (1+z2),.int .i64 (now+z3),.int .i64 (10000),.int .i64 (-1)]) (by simp[results,Tryz.results35,go_sem,q0,q1,q2,q3,q4,q5]) rfl ⟨⟨⟨s,decide (z1<3),1+z2,now+z3,10000,-1⟩,rfl,⟨rfl,Er,Er,rfl⟩⟩,(yO.late h0 g1 g2 g3 10000).went h0 g1 g3 _ ab⟩)
  |(have hx:((z6==0)=true\/10000<L)/\10000<now+z3:=⟨by first|exact .inl (by assumption)|exact .inr ab,ab⟩;obtain⟨m1,lY⟩:=((yO.late h0 g1 g2 g3 10000).ba h0 g1 g2 g3 10000).res;have q:=gu ((w8.setCell ⟨Bm,4,none⟩ (.int .i64 10000)).setCell ⟨Bm,3,none⟩ (.int .i64 10000)) Br 0 ⟨s,decide (z1<3),1+z2,10000,10000,-1⟩ _ _ lY aH;obtain⟨q0,q1,q2,q3,q4,q5⟩:=q;simp only[Nat.zero_add]at q0 q1 q2 q3 q4 q5;change bodyPost _ _ _ _ _ (eU ((w8.setCell ⟨Bm,4,none⟩ (.int .i64 10000)).setCell ⟨Bm,3,none⟩ (.int .i64 10000)) Br 0 ⟨s,decide (z1<3),1+z2,10000,10000,-1⟩);exact bodyPost_ret (v:=.agg #[.string s,.bool (decide (z1<3)),.int .i64 (1+z2),.int .i64 (10000),.int .i64 (10000),.int .i64 (-1)]) (by simp[results,Tryz.results35,go_sem,q0,q1,q2,q3,q4,q5]) rfl ⟨⟨⟨s,decide (z1<3),1+z2,10000,10000,-1⟩,rfl,⟨rfl,Er,Er,rfl⟩⟩,((yO.late h0 g1 g2 g3 10000).ba h0 g1 g2 g3 10000).went h0 g1 g3 _ ab⟩)
end
section
open RowKit
def ZW (cs:Array Value):Prop:=∀i,i<6->∃s:ByteArray,cs[i]?=some (.string s)/\s.size<=8
theorem yY (w:World):
  Calls Tz.prog 37 #[] w λe w'=>e=.returned (.slice (some ⟨w.heap.size,0,none⟩) 6 6)/\(∃cs,w'.heap[w.heap.size]?=some (.cells cs 9 (0,0))/\ZW cs)/\Below w.heap.size w w':=by
 go_enter Tz.func37,Tryz.ntmps37
 go_wp2;go_ret;refine⟨rfl,⟨_,heap_alloc_new _ _,λi hi=>?_⟩,(aca _ _).alloc (ack _) _⟩;match i,hi with
 |0,_=>exact⟨_,rfl,bK⟩
 |1,_=>exact⟨_,rfl,bK⟩
 |2,_=>exact⟨_,rfl,bK⟩
 |3,_=>exact⟨_,rfl,bK⟩
 |4,_=>exact⟨_,rfl,bK⟩
 |5,_=>exact⟨_,rfl,bK⟩
structure Ds (R Bn aC:Nat)(w:World)(v:Value)(n:Nat)(f:Nat->Mv)(q:Int)(W:World):Prop where
 own:W.ownsRow w.heap.size 31 6 v n (fh f n)
 nm:∃cs,W.heap[Bn]?=some (.cells cs 9 (0,0))/\ZW cs
 rd:Rd W R q
 but:fp R w W
 below:Below aC w W
 pl:tV W v
theorem cJ.but {R:Nat}{w w':World}{b:Nat}{m:Mv}(h:cJ w b m)(hb:fp R w w')(hne:b≠R):cJ w' b m:=(hb.block b (acm.1 h).1 hne).trans h
theorem cJ.lt {w:World}{b:Nat}{m:Mv}(h:cJ w b m):b<w.heap.size:=(acm.1 h).1
theorem kG {R b o:Nat}{w w':World}(hb:fp R w w')(aI:b<w.heap.size)(hne:b≠R):w'.cell? ⟨b,o,none⟩=w.cell? ⟨b,o,none⟩:=ach (a:=⟨b,o,none⟩) (hb.block b aI hne)
structure Ms (R Bn aC:Nat)(w:World)(v:Value)(n:Nat)(f:Nat->Mv)(q:Int)(Bm:Nat)(m:Mv)(W:World):Prop where
 ds:Ds R Bn aC w v n f q W
 mv:cJ W Bm m
 lo:w.heap.size<=Bm
 nn:Bm≠Bn
 no:v.ownBlock≠some Bm
structure Good (m:Mv):Prop where
 name:m.name.size<=8
 aD:1<=m.aD/\m.aD<=3
 span:0<=m.ba/\m.ba<=m.late/\m.late<=10000
 prom:-1<=m.prom/\m.prom<=10000
end
section
open RowKit
variable {m:Mv}{R Br Bm aC b:Nat}{w W:World}{q:Int}
structure ic (m:Mv):Prop where
 name:m.name.size<=8
 aD:-9223372036854775808<=m.aD/\m.aD<=9223372036854775807
 ba:-9223372036854775808<=m.ba/\m.ba<=9223372036854775807
 late:-9223372036854775808<=m.late/\m.late<=9223372036854775807
 prom:-9223372036854775808<=m.prom/\m.prom<=9223372036854775807
theorem Good.fitting (h:Good m):ic m:=by
 obtain⟨h1,h2,h3,h4⟩:=h;exact⟨h1,ab,ab,ab,ab⟩
theorem gG.to {W':World}{q':Int}(h:gG R Br Bm aC w m q W)(hr:R<w)(h1:w.heap.size<=Br)(h2:w.heap.size<=Bm)(K_:Rd W' R q')(hb:fp R W W')(hB:Below aC W W'):gG R Br Bm aC w m q' W':=by
 have hs:=h.below.size;obtain⟨m0,iJ⟩:=h.res;exact⟨h.mv.but hb ab,⟨m0,iJ.but hb ab⟩,K_,λk hk hne=>(hb.block k ab hne).trans (h.but k hk hne),h.below.trans hB⟩
theorem gG.alloc (h:gG R Br Bm aC w m q W)(hr:R<w)(h0:aC<=R)(h1:w.heap.size<=Br)(h2:w.heap.size<=Bm)(o:Obj):gG R Br Bm aC w m q (W.alloc o):=by
 have hb:Below W W (W.alloc o):=(aca _ _).alloc (ack _) _;exact h.to hr h1 h2 (h.rd.below hb) (fp.of hb) (hb.mono (by have:=h.rd.lt;omega))
theorem gG.turn {m':Mv}(h:gG R Br Bm aC w m q W)(hr:R<w)(h0:aC<=R)(h1:w.heap.size<=Br)(h2:w.heap.size<=Bm)(hne:Br≠Bm)(k:Nat)(v:Value)(hv:cJ (W.setCell ⟨Bm,k,none⟩ v) Bm m'):gG R Br Bm aC w m' q (W.setCell ⟨Bm,k,none⟩ v):=by
 obtain⟨m0,iJ⟩:=h.res;exact⟨hv,⟨m0,(acd W _ _ Br (by simpa using hne)).trans iJ⟩,h.rd.set ab _ _,λk hk hne=>(acd W _ _ k cC).trans (h.but k hk hne),h.below.setCell cC _⟩
theorem cJ.name (h:cJ W b m)(x:ByteArray):cJ (W.setCell b x) b {m with name:=x}:=by
 have:=heap_setCell_same W b 0 _ _ x h;simpa[cJ]using this
theorem cJ.aD (h:cJ W b m)(x:Int):cJ (W.setCell ⟨b,2,none⟩ x) b {m with aD:=x}:=by
 have:=heap_setCell_same W b 2 _ _ x h;simpa[cJ]using this
theorem cJ.ba (h:cJ W b m)(x:Int):cJ (W.setCell ⟨b,3,none⟩ x) b {m with ba:=x}:=by
 have:=heap_setCell_same W b 3 _ _ x h;simpa[cJ]using this
theorem cJ.late (h:cJ W b m)(x:Int):cJ (W.setCell ⟨b,4,none⟩ x) b {m with late:=x}:=by
 have:=heap_setCell_same W b 4 _ _ x h;simpa[cJ]using this
theorem cJ.prom (h:cJ W b m)(x:Int):cJ (W.setCell ⟨b,5,none⟩ x) b {m with prom:=x}:=by
 have:=heap_setCell_same W b 5 _ _ x h;simpa[cJ]using this
theorem Vj (a b c:Int)(k:Nat)(hk:k<3):∃v:Int,(#[a,b,c]:Array Value)[k]?=some (.int .i64 v)/\(v=a\/v=b\/v=c):=by
 match k,hk with
 |0,_=>exact⟨a,rfl,.inl rfl⟩
 |1,_=>exact⟨b,rfl,.inr (.inl rfl)⟩
 |2,_=>exact⟨c,rfl,.inr (.inr rfl)⟩
theorem at4 (a b c d:Int)(k:Nat)(hk:k<4):∃v:Int,(#[a,b,c,d]:Array Value)[k]?=some (.int .i64 v)/\(v=a\/v=b\/v=c\/v=d):=by
 match k,hk with
 |0,_=>exact⟨a,rfl,.inl rfl⟩
 |1,_=>exact⟨b,rfl,.inr (.inl rfl)⟩
 |2,_=>exact⟨c,rfl,.inr (.inr (.inl rfl))⟩
 |3,_=>exact⟨d,rfl,.inr (.inr (.inr rfl))⟩
theorem at5 (a b c d e:Int)(k:Nat)(hk:k<5):∃v:Int,(#[a,b,c,d,e]:Array Value)[k]?=some (.int .i64 v)/\(v=a\/v=b\/v=c\/v=d\/v=e):=by
 match k,hk with
 |0,_=>exact⟨a,rfl,.inl rfl⟩
 |1,_=>exact⟨b,rfl,.inr (.inl rfl)⟩
 |2,_=>exact⟨c,rfl,.inr (.inr (.inl rfl))⟩
 |3,_=>exact⟨d,rfl,.inr (.inr (.inr (.inl rfl)))⟩
 |4,_=>exact⟨e,rfl,.inr (.inr (.inr (.inr rfl)))⟩
theorem TC (R:Nat)(p:Int)(b:Nat)(f:Nat->ByteArray)(w:World)(aC:Nat)(h0:aC<=R)(hr:Rd w R p)(hp:p<=1000000)(EV:b≠R)(hb:b<w)(hf:∀i,i<4->w.cell? ⟨b,i,none⟩=some (.string (f i))):
  Calls Tz.prog 36 #[.pointer R,.slice b 4 4] w λe w'=>(∃i,i<4/\e=.returned (.string (f i)))/\Rd w' R (p+1)/\fp R w w'/\Below aC w w':=by
 have H1:=bg R p 4 w aC h0 hr ab ab ab;go_enter Tz.func36,Tryz.ntmps36
 go_wp2_with(go_at_call 34;refine H1.mono ?_;clear H1;rintro e w1 ⟨⟨z,rfl,l1,u1⟩,r1,t1,b1⟩;obtain⟨k,rfl⟩:∃k:Nat,z=(k:Int):=⟨z.toNat,ab⟩;have hc:w1.cell? ⟨b,k,none⟩=some (.string (f k)):=(kG t1 hb EV).trans (hf k ab))
 go_ret;exact⟨⟨k,ab,rfl⟩,r1,t1,b1⟩
def oN:Nat->ByteArray
 |0=>⟨#[]⟩
 |1=>⟨#[65]⟩
 |2=>⟨#[122,122]⟩
 |_=>⟨#[97,49]⟩
theorem Il (k:Nat):(oN k).size<=8:=by
 match k with
 |0=>decide
 |1=>decide
 |2=>decide
 |_+3=>exact(by decide:(⟨#[97,49]⟩:ByteArray).size<=8)
theorem Ou (W:World):∀i,i<4->(W.alloc (.cells #[.string ⟨#[]⟩,.string ⟨#[65]⟩,.string ⟨#[122,122]⟩,.string ⟨#[97,49]⟩] 9)).cell? ⟨W.heap.size,i,none⟩=some (.string (oN i)):=λi hi=>by
 rw[World.cell?_alloc_at _ _ _ _ rfl];match i,hi with
 |0,_=>rfl
 |1,_=>rfl
 |2,_=>rfl
 |3,_=>rfl
end
section
open RowKit
theorem Je (R:Nat)(p:Int)(m:Mv)(w:World)(aC:Nat)(h0:aC<=R)(hr:Rd w R p)(hp:p<=900000)(hg:Good m):
  Calls Tz.prog 54 #[.pointer (some ⟨R,0,none⟩),.agg #[.string m.name,.bool m.an,.int .i64 m.aD,.int .i64 m.ba,.int .i64 m.late,.int .i64 m.prom]] w λe w'=>(∃m':Mv,e=.returned (.agg #[.string m'.name,.bool m'.an,.int .i64 m'.aD,.int .i64 m'.ba,.int .i64 m'.late,.int .i64 m'.prom])/\ic m')/\zJ R p 7 aC w w':=by
 have hR:=hr.lt;have VQ:gG R (w.heap.size+1) w.heap.size aC w m p ((w.alloc (.cells #[.string m.name,.bool m.an,.int .i64 m.aD,.int .i64 m.ba,.int .i64 m.late,.int .i64 m.prom] 31)).alloc (.cells #[.string ByteArray.empty,.bool false,.int .i64 0,.int .i64 0,.int .i64 0,.int .i64 0] 31)):=by
  have bA:Below w.heap.size w (w.alloc (.cells #[.string m.name,.bool m.an,.int .i64 m.aD,.int .i64 m.ba,.int .i64 m.late,.int .i64 m.prom] 31)):=(aca _ _).alloc (ack _) _;have bB:Below w.heap.size w ((w.alloc (.cells #[.string m.name,.bool m.an,.int .i64 m.aD,.int .i64 m.ba,.int .i64 m.late,.int .i64 m.prom] 31)).alloc (.cells #[.string ByteArray.empty,.bool false,.int .i64 0,.int .i64 0,.int .i64 0,.int .i64 0] 31)):=bA.alloc aH _;have bC:∀o,Below (w.heap.size+1) (w.alloc (.cells #[.string m.name,.bool m.an,.int .i64 m.aD,.int .i64 m.ba,.int .i64 m.late,.int .i64 m.prom] 31)) ((w.alloc (.cells #[.string m.name,.bool m.an,.int .i64 m.aD,.int .i64 m.ba,.int .i64 m.late,.int .i64 m.prom] 31)).alloc o):=λo=>(aca _ _).alloc aH _
  exact⟨((bC _).block _ ab).trans (heap_alloc_new _ _),⟨⟨ByteArray.empty,false,0,0,0,0⟩,by have:=heap_alloc_new (w.alloc (.cells #[.string m.name,.bool m.an,.int .i64 m.aD,.int .i64 m.ba,.int .i64 m.late,.int .i64 m.prom] 31)) (.cells #[.string ByteArray.empty,.bool false,.int .i64 0,.int .i64 0,.int .i64 0,.int .i64 0] 31);simpa[cJ]using this⟩,hr.below bB,λk hk _=>bB.block k hk,bB.mono ab⟩
 have H1:=bg R p 5 _ aC h0 VQ.rd ab ab ab;go_enter Tz.func54,Tryz.ntmps54
 go_wp2_with(go_at_call 34;refine H1.mono ?_;clear H1;rintro e w1 ⟨⟨z1,rfl,l1,u1⟩,r1,t1,b1⟩;have xK:=VQ.to hR ab ab r1 t1 b1)
 .have mu:=xK.alloc hR h0 ab ab (.cells #[.string ⟨#[]⟩,.string ⟨#[65]⟩,.string ⟨#[122,122]⟩,.string ⟨#[97,49]⟩] 9);have H2:=TC R (p+1) w1.heap.size oN _ aC h0 mu.rd ab (by have:=xK.rd.lt;omega) aH (Ou w1);go_wp2_with(go_at_call 36;refine H2.mono ?_;clear H2;rintro e w4 ⟨⟨k,hk,rfl⟩,r4,t4,b4⟩;have eu:=mu.to hR ab ab r4 t4 b4;obtain⟨d0,d1,d2,d3,d4,d5⟩:=eu.mv.at_;simp only[Nat.zero_add]at d0 d1 d2 d3 d4 d5;have fr:=eu.mv.frozen 0;obtain⟨m0,iJ⟩:=eu.res;obtain⟨k0,k1,k2,k3,k4,k5⟩:=iJ.at_;simp only[Nat.zero_add]at k0 k1 k2 k3 k4 k5;have fr0:=iJ.frozen)
  have hf:ic {m with name:=oN k}:=⟨Il k,hg.fitting.aD,hg.fitting.ba,hg.fitting.late,hg.fitting.prom⟩;have fM:=eu.turn hR h0 ab ab ab 0 _ (eu.mv.name (oN k));obtain⟨m1,lY⟩:=fM.res;have q:=gu (w4.setCell ⟨w.heap.size,0,none⟩ (.string (oN k))) (w.heap.size+1) 0 {m with name:=oN k} _ _ lY aH;obtain⟨q0,q1,q2,q3,q4,q5⟩:=q;simp only[Nat.zero_add]at q0 q1 q2 q3 q4 q5;change bodyPost _ _ _ _ _ (eU (w4.setCell ⟨w.heap.size,0,none⟩ (.string (oN k))) (w.heap.size+1) 0 {m with name:=oN k});exact bodyPost_ret (v:=.agg #[.string (oN k),.bool m.an,.int .i64 m.aD,.int .i64 m.ba,.int .i64 m.late,.int .i64 m.prom]) (by simp[results,Tryz.results54,go_sem,q0,q1,q2,q3,q4,q5]) rfl ⟨⟨{m with name:=oN k},rfl,hf⟩,fM.went h0 ab ab _ ab⟩
 .have mu:=xK.alloc hR h0 ab ab (.cells #[.int .i64 0,.int .i64 3,.int .i64 4,.int .i64 (-9223372036854775808)] 3);have H2:=bg R (p+1) 4 _ aC h0 mu.rd ab ab ab;go_wp2_with(go_at_call 34;refine H2.mono ?_;clear H2;rintro e w4 ⟨⟨z,rfl,l4,u4⟩,r4,t4,b4⟩;have eu:=mu.to hR ab ab r4 t4 b4;obtain⟨k,rfl⟩:∃k:Nat,z=(k:Int):=⟨z.toNat,ab⟩;obtain⟨v,hv,JU⟩:=at4 0 3 4 (-9223372036854775808) k ab;obtain⟨d0,d1,d2,d3,d4,d5⟩:=eu.mv.at_;simp only[Nat.zero_add]at d0 d1 d2 d3 d4 d5;have fr:=eu.mv.frozen 2;obtain⟨m0,iJ⟩:=eu.res;obtain⟨k0,k1,k2,k3,k4,k5⟩:=iJ.at_;simp only[Nat.zero_add]at k0 k1 k2 k3 k4 k5;have fr0:=iJ.frozen;have hcv:w4.cell? ⟨w1.heap.size,k,none⟩=some (.int .i64 v):=(kG t4 aH (by have:=xK.rd.lt;omega)).trans ((World.cell?_alloc_at _ _ _ _ rfl).trans hv))
  have hf:ic {m with aD:=v}:=⟨hg.fitting.name,Er,hg.fitting.ba,hg.fitting.late,hg.fitting.prom⟩;have fM:=eu.turn hR h0 ab ab ab 2 _ (eu.mv.aD v);obtain⟨m1,lY⟩:=fM.res;have q:=gu (w4.setCell ⟨w.heap.size,2,none⟩ (.int .i64 v)) (w.heap.size+1) 0 {m with aD:=v} _ _ lY aH;obtain⟨q0,q1,q2,q3,q4,q5⟩:=q;simp only[Nat.zero_add]at q0 q1 q2 q3 q4 q5;change bodyPost _ _ _ _ _ (eU (w4.setCell ⟨w.heap.size,2,none⟩ (.int .i64 v)) (w.heap.size+1) 0 {m with aD:=v});exact bodyPost_ret (v:=.agg #[.string m.name,.bool m.an,.int .i64 v,.int .i64 m.ba,.int .i64 m.late,.int .i64 m.prom]) (by simp[results,Tryz.results54,go_sem,q0,q1,q2,q3,q4,q5]) rfl ⟨⟨{m with aD:=v},rfl,hf⟩,fM.went h0 ab ab _ ab⟩
 .obtain⟨c0,c1,c2,c3,c4,c5⟩:=xK.mv.at_;simp only[Nat.zero_add]at c0 c1 c2 c3 c4 c5;have mu:=xK.drew;have hwl:IntKind.i64.wrap (m.late+1)=m.late+1:=by have:=hg.span;rw[IntKind.wrap_i64];omega
  have n1:w.heap.size≠w1.heap.size:=acD xK.mv.lt;have n2:=n1.symm;have HP:∀W,gG R (w.heap.size+1) w.heap.size aC w m (p+1) W->Calls Tz.prog 34 #[.pointer (some ⟨R,0,none⟩),.int .i64 3] W λe w'=>∃z:Nat,e=.returned (.int .i64 (z:Int))/\z<3/\gG R (w.heap.size+1) w.heap.size aC w m (p+1+1) w'/\fp R W w':=λW hW=>
   (bg R (p+1) 3 W aC h0 hW.rd ab ab ab).mono (λe w' ⟨⟨z,h1,h2,h3⟩,h4,h5,h6⟩=>⟨z.toNat,by rw[h1];congr 2;omega,ab,hW.to hR ab ab h4 h5 h6,h5⟩)
  go_region_with
   (first
    |(go_at_call 34;refine(HP _ mu).mono ?_;clear HP;rintro e w4 ⟨k,rfl,hk,eu,t4⟩;obtain⟨v,hv,JU⟩:=Vj (-1) m.late (m.late+1) k hk;have JQ:(k:Int)<3:=ab;have jY:(0:Int)<=(k:Int):=ab;obtain⟨d0,d1,d2,d3,d4,d5⟩:=eu.mv.at_;simp only[Nat.zero_add]at d0 d1 d2 d3 d4 d5;have fr:=eu.mv.frozen 3;have n4:=acD eu.mv.lt;have n5:=n4.symm;have cA:∀o,(w4.alloc o).cell? ⟨w.heap.size,3,none⟩=some (.int .i64 m.ba):=λo=>(by have:=(eu.alloc hR h0 ab ab o).mv.at_.c3;simpa using this);have fA:∀o,(w4.alloc o).frozen? ⟨w.heap.size,3,none⟩=false:=λo=>(eu.alloc hR h0 ab ab o).mv.frozen 3;have cV:(w4.alloc (.cells #[.int .i64 (-1),.int .i64 m.late,.int .i64 (m.late+1)] 3)).cell? ⟨w4.heap.size,k,none⟩=some (.int .i64 v):=(World.cell?_alloc_at _ _ _ _ rfl).trans hv;have Ti:[Value.int .i64 (-1),Value.int .i64 m.late,Value.int .i64 (m.late+1)][k]?=some (.int .i64 v):=(by simpa using hv))
    |(go_at_call 34;refine(HP _ (mu.alloc hR h0 ab ab _)).mono ?_;clear HP;rintro e w4 ⟨k,rfl,hk,eu,t4⟩;obtain⟨v,hv,JU⟩:=Vj (-1) m.late (m.late+1) k hk;have JQ:(k:Int)<3:=ab;have jY:(0:Int)<=(k:Int):=ab;obtain⟨d0,d1,d2,d3,d4,d5⟩:=eu.mv.at_;simp only[Nat.zero_add]at d0 d1 d2 d3 d4 d5;have fr:=eu.mv.frozen 3;have hcv:w4.cell? ⟨w1.heap.size,k,none⟩=some (.int .i64 v):=(kG t4 aH (by have:=xK.rd.lt;omega)).trans ((World.cell?_alloc_at _ _ _ _ rfl).trans hv)))
  all_goals have hf:ic {m with ba:=v}:=⟨hg.fitting.name,hg.fitting.aD,by have:=hg.span;simp only;omega,hg.fitting.late,hg.fitting.prom⟩
  all_goals first
   |(have fM:=eu.turn hR h0 ab ab ab 3 _ (eu.mv.ba v)
     revert fM hf;generalize w4.setCell ⟨w.heap.size,3,none⟩ (.int .i64 v)=W5;generalize ({m with ba:=v}:Mv)=m';intro hf fM;clear hcv)
   |(have fM:=(eu.alloc hR h0 ab ab (.cells #[.int .i64 (-1),.int .i64 m.late,.int .i64 (m.late+1)] 3)).turn hR h0 ab ab ab 3 _ ((eu.alloc hR h0 ab ab (.cells #[.int .i64 (-1),.int .i64 m.late,.int .i64 (m.late+1)] 3)).mv.ba v)
     revert fM hf;generalize (w4.alloc (.cells #[.int .i64 (-1),.int .i64 m.late,.int .i64 (m.late+1)] 3)).setCell ⟨w.heap.size,3,none⟩ (.int .i64 v)=W5;generalize ({m with ba:=v}:Mv)=m';intro hf fM;clear cA fA cV Ti n4 n5)
  all_goals
   clear hv JU d0 d1 d2 d3 d4 d5 fr t4 eu mu xK c0 c1 c2 c3 c4 c5 n1 n2;obtain⟨d0,d1,d2,d3,d4,d5⟩:=fM.mv.at_;simp only[Nat.zero_add]at d0 d1 d2 d3 d4 d5;obtain⟨m0,iJ⟩:=fM.res;obtain⟨k0,k1,k2,k3,k4,k5⟩:=iJ.at_;simp only[Nat.zero_add]at k0 k1 k2 k3 k4 k5;have fr:=iJ.frozen;go_wp2;have q:=gu W5 (w.heap.size+1) 0 m' _ _ iJ aH;obtain⟨q0,q1,q2,q3,q4,q5⟩:=q;simp only[Nat.zero_add]at q0 q1 q2 q3 q4 q5;change bodyPost _ _ _ _ _ (eU W5 (w.heap.size+1) 0 m');exact bodyPost_ret (v:=.agg #[.string m'.name,.bool m'.an,.int .i64 m'.aD,.int .i64 m'.ba,.int .i64 m'.late,.int .i64 m'.prom]) (by simp[results,Tryz.results54,go_sem,q0,q1,q2,q3,q4,q5]) rfl ⟨⟨m',rfl,hf⟩,fM.went h0 ab ab _ ab⟩
 .obtain⟨c0,c1,c2,c3,c4,c5⟩:=xK.mv.at_;simp only[Nat.zero_add]at c0 c1 c2 c3 c4 c5;have mu:=xK.drew;have n1:w.heap.size≠w1.heap.size:=acD xK.mv.lt;have n2:=n1.symm;have HP:∀W,gG R (w.heap.size+1) w.heap.size aC w m (p+1) W->Calls Tz.prog 34 #[.pointer (some ⟨R,0,none⟩),.int .i64 3] W λe w'=>∃z:Nat,e=.returned (.int .i64 (z:Int))/\z<3/\gG R (w.heap.size+1) w.heap.size aC w m (p+1+1) w'/\fp R W w':=λW hW=>
   (bg R (p+1) 3 W aC h0 hW.rd ab ab ab).mono (λe w' ⟨⟨z,h1,h2,h3⟩,h4,h5,h6⟩=>⟨z.toNat,by rw[h1];congr 2;omega,ab,hW.to hR ab ab h4 h5 h6,h5⟩)
  go_region_with
   (first
    |(go_at_call 34;refine(HP _ mu).mono ?_;clear HP;rintro e w4 ⟨k,rfl,hk,eu,t4⟩;obtain⟨v,hv,JU⟩:=Vj 10000 10001 m.ba k hk;have JQ:(k:Int)<3:=ab;have jY:(0:Int)<=(k:Int):=ab;obtain⟨d0,d1,d2,d3,d4,d5⟩:=eu.mv.at_;simp only[Nat.zero_add]at d0 d1 d2 d3 d4 d5;have fr:=eu.mv.frozen 4;have d34:∀v,(w4.setCell ⟨w.heap.size,4,none⟩ v).cell? ⟨w.heap.size,3,none⟩=some (.int .i64 m.ba):=λv=>(World.cell?_setCell_other _ _ _ _ aH).trans d3;have n4:=acD eu.mv.lt;have n5:=n4.symm;have cA:∀o,(w4.alloc o).cell? ⟨w.heap.size,4,none⟩=some (.int .i64 m.late):=λo=>(by have:=(eu.alloc hR h0 ab ab o).mv.at_.c4;simpa using this);have fA:∀o,(w4.alloc o).frozen? ⟨w.heap.size,4,none⟩=false:=λo=>(eu.alloc hR h0 ab ab o).mv.frozen 4;have dA:∀o v,((w4.alloc o).setCell ⟨w.heap.size,4,none⟩ v).cell? ⟨w.heap.size,3,none⟩=some (.int .i64 m.ba):=λo v=>(World.cell?_setCell_other _ _ _ _ aH).trans ((World.cell?_alloc_past _ _ _ eu.mv.lt).trans d3);have cV:(w4.alloc (.cells #[.int .i64 10000,.int .i64 10001,.int .i64 m.ba] 3)).cell? ⟨w4.heap.size,k,none⟩=some (.int .i64 v):=(World.cell?_alloc_at _ _ _ _ rfl).trans hv;have Ti:[Value.int .i64 10000,Value.int .i64 10001,Value.int .i64 m.ba][k]?=some (.int .i64 v):=(by simpa using hv))
    |(go_at_call 34;refine(HP _ (mu.alloc hR h0 ab ab _)).mono ?_;clear HP;rintro e w4 ⟨k,rfl,hk,eu,t4⟩;obtain⟨v,hv,JU⟩:=Vj 10000 10001 m.ba k hk;have JQ:(k:Int)<3:=ab;have jY:(0:Int)<=(k:Int):=ab;obtain⟨d0,d1,d2,d3,d4,d5⟩:=eu.mv.at_;simp only[Nat.zero_add]at d0 d1 d2 d3 d4 d5;have fr:=eu.mv.frozen 4;have d34:∀v,(w4.setCell ⟨w.heap.size,4,none⟩ v).cell? ⟨w.heap.size,3,none⟩=some (.int .i64 m.ba):=λv=>(World.cell?_setCell_other _ _ _ _ aH).trans d3;have hcv:w4.cell? ⟨w1.heap.size,k,none⟩=some (.int .i64 v):=(kG t4 aH (by have:=xK.rd.lt;omega)).trans ((World.cell?_alloc_at _ _ _ _ rfl).trans hv)))
  all_goals have hf:ic {m with late:=v}:=⟨hg.fitting.name,hg.fitting.aD,hg.fitting.ba,by have:=hg.span;simp only;omega,hg.fitting.prom⟩
  all_goals first
   |(have fM:=eu.turn hR h0 ab ab ab 4 _ (eu.mv.late v)
     revert fM hf;generalize w4.setCell ⟨w.heap.size,4,none⟩ (.int .i64 v)=W5;generalize ({m with late:=v}:Mv)=m';intro hf fM;clear hcv)
   |(have fM:=(eu.alloc hR h0 ab ab (.cells #[.int .i64 10000,.int .i64 10001,.int .i64 m.ba] 3)).turn hR h0 ab ab ab 4 _ ((eu.alloc hR h0 ab ab (.cells #[.int .i64 10000,.int .i64 10001,.int .i64 m.ba] 3)).mv.late v)
     revert fM hf;generalize (w4.alloc (.cells #[.int .i64 10000,.int .i64 10001,.int .i64 m.ba] 3)).setCell ⟨w.heap.size,4,none⟩ (.int .i64 v)=W5;generalize ({m with late:=v}:Mv)=m';intro hf fM;clear cA fA dA cV Ti n4 n5)
  all_goals
   clear hv JU d0 d1 d2 d3 d4 d5 fr d34 t4 eu mu xK c0 c1 c2 c3 c4 c5 n1 n2;obtain⟨d0,d1,d2,d3,d4,d5⟩:=fM.mv.at_;simp only[Nat.zero_add]at d0 d1 d2 d3 d4 d5;obtain⟨m0,iJ⟩:=fM.res;obtain⟨k0,k1,k2,k3,k4,k5⟩:=iJ.at_;simp only[Nat.zero_add]at k0 k1 k2 k3 k4 k5;have fr:=iJ.frozen;go_wp2;have q:=gu W5 (w.heap.size+1) 0 m' _ _ iJ aH;obtain⟨q0,q1,q2,q3,q4,q5⟩:=q;simp only[Nat.zero_add]at q0 q1 q2 q3 q4 q5;change bodyPost _ _ _ _ _ (eU W5 (w.heap.size+1) 0 m');exact bodyPost_ret (v:=.agg #[.string m'.name,.bool m'.an,.int .i64 m'.aD,.int .i64 m'.ba,.int .i64 m'.late,.int .i64 m'.prom]) (by simp[results,Tryz.results54,go_sem,q0,q1,q2,q3,q4,q5]) rfl ⟨⟨m',rfl,hf⟩,fM.went h0 ab ab _ ab⟩
 .obtain⟨c0,c1,c2,c3,c4,c5⟩:=xK.mv.at_;simp only[Nat.zero_add]at c0 c1 c2 c3 c4 c5;have mu:=xK.drew;have Nu:IntKind.i64.wrap (m.ba-1)=m.ba-1:=by have:=hg.span;rw[IntKind.wrap_i64];omega
  have QN:IntKind.i64.wrap (m.late+1)=m.late+1:=by have:=hg.span;rw[IntKind.wrap_i64];omega
  have n1:w.heap.size≠w1.heap.size:=acD xK.mv.lt;have n2:=n1.symm;have HP:∀W,gG R (w.heap.size+1) w.heap.size aC w m (p+1) W->Calls Tz.prog 34 #[.pointer (some ⟨R,0,none⟩),.int .i64 5] W λe w'=>∃z:Nat,e=.returned (.int .i64 (z:Int))/\z<5/\gG R (w.heap.size+1) w.heap.size aC w m (p+1+1) w'/\fp R W w':=λW hW=>
   (bg R (p+1) 5 W aC h0 hW.rd ab ab ab).mono (λe w' ⟨⟨z,h1,h2,h3⟩,h4,h5,h6⟩=>⟨z.toNat,by rw[h1];congr 2;omega,ab,hW.to hR ab ab h4 h5 h6,h5⟩)
  refine wp_region_held_drew (S:=λw'=>w'.cell? ⟨w.heap.size,3,none⟩=some (.int .i64 m.ba)/\w'.cell? ⟨w.heap.size,4,none⟩=some (.int .i64 m.late)) bR ⟨c3,c4⟩ (λhHeld=>?_);refine aS 0 (.pointer (some ⟨w.heap.size,3,none⟩)) 7 rfl DB hHeld ?_;refine aS 1 (.int .i64 m.ba) 8 rfl DB hHeld ?_;refine aS 2 (.int .i64 (m.ba-1)) 9 rfl DB hHeld ?_;refine aS 3 (.pointer (some ⟨w.heap.size,3,none⟩)) 10 rfl DB hHeld ?_;refine aS 4 (.int .i64 m.ba) 11 rfl DB hHeld ?_;refine aS 5 (.pointer (some ⟨w.heap.size,4,none⟩)) 12 rfl DB hHeld ?_;refine aS 6 (.int .i64 m.late) 13 rfl DB hHeld ?_;refine aS 7 (.pointer (some ⟨w.heap.size,4,none⟩)) 14 rfl DB hHeld ?_;refine aS 8 (.int .i64 m.late) 15 rfl DB hHeld ?_;refine aS 9 (.int .i64 (m.late+1)) 16 rfl DB hHeld ?_;refine aS 11 (.pointer (some ⟨R,0,none⟩)) 18 rfl DB hHeld ?_;simp only[Act.put,List.setIfInBounds_toArray,List.set_cons_zero,List.set_cons_succ];refine Po 10 12 rfl rfl (λK hK=>?_) (λK hK=>?_)
  .go_simp
   have L_:=(xK.alloc hR h0 ab ab (.cells #[.int .i64 (-2),.int .i64 (m.ba-1),.int .i64 m.ba,.int .i64 m.late,.int .i64 (m.late+1)] 3)).drew;obtain⟨a0,a1,a2,a3,a4,a5⟩:=L_.mv.at_;simp only[Nat.zero_add]at a0 a1 a2 a3 a4 a5;refine hK.out _ _ ⟨a3,a4⟩ (λhHeld=>?_);clear hK K;refine jE 12 rfl (λK hK=>?_);go_simp
   go_at_call 34
   refine(HP _ L_).mono ?_;rintro e w4 ⟨k,rfl,hk,eu,t4⟩;obtain⟨v,hv,JU⟩:=at5 (-2) (m.ba-1) m.ba m.late (m.late+1) k hk;have JQ:(k:Int)<5:=ab;have jY:(0:Int)<=(k:Int):=ab;obtain⟨d0,d1,d2,d3,d4,d5⟩:=eu.mv.at_;simp only[Nat.zero_add]at d0 d1 d2 d3 d4 d5;have hcv:w4.cell? ⟨w1.heap.size,k,none⟩=some (.int .i64 v):=(kG t4 aH (by have:=xK.rd.lt;omega)).trans ((World.cell?_alloc_at _ _ _ _ rfl).trans hv);have n_:=eu.mv.frozen 5;go_wp2_with fail
   refine hK.out _ _ ⟨d3,d4⟩ (λhHeld=>?_);clear hK K;refine jE 13 rfl (λK hK=>?_);go_simp
   refine hK.out _ _ ⟨d3,d4⟩ (λhHeld=>?_);clear hK K;refine jE 14 rfl (λK hK=>?_);go_simp
   refine hK.out _ _ ⟨d3,d4⟩ (λhHeld=>?_);clear hK K;refine jE 15 rfl (λK hK=>?_);go_simp
   refine hK.out _ _ ⟨d3,d4⟩ (λhHeld=>?_);clear hK K;refine jE 16 rfl (λK hK=>?_);go_simp
   have fM:=eu.turn hR h0 ab ab ab 5 _ (eu.mv.prom v);obtain⟨b0,b1,b2,b3,b4,b5⟩:=fM.mv.at_;simp only[Nat.zero_add]at b0 b1 b2 b3 b4 b5;refine hK.out _ _ ⟨b3,b4⟩ (λhHeld=>?_);clear hK K;have hf:ic {m with prom:=v}:=⟨hg.fitting.name,hg.fitting.aD,hg.fitting.ba,hg.fitting.late,by have:=hg.span;simp only;omega⟩;refine wpAnyH_done bR ?_ _;revert fM hf;generalize w4.setCell ⟨w.heap.size,5,none⟩ (.int .i64 v)=W5;generalize ({m with prom:=v}:Mv)=m';intro fM hf;clear hv JU d0 d1 d2 d3 d4 d5 b0 b1 b2 b3 b4 b5 a0 a1 a2 a3 a4 a5 n_ hcv hHeld t4 eu L_ mu xK c0 c1 c2 c3 c4 c5 n1 n2 HP;obtain⟨d0,d1,d2,d3,d4,d5⟩:=fM.mv.at_;simp only[Nat.zero_add]at d0 d1 d2 d3 d4 d5;obtain⟨m0,iJ⟩:=fM.res;obtain⟨k0,k1,k2,k3,k4,k5⟩:=iJ.at_;simp only[Nat.zero_add]at k0 k1 k2 k3 k4 k5;have fr:=iJ.frozen;go_wp2;have q:=gu W5 (w.heap.size+1) 0 m' _ _ iJ aH;obtain⟨q0,q1,q2,q3,q4,q5⟩:=q;simp only[Nat.zero_add]at q0 q1 q2 q3 q4 q5;change bodyPost _ _ _ _ _ (eU W5 (w.heap.size+1) 0 m');exact bodyPost_ret (v:=.agg #[.string m'.name,.bool m'.an,.int .i64 m'.aD,.int .i64 m'.ba,.int .i64 m'.late,.int .i64 m'.prom]) (by simp[results,Tryz.results54,go_sem,q0,q1,q2,q3,q4,q5]) rfl ⟨⟨m',rfl,hf⟩,fM.went h0 ab ab _ ab⟩
  .go_simp
   go_at_call 34
   refine(HP _ mu).mono ?_;rintro e w4 ⟨k,rfl,hk,eu,t4⟩;obtain⟨v,hv,JU⟩:=at5 (-2) (m.ba-1) m.ba m.late (m.late+1) k hk;have JQ:(k:Int)<5:=ab;have jY:(0:Int)<=(k:Int):=ab;obtain⟨d0,d1,d2,d3,d4,d5⟩:=eu.mv.at_;simp only[Nat.zero_add]at d0 d1 d2 d3 d4 d5;go_wp2_with fail
   refine hK.out _ _ ⟨d3,d4⟩ (λhHeld=>?_);clear hK K;have qK:=eu.alloc hR h0 ab ab (.cells #[.int .i64 (-2),.int .i64 (m.ba-1),.int .i64 m.ba,.int .i64 m.late,.int .i64 (m.late+1)] 3);obtain⟨a0,a1,a2,a3,a4,a5⟩:=qK.mv.at_;simp only[Nat.zero_add]at a0 a1 a2 a3 a4 a5;have n4:=acD eu.mv.lt;have n5:=n4.symm;have cV:(w4.alloc (.cells #[.int .i64 (-2),.int .i64 (m.ba-1),.int .i64 m.ba,.int .i64 m.late,.int .i64 (m.late+1)] 3)).cell? ⟨w4.heap.size,k,none⟩=some (.int .i64 v):=(World.cell?_alloc_at _ _ _ _ rfl).trans hv;have Ti:[Value.int .i64 (-2),Value.int .i64 (m.ba-1),Value.int .i64 m.ba,Value.int .i64 m.late,Value.int .i64 (m.late+1)][k]?=some (.int .i64 v):=by simpa using hv
   have n_:=qK.mv.frozen 5;refine jE 10 rfl (λK hK=>?_);go_simp
   refine hK.out _ _ ⟨a3,a4⟩ (λhHeld=>?_);clear hK K;refine jE 13 rfl (λK hK=>?_);go_simp
   refine hK.out _ _ ⟨a3,a4⟩ (λhHeld=>?_);clear hK K;refine jE 14 rfl (λK hK=>?_);go_simp
   refine hK.out _ _ ⟨a3,a4⟩ (λhHeld=>?_);clear hK K;refine jE 15 rfl (λK hK=>?_);go_simp
   refine hK.out _ _ ⟨a3,a4⟩ (λhHeld=>?_);clear hK K;refine jE 16 rfl (λK hK=>?_);go_simp
   have fM:=qK.turn hR h0 ab ab ab 5 _ (qK.mv.prom v);obtain⟨b0,b1,b2,b3,b4,b5⟩:=fM.mv.at_;simp only[Nat.zero_add]at b0 b1 b2 b3 b4 b5;refine hK.out _ _ ⟨b3,b4⟩ (λhHeld=>?_);clear hK K;have hf:ic {m with prom:=v}:=⟨hg.fitting.name,hg.fitting.aD,hg.fitting.ba,hg.fitting.late,by have:=hg.span;simp only;omega⟩;refine wpAnyH_done bR ?_ _;revert fM hf;generalize (w4.alloc (.cells #[.int .i64 (-2),.int .i64 (m.ba-1),.int .i64 m.ba,.int .i64 m.late,.int .i64 (m.late+1)] 3)).setCell ⟨w.heap.size,5,none⟩ (.int .i64 v)=W5;generalize ({m with prom:=v}:Mv)=m';intro fM hf;clear hv JU Ti cV n4 n5 d0 d1 d2 d3 d4 d5 b0 b1 b2 b3 b4 b5 a0 a1 a2 a3 a4 a5 n_ hHeld t4 eu qK mu xK c0 c1 c2 c3 c4 c5 n1 n2 HP;obtain⟨d0,d1,d2,d3,d4,d5⟩:=fM.mv.at_;simp only[Nat.zero_add]at d0 d1 d2 d3 d4 d5;obtain⟨m0,iJ⟩:=fM.res;obtain⟨k0,k1,k2,k3,k4,k5⟩:=iJ.at_;simp only[Nat.zero_add]at k0 k1 k2 k3 k4 k5;have fr:=iJ.frozen;go_wp2;have q:=gu W5 (w.heap.size+1) 0 m' _ _ iJ aH;obtain⟨q0,q1,q2,q3,q4,q5⟩:=q;simp only[Nat.zero_add]at q0 q1 q2 q3 q4 q5;change bodyPost _ _ _ _ _ (eU W5 (w.heap.size+1) 0 m');exact bodyPost_ret (v:=.agg #[.string m'.name,.bool m'.an,.int .i64 m'.aD,.int .i64 m'.ba,.int .i64 m'.late,.int .i64 m'.prom]) (by simp[results,Tryz.results54,go_sem,q0,q1,q2,q3,q4,q5]) rfl ⟨⟨m',rfl,hf⟩,fM.went h0 ab ab _ ab⟩
end
section
open RowKit
variable {w:World}{B n k R:Nat}{T:TypeId}{f:Nat->Mv}
theorem L6 {base c:Nat}{size:Nat}{xs:List Value}(h:w.ownsRow base T size (.slice B n c) n xs):
  base<=B/\B<w/\∃cur,w.heap[B]?=some (.cells cur T (0,0))/\xs.length<=cur.size:=by
 obtain⟨h1,h2|⟨g,cap,cur,h2,h3,h4,h5,h6,h7,h8⟩⟩:=h
 .exact absurd h2.1 aH
 .simp at h2;obtain⟨rfl,rfl⟩:=h2;refine⟨h3,(acm.1 h4).1,cur,h4,?_⟩;rw[h1,h7];exact Nat.mul_le_mul_right _ h5
theorem Pt {cur:Array Value}(h:aM w B 0 n f)(hg:w.heap[B]?=some (.cells cur T (0,0)))(hs:n*6<=cur.size)(hk:k<n)(m:Mv):aM (eU w B (k*6) m) B 0 n (λj=>if j=k then m else f j):=by
 intro i hi;by_cases e:i=k
 .subst e;simp only[if_true];rw[Nat.zero_add];exact gu w B (i*6) m cur T hg ab
 .simp only[if_neg e];obtain⟨c0,c1,c2,c3,c4,c5⟩:=h i hi;have o:∀j,j<6->(eU w B (k*6) m).cell? ⟨B,0+i*6+j,none⟩=w.cell? ⟨B,0+i*6+j,none⟩:=λj hj=>Dh w B (k*6) m _ ab
  exact⟨(o 0 ab).trans c0,(o 1 ab).trans c1,(o 2 ab).trans c2,(o 3 ab).trans c3,(o 4 ab).trans c4,(o 5 ab).trans c5⟩
theorem HU {W:World}(h:fp R w W)(hB:w.heap.size<=B)(o:Nat)(m:Mv):fp R w (eU W B o m):=
 ⟨by have:=h.size;simpa[eU]using this,λk hk hne=>(pB W B o m k ab).trans (h.block k hk hne)⟩
end
