import Derived.Test.YtlmcblcijndipaaGreatDoora31
import Derived.Test.YtlmcblcijndipaaGreatDoora25
import Derived.Deep.RegionWith
set_option linter.defProp false
set_option linter.unusedVariables false
set_option maxHeartbeats 4000000
set_option maxRecDepth 10000
namespace Go.Proofs.YtlmcblcijndipaaGreatDoor
open RowKit
variable {p q:Int}{xs:List Value}{m:Mv}{B Bm Br R ay b n:Nat}{f:Nat->Mv}{W W' w w':World}
def sA (w:World)(b off n:Nat)(c:Nat->Int):Prop:=∀i,i<n->w.cell? ⟨b,off+i,none⟩=some (.int .u8<|c i)
structure Rd (w:World)(R:Nat)(p:Int):Prop where
 mk::
 at_:∃(a:Option Addr) (n cap:Nat) (c:Nat->Int),w.heap[R]?=some (.cells #[.slice a n cap,p] 102 (0,0))/\n<=2000/\(n=0\/∃b off,a=some ⟨b,off,none⟩/\b<R/\sA w b off n c)/\∀i,i<n->0<=c i/\c i<=255
 low:0<=p
def RI (x y:Int)(hx:0<=x)(IR:x<9223372036854775808)(hy:0<=y)(IT:y<9223372036854775808):0<=bits .xor .i64 x y:=by
 obtain⟨a,rfl⟩:∃a:Nat,x=(a:Int):=⟨x.toNat,aa⟩;obtain⟨b,rfl⟩:∃b:Nat,y=(b:Int):=⟨y.toNat,aa⟩;have hx:a ^^^ b<2^63:=Nat.xor_lt_two_pow aa aa;have h1:(BitVec.ofInt 64 (a:Int)).toNat=a:=by
  rw[BitVec.ofInt_natCast,BitVec.toNat_ofNat];exact Nat.mod_eq_of_lt aa
 have h2:(BitVec.ofInt 64 (b:Int)).toNat=b:=by
  rw[BitVec.ofInt_natCast,BitVec.toNat_ofNat];exact Nat.mod_eq_of_lt aa
 show 0<=IntKind.i64.wrap ((BitVec.ofInt 64 (a:Int) ^^^ BitVec.ofInt 64 (b:Int)).toNat:Int);rw[BitVec.toNat_xor,h1,h2,IntKind.wrap_i64];omega
def RC (x m:Int)(hx:0<=x)(hm:1<=m):0<=x.tmod m/\x.tmod m<m:=by
 rw[Int.tmod_eq_emod_of_nonneg hx];exact⟨Int.emod_nonneg _ aa,Int.emod_lt_of_pos _ aa⟩
def Rd.below (hr:Rd w R p)(hb:Below w w w'):Rd w' R p:=by
 let⟨⟨a,n,cap,c,hR,hn,aq,hc⟩,FC⟩:=hr;have aB:R<w:=(ac7.1 hR).1;refine⟨⟨a,n,cap,c,(hb.block R aB).trans hR,hn,?_,hc⟩,FC⟩;rcases aq with h|⟨b,off,rfl,Gq,aq⟩
 .exact .inl h
 .exact .inr ⟨b,off,rfl,Gq,λi hi=>(hb.cell (p:=⟨b,off+i,none⟩) cU).trans<|aq i hi⟩
def Rd.lt (hr:Rd w R p):R<w:=by
 let⟨⟨a,n,cap,c,hR,_⟩,_⟩:=hr;exact(ac7.1 hR).1
def Q1 (hr:Rd w R p)(ay:Nat)(h0:ay<=R):Rd (w.setCell ⟨R,1,none⟩<|.int .i64<|p+1) R (p+1)/\fH R w (w.setCell ⟨R,1,none⟩<|.int .i64<|p+1)/\Below ay w (w.setCell ⟨R,1,none⟩<|.int .i64<|p+1):=by
 let⟨⟨a,n,cap,c,hR,hn,aq,hc⟩,FC⟩:=hr;refine⟨⟨⟨a,n,cap,c,?_,hn,?_,hc⟩,aa⟩,(fH.refl R w).setCell _ _,(acW ay w).setCell h0 _⟩
 .have:=heap_setCell_same w R 1 _ _ (.int .i64<|p+1) hR;simpa using this
 .rcases aq with h|⟨b,off,rfl,hb,aq⟩
  .exact .inl h
  .exact .inr ⟨b,off,rfl,hb,λi hi=>by rw[World.cell?_setCell_other _ _ _ _ qB];exact aq i hi⟩
def bG (R:Nat)(p:Int)(m:Int)(w:World)(ay:Nat)(h0:ay<=R)(hr:Rd w R p)(hp:p<=1000000)(hm:1<=m)(lU:m<=100000):
  Calls Tz.prog 34 #[.pointer R,m] w λe w'=>(∃z:Int,e=.returned (.int .i64 z)/\0<=z/\z<m)/\Rd w' R (p+1)/\fH R w w'/\Below ay w w':=by
 let⟨⟨a,n,cap,c,hR,hn,aq,hc⟩,FC⟩:=hr;have c0:w.cell? R=some (.slice a n cap):=by rw[cell_of_row _ _ _ _ _ _ hR];rfl
 have c1:w.cell? ⟨R,1,none⟩=some (.int .i64 p):=by rw[cell_of_row _ _ _ _ _ _ hR];rfl
 have f1:w.frozen? ⟨R,1,none⟩=false:=frozen_of_row w _ 1 _ _ hR;let⟨nD,bP,cP⟩:=Q1 ⟨⟨a,n,cap,c,hR,hn,aq,hc⟩,FC⟩ ay h0;have u_:Hid (Rd (w.setCell ⟨R,1,none⟩<|.int .i64<|p+1) R<|p+1):=nD;have d0:(w.setCell ⟨R,1,none⟩<|.int .i64<|p+1).cell? R=some (.slice a n cap):=by rw[World.cell?_setCell_other _ _ _ _ aF];exact c0
 have d1:(w.setCell ⟨R,1,none⟩<|.int .i64<|p+1).cell? ⟨R,1,none⟩=some (.int .i64<|p+1):=World.cell?_setCell_same' _ _ _ (by rw[c1];rfl);clear nD;by_cases YU:n=0
 .subst YU;go_enter Tz.func34,Tryz.ntmps34
  go_wp2;go_ret;exact⟨⟨0,rfl,aa,aa⟩,u_.out,bP,cP⟩
 .obtain⟨b,off,rfl,Gq,nR⟩:∃b off,a=some ⟨b,off,none⟩/\b<R/\sA w b off n c:=by rcases aq with h|h;exact absurd h YU;exact h
  have Ut:sA (w.setCell ⟨R,1,none⟩<|.int .i64<|p+1) b off n c:=λi hi=>by rw[World.cell?_setCell_other _ _ _ _ qB];exact nR i hi
  have Su:(0:Int)<n:=aa;have hnz:((n:Int)==0)=false:=cU;have hmz:¬m<1:=aa;by_cases aB:p<n
  .obtain⟨q,hq⟩:∃q:Nat,p=(q:Int):=⟨p.toNat,aa⟩;subst hq;have hqn:q<n:=aa;have e0:=Ut q hqn;let⟨z0,z1⟩:=hc q hqn;have gj:0<=c q%m:=Int.emod_nonneg _ aa;have eO:c q%m<m:=Int.emod_lt_of_pos _ aa;have HZ:Hid (0<=c q%m/\c q%m<m):=by
    have h:0<=c q%m/\c q%m<m:=⟨gj,eO⟩;exact h
   clear gj eO;go_enter Tz.func34,Tryz.ntmps34
   go_wp2;go_ret;exact⟨⟨c q%m,rfl,HZ.out.1,HZ.out.2⟩,u_.out,bP,cP⟩
  .obtain⟨j1,hj1⟩:∃j1:Nat,p%(n:Int)=(j1:Int):=⟨(p%(n:Int)).toNat,by have:=Int.emod_nonneg p (show(n:Int)≠0 by omega);omega⟩;obtain⟨j2,hj2⟩:∃j2:Nat,(p*7+3)%(n:Int)=(j2:Int):=⟨((p*7+3)%(n:Int)).toNat,by have:=Int.emod_nonneg (p*7+3) (show(n:Int)≠0 by omega);omega⟩;have Ll:j1<n:=by have:=Int.emod_lt_of_pos p Su;omega
   have O5:j2<n:=by have:=Int.emod_lt_of_pos (p*7+3) Su;omega
   have YK:(j1:Int)<n:=aa;have acg:(j2:Int)<n:=aa;let⟨x0,x1⟩:=hc j1 Ll;let⟨y0,y1⟩:=hc j2 O5;have Ka:0<=p/(n:Int):=Int.ediv_nonneg FC aa;have DS:p/(n:Int)<=p:=Int.ediv_le_self _ FC;have hne:=aG<|w.setCell ⟨R,1,none⟩<|.int .i64<|p+1;have g0:=λx:ai (w.setCell ⟨R,1,none⟩<|.int .i64<|p+1)=>x.cell d0
   have g1:=λx:ai (w.setCell ⟨R,1,none⟩<|.int .i64<|p+1)=>x.cell<|Ut j1 Ll
   have g2:=λx:ai (w.setCell ⟨R,1,none⟩<|.int .i64<|p+1)=>x.cell<|Ut j2 O5
   go_enter Tz.func34,Tryz.ntmps34
   go_wp2;refine kI ?_;intro w2 iw;go_wp2;go_ret;have hX0:0<=c j1*131+c j2*1117+p*29+p/(n:Int)*53:=aa;have hX1:c j1*131+c j2*1117+p*29+p/(n:Int)*53<1000000000:=aa;have hz:=RC _ m (RI _ ((c j1*131+c j2*1117+p*29+p/(n:Int)*53)/64) hX0 aa aa aa) hm;have YQ:R<(w.setCell ⟨R,1,none⟩<|.int .i64<|p+1).heap.size:=u_.out.lt;exact⟨⟨_,rfl,hz.1,hz.2⟩,u_.out.below iw,bP.trans<|fH.of iw,cP.trans<|iw.mono aa⟩
def Rd.drew (hr:Rd w R p):Rd w.drew R p:=by
 let⟨⟨a,n,cap,c,hR,hn,aq,hc⟩,FC⟩:=hr;refine⟨⟨a,n,cap,c,hR,hn,?_,hc⟩,FC⟩;rcases aq with h|⟨b,off,rfl,Gq,aq⟩
 .exact .inl h
 .exact .inr ⟨b,off,rfl,Gq,λi hi=>aq i hi⟩
def iB (w:World)(a:Option Addr)(n:Nat)(c:Nat->Int):Prop:=n<=maxLen/\(n=0\/∃b off,a=some ⟨b,off,none⟩/\b<w.heap.size/\sA w b off n c)/\∀i,i<n->0<=c i/\c i<=255
def Ey (a:Option Addr)(n cap:Nat)(c:Nat->Int)(w:World)(h:iB w a n c)(vy:n<=cap):
  Calls Tz.prog 33 #[.slice a n cap] w λe w'=>e=.returned (.pointer w.heap.size)/\Rd w' w.heap.size 0/\Below w w w':=by
 let⟨hn,aq,hc⟩:=h;unfold maxLen at hn;have hB:∀o,Below w w (w.alloc o):=λo=>(acW _ _).alloc (ac5 _) _
 by_cases hl:n<=2000
 .go_enter Tz.func33,Tryz.ntmps33
  go_wp2;go_ret;refine⟨rfl,⟨⟨a,n,cap,c,heap_alloc_new _ _,hl,?_,hc⟩,Int.le_refl _⟩,hB _⟩;rcases aq with h|⟨b,off,rfl,hb,aq⟩
  .exact .inl h
  .exact .inr ⟨b,off,rfl,hb,λi hi=>((hB _).cell (p:=⟨b,off+i,none⟩) hb).trans<|aq i hi⟩
 .obtain⟨b,off,rfl,hb,nR⟩:∃b off,a=some ⟨b,off,none⟩/\b<w.heap.size/\sA w b off n c:=by rcases aq with h|h;omega;exact h
  have h2:(2000:Int)<=cap:=aa;go_enter Tz.func33,Tryz.ntmps33
  go_wp2;go_ret;exact⟨rfl,⟨⟨some ⟨b,off,none⟩,2000,cap,c,heap_alloc_new _ _,ac5 _,.inr ⟨b,off,rfl,hb,λi hi=>((hB _).cell (p:=⟨b,off+i,none⟩) hb).trans<|nR i aa⟩,λi hi=>hc i aa⟩,Int.le_refl _⟩,hB _⟩
structure Dl (m:Mv)(s:ByteArray):Prop where
 name:m.name=s
 ap:1<=m.ap/\m.ap<=3
 span:-1<=m.aW/\m.aW<=m.late/\m.late<=10000
 prom:m.prom=-1
structure Bj (R:Nat)(p:Int)(k:Int)(ay:Nat)(w w':World):Prop where
 rd:∃q,p<=q/\q<=p+k/\Rd w' R q
 but:fH R w w'
 below:Below ay w w'
def Rd.set (hr:Rd w R p)(h:R<B)(o:Nat)(v:Value):Rd (w.setCell ⟨B,o,none⟩ v) R p:=by
 let⟨⟨a,n,cap,c,hR,hn,aq,hc⟩,FC⟩:=hr;refine⟨⟨a,n,cap,c,(acY w _ v R cU).trans hR,hn,?_,hc⟩,FC⟩;rcases aq with h'|⟨b,off,rfl,Gq,aq⟩
 .exact .inl h'
 .exact .inr ⟨b,off,rfl,Gq,λi hi=>by rw[World.cell?_setCell_other _ _ _ _ qB];exact aq i hi⟩
structure g9 (R Br Bm:Nat)(ay:Nat)(w:World)(m:Mv)(q:Int)(W:World):Prop where
 mv:bf W Bm m
 res:∃m0,bf W Br m0
 rd:Rd W R q
 but:∀k,k<w.heap.size->k≠R->W.heap[k]?=w.heap[k]?
 below:Below ay w W
def g9.drew (h:g9 R Br Bm ay w m q W):g9 R Br Bm ay w m q W.drew:=⟨h.mv,h.res,h.rd.drew,h.but,h.below.drew⟩
def g9.pick (h:g9 R Br Bm ay w m q W)(hr:R<w)(h1:R<Br)(h2:Br<Bm)(hz:w.heap.size<=Br)(hRd:Rd W' R (q+1))(hb:fH R W W')(hB:Below ay W W'):g9 R Br Bm ay w m (q+1) W':=by
 have lm:Bm<W:=(ac7.1 h.mv).1;let⟨m0,jb⟩:=h.res;exact⟨(hb.block Bm lm aa).trans h.mv,⟨m0,(hb.block Br aa aa).trans jb⟩,hRd,λk hk hne=>(hb.block k aa hne).trans<|h.but k hk hne,h.below.trans hB⟩
def g9.late (h:g9 R Br Bm ay w m q W)(h0:ay<=R)(h1:R<Br)(h2:Br<Bm)(hz:w.heap.size<=Br)(x:Int):g9 R Br Bm ay w {m with late:=x} q (W.setCell ⟨Bm,4,none⟩ x):=by
 let⟨m0,jb⟩:=h.res;refine⟨?_,⟨m0,(acY W _ _ Br cU).trans jb⟩,h.rd.set aa _ _,λk hk hne=>(acY W _ _ k cU).trans<|h.but k hk hne,h.below.setCell cU _⟩;have:=heap_setCell_same W Bm 4 _ _ x h.mv;simpa[bf]using this
def g9.aW (h:g9 R Br Bm ay w m q W)(h0:ay<=R)(h1:R<Br)(h2:Br<Bm)(hz:w.heap.size<=Br)(x:Int):g9 R Br Bm ay w {m with aW:=x} q (W.setCell ⟨Bm,3,none⟩ x):=by
 let⟨m0,jb⟩:=h.res;refine⟨?_,⟨m0,(acY W _ _ Br cU).trans jb⟩,h.rd.set aa _ _,λk hk hne=>(acY W _ _ k cU).trans<|h.but k hk hne,h.below.setCell cU _⟩;have:=heap_setCell_same W Bm 3 _ _ x h.mv;simpa[bf]using this
def p8 (W:World)(B o:Nat)(m:Mv)(k:Nat)(h:k≠B):(fq W B o m).heap[k]?=W.heap[k]?:=by
 unfold fq;rw[acY _ _ _ _ oO,acY _ _ _ _ oO,acY _ _ _ _ oO,acY _ _ _ _ oO,acY _ _ _ _ oO,acY _ _ _ _ oO]
def Rd.fq (h:Rd W R q)(hB:R<B)(o:Nat)(m:Mv):Rd (fq W B o m) R q:=
 (((((h.set hB _ _).set hB _ _).set hB _ _).set hB _ _).set hB _ _).set hB _ _
def g9.went (h:g9 R Br Bm ay w m q W)(h0:ay<=R)(h1:R<Br)(hz:w.heap.size<=Br)(m':Mv)(hq:p<=q/\q<=p+7):Bj R p 7 ay w (fq W Br 0 m'):=
 ⟨⟨q,hq.1,hq.2,h.rd.fq h1 _ _⟩,⟨by have:=h.below.size;simpa[fq]using this,λk hk hne=>(p8 W Br 0 m' k aa).trans<|h.but k hk hne⟩,va h.below aa 0 m'⟩
def lg (R:Nat)(p:Int)(s:ByteArray)(now:Int)(w:World)(ay:Nat)(h0:ay<=R)(hr:Rd w R p)(hp:p<=900000)(YU:-1<=now)(MT:now<=10009):
  Calls Tz.prog 35 #[.pointer R,s,now] w λe w'=>(∃m:Mv,e=.returned (.agg #[.string m.name,.bool m.aj,.int .i64 m.ap,.int .i64 m.aW,.int .i64 m.late,.int .i64 m.prom])/\Dl m s)/\Bj R p 7 ay w w':=by
 have hz:=hr.lt;have H1:=bG R p 5 (w.alloc<|.cells #[ByteArray.empty,false,(0:Int),(0:Int),(0:Int),(0:Int)] 31) ay h0 (hr.below<|(acW _ _).alloc (ac5 _) _) aa aa aa;go_enter Tz.func35,Tryz.ntmps35
 go_wp2_with(first
  |(go_at_call 34;refine H1.mono ?_;clear H1;rintro e w1 ⟨⟨z1,rfl,l1,u1⟩,r1,t1,b1⟩;have H2:=bG R _ 3 w1 ay h0 r1 aa aa aa)
  |(go_at_call 34;refine H2.mono ?_;clear H2;rintro e w2 ⟨⟨z2,rfl,l2,u2⟩,r2,t2,b2⟩;have H3:=bG R _ 16 w2 ay h0 r2 aa aa aa)
  |(go_at_call 34;refine H3.mono ?_;clear H3;rintro e w3 ⟨⟨z3,rfl,l3,u3⟩,r3,t3,b3⟩))
 have eO:=t1.size;have gM:=t2.size;have Nj:=t3.size;simp at eO;have hS:g9 R w.heap.size w3.heap.size ay w ⟨s,decide (z1<3),1+z2,now+z3,0,-1⟩ (p+1+1+1) (w3.alloc<|.cells #[s,.bool<|decide (z1<3),.int .i64<|1+z2,.int .i64<|now+z3,(0:Int),.int .i64 (-1)] 31):=by
  have bA:Below w3 w3 (w3.alloc<|.cells #[s,.bool<|decide (z1<3),.int .i64<|1+z2,.int .i64<|now+z3,(0:Int),.int .i64 (-1)] 31):=(acW _ _).alloc (ac5 _) _;have b0:Below w w (w.alloc<|.cells #[ByteArray.empty,false,(0:Int),(0:Int),(0:Int),(0:Int)] 31):=(acW _ _).alloc (ac5 _) _;have t03:=t1.trans<|t2.trans t3;refine⟨heap_alloc_new _ _,⟨⟨ByteArray.empty,false,0,0,0,0⟩,?_⟩,r3.below bA,λk hk hne=>?_,?_⟩
  .exact(bA.block w.heap.size aa).trans ((t03.block w.heap.size aF aa).trans<|heap_alloc_new _ _)
  .exact(bA.block k aa).trans ((t03.block k cU hne).trans<|b0.block k hk)
  .exact(b0.mono aa).trans (b1.trans<|b2.trans<|b3.trans<|bA.mono aa)
 revert hS;obtain⟨Br,gK⟩:∃Br,Br=w.heap.size:=⟨_,rfl⟩;obtain⟨Bm,XW⟩:∃Bm,Bm=w3.heap.size:=⟨_,rfl⟩;rw[<-XW];rw[<-gK];generalize (w3.alloc<|.cells #[.string s,.bool<|decide (z1<3),.int .i64<|1+z2,.int .i64<|now+z3,(0:Int),.int .i64 (-1)] 31)=W4;intro hS;have g1:R<Br:=aa;have g2:Br<Bm:=aa;have g3:w.heap.size<=Br:=aa;clear gK XW eO gM Nj r1 r2 r3 t1 t2 t3 b1 b2 b3;let⟨c0,c1,c2,c3,c4,c5⟩:=hS.mv.at_;simp only[Nat.zero_add]at c0 c1 c2 c3 c4 c5;have HP:=bG R _ 20 W4.drew ay h0 hS.drew.rd aa aa aa;go_region_held3 (λw'=>w'.cell? ⟨Bm,3,none⟩=some (.int .i64<|now+z3)) (go_keep)
  (first|(go_at_call 34;refine HP.mono ?_;clear HP;rintro e w5 ⟨⟨z4,rfl,l4,u4⟩,r5,t5,b5⟩;have gC:=hS.drew.pick hz g1 g2 g3 r5 t5 b5;let⟨d0,d1,d2,d3,d4,d5⟩:=gC.mv.at_;simp only[Nat.zero_add]at d0 d1 d2 d3 d4 d5;have f5:=gC.mv.frozen 4;have d34:∀v,(w5.setCell ⟨Bm,4,none⟩ v).cell? ⟨Bm,3,none⟩=some (.int .i64<|now+z3):=λv=>(World.cell?_setCell_other _ _ _ _ aF).trans d3;have Ce:IntKind.i64.wrap (now+z3+z4)=now+z3+z4:=hZ))
 have pb:=gC.late h0 g1 g2 g3<|now+z3+z4;revert pb;generalize w5.setCell ⟨Bm,4,none⟩ (.int .i64<|now+z3+z4)=W6;intro pb;clear gC d0 d1 d2 d3 d4 d5 f5 d34 Ce r5 t5 b5 hS c0 c1 c2 c3 c4 c5;obtain⟨L,hL⟩:∃L,now+z3+z4=L:=⟨_,rfl⟩;rw[hL]at pb;try rw[hL]
 have H7:=bG R _ 3 W6 ay h0 pb.rd aa aa aa;go_wp2_with(first
  |(go_at_call 34;refine H7.mono ?_;clear H7;rintro e w7 ⟨⟨z5,rfl,l5,u5⟩,r7,t7,b7⟩;have Fs:=pb.pick hz g1 g2 g3 r7 t7 b7;have H8:=bG R _ 30 w7 ay h0 Fs.rd aa aa aa)
  |(go_at_call 34;refine H8.mono ?_;clear H8;rintro e w8 ⟨⟨z6,rfl,l6,u6⟩,r8,t8,b8⟩;have Gp:=Fs.pick hz g1 g2 g3 r8 t8 b8;let⟨d0,d1,d2,d3,d4,d5⟩:=Gp.mv.at_;simp only[Nat.zero_add]at d0 d1 d2 d3 d4 d5;have f4:=Gp.mv.frozen 4;have f3:=Gp.mv.frozen 3;let⟨m0,jb⟩:=Gp.res;let⟨k0,k1,k2,k3,k4,k5⟩:=jb.at_;simp only[Nat.zero_add]at k0 k1 k2 k3 k4 k5;have fr:=jb.frozen))
 focus
  clear H8;let⟨c0,c1,c2,c3,c4,c5⟩:=Fs.mv.at_;simp only[Nat.zero_add]at c0 c1 c2 c3 c4 c5;have HP:=bG R _ 40 w7.drew ay h0 Fs.drew.rd aa aa aa;have hwa:IntKind.i64.wrap (now+z3+20)=now+z3+20:=hZ;go_region_held3 (λw'=>w'.cell? ⟨Bm,3,none⟩=some (.int .i64<|now+z3)) (go_keep)
   (first|(go_at_call 34;refine HP.mono ?_;clear HP;rintro e w5 ⟨⟨z7,rfl,l7,u7⟩,r5,t5,b5⟩;have gC:=Fs.drew.pick hz g1 g2 g3 r5 t5 b5;let⟨d0,d1,d2,d3,d4,d5⟩:=gC.mv.at_;simp only[Nat.zero_add]at d0 d1 d2 d3 d4 d5;have f5:=gC.mv.frozen 4;have d34:∀v,(w5.setCell ⟨Bm,4,none⟩ v).cell? ⟨Bm,3,none⟩=some (.int .i64<|now+z3):=λv=>(World.cell?_setCell_other _ _ _ _ aF).trans d3;have Ce:IntKind.i64.wrap (now+z3+20+z7)=now+z3+20+z7:=hZ))
  have X4:=gC.late h0 g1 g2 g3<|now+z3+20+z7;revert X4;generalize w5.setCell ⟨Bm,4,none⟩ (.int .i64<|now+z3+20+z7)=W9;intro X4;clear gC d0 d1 d2 d3 d4 d5 f5 d34 Ce r5 t5 b5 c0 c1 c2 c3 c4 c5;clear hL;obtain⟨L,hL⟩:∃L,now+z3+20+z7=L:=⟨_,rfl⟩;rw[hL]at X4;try rw[hL]
  have H8:=bG R _ 30 W9 ay h0 X4.rd aa aa aa;go_wp2_with(first
   |(go_at_call 34;refine H8.mono ?_;clear H8;rintro e w8 ⟨⟨z6,rfl,l6,u6⟩,r8,t8,b8⟩;have Gp:=X4.pick hz g1 g2 g3 r8 t8 b8;let⟨d0,d1,d2,d3,d4,d5⟩:=Gp.mv.at_;simp only[Nat.zero_add]at d0 d1 d2 d3 d4 d5;have f4:=Gp.mv.frozen 4;have f3:=Gp.mv.frozen 3;let⟨m0,jb⟩:=Gp.res;let⟨k0,k1,k2,k3,k4,k5⟩:=jb.at_;simp only[Nat.zero_add]at k0 k1 k2 k3 k4 k5;have fr:=jb.frozen))
 all_goals first
  |(exfalso;omega)
  |(have hx:(z6==0)=false/\L<=10000:=⟨by assumption,aa⟩;let⟨m1,lU⟩:=(Gp).res;have q:=gQ (w8) Br 0 ⟨s,decide (z1<3),1+z2,now+z3,L,-1⟩ _ _ lU aF;let⟨q0,q1,q2,q3,q4,q5⟩:=q;simp only[Nat.zero_add]at q0 q1 q2 q3 q4 q5;change bodyPost _ _ _ _ _ (fq (w8) Br 0 ⟨s,decide (z1<3),1+z2,now+z3,L,-1⟩);exact bodyPost_ret (v:=.agg #[.string s,.bool<|decide (z1<3),.int .i64<|1+z2,.int .i64<|now+z3,.int .i64<|L,.int .i64 (-1)]) (by simp[results,Tryz.results35,go_sem,q0,q1,q2,q3,q4,q5]) rfl ⟨⟨⟨s,decide (z1<3),1+z2,now+z3,L,-1⟩,rfl,⟨rfl,F1,F1,rfl⟩⟩,(Gp).went h0 g1 g3 _ aa⟩)
  |(have hx:((z6==0)=true\/10000<L)/\now+z3<=10000:=⟨by first|exact .inl (by assumption)|exact .inr aa,aa⟩;let⟨m1,lU⟩:=(Gp.late h0 g1 g2 g3 10000).res;have q:=gQ (w8.setCell ⟨Bm,4,none⟩<|.int .i64 10000) Br 0 ⟨s,decide (z1<3),1+z2,now+z3,10000,-1⟩ _ _ lU aF;let⟨q0,q1,q2,q3,q4,q5⟩:=q;simp only[Nat.zero_add]at q0 q1 q2 q3 q4 q5;change bodyPost _ _ _ _ _ (fq (w8.setCell ⟨Bm,4,none⟩<|.int .i64 10000) Br 0 ⟨s,decide (z1<3),1+z2,now+z3,10000,-1⟩);exact bodyPost_ret (v:=.agg #[.string s,.bool<|decide (z1<3),.int .i64<|1+z2,.int .i64<|now+z3,.int .i64<|10000,.int .i64 (-1)]) (by simp[results,Tryz.results35,go_sem,q0,q1,q2,q3,q4,q5]) rfl ⟨⟨⟨s,decide (z1<3),1+z2,now+z3,10000,-1⟩,rfl,⟨rfl,F1,F1,rfl⟩⟩,(Gp.late h0 g1 g2 g3 10000).went h0 g1 g3 _ aa⟩)
  |(have hx:((z6==0)=true\/10000<L)/\10000<now+z3:=⟨by first|exact .inl (by assumption)|exact .inr aa,aa⟩;let⟨m1,lU⟩:=((Gp.late h0 g1 g2 g3 10000).aW h0 g1 g2 g3 10000).res;have q:=gQ ((w8.setCell ⟨Bm,4,none⟩<|.int .i64 10000).setCell ⟨Bm,3,none⟩<|.int .i64 10000) Br 0 ⟨s,decide (z1<3),1+z2,10000,10000,-1⟩ _ _ lU aF;let⟨q0,q1,q2,q3,q4,q5⟩:=q;simp only[Nat.zero_add]at q0 q1 q2 q3 q4 q5;change bodyPost _ _ _ _ _ (fq ((w8.setCell ⟨Bm,4,none⟩<|.int .i64 10000).setCell ⟨Bm,3,none⟩<|.int .i64 10000) Br 0 ⟨s,decide (z1<3),1+z2,10000,10000,-1⟩);exact bodyPost_ret (v:=.agg #[.string s,.bool<|decide (z1<3),.int .i64<|1+z2,.int .i64<|10000,.int .i64<|10000,.int .i64 (-1)]) (by simp[results,Tryz.results35,go_sem,q0,q1,q2,q3,q4,q5]) rfl ⟨⟨⟨s,decide (z1<3),1+z2,10000,10000,-1⟩,rfl,⟨rfl,F1,F1,rfl⟩⟩,((Gp.late h0 g1 g2 g3 10000).aW h0 g1 g2 g3 10000).went h0 g1 g3 _ aa⟩)
def Nms (cs:Array Value):Prop:=∀i,i<6->∃s:ByteArray,cs[i]?=some (.string s)/\s.size<=8
def qm (w:World):
  Calls Tz.prog 37 #[] w λe w'=>e=.returned (.slice (some ⟨w.heap.size,0,none⟩) 6 6)/\(∃cs,w'.heap[w.heap.size]?=some (.cells cs 9 (0,0))/\Nms cs)/\Below w.heap.size w w':=by
 go_enter Tz.func37,Tryz.ntmps37
 go_wp2;go_ret;refine⟨rfl,⟨_,heap_alloc_new _ _,λi hi=>?_⟩,(acW _ _).alloc (ac5 _) _⟩;match i,hi with
 |0,_=>exact⟨_,rfl,bF⟩
 |1,_=>exact⟨_,rfl,bF⟩
 |2,_=>exact⟨_,rfl,bF⟩
 |3,_=>exact⟨_,rfl,bF⟩
 |4,_=>exact⟨_,rfl,bF⟩
 |5,_=>exact⟨_,rfl,bF⟩
structure Ds (R Bn ay:Nat)(w:World)(v:Value)(n:Nat)(f:Nat->Mv)(q:Int)(W:World):Prop where
 own:W.ownsRow w.heap.size 31 6 v n (gH f n)
 nm:∃cs,W.heap[Bn]?=some (.cells cs 9 (0,0))/\Nms cs
 rd:Rd W R q
 but:fH R w W
 below:Below ay w W
 pl:uv W v
def bf.but (h:bf w b m)(hb:fH R w w')(hne:b≠R):bf w' b m:=(hb.block b (ac7.1 h).1 hne).trans h
def bf.lt (h:bf w b m):b<w.heap.size:=(ac7.1 h).1
def kW {o:Nat}(hb:fH R w w')(aB:b<w.heap.size)(hne:b≠R):w'.cell? ⟨b,o,none⟩=w.cell? ⟨b,o,none⟩:=ac2 (a:=⟨b,o,none⟩)<|hb.block b aB hne
structure Ms (R Bn ay:Nat)(w:World)(v:Value)(n:Nat)(f:Nat->Mv)(q:Int)(Bm:Nat)(m:Mv)(W:World):Prop where
 ds:Ds R Bn ay w v n f q W
 mv:bf W Bm m
 lo:w.heap.size<=Bm
 nn:Bm≠Bn
 no:v.ownBlock≠some Bm
structure Good (m:Mv):Prop where
 name:m.name.size<=8
 ap:1<=m.ap/\m.ap<=3
 span:-1<=m.aW/\m.aW<=m.late/\m.late<=10000
 prom:-1<=m.prom/\m.prom<=10000
def Good.of {s:ByteArray}(h:Dl m s)(h8:s.size<=8):Good m:=⟨by rw[h.name];exact h8,h.ap,h.span,by have:=h.prom;omega⟩
structure iz (m:Mv):Prop where
 name:m.name.size<=8
 ap:-9223372036854775808<=m.ap/\m.ap<=9223372036854775807
 aW:-9223372036854775808<=m.aW/\m.aW<=9223372036854775807
 late:-9223372036854775808<=m.late/\m.late<=9223372036854775807
 prom:-9223372036854775808<=m.prom/\m.prom<=9223372036854775807
def Good.fitting (h:Good m):iz m:=by
 let⟨h1,h2,h3,h4⟩:=h;exact⟨h1,aa,aa,aa,aa⟩
def g9.to {q':Int}(h:g9 R Br Bm ay w m q W)(hr:R<w)(h1:w.heap.size<=Br)(h2:w.heap.size<=Bm)(hRd:Rd W' R q')(hb:fH R W W')(hB:Below ay W W'):g9 R Br Bm ay w m q' W':=by
 have hs:=h.below.size;let⟨m0,jb⟩:=h.res;exact⟨h.mv.but hb aa,⟨m0,jb.but hb aa⟩,hRd,λk hk hne=>(hb.block k aa hne).trans<|h.but k hk hne,h.below.trans hB⟩
def g9.alloc (h:g9 R Br Bm ay w m q W)(hr:R<w)(h0:ay<=R)(h1:w.heap.size<=Br)(h2:w.heap.size<=Bm)(o:Obj):g9 R Br Bm ay w m q (W.alloc o):=by
 have hb:Below W W (W.alloc o):=(acW _ _).alloc (ac5 _) _;exact h.to hr h1 h2 (h.rd.below hb) (fH.of hb)<|hb.mono (by have:=h.rd.lt;omega)
def g9.turn {m':Mv}(h:g9 R Br Bm ay w m q W)(hr:R<w)(h0:ay<=R)(h1:w.heap.size<=Br)(h2:w.heap.size<=Bm)(hne:Br≠Bm)(k:Nat)(v:Value)(hv:bf (W.setCell ⟨Bm,k,none⟩ v) Bm m'):g9 R Br Bm ay w m' q (W.setCell ⟨Bm,k,none⟩ v):=by
 let⟨m0,jb⟩:=h.res;exact⟨hv,⟨m0,(acY W _ _ Br<|by simpa using hne).trans jb⟩,h.rd.set aa _ _,λk hk hne=>(acY W _ _ k cU).trans<|h.but k hk hne,h.below.setCell cU _⟩
def bf.name (h:bf W b m)(x:ByteArray):bf (W.setCell b x) b {m with name:=x}:=by
 have:=heap_setCell_same W b 0 _ _ x h;simpa[bf]using this
def bf.ap (h:bf W b m)(x:Int):bf (W.setCell ⟨b,2,none⟩ x) b {m with ap:=x}:=by
 have:=heap_setCell_same W b 2 _ _ x h;simpa[bf]using this
def bf.aW (h:bf W b m)(x:Int):bf (W.setCell ⟨b,3,none⟩ x) b {m with aW:=x}:=by
 have:=heap_setCell_same W b 3 _ _ x h;simpa[bf]using this
def bf.late (h:bf W b m)(x:Int):bf (W.setCell ⟨b,4,none⟩ x) b {m with late:=x}:=by
 have:=heap_setCell_same W b 4 _ _ x h;simpa[bf]using this
def bf.prom (h:bf W b m)(x:Int):bf (W.setCell ⟨b,5,none⟩ x) b {m with prom:=x}:=by
 have:=heap_setCell_same W b 5 _ _ x h;simpa[bf]using this
def Xt (a b c:Int)(k:Nat)(hk:k<3):∃v:Int,(#[a,b,c]:Array Value)[k]?=some (.int .i64 v)/\(v=a\/v=b\/v=c):=by
 match k,hk with
 |0,_=>exact⟨a,rfl,.inl rfl⟩
 |1,_=>exact⟨b,rfl,.inr<|.inl rfl⟩
 |2,_=>exact⟨c,rfl,.inr<|.inr rfl⟩
def at4 (a b c d:Int)(k:Nat)(hk:k<4):∃v:Int,(#[a,b,c,d]:Array Value)[k]?=some (.int .i64 v)/\(v=a\/v=b\/v=c\/v=d):=by
 match k,hk with
 |0,_=>exact⟨a,rfl,.inl rfl⟩
 |1,_=>exact⟨b,rfl,.inr<|.inl rfl⟩
 |2,_=>exact⟨c,rfl,.inr<|.inr<|.inl rfl⟩
 |3,_=>exact⟨d,rfl,.inr<|.inr<|.inr rfl⟩
def at5 (a b c d e:Int)(k:Nat)(hk:k<5):∃v:Int,(#[a,b,c,d,e]:Array Value)[k]?=some (.int .i64 v)/\(v=a\/v=b\/v=c\/v=d\/v=e):=by
 match k,hk with
 |0,_=>exact⟨a,rfl,.inl rfl⟩
 |1,_=>exact⟨b,rfl,.inr<|.inl rfl⟩
 |2,_=>exact⟨c,rfl,.inr<|.inr<|.inl rfl⟩
 |3,_=>exact⟨d,rfl,.inr<|.inr<|.inr<|.inl rfl⟩
 |4,_=>exact⟨e,rfl,.inr<|.inr<|.inr<|.inr rfl⟩
def Vf (R:Nat)(p:Int)(b:Nat)(f:Nat->ByteArray)(w:World)(ay:Nat)(h0:ay<=R)(hr:Rd w R p)(hp:p<=1000000)(Gq:b≠R)(hb:b<w)(hf:∀i,i<4->w.cell? ⟨b,i,none⟩=some (.string<|f i)):
  Calls Tz.prog 36 #[.pointer R,.slice b 4 4] w λe w'=>(∃i,i<4/\e=.returned (.string<|f i))/\Rd w' R (p+1)/\fH R w w'/\Below ay w w':=by
 have H1:=bG R p 4 w ay h0 hr aa aa aa;go_enter Tz.func36,Tryz.ntmps36
 go_wp2_with(go_at_call 34;refine H1.mono ?_;clear H1;rintro e w1 ⟨⟨z,rfl,l1,u1⟩,r1,t1,b1⟩;obtain⟨k,rfl⟩:∃k:Nat,z=(k:Int):=⟨z.toNat,aa⟩;have hc:w1.cell? ⟨b,k,none⟩=some (.string<|f k):=(kW t1 hb Gq).trans<|hf k aa)
 go_ret;exact⟨⟨k,aa,rfl⟩,r1,t1,b1⟩
def pB:Nat->ByteArray
 |0=>⟨#[]⟩
 |1=>⟨#[65]⟩
 |2=>⟨#[122,122]⟩
 |_=>⟨#[97,49]⟩
def JV (k:Nat):(pB k).size<=8:=by
 match k with
 |0=>decide
 |1=>decide
 |2=>decide
 |_+3=>exact(by decide:(⟨#[97,49]⟩:ByteArray).size<=8)
def P7 (W:World):∀i,i<4->(W.alloc<|.cells #[.string ⟨#[]⟩,.string ⟨#[65]⟩,.string ⟨#[122,122]⟩,.string ⟨#[97,49]⟩] 9).cell? ⟨W.heap.size,i,none⟩=some (.string<|pB i):=λi hi=>by
 rw[World.cell?_alloc_at _ _ _ _ rfl];match i,hi with
 |0,_=>rfl
 |1,_=>rfl
 |2,_=>rfl
 |3,_=>rfl
def A1 (R:Nat)(p:Int)(m:Mv)(w:World)(ay:Nat)(h0:ay<=R)(hr:Rd w R p)(hp:p<=900000)(hg:Good m):
  Calls Tz.prog 54 #[.pointer<|some ⟨R,0,none⟩,.agg #[.string m.name,.bool m.aj,.int .i64 m.ap,.int .i64 m.aW,.int .i64 m.late,.int .i64 m.prom]] w λe w'=>(∃m':Mv,e=.returned (.agg #[.string m'.name,.bool m'.aj,.int .i64 m'.ap,.int .i64 m'.aW,.int .i64 m'.late,.int .i64 m'.prom])/\iz m')/\Bj R p 7 ay w w':=by
 have hR:=hr.lt;have X3:g9 R (w.heap.size+1) w.heap.size ay w m p ((w.alloc<|.cells #[.string m.name,.bool m.aj,.int .i64 m.ap,.int .i64 m.aW,.int .i64 m.late,.int .i64 m.prom] 31).alloc<|.cells #[.string ByteArray.empty,.bool false,(0:Int),(0:Int),(0:Int),(0:Int)] 31):=by
  have bA:Below w.heap.size w (w.alloc<|.cells #[.string m.name,.bool m.aj,.int .i64 m.ap,.int .i64 m.aW,.int .i64 m.late,.int .i64 m.prom] 31):=(acW _ _).alloc (ac5 _) _;have bB:Below w.heap.size w ((w.alloc<|.cells #[.string m.name,.bool m.aj,.int .i64 m.ap,.int .i64 m.aW,.int .i64 m.late,.int .i64 m.prom] 31).alloc<|.cells #[.string ByteArray.empty,.bool false,(0:Int),(0:Int),(0:Int),(0:Int)] 31):=bA.alloc aF _;have bC:∀o,Below (w.heap.size+1) (w.alloc<|.cells #[.string m.name,.bool m.aj,.int .i64 m.ap,.int .i64 m.aW,.int .i64 m.late,.int .i64 m.prom] 31) ((w.alloc<|.cells #[.string m.name,.bool m.aj,.int .i64 m.ap,.int .i64 m.aW,.int .i64 m.late,.int .i64 m.prom] 31).alloc o):=λo=>(acW _ _).alloc aF _
  exact⟨((bC _).block _ aa).trans<|heap_alloc_new _ _,⟨⟨ByteArray.empty,false,0,0,0,0⟩,by have:=heap_alloc_new (w.alloc<|.cells #[.string m.name,.bool m.aj,.int .i64 m.ap,.int .i64 m.aW,.int .i64 m.late,.int .i64 m.prom] 31)<|.cells #[.string ByteArray.empty,.bool false,(0:Int),(0:Int),(0:Int),(0:Int)] 31;simpa[bf]using this⟩,hr.below bB,λk hk _=>bB.block k hk,bB.mono aa⟩
 have H1:=bG R p 5 _ ay h0 X3.rd aa aa aa;go_enter Tz.func54,Tryz.ntmps54
 go_wp2_with(go_at_call 34;refine H1.mono ?_;clear H1;rintro e w1 ⟨⟨z1,rfl,l1,u1⟩,r1,t1,b1⟩;have y7:=X3.to hR aa aa r1 t1 b1)
 .have oR:=y7.alloc hR h0 aa aa<|.cells #[.string ⟨#[]⟩,.string ⟨#[65]⟩,.string ⟨#[122,122]⟩,.string ⟨#[97,49]⟩] 9;have H2:=Vf R (p+1) w1.heap.size pB _ ay h0 oR.rd aa (by have:=y7.rd.lt;omega) aF<|P7 w1;go_wp2_with(go_at_call 36;refine H2.mono ?_;clear H2;rintro e w4 ⟨⟨k,hk,rfl⟩,r4,t4,b4⟩;have fe:=oR.to hR aa aa r4 t4 b4;let⟨d0,d1,d2,d3,d4,d5⟩:=fe.mv.at_;simp only[Nat.zero_add]at d0 d1 d2 d3 d4 d5;have fr:=fe.mv.frozen 0;let⟨m0,jb⟩:=fe.res;let⟨k0,k1,k2,k3,k4,k5⟩:=jb.at_;simp only[Nat.zero_add]at k0 k1 k2 k3 k4 k5;have fr0:=jb.frozen)
  have hf:iz {m with name:=pB k}:=⟨JV k,hg.fitting.ap,hg.fitting.aW,hg.fitting.late,hg.fitting.prom⟩;have gC:=fe.turn hR h0 aa aa aa 0 _<|fe.mv.name<|pB k;let⟨m1,lU⟩:=gC.res;have q:=gQ (w4.setCell ⟨w.heap.size,0,none⟩<|.string<|pB k) (w.heap.size+1) 0 {m with name:=pB k} _ _ lU aF;let⟨q0,q1,q2,q3,q4,q5⟩:=q;simp only[Nat.zero_add]at q0 q1 q2 q3 q4 q5;change bodyPost _ _ _ _ _ (fq (w4.setCell ⟨w.heap.size,0,none⟩<|.string<|pB k) (w.heap.size+1) 0 {m with name:=pB k});exact bodyPost_ret (v:=.agg #[.string<|pB k,.bool m.aj,.int .i64 m.ap,.int .i64 m.aW,.int .i64 m.late,.int .i64 m.prom]) (by simp[results,Tryz.results54,go_sem,q0,q1,q2,q3,q4,q5]) rfl ⟨⟨{m with name:=pB k},rfl,hf⟩,gC.went h0 aa aa _ aa⟩
 .have oR:=y7.alloc hR h0 aa aa<|.cells #[(0:Int),(3:Int),(4:Int),.int .i64 (-9223372036854775808)] 3;have H2:=bG R (p+1) 4 _ ay h0 oR.rd aa aa aa;go_wp2_with(go_at_call 34;refine H2.mono ?_;clear H2;rintro e w4 ⟨⟨z,rfl,l4,u4⟩,r4,t4,b4⟩;have fe:=oR.to hR aa aa r4 t4 b4;obtain⟨k,rfl⟩:∃k:Nat,z=(k:Int):=⟨z.toNat,aa⟩;let⟨v,hv,Lo⟩:=at4 0 3 4 (-9223372036854775808) k aa;let⟨d0,d1,d2,d3,d4,d5⟩:=fe.mv.at_;simp only[Nat.zero_add]at d0 d1 d2 d3 d4 d5;have fr:=fe.mv.frozen 2;let⟨m0,jb⟩:=fe.res;let⟨k0,k1,k2,k3,k4,k5⟩:=jb.at_;simp only[Nat.zero_add]at k0 k1 k2 k3 k4 k5;have fr0:=jb.frozen;have hcv:w4.cell? ⟨w1.heap.size,k,none⟩=some (.int .i64 v):=(kW t4 aF (by have:=y7.rd.lt;omega)).trans<|(World.cell?_alloc_at _ _ _ _ rfl).trans hv)
  have hf:iz {m with ap:=v}:=⟨hg.fitting.name,F1,hg.fitting.aW,hg.fitting.late,hg.fitting.prom⟩;have gC:=fe.turn hR h0 aa aa aa 2 _<|fe.mv.ap v;let⟨m1,lU⟩:=gC.res;have q:=gQ (w4.setCell ⟨w.heap.size,2,none⟩<|.int .i64 v) (w.heap.size+1) 0 {m with ap:=v} _ _ lU aF;let⟨q0,q1,q2,q3,q4,q5⟩:=q;simp only[Nat.zero_add]at q0 q1 q2 q3 q4 q5;change bodyPost _ _ _ _ _ (fq (w4.setCell ⟨w.heap.size,2,none⟩<|.int .i64 v) (w.heap.size+1) 0 {m with ap:=v});exact bodyPost_ret (v:=.agg #[.string m.name,.bool m.aj,.int .i64 v,.int .i64 m.aW,.int .i64 m.late,.int .i64 m.prom]) (by simp[results,Tryz.results54,go_sem,q0,q1,q2,q3,q4,q5]) rfl ⟨⟨{m with ap:=v},rfl,hf⟩,gC.went h0 aa aa _ aa⟩
 .let⟨c0,c1,c2,c3,c4,c5⟩:=y7.mv.at_;simp only[Nat.zero_add]at c0 c1 c2 c3 c4 c5;have oR:=y7.drew;have hwl:IntKind.i64.wrap (m.late+1)=m.late+1:=by have:=hg.span;rw[IntKind.wrap_i64];omega
  have n1:w.heap.size≠w1.heap.size:=adn y7.mv.lt;have n2:=n1.symm;have HP:∀W,g9 R (w.heap.size+1) w.heap.size ay w m (p+1) W->Calls Tz.prog 34 #[.pointer<|some ⟨R,0,none⟩,.int .i64 3] W λe w'=>∃z:Nat,e=.returned (.int .i64 (z:Int))/\z<3/\g9 R (w.heap.size+1) w.heap.size ay w m (p+1+1) w'/\fH R W w':=λW hW=>
   (bG R (p+1) 3 W ay h0 hW.rd aa aa aa).mono (λe w' ⟨⟨z,h1,h2,h3⟩,h4,h5,h6⟩=>⟨z.toNat,by rw[h1];congr 2;omega,aa,hW.to hR aa aa h4 h5 h6,h5⟩)
  go_region_with
   (first
    |(go_at_call 34;refine(HP _ oR).mono ?_;clear HP;rintro e w4 ⟨k,rfl,hk,fe,t4⟩;let⟨v,hv,Lo⟩:=Xt (-1) m.late (m.late+1) k hk;have Fx:(k:Int)<3:=aa;have mY:(0:Int)<=(k:Int):=aa;let⟨d0,d1,d2,d3,d4,d5⟩:=fe.mv.at_;simp only[Nat.zero_add]at d0 d1 d2 d3 d4 d5;have fr:=fe.mv.frozen 3;have n4:=adn fe.mv.lt;have n5:=n4.symm;have cA:∀o,(w4.alloc o).cell? ⟨w.heap.size,3,none⟩=some (.int .i64 m.aW):=λo=>(by have:=(fe.alloc hR h0 aa aa o).mv.at_.c3;simpa using this);have fA:∀o,(w4.alloc o).frozen? ⟨w.heap.size,3,none⟩=false:=λo=>(fe.alloc hR h0 aa aa o).mv.frozen 3;have cV:(w4.alloc<|.cells #[.int .i64 (-1),.int .i64 m.late,.int .i64<|m.late+1] 3).cell? ⟨w4.heap.size,k,none⟩=some (.int .i64 v):=(World.cell?_alloc_at _ _ _ _ rfl).trans hv;have UY:[Value.int .i64 (-1),Value.int .i64 m.late,Value.int .i64 (m.late+1)][k]?=some (.int .i64 v):=(by simpa using hv))
    |(go_at_call 34;refine(HP _<|oR.alloc hR h0 aa aa _).mono ?_;clear HP;rintro e w4 ⟨k,rfl,hk,fe,t4⟩;let⟨v,hv,Lo⟩:=Xt (-1) m.late (m.late+1) k hk;have Fx:(k:Int)<3:=aa;have mY:(0:Int)<=(k:Int):=aa;let⟨d0,d1,d2,d3,d4,d5⟩:=fe.mv.at_;simp only[Nat.zero_add]at d0 d1 d2 d3 d4 d5;have fr:=fe.mv.frozen 3;have hcv:w4.cell? ⟨w1.heap.size,k,none⟩=some (.int .i64 v):=(kW t4 aF (by have:=y7.rd.lt;omega)).trans<|(World.cell?_alloc_at _ _ _ _ rfl).trans hv))
  all_goals have hf:iz {m with aW:=v}:=⟨hg.fitting.name,hg.fitting.ap,by have:=hg.span;simp only;omega,hg.fitting.late,hg.fitting.prom⟩
  all_goals first
   |(have gC:=fe.turn hR h0 aa aa aa 3 _ (fe.mv.aW v)
     revert gC hf;generalize w4.setCell ⟨w.heap.size,3,none⟩ (.int .i64 v)=W5;generalize ({m with aW:=v}:Mv)=m';intro hf gC;clear hcv)
   |(have gC:=(fe.alloc hR h0 aa aa<|.cells #[.int .i64 (-1),.int .i64 m.late,.int .i64<|m.late+1] 3).turn hR h0 aa aa aa 3 _ ((fe.alloc hR h0 aa aa<|.cells #[.int .i64 (-1),.int .i64 m.late,.int .i64<|m.late+1] 3).mv.aW v)
     revert gC hf;generalize (w4.alloc<|.cells #[.int .i64 (-1),.int .i64 m.late,.int .i64<|m.late+1] 3).setCell ⟨w.heap.size,3,none⟩ (.int .i64 v)=W5;generalize ({m with aW:=v}:Mv)=m';intro hf gC;clear cA fA cV UY n4 n5)
  all_goals
   clear hv Lo d0 d1 d2 d3 d4 d5 fr t4 fe oR y7 c0 c1 c2 c3 c4 c5 n1 n2;let⟨d0,d1,d2,d3,d4,d5⟩:=gC.mv.at_;simp only[Nat.zero_add]at d0 d1 d2 d3 d4 d5;let⟨m0,jb⟩:=gC.res;let⟨k0,k1,k2,k3,k4,k5⟩:=jb.at_;simp only[Nat.zero_add]at k0 k1 k2 k3 k4 k5;have fr:=jb.frozen;go_wp2;have q:=gQ W5 (w.heap.size+1) 0 m' _ _ jb aF;let⟨q0,q1,q2,q3,q4,q5⟩:=q;simp only[Nat.zero_add]at q0 q1 q2 q3 q4 q5;change bodyPost _ _ _ _ _ (fq W5 (w.heap.size+1) 0 m');exact bodyPost_ret (v:=.agg #[.string m'.name,.bool m'.aj,.int .i64 m'.ap,.int .i64 m'.aW,.int .i64 m'.late,.int .i64 m'.prom]) (by simp[results,Tryz.results54,go_sem,q0,q1,q2,q3,q4,q5]) rfl ⟨⟨m',rfl,hf⟩,gC.went h0 aa aa _ aa⟩
 .let⟨c0,c1,c2,c3,c4,c5⟩:=y7.mv.at_;simp only[Nat.zero_add]at c0 c1 c2 c3 c4 c5;have oR:=y7.drew;have n1:w.heap.size≠w1.heap.size:=adn y7.mv.lt;have n2:=n1.symm;have HP:∀W,g9 R (w.heap.size+1) w.heap.size ay w m (p+1) W->Calls Tz.prog 34 #[.pointer<|some ⟨R,0,none⟩,.int .i64 3] W λe w'=>∃z:Nat,e=.returned (.int .i64 (z:Int))/\z<3/\g9 R (w.heap.size+1) w.heap.size ay w m (p+1+1) w'/\fH R W w':=λW hW=>
   (bG R (p+1) 3 W ay h0 hW.rd aa aa aa).mono (λe w' ⟨⟨z,h1,h2,h3⟩,h4,h5,h6⟩=>⟨z.toNat,by rw[h1];congr 2;omega,aa,hW.to hR aa aa h4 h5 h6,h5⟩)
  go_region_with
   (first
    |(go_at_call 34;refine(HP _ oR).mono ?_;clear HP;rintro e w4 ⟨k,rfl,hk,fe,t4⟩;let⟨v,hv,Lo⟩:=Xt 10000 10001 m.aW k hk;have Fx:(k:Int)<3:=aa;have mY:(0:Int)<=(k:Int):=aa;let⟨d0,d1,d2,d3,d4,d5⟩:=fe.mv.at_;simp only[Nat.zero_add]at d0 d1 d2 d3 d4 d5;have fr:=fe.mv.frozen 4;have d34:∀v,(w4.setCell ⟨w.heap.size,4,none⟩ v).cell? ⟨w.heap.size,3,none⟩=some (.int .i64 m.aW):=λv=>(World.cell?_setCell_other _ _ _ _ aF).trans d3;have n4:=adn fe.mv.lt;have n5:=n4.symm;have cA:∀o,(w4.alloc o).cell? ⟨w.heap.size,4,none⟩=some (.int .i64 m.late):=λo=>(by have:=(fe.alloc hR h0 aa aa o).mv.at_.c4;simpa using this);have fA:∀o,(w4.alloc o).frozen? ⟨w.heap.size,4,none⟩=false:=λo=>(fe.alloc hR h0 aa aa o).mv.frozen 4;have dA:∀o v,((w4.alloc o).setCell ⟨w.heap.size,4,none⟩ v).cell? ⟨w.heap.size,3,none⟩=some (.int .i64 m.aW):=λo v=>(World.cell?_setCell_other _ _ _ _ aF).trans<|(World.cell?_alloc_past _ _ _ fe.mv.lt).trans d3;have cV:(w4.alloc<|.cells #[(10000:Int),(10001:Int),.int .i64 m.aW] 3).cell? ⟨w4.heap.size,k,none⟩=some (.int .i64 v):=(World.cell?_alloc_at _ _ _ _ rfl).trans hv;have UY:[Value.int .i64 10000,Value.int .i64 10001,Value.int .i64 m.aW][k]?=some (.int .i64 v):=(by simpa using hv))
    |(go_at_call 34;refine(HP _<|oR.alloc hR h0 aa aa _).mono ?_;clear HP;rintro e w4 ⟨k,rfl,hk,fe,t4⟩;let⟨v,hv,Lo⟩:=Xt 10000 10001 m.aW k hk;have Fx:(k:Int)<3:=aa;have mY:(0:Int)<=(k:Int):=aa;let⟨d0,d1,d2,d3,d4,d5⟩:=fe.mv.at_;simp only[Nat.zero_add]at d0 d1 d2 d3 d4 d5;have fr:=fe.mv.frozen 4;have d34:∀v,(w4.setCell ⟨w.heap.size,4,none⟩ v).cell? ⟨w.heap.size,3,none⟩=some (.int .i64 m.aW):=λv=>(World.cell?_setCell_other _ _ _ _ aF).trans d3;have hcv:w4.cell? ⟨w1.heap.size,k,none⟩=some (.int .i64 v):=(kW t4 aF (by have:=y7.rd.lt;omega)).trans<|(World.cell?_alloc_at _ _ _ _ rfl).trans hv))
  all_goals have hf:iz {m with late:=v}:=⟨hg.fitting.name,hg.fitting.ap,hg.fitting.aW,by have:=hg.span;simp only;omega,hg.fitting.prom⟩
  all_goals first
   |(have gC:=fe.turn hR h0 aa aa aa 4 _ (fe.mv.late v)
     revert gC hf;generalize w4.setCell ⟨w.heap.size,4,none⟩ (.int .i64 v)=W5;generalize ({m with late:=v}:Mv)=m';intro hf gC;clear hcv)
   |(have gC:=(fe.alloc hR h0 aa aa<|.cells #[(10000:Int),(10001:Int),.int .i64 m.aW] 3).turn hR h0 aa aa aa 4 _ ((fe.alloc hR h0 aa aa<|.cells #[(10000:Int),(10001:Int),.int .i64 m.aW] 3).mv.late v)
     revert gC hf;generalize (w4.alloc<|.cells #[(10000:Int),(10001:Int),.int .i64 m.aW] 3).setCell ⟨w.heap.size,4,none⟩ (.int .i64 v)=W5;generalize ({m with late:=v}:Mv)=m';intro hf gC;clear cA fA dA cV UY n4 n5)
  all_goals
   clear hv Lo d0 d1 d2 d3 d4 d5 fr d34 t4 fe oR y7 c0 c1 c2 c3 c4 c5 n1 n2;let⟨d0,d1,d2,d3,d4,d5⟩:=gC.mv.at_;simp only[Nat.zero_add]at d0 d1 d2 d3 d4 d5;let⟨m0,jb⟩:=gC.res;let⟨k0,k1,k2,k3,k4,k5⟩:=jb.at_;simp only[Nat.zero_add]at k0 k1 k2 k3 k4 k5;have fr:=jb.frozen;go_wp2;have q:=gQ W5 (w.heap.size+1) 0 m' _ _ jb aF;let⟨q0,q1,q2,q3,q4,q5⟩:=q;simp only[Nat.zero_add]at q0 q1 q2 q3 q4 q5;change bodyPost _ _ _ _ _ (fq W5 (w.heap.size+1) 0 m');exact bodyPost_ret (v:=.agg #[.string m'.name,.bool m'.aj,.int .i64 m'.ap,.int .i64 m'.aW,.int .i64 m'.late,.int .i64 m'.prom]) (by simp[results,Tryz.results54,go_sem,q0,q1,q2,q3,q4,q5]) rfl ⟨⟨m',rfl,hf⟩,gC.went h0 aa aa _ aa⟩
 .let⟨c0,c1,c2,c3,c4,c5⟩:=y7.mv.at_;simp only[Nat.zero_add]at c0 c1 c2 c3 c4 c5;have oR:=y7.drew;have FE:IntKind.i64.wrap (m.aW-1)=m.aW-1:=by have:=hg.span;rw[IntKind.wrap_i64];omega
  have GG:IntKind.i64.wrap (m.late+1)=m.late+1:=by have:=hg.span;rw[IntKind.wrap_i64];omega
  have n1:w.heap.size≠w1.heap.size:=adn y7.mv.lt;have n2:=n1.symm;have HP:∀W,g9 R (w.heap.size+1) w.heap.size ay w m (p+1) W->Calls Tz.prog 34 #[.pointer<|some ⟨R,0,none⟩,.int .i64 5] W λe w'=>∃z:Nat,e=.returned (.int .i64 (z:Int))/\z<5/\g9 R (w.heap.size+1) w.heap.size ay w m (p+1+1) w'/\fH R W w':=λW hW=>
   (bG R (p+1) 5 W ay h0 hW.rd aa aa aa).mono (λe w' ⟨⟨z,h1,h2,h3⟩,h4,h5,h6⟩=>⟨z.toNat,by rw[h1];congr 2;omega,aa,hW.to hR aa aa h4 h5 h6,h5⟩)
  refine wp_region_held_drew (S:=λw'=>w'.cell? ⟨w.heap.size,3,none⟩=some (.int .i64 m.aW)/\w'.cell? ⟨w.heap.size,4,none⟩=some (.int .i64 m.late)) bD ⟨c3,c4⟩ λhHeld=>?_;refine aO 0 (.pointer<|some ⟨w.heap.size,3,none⟩) 7 rfl zI hHeld ?_;refine aO 1 (.int .i64 m.aW) 8 rfl zI hHeld ?_;refine aO 2 (.int .i64<|m.aW-1) 9 rfl zI hHeld ?_;refine aO 3 (.pointer<|some ⟨w.heap.size,3,none⟩) 10 rfl zI hHeld ?_;refine aO 4 (.int .i64 m.aW) 11 rfl zI hHeld ?_;refine aO 5 (.pointer<|some ⟨w.heap.size,4,none⟩) 12 rfl zI hHeld ?_;refine aO 6 (.int .i64 m.late) 13 rfl zI hHeld ?_;refine aO 7 (.pointer<|some ⟨w.heap.size,4,none⟩) 14 rfl zI hHeld ?_;refine aO 8 (.int .i64 m.late) 15 rfl zI hHeld ?_;refine aO 9 (.int .i64<|m.late+1) 16 rfl zI hHeld ?_;refine aO 11 (.pointer<|some ⟨R,0,none⟩) 18 rfl zI hHeld ?_;simp only[Act.put,List.setIfInBounds_toArray,List.set_cons_zero,List.set_cons_succ];refine NW 10 12 rfl rfl (λK hK=>?_) λK hK=>?_
  .go_simp
   have Lg:=(y7.alloc hR h0 aa aa<|.cells #[.int .i64 (-2),.int .i64<|m.aW-1,.int .i64 m.aW,.int .i64 m.late,.int .i64<|m.late+1] 3).drew;let⟨a0,a1,a2,a3,a4,a5⟩:=Lg.mv.at_;simp only[Nat.zero_add]at a0 a1 a2 a3 a4 a5;refine hK.out _ _ ⟨a3,a4⟩ λhHeld=>?_;clear hK K;refine iX 12 rfl λK hK=>?_;go_simp
   go_at_call 34
   refine(HP _ Lg).mono ?_;rintro e w4 ⟨k,rfl,hk,fe,t4⟩;let⟨v,hv,Lo⟩:=at5 (-2) (m.aW-1) m.aW m.late (m.late+1) k hk;have Fx:(k:Int)<5:=aa;have mY:(0:Int)<=(k:Int):=aa;let⟨d0,d1,d2,d3,d4,d5⟩:=fe.mv.at_;simp only[Nat.zero_add]at d0 d1 d2 d3 d4 d5;have hcv:w4.cell? ⟨w1.heap.size,k,none⟩=some (.int .i64 v):=(kW t4 aF (by have:=y7.rd.lt;omega)).trans<|(World.cell?_alloc_at _ _ _ _ rfl).trans hv;have fr5:=fe.mv.frozen 5;go_wp2_with fail
   refine hK.out _ _ ⟨d3,d4⟩ λhHeld=>?_;clear hK K;refine iX 13 rfl λK hK=>?_;go_simp
   refine hK.out _ _ ⟨d3,d4⟩ λhHeld=>?_;clear hK K;refine iX 14 rfl λK hK=>?_;go_simp
   refine hK.out _ _ ⟨d3,d4⟩ λhHeld=>?_;clear hK K;refine iX 15 rfl λK hK=>?_;go_simp
   refine hK.out _ _ ⟨d3,d4⟩ λhHeld=>?_;clear hK K;refine iX 16 rfl λK hK=>?_;go_simp
   have gC:=fe.turn hR h0 aa aa aa 5 _<|fe.mv.prom v;let⟨b0,b1,b2,b3,b4,b5⟩:=gC.mv.at_;simp only[Nat.zero_add]at b0 b1 b2 b3 b4 b5;refine hK.out _ _ ⟨b3,b4⟩ λhHeld=>?_;clear hK K;have hf:iz {m with prom:=v}:=⟨hg.fitting.name,hg.fitting.ap,hg.fitting.aW,hg.fitting.late,by have:=hg.span;simp only;omega⟩;refine wpAnyH_done bD ?_ _;revert gC hf;generalize w4.setCell ⟨w.heap.size,5,none⟩ (.int .i64 v)=W5;generalize ({m with prom:=v}:Mv)=m';intro gC hf;clear hv Lo d0 d1 d2 d3 d4 d5 b0 b1 b2 b3 b4 b5 a0 a1 a2 a3 a4 a5 fr5 hcv hHeld t4 fe Lg oR y7 c0 c1 c2 c3 c4 c5 n1 n2 HP;let⟨d0,d1,d2,d3,d4,d5⟩:=gC.mv.at_;simp only[Nat.zero_add]at d0 d1 d2 d3 d4 d5;let⟨m0,jb⟩:=gC.res;let⟨k0,k1,k2,k3,k4,k5⟩:=jb.at_;simp only[Nat.zero_add]at k0 k1 k2 k3 k4 k5;have fr:=jb.frozen;go_wp2;have q:=gQ W5 (w.heap.size+1) 0 m' _ _ jb aF;let⟨q0,q1,q2,q3,q4,q5⟩:=q;simp only[Nat.zero_add]at q0 q1 q2 q3 q4 q5;change bodyPost _ _ _ _ _ (fq W5 (w.heap.size+1) 0 m');exact bodyPost_ret (v:=.agg #[.string m'.name,.bool m'.aj,.int .i64 m'.ap,.int .i64 m'.aW,.int .i64 m'.late,.int .i64 m'.prom]) (by simp[results,Tryz.results54,go_sem,q0,q1,q2,q3,q4,q5]) rfl ⟨⟨m',rfl,hf⟩,gC.went h0 aa aa _ aa⟩
  .go_simp
   go_at_call 34
   refine(HP _ oR).mono ?_;rintro e w4 ⟨k,rfl,hk,fe,t4⟩;let⟨v,hv,Lo⟩:=at5 (-2) (m.aW-1) m.aW m.late (m.late+1) k hk;have Fx:(k:Int)<5:=aa;have mY:(0:Int)<=(k:Int):=aa;let⟨d0,d1,d2,d3,d4,d5⟩:=fe.mv.at_;simp only[Nat.zero_add]at d0 d1 d2 d3 d4 d5;go_wp2_with fail
   refine hK.out _ _ ⟨d3,d4⟩ λhHeld=>?_;clear hK K;have sx:=fe.alloc hR h0 aa aa<|.cells #[.int .i64 (-2),.int .i64<|m.aW-1,.int .i64 m.aW,.int .i64 m.late,.int .i64<|m.late+1] 3;let⟨a0,a1,a2,a3,a4,a5⟩:=sx.mv.at_;simp only[Nat.zero_add]at a0 a1 a2 a3 a4 a5;have n4:=adn fe.mv.lt;have n5:=n4.symm;have cV:(w4.alloc<|.cells #[.int .i64 (-2),.int .i64<|m.aW-1,.int .i64 m.aW,.int .i64 m.late,.int .i64<|m.late+1] 3).cell? ⟨w4.heap.size,k,none⟩=some (.int .i64 v):=(World.cell?_alloc_at _ _ _ _ rfl).trans hv;have UY:[Value.int .i64 (-2),Value.int .i64 (m.aW-1),Value.int .i64 m.aW,Value.int .i64 m.late,Value.int .i64 (m.late+1)][k]?=some (.int .i64 v):=by simpa using hv
   have fr5:=sx.mv.frozen 5;refine iX 10 rfl λK hK=>?_;go_simp
   refine hK.out _ _ ⟨a3,a4⟩ λhHeld=>?_;clear hK K;refine iX 13 rfl λK hK=>?_;go_simp
   refine hK.out _ _ ⟨a3,a4⟩ λhHeld=>?_;clear hK K;refine iX 14 rfl λK hK=>?_;go_simp
   refine hK.out _ _ ⟨a3,a4⟩ λhHeld=>?_;clear hK K;refine iX 15 rfl λK hK=>?_;go_simp
   refine hK.out _ _ ⟨a3,a4⟩ λhHeld=>?_;clear hK K;refine iX 16 rfl λK hK=>?_;go_simp
   have gC:=sx.turn hR h0 aa aa aa 5 _<|sx.mv.prom v;let⟨b0,b1,b2,b3,b4,b5⟩:=gC.mv.at_;simp only[Nat.zero_add]at b0 b1 b2 b3 b4 b5;refine hK.out _ _ ⟨b3,b4⟩ λhHeld=>?_;clear hK K;have hf:iz {m with prom:=v}:=⟨hg.fitting.name,hg.fitting.ap,hg.fitting.aW,hg.fitting.late,by have:=hg.span;simp only;omega⟩;refine wpAnyH_done bD ?_ _;revert gC hf;generalize (w4.alloc<|.cells #[.int .i64 (-2),.int .i64<|m.aW-1,.int .i64 m.aW,.int .i64 m.late,.int .i64<|m.late+1] 3).setCell ⟨w.heap.size,5,none⟩ (.int .i64 v)=W5;generalize ({m with prom:=v}:Mv)=m';intro gC hf;clear hv Lo UY cV n4 n5 d0 d1 d2 d3 d4 d5 b0 b1 b2 b3 b4 b5 a0 a1 a2 a3 a4 a5 fr5 hHeld t4 fe sx oR y7 c0 c1 c2 c3 c4 c5 n1 n2 HP;let⟨d0,d1,d2,d3,d4,d5⟩:=gC.mv.at_;simp only[Nat.zero_add]at d0 d1 d2 d3 d4 d5;let⟨m0,jb⟩:=gC.res;let⟨k0,k1,k2,k3,k4,k5⟩:=jb.at_;simp only[Nat.zero_add]at k0 k1 k2 k3 k4 k5;have fr:=jb.frozen;go_wp2;have q:=gQ W5 (w.heap.size+1) 0 m' _ _ jb aF;let⟨q0,q1,q2,q3,q4,q5⟩:=q;simp only[Nat.zero_add]at q0 q1 q2 q3 q4 q5;change bodyPost _ _ _ _ _ (fq W5 (w.heap.size+1) 0 m');exact bodyPost_ret (v:=.agg #[.string m'.name,.bool m'.aj,.int .i64 m'.ap,.int .i64 m'.aW,.int .i64 m'.late,.int .i64 m'.prom]) (by simp[results,Tryz.results54,go_sem,q0,q1,q2,q3,q4,q5]) rfl ⟨⟨m',rfl,hf⟩,gC.went h0 aa aa _ aa⟩
section
variable {off base:Nat}{v:Value}
def GZ (f:Nat->Mv)(n:Nat):∀u∈gH f n,u.oneCell'=true:=λu hu=>by
 unfold gH at hu;rw[List.mem_flatMap]at hu;let⟨j,_,hj⟩:=hu;exact Vk (f j) u hj
def GQ {T:Nat->Int}(h:aA w b off n T):∀(j:Nat) (u:Value),(dX T n)[j]?=some u->w.cell? ((⟨b,off,none⟩:Addr).add j)=some u:=λj u hu=>by
 have hj:j<n:=by rcases ade j n with h|h;exact h;rw[adg (by rw[eH];exact h)]at hu;cases hu
 rw[d9 hj]at hu;rw[pv,h j hj];exact hu
def G2 (h:aI w b off n f):∀(j:Nat) (u:Value),(gH f n)[j]?=some u->w.cell? ((⟨b,off,none⟩:Addr).add j)=some u:=λj u hu=>by
 have hj:j<n*6:=by rcases ade j (n*6)with h|h;exact h;rw[adg (by rw[ju];exact h)]at hu;cases hu
 have h1:j/6<n:=aa;have h2:j%6<6:=Nat.mod_lt _ aa;have h3:j=j/6*6+j%6:=aa;rw[h3,rO f n _ _ h1 h2]at hu;rw[pv];let⟨c0,c1,c2,c3,c4,c5⟩:=h (j/6) h1;have key:∀r,r=j%6->(f<|j/6).cells.toList[r]?=some u->w.cell? ⟨b,off+j/6*6+r,none⟩=some u:=λr hr WN=>by
  have hr6:r<6:=aa;match r,hr6 with
  |0,_=>rw[Nat.add_zero,c0];exact WN
  |1,_=>rw[c1];exact WN
  |2,_=>rw[c2];exact WN
  |3,_=>rw[c3];exact WN
  |4,_=>rw[c4];exact WN
  |5,_=>rw[c5];exact WN
 have:=key (j%6) rfl hu;rw[show off+j=off+j/6*6+j%6 by omega];exact this
def No:(Tz.prog.info? 3).map (λi=>(i.zero,i.size,i.bytes))=some (some<|.int .i64 0,1,8):=bD
def wM (now shift:Int)(b off n cap:Nat)(f:Nat->Mv)(b' ce m cap':Nat)(t:Nat->Int)(w:World)(hn:n<=1048576)(hm:m<=1048576)(bH:b<w)(aq:aI w b off n f)(bI:b'<w)(aU:aA w b' ce m t):
  Calls Tz.prog 69 #[VZ now shift (.slice (some ⟨b,off,none⟩) n cap)<|.slice (some ⟨b',ce,none⟩) m cap'] w λe w'=>(∃v u,e=.returned (VZ now shift v u)/\w'.ownsRow w.heap.size 31 6 v n (gH f n)/\w'.ownsRow w.heap.size 3 1 u m (dX t m))/\Below w w w':=by
 let⟨iM,hI,gj,eO,gM⟩:=info_parts IV;let⟨i0,Lb,Ng,IT,Ke⟩:=info_parts No;have rl:∀o1 o2,Below w w ((w.alloc o1).alloc o2):=λo1 o2=>((acW _ w).alloc (ac5 _) _).alloc aF _
 have hN1:∀c2 T2 o3,((w.alloc<|.cells c2 T2).alloc o3).heap[w.heap.size]?=some (.cells c2 T2 (0,0)):=λc2 T2 o3=>(acX _ _ _ aF).trans<|heap_alloc_new w<|.cells c2 T2
 have hN2:∀o1 c2 T2,((w.alloc o1).alloc<|.cells c2 T2).heap[w.heap.size+1]?=some (.cells c2 T2 (0,0)):=λo1 c2 T2=>by have:=heap_alloc_new (w.alloc o1)<|.cells c2 T2;simpa using this
 go_enter Tz.func69,Tryz.ntmps69
 go_wp2_with(first
  |(at_builtin;refine wpList_append_own _ rfl (.const<|.slice none 0 0) (.tmp 4) 23 rfl (w.heap.size+1+1) 31 iM _ 6 56 (Tz.aR Tryz.underlying23) hI gj eO gM rfl bF (.slice none 0 0) 0 [] cj ⟨rfl,.inl ⟨rfl,rfl⟩⟩ ⟨b,off,none⟩ n cap (gH f n) cj (by rw[ju]) (G2<|aq.below (rl _ _) bH) (GZ f n) jl aa aF ?_;intro v1 w1 yP mn _;simp only[Nat.zero_add,List.nil_append]at yP;obtain⟨av,cv,rfl⟩:=ua yP;have g0:=(mn.block w.heap.size cU F3).trans<|hN1 _ _ _;have g1:=(mn.block (w.heap.size+1) aF F3).trans<|hN2 _ _ _;have B1:=(rl _ _).grown mn (rl _ _).size (λq hq=>by simp[Value.ownBlock]at hq);have s1:=mn.size;simp at s1;have k2:=cell_of_row w1 _ 2 _ _ _ g0;have k3:=cell_of_row w1 _ 3 _ _ _ g0;have kf:=λj=>frozen_of_row w1 _ j _ _ g0;simp at k2 k3;have g0':=heap_setCell_same w1 _ 2 _ _ (.slice av n cv) g0;simp at g0';have o1':=qp (w':=w1.setCell ⟨w.heap.size,2,none⟩<|.slice av n cv) yP λB hB=>acY w1 _ _ B (by have:=(yP.lt B hB).1;simp;omega);have P8:=(acY w1 ⟨w.heap.size,2,none⟩ (.slice av n cv) (w.heap.size+1) aF).trans g1;have B1':=B1.setCell (p:=⟨w.heap.size,2,none⟩) aF<|.slice av n cv)
  |(at_builtin;refine wpList_append_own _ rfl (.const<|.slice none 0 0) (.tmp 8) 27 rfl (w.heap.size+1+1) 3 i0 _ 1 8 (Tz.aR Tryz.underlying27) Lb Ng IT Ke rfl bF (.slice none 0 0) 0 [] cj ⟨rfl,.inl ⟨rfl,rfl⟩⟩ ⟨b',ce,none⟩ m cap' (dX t m) cj yU (GQ<|aU.below B1' bI) (jt t m) jl aa cU ?_;intro u2 w2 qF jW _;simp only[Nat.zero_add,List.nil_append]at qF;obtain⟨au,cu,rfl⟩:=ua qF;have h0:=(jW.block w.heap.size cU F3).trans g0';have h1:=(jW.block (w.heap.size+1) cU F3).trans P8;have B2:=B1'.grown jW B1'.size (λq hq=>by simp[Value.ownBlock]at hq);have s2:=jW.size;simp at s2;have o2:=qp (w':=w2) o1' λB hB=>jW.block B (o1'.lt B hB).2 F3;have p0:=cell_of_row w2 _ 0 _ _ _ h0;have p1:=cell_of_row w2 _ 1 _ _ _ h0;have p2:=cell_of_row w2 _ 2 _ _ _ h0;have p3:=cell_of_row w2 _ 3 _ _ _ h0;have pf:=λj=>frozen_of_row w2 _ j _ _ h0;have r0:=cell_of_row w2 _ 0 _ _ _ h1;have r1:=cell_of_row w2 _ 1 _ _ _ h1;have r2:=cell_of_row w2 _ 2 _ _ _ h1;have r3:=cell_of_row w2 _ 3 _ _ _ h1;have rf:=λj=>frozen_of_row w2 _ j _ _ h1;simp at p0 p1 p2 p3 r0 r1 r2 r3))
 have eW:∀q,q≠w.heap.size->q≠w.heap.size+1->(((((w2.setCell ⟨w.heap.size,3,none⟩<|.slice au m cu).setCell ⟨w.heap.size+1,0,none⟩ now).setCell ⟨w.heap.size+1,1,none⟩ shift).setCell ⟨w.heap.size+1,2,none⟩<|.slice av n cv).setCell ⟨w.heap.size+1,3,none⟩<|.slice au m cu).heap[q]?=w2.heap[q]?:=λq h1 h2=>by
  rw[acY _ _ _ _ (by simpa using h2),acY _ _ _ _ (by simpa using h2),acY _ _ _ _ (by simpa using h2),acY _ _ _ _ (by simpa using h2),acY _ _ _ _ (by simpa using h1)]
 refine bodyPost_ret (v:=VZ now shift (.slice av n cv)<|.slice au m cu) (by simp[results,Tryz.results69,go_sem,r0,r1,r2,r3]) rfl ⟨⟨_,_,rfl,?_,?_⟩,?_⟩
 .exact sZ (qp o2 λB hB=>eW B (by have:=(o2.lt B hB).1;omega) (by have:=(o2.lt B hB).1;omega)) aa
 .exact sZ (qp qF λB hB=>eW B (by have:=(qF.lt B hB).1;omega) (by have:=(qF.lt B hB).1;omega)) aa
 .exact((((B2.setCell aF _).setCell aF _).setCell aF _).setCell aF _).setCell aF _
end
section
variable {k:Nat}{T:TypeId}
def NR {base c:Nat}{size:Nat}(h:w.ownsRow base T size (.slice B n c) n xs):
  base<=B/\B<w/\∃cur,w.heap[B]?=some (.cells cur T (0,0))/\xs.length<=cur.size:=by
 obtain⟨h1,h2|⟨g,cap,cur,h2,h3,h4,h5,h6,h7,h8⟩⟩:=h
 .exact absurd h2.1 aF
 .simp at h2;obtain⟨rfl,rfl⟩:=h2;refine⟨h3,(ac7.1 h4).1,cur,h4,?_⟩;rw[h1,h7];exact Nat.mul_le_mul_right _ h5
def Q5 {cur:Array Value}(h:aI w B 0 n f)(hg:w.heap[B]?=some (.cells cur T (0,0)))(hs:n*6<=cur.size)(hk:k<n)(m:Mv):aI (fq w B (k*6) m) B 0 n (λj=>if j=k then m else f j):=by
 intro i hi;by_cases e:i=k
 .subst e;simp only[if_true];rw[Nat.zero_add];exact gQ w B (i*6) m cur T hg aa
 .simp only[if_neg e];let⟨c0,c1,c2,c3,c4,c5⟩:=h i hi;have o:∀j,j<6->(fq w B (k*6) m).cell? ⟨B,0+i*6+j,none⟩=w.cell? ⟨B,0+i*6+j,none⟩:=λj hj=>ES w B (k*6) m _ aa
  exact⟨(o 0 aa).trans c0,(o 1 aa).trans c1,(o 2 aa).trans c2,(o 3 aa).trans c3,(o 4 aa).trans c4,(o 5 aa).trans c5⟩
def JH (h:fH R w W)(hB:w.heap.size<=B)(o:Nat)(m:Mv):fH R w (fq W B o m):=
 ⟨by have:=h.size;simpa[fq]using this,λk hk hne=>(p8 W B o m k aa).trans<|h.block k hk hne⟩
end
