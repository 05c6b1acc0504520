import Derived.Test.YtlmcblcijndipaaGreatM14
import Derived.Test.YtlmcblcijndipaaGreatM22
import Derived.Deep.RegionHeld3
set_option linter.unusedVariables false
set_option maxHeartbeats 4000000
set_option maxRecDepth 10000
namespace Go.Proofs.YtlmcblcijndipaaGreat
open Go.RowKit
structure dg (B:Nat)(w w':World):Prop where
 size:w.heap.size<=w'.heap.size
 block:∀k,k<w.heap.size->k≠B->w'.heap[k]?=w.heap[k]?
theorem dg.refl (B:Nat)(w:World):dg B w w:=⟨Nat.le_refl _,λ_ _ _=>rfl⟩
theorem dg.trans {B:Nat}{a b c:World}(h:dg B a b)(k:dg B b c):dg B a c:=
 ⟨Nat.le_trans h.size k.size,λi hi hB=>(k.block i (Nat.lt_of_lt_of_le hi h.size) hB).trans (h.block i hi hB)⟩
theorem dg.of {B:Nat}{w w':World}(h:Below w.heap.size w w'):dg B w w':=⟨h.size,λk hk _=>h.block k hk⟩
theorem dg.setCell {B:Nat}{a w:World}(h:dg B a w)(o:Nat)(v:Value):dg B a (w.setCell ⟨B,o,none⟩ v):=
 ⟨by simpa using h.size,λk hk hB=>(Below.heap_setCell w _ v k (by simpa using hB)).trans (h.block k hk hB)⟩
theorem aq.but {w w':World}{B b n:Nat}{g:Nat->Int}(h:aq w b n g)(hb:dg B w w')(hB:b≠B):aq w' b n g:=by
 have hlt:=h.lt;obtain⟨⟨cs,h1,h2⟩,h3⟩:=h;have h1':=(hb.block b hlt hB).trans h1;refine⟨⟨cs,h1',h2⟩,λi hi=>?_⟩;rw[cell_of_row _ _ _ _ _ _ h1',<-cell_of_row w _ _ _ _ _ h1];exact h3 i hi
def lg (w:World)(b off n:Nat)(c:Nat->Int):Prop:=∀i,i<n->w.cell? ⟨b,off+i,none⟩=some (.int .u8 (c i))
structure Rd (w:World)(R:Nat)(p:Int):Prop where
 mk::
 at_:∃(a:Option Addr) (n cap:Nat) (c:Nat->Int),w.heap[R]?=some (.cells #[.slice a n cap,.int .i64 p] 72 (0,0))/\n<=2000/\(n=0\/∃b off,a=some ⟨b,off,none⟩/\b<R/\lg w b off n c)/\∀i,i<n->0<=c i/\c i<=255
 low:0<=p
theorem yR (x y:Int)(hx:0<=x)(hx1:x<9223372036854775808)(hy:0<=y)(hy1:y<9223372036854775808):0<=bits .xor .i64 x y:=by
 obtain⟨a,rfl⟩:∃a:Nat,x=(a:Int):=⟨x.toNat,by omega⟩;obtain⟨b,rfl⟩:∃b:Nat,y=(b:Int):=⟨y.toNat,by omega⟩;have hx:a ^^^ b<2^63:=Nat.xor_lt_two_pow (by omega) (by omega);have h1:(BitVec.ofInt 64 (a:Int)).toNat=a:=by
  rw[BitVec.ofInt_natCast,BitVec.toNat_ofNat];exact Nat.mod_eq_of_lt (by omega)
 have h2:(BitVec.ofInt 64 (b:Int)).toNat=b:=by
  rw[BitVec.ofInt_natCast,BitVec.toNat_ofNat];exact Nat.mod_eq_of_lt (by omega)
 show 0<=IntKind.i64.wrap ((BitVec.ofInt 64 (a:Int) ^^^ BitVec.ofInt 64 (b:Int)).toNat:Int);rw[BitVec.toNat_xor,h1,h2,IntKind.wrap_i64];omega
theorem yS (x m:Int)(hx:0<=x)(hm:1<=m):0<=x.tmod m/\x.tmod m<m:=by
 rw[Int.tmod_eq_emod_of_nonneg hx];exact⟨Int.emod_nonneg _ (by omega),Int.emod_lt_of_pos _ (by omega)⟩
theorem Rd.below {w w':World}{R:Nat}{p:Int}(hr:Rd w R p)(hb:Below w.heap.size w w'):Rd w' R p:=by
 obtain⟨⟨a,n,cap,c,hR,hn,hrow,hc⟩,hp0⟩:=hr;have hlt:R<w.heap.size:=(Array.getElem?_eq_some_iff.1 hR).1;refine⟨⟨a,n,cap,c,(hb.block R hlt).trans hR,hn,?_,hc⟩,hp0⟩;rcases hrow with h|⟨b,off,rfl,hbR,hrow⟩
 .exact .inl h
 .exact .inr ⟨b,off,rfl,hbR,λi hi=>(hb.cell (p:=⟨b,off+i,none⟩) (by simp;omega)).trans (hrow i hi)⟩
theorem Rd.lt {w:World}{R:Nat}{p:Int}(hr:Rd w R p):R<w.heap.size:=by
 obtain⟨⟨a,n,cap,c,hR,_⟩,_⟩:=hr;exact(Array.getElem?_eq_some_iff.1 hR).1
theorem yT {w:World}{R:Nat}{p:Int}(hr:Rd w R p)(n₀:Nat)(h0:n₀<=R):Rd (w.setCell ⟨R,1,none⟩ (.int .i64 (p+1))) R (p+1)/\dg R w (w.setCell ⟨R,1,none⟩ (.int .i64 (p+1)))/\Below n₀ w (w.setCell ⟨R,1,none⟩ (.int .i64 (p+1))):=by
 obtain⟨⟨a,n,cap,c,hR,hn,hrow,hc⟩,hp0⟩:=hr;refine⟨⟨⟨a,n,cap,c,?_,hn,?_,hc⟩,by omega⟩,(dg.refl R w).setCell _ _,(Below.refl n₀ w).setCell h0 _⟩
 .have:=heap_setCell_same w R 1 _ _ (.int .i64 (p+1)) hR;simpa using this
 .rcases hrow with h|⟨b,off,rfl,hb,hrow⟩
  .exact .inl h
  .exact .inr ⟨b,off,rfl,hb,λi hi=>by rw[World.cell?_setCell_other _ _ _ _ (by simp<;>omega)];exact hrow i hi⟩
theorem aH (R:Nat)(p:Int)(m:Int)(w:World)(n₀:Nat)(h0:n₀<=R)(hr:Rd w R p)(hp:p<=1000000)(hm:1<=m)(hm1:m<=100000):
  Calls Tryz0.prog 22 #[.pointer (some ⟨R,0,none⟩),.int .i64 m] w λe w'=>(∃z:Int,e=.returned (.int .i64 z)/\0<=z/\z<m)/\Rd w' R (p+1)/\dg R w w'/\Below n₀ w w':=by
 obtain⟨⟨a,n,cap,c,hR,hn,hrow,hc⟩,hp0⟩:=hr;have c0:w.cell? ⟨R,0,none⟩=some (.slice a n cap):=by rw[cell_of_row _ _ _ _ _ _ hR];rfl
 have c1:w.cell? ⟨R,1,none⟩=some (.int .i64 p):=by rw[cell_of_row _ _ _ _ _ _ hR];rfl
 have f1:w.frozen? ⟨R,1,none⟩=false:=frozen_of_row w _ 1 _ _ hR;obtain⟨hr1,hb1,hb2⟩:=yT ⟨⟨a,n,cap,c,hR,hn,hrow,hc⟩,hp0⟩ n₀ h0;have HR1:Hid (Rd (w.setCell ⟨R,1,none⟩ (.int .i64 (p+1))) R (p+1)):=hr1;have d0:(w.setCell ⟨R,1,none⟩ (.int .i64 (p+1))).cell? ⟨R,0,none⟩=some (.slice a n cap):=by rw[World.cell?_setCell_other _ _ _ _ (by simp)];exact c0
 have d1:(w.setCell ⟨R,1,none⟩ (.int .i64 (p+1))).cell? ⟨R,1,none⟩=some (.int .i64 (p+1)):=World.cell?_setCell_same' _ _ _ (by rw[c1];rfl);clear hr1;by_cases hn0:n=0
 .subst hn0;go_enter Tryz0.func22,Tryz.ntmps22
  go_wp2;go_ret;exact⟨⟨0,rfl,by omega,by omega⟩,HR1.out,hb1,hb2⟩
 .obtain⟨b,off,rfl,hbR,hbr⟩:∃b off,a=some ⟨b,off,none⟩/\b<R/\lg w b off n c:=by rcases hrow with h|h;exact absurd h hn0;exact h
  have hbr1:lg (w.setCell ⟨R,1,none⟩ (.int .i64 (p+1))) b off n c:=λi hi=>by rw[World.cell?_setCell_other _ _ _ _ (by simp<;>omega)];exact hbr i hi
  have hnp:(0:Int)<n:=by omega
  have hnz:((n:Int)==0)=false:=by simp;omega
  have hmz:¬m<1:=by omega
  by_cases hlt:p<n
  .obtain⟨q,hq⟩:∃q:Nat,p=(q:Int):=⟨p.toNat,by omega⟩;subst hq;have hqn:q<n:=by omega
   have e0:=hbr1 q hqn;obtain⟨z0,z1⟩:=hc q hqn;have hz0:0<=c q%m:=Int.emod_nonneg _ (by omega);have hz1:c q%m<m:=Int.emod_lt_of_pos _ (by omega);have HZ:Hid (0<=c q%m/\c q%m<m):=by
    have h:0<=c q%m/\c q%m<m:=⟨hz0,hz1⟩;exact h
   clear hz0 hz1;go_enter Tryz0.func22,Tryz.ntmps22
   go_wp2;go_ret;exact⟨⟨c q%m,rfl,HZ.out.1,HZ.out.2⟩,HR1.out,hb1,hb2⟩
  .obtain⟨j1,hj1⟩:∃j1:Nat,p%(n:Int)=(j1:Int):=⟨(p%(n:Int)).toNat,by have:=Int.emod_nonneg p (show(n:Int)≠0 by omega);omega⟩;obtain⟨j2,hj2⟩:∃j2:Nat,(p*7+3)%(n:Int)=(j2:Int):=⟨((p*7+3)%(n:Int)).toNat,by have:=Int.emod_nonneg (p*7+3) (show(n:Int)≠0 by omega);omega⟩;have hl1:j1<n:=by have:=Int.emod_lt_of_pos p hnp;omega
   have hl2:j2<n:=by have:=Int.emod_lt_of_pos (p*7+3) hnp;omega
   have hl1':(j1:Int)<n:=by omega
   have hl2':(j2:Int)<n:=by omega
   obtain⟨x0,x1⟩:=hc j1 hl1;obtain⟨y0,y1⟩:=hc j2 hl2;have hq0:0<=p/(n:Int):=Int.ediv_nonneg hp0 (by omega);have hq1:p/(n:Int)<=p:=Int.ediv_le_self _ hp0;have hne:=ax (w.setCell ⟨R,1,none⟩ (.int .i64 (p+1)));have g0:=λx:af (w.setCell ⟨R,1,none⟩ (.int .i64 (p+1)))=>x.cell d0
   have g1:=λx:af (w.setCell ⟨R,1,none⟩ (.int .i64 (p+1)))=>x.cell (hbr1 j1 hl1)
   have g2:=λx:af (w.setCell ⟨R,1,none⟩ (.int .i64 (p+1)))=>x.cell (hbr1 j2 hl2)
   go_enter Tryz0.func22,Tryz.ntmps22
   go_wp2;refine ac (by kernel_rfl) (by kernel_rfl) ?_;repeat(go_big_quiet_step (fail))
   refine wpQuiet_nil (ag ?_);intro w2 hb3;go_wp2;go_ret;have hX0:0<=c j1*131+c j2*1117+p*29+p/(n:Int)*53:=by omega
   have hX1:c j1*131+c j2*1117+p*29+p/(n:Int)*53<1000000000:=by omega
   have hz:=yS _ m (yR _ ((c j1*131+c j2*1117+p*29+p/(n:Int)*53)/64) hX0 (by omega) (by omega) (by omega)) hm;have hlt1:R<(w.setCell ⟨R,1,none⟩ (.int .i64 (p+1))).heap.size:=HR1.out.lt;exact⟨⟨_,rfl,hz.1,hz.2⟩,HR1.out.below hb3,hb1.trans (dg.of hb3),hb2.trans (hb3.mono (by omega))⟩
theorem Rd.drew {w:World}{R:Nat}{p:Int}(hr:Rd w R p):Rd w.drew R p:=by
 obtain⟨⟨a,n,cap,c,hR,hn,hrow,hc⟩,hp0⟩:=hr;refine⟨⟨a,n,cap,c,hR,hn,?_,hc⟩,hp0⟩;rcases hrow with h|⟨b,off,rfl,hbR,hrow⟩
 .exact .inl h
 .exact .inr ⟨b,off,rfl,hbR,λi hi=>hrow i hi⟩
def jf (w:World)(a:Option Addr)(n:Nat)(c:Nat->Int):Prop:=n<=maxLen/\(n=0\/∃b off,a=some ⟨b,off,none⟩/\b<w.heap.size/\lg w b off n c)/\∀i,i<n->0<=c i/\c i<=255
theorem xC (a:Option Addr)(n cap:Nat)(c:Nat->Int)(w:World)(h:jf w a n c)(hcap:n<=cap):
  Calls Tryz0.prog 20 #[.slice a n cap] w λe w'=>e=.returned (.pointer (some ⟨w.heap.size,0,none⟩))/\Rd w' w.heap.size 0/\Below w.heap.size w w':=by
 obtain⟨hn,hrow,hc⟩:=h;unfold maxLen at hn;have hB:∀o,Below w.heap.size w (w.alloc o):=λo=>(Below.refl _ _).alloc (Nat.le_refl _) _
 by_cases hl:n<=2000
 .go_enter Tryz0.func20,Tryz.ntmps20
  go_wp2;go_ret;refine⟨rfl,⟨⟨a,n,cap,c,heap_alloc_new _ _,hl,?_,hc⟩,Int.le_refl _⟩,hB _⟩;rcases hrow with h|⟨b,off,rfl,hb,hrow⟩
  .exact .inl h
  .exact .inr ⟨b,off,rfl,hb,λi hi=>((hB _).cell (p:=⟨b,off+i,none⟩) hb).trans (hrow i hi)⟩
 .obtain⟨b,off,rfl,hb,hbr⟩:∃b off,a=some ⟨b,off,none⟩/\b<w.heap.size/\lg w b off n c:=by rcases hrow with h|h;omega;exact h
  have h2:(2000:Int)<=cap:=by omega
  go_enter Tryz0.func20,Tryz.ntmps20
  go_wp2;go_ret;exact⟨rfl,⟨⟨some ⟨b,off,none⟩,2000,cap,c,heap_alloc_new _ _,Nat.le_refl _,.inr ⟨b,off,rfl,hb,λi hi=>((hB _).cell (p:=⟨b,off+i,none⟩) hb).trans (hbr i (by omega))⟩,λi hi=>hc i (by omega)⟩,Int.le_refl _⟩,hB _⟩
structure xD (m:Mv)(s:ByteArray):Prop where
 name:m.name=s
 wake:1<=m.wake/\m.wake<=3
 span:0<=m.est/\m.est<=m.late/\m.late<=10000
 prom:m.prom=-1
structure qF (R:Nat)(p:Int)(k:Int)(n₀:Nat)(w w':World):Prop where
 rd:∃q,p<=q/\q<=p+k/\Rd w' R q
 but:dg R w w'
 below:Below n₀ w w'
def aP (w:World)(b:Nat)(m:Mv):Prop:=w.heap[b]?=some (.cells #[.string m.name,.bool m.lands,.int .i64 m.wake,.int .i64 m.est,.int .i64 m.late,.int .i64 m.prom] 42 (0,0))
theorem aP.at_ {w:World}{b:Nat}{m:Mv}(h:aP w b m):lA w b 0 m:=by
 constructor<;>(rw[cell_of_row _ _ _ _ _ _ h];rfl)
theorem aP.frozen {w:World}{b:Nat}{m:Mv}(h:aP w b m)(j:Nat):w.frozen? ⟨b,j,none⟩=false:=frozen_of_row w _ j _ _ h
theorem Rd.set {w:World}{R B:Nat}{p:Int}(hr:Rd w R p)(h:R<B)(o:Nat)(v:Value):Rd (w.setCell ⟨B,o,none⟩ v) R p:=by
 obtain⟨⟨a,n,cap,c,hR,hn,hrow,hc⟩,hp0⟩:=hr;refine⟨⟨a,n,cap,c,(Below.heap_setCell w _ v R (by simp;omega)).trans hR,hn,?_,hc⟩,hp0⟩;rcases hrow with h'|⟨b,off,rfl,hbR,hrow⟩
 .exact .inl h'
 .exact .inr ⟨b,off,rfl,hbR,λi hi=>by rw[World.cell?_setCell_other _ _ _ _ (by simp<;>omega)];exact hrow i hi⟩
structure dE (R Br Bm:Nat)(n₀:Nat)(w:World)(m:Mv)(q:Int)(W:World):Prop where
 mv:aP W Bm m
 res:∃m0,aP W Br m0
 rd:Rd W R q
 but:∀k,k<w.heap.size->k≠R->W.heap[k]?=w.heap[k]?
 below:Below n₀ w W
theorem dE.drew {R Br Bm n₀:Nat}{w W:World}{m:Mv}{q:Int}(h:dE R Br Bm n₀ w m q W):dE R Br Bm n₀ w m q W.drew:=⟨h.mv,h.res,h.rd.drew,h.but,h.below.drew⟩
theorem dE.pick {R Br Bm n₀:Nat}{w W W':World}{m:Mv}{q:Int}(h:dE R Br Bm n₀ w m q W)(hr:R<w.heap.size)(h1:R<Br)(h2:Br<Bm)(hz:w.heap.size<=Br)(hRd:Rd W' R (q+1))(hb:dg R W W')(hB:Below n₀ W W'):dE R Br Bm n₀ w m (q+1) W':=by
 have lm:Bm<W.heap.size:=(Array.getElem?_eq_some_iff.1 h.mv).1;obtain⟨m0,hm0⟩:=h.res;exact⟨(hb.block Bm lm (by omega)).trans h.mv,⟨m0,(hb.block Br (by omega) (by omega)).trans hm0⟩,hRd,λk hk hne=>(hb.block k (by omega) hne).trans (h.but k hk hne),h.below.trans hB⟩
theorem dE.late {R Br Bm n₀:Nat}{w W:World}{m:Mv}{q:Int}(h:dE R Br Bm n₀ w m q W)(h0:n₀<=R)(h1:R<Br)(h2:Br<Bm)(hz:w.heap.size<=Br)(x:Int):dE R Br Bm n₀ w {m with late:=x} q (W.setCell ⟨Bm,4,none⟩ (.int .i64 x)):=by
 obtain⟨m0,hm0⟩:=h.res;refine⟨?_,⟨m0,(Below.heap_setCell W _ _ Br (by simp;omega)).trans hm0⟩,h.rd.set (by omega) _ _,λk hk hne=>(Below.heap_setCell W _ _ k (by simp;omega)).trans (h.but k hk hne),h.below.setCell (by simp;omega) _⟩;have:=heap_setCell_same W Bm 4 _ _ (.int .i64 x) h.mv;simpa[aP]using this
theorem dE.est {R Br Bm n₀:Nat}{w W:World}{m:Mv}{q:Int}(h:dE R Br Bm n₀ w m q W)(h0:n₀<=R)(h1:R<Br)(h2:Br<Bm)(hz:w.heap.size<=Br)(x:Int):dE R Br Bm n₀ w {m with est:=x} q (W.setCell ⟨Bm,3,none⟩ (.int .i64 x)):=by
 obtain⟨m0,hm0⟩:=h.res;refine⟨?_,⟨m0,(Below.heap_setCell W _ _ Br (by simp;omega)).trans hm0⟩,h.rd.set (by omega) _ _,λk hk hne=>(Below.heap_setCell W _ _ k (by simp;omega)).trans (h.but k hk hne),h.below.setCell (by simp;omega) _⟩;have:=heap_setCell_same W Bm 3 _ _ (.int .i64 x) h.mv;simpa[aP]using this
theorem jg (W:World)(B o:Nat)(m:Mv)(k:Nat)(h:k≠B):(setMv W B o m).heap[k]?=W.heap[k]?:=by
 unfold setMv;rw[Below.heap_setCell _ _ _ _ (by simpa using h),Below.heap_setCell _ _ _ _ (by simpa using h),Below.heap_setCell _ _ _ _ (by simpa using h),Below.heap_setCell _ _ _ _ (by simpa using h),Below.heap_setCell _ _ _ _ (by simpa using h),Below.heap_setCell _ _ _ _ (by simpa using h)]
theorem Rd.setMv {W:World}{R B:Nat}{q:Int}(h:Rd W R q)(hB:R<B)(o:Nat)(m:Mv):Rd (setMv W B o m) R q:=
 (((((h.set hB _ _).set hB _ _).set hB _ _).set hB _ _).set hB _ _).set hB _ _
theorem dE.went {R Br Bm n₀:Nat}{w W:World}{m:Mv}{q p:Int}(h:dE R Br Bm n₀ w m q W)(h0:n₀<=R)(h1:R<Br)(hz:w.heap.size<=Br)(m':Mv)(hq:p<=q/\q<=p+7):qF R p 7 n₀ w (setMv W Br 0 m'):=
 ⟨⟨q,hq.1,hq.2,h.rd.setMv h1 _ _⟩,⟨by have:=h.below.size;simpa[setMv]using this,λk hk hne=>(jg W Br 0 m' k (by omega)).trans (h.but k hk hne)⟩,mc h.below (by omega) 0 m'⟩
theorem tN (R:Nat)(p:Int)(s:ByteArray)(now:Int)(w:World)(n₀:Nat)(h0:n₀<=R)(hr:Rd w R p)(hp:p<=900000)(hn0:0<=now)(hn1:now<=10000):
  Calls Tryz0.prog 81 #[.pointer (some ⟨R,0,none⟩),.string s,.int .i64 now] w λe w'=>(∃m:Mv,e=.returned (.agg #[.string m.name,.bool m.lands,.int .i64 m.wake,.int .i64 m.est,.int .i64 m.late,.int .i64 m.prom])/\xD m s)/\qF R p 7 n₀ w w':=by
 have hz:=hr.lt;have H1:=aH R p 5 (w.alloc (.cells #[.string ByteArray.empty,.bool false,.int .i64 0,.int .i64 0,.int .i64 0,.int .i64 0] 42)) n₀ h0 (hr.below ((Below.refl _ _).alloc (Nat.le_refl _) _)) (by omega) (by omega) (by omega);go_enter Tryz0.func81,Tryz.ntmps81
 go_wp2_with(first
  |(go_at_call 22;refine H1.mono ?_;clear H1;rintro e w1 ⟨⟨z1,rfl,l1,u1⟩,r1,t1,b1⟩;have H2:=aH R _ 3 w1 n₀ h0 r1 (by omega) (by omega) (by omega))
  |(go_at_call 22;refine H2.mono ?_;clear H2;rintro e w2 ⟨⟨z2,rfl,l2,u2⟩,r2,t2,b2⟩;have H3:=aH R _ 16 w2 n₀ h0 r2 (by omega) (by omega) (by omega))
  |(go_at_call 22;refine H3.mono ?_;clear H3;rintro e w3 ⟨⟨z3,rfl,l3,u3⟩,r3,t3,b3⟩))
 have hz1:=t1.size;have hz2:=t2.size;have hz3:=t3.size;simp at hz1;have hS:dE R w.heap.size w3.heap.size n₀ w ⟨s,decide (z1<3),1+z2,now+z3,0,-1⟩ (p+1+1+1) (w3.alloc (.cells #[.string s,.bool (decide (z1<3)),.int .i64 (1+z2),.int .i64 (now+z3),.int .i64 0,.int .i64 (-1)] 42)):=by
  have bA:Below w3.heap.size w3 (w3.alloc (.cells #[.string s,.bool (decide (z1<3)),.int .i64 (1+z2),.int .i64 (now+z3),.int .i64 0,.int .i64 (-1)] 42)):=(Below.refl _ _).alloc (Nat.le_refl _) _;have b0:Below w.heap.size w (w.alloc (.cells #[.string ByteArray.empty,.bool false,.int .i64 0,.int .i64 0,.int .i64 0,.int .i64 0] 42)):=(Below.refl _ _).alloc (Nat.le_refl _) _;have t03:=t1.trans (t2.trans t3);refine⟨heap_alloc_new _ _,⟨⟨ByteArray.empty,false,0,0,0,0⟩,?_⟩,r3.below bA,λk hk hne=>?_,?_⟩
  .exact(bA.block w.heap.size (by omega)).trans ((t03.block w.heap.size (by simp) (by omega)).trans (heap_alloc_new _ _))
  .exact(bA.block k (by omega)).trans ((t03.block k (by simp;omega) hne).trans (b0.block k hk))
  .exact(b0.mono (by omega)).trans (b1.trans (b2.trans (b3.trans (bA.mono (by omega)))))
 revert hS;obtain⟨Br,hBr⟩:∃Br,Br=w.heap.size:=⟨_,rfl⟩;obtain⟨Bm,hBm⟩:∃Bm,Bm=w3.heap.size:=⟨_,rfl⟩;rw[<-hBm];rw[<-hBr];generalize (w3.alloc (.cells #[.string s,.bool (decide (z1<3)),.int .i64 (1+z2),.int .i64 (now+z3),.int .i64 0,.int .i64 (-1)] 42))=W4;intro hS;have g1:R<Br:=by omega
 have g2:Br<Bm:=by omega
 have g3:w.heap.size<=Br:=by omega
 clear hBr hBm hz1 hz2 hz3 r1 r2 r3 t1 t2 t3 b1 b2 b3;obtain⟨c0,c1,c2,c3,c4,c5⟩:=hS.mv.at_;simp only[Nat.zero_add]at c0 c1 c2 c3 c4 c5;have HP:=aH R _ 20 W4.drew n₀ h0 hS.drew.rd (by omega) (by omega) (by omega);go_region_held3 (λw'=>w'.cell? ⟨Bm,3,none⟩=some (.int .i64 (now+z3))) (go_keep)
  (first|(go_at_call 22;refine HP.mono ?_;clear HP;rintro e w5 ⟨⟨z4,rfl,l4,u4⟩,r5,t5,b5⟩;have hS5:=hS.drew.pick hz g1 g2 g3 r5 t5 b5;obtain⟨d0,d1,d2,d3,d4,d5⟩:=hS5.mv.at_;simp only[Nat.zero_add]at d0 d1 d2 d3 d4 d5;have f5:=hS5.mv.frozen 4;have d34:∀v,(w5.setCell ⟨Bm,4,none⟩ v).cell? ⟨Bm,3,none⟩=some (.int .i64 (now+z3)):=λv=>(World.cell?_setCell_other _ _ _ _ (by simp)).trans d3;have hwr:IntKind.i64.wrap (now+z3+z4)=now+z3+z4:=by rw[IntKind.wrap_i64];omega))
 have hS6:=hS5.late h0 g1 g2 g3 (now+z3+z4);revert hS6;generalize w5.setCell ⟨Bm,4,none⟩ (.int .i64 (now+z3+z4))=W6;intro hS6;clear hS5 d0 d1 d2 d3 d4 d5 f5 d34 hwr r5 t5 b5 hS c0 c1 c2 c3 c4 c5;obtain⟨L,hL⟩:∃L,now+z3+z4=L:=⟨_,rfl⟩;rw[hL]at hS6;try rw[hL]
 have H7:=aH R _ 3 W6 n₀ h0 hS6.rd (by omega) (by omega) (by omega);go_wp2_with(first
  |(go_at_call 22;refine H7.mono ?_;clear H7;rintro e w7 ⟨⟨z5,rfl,l5,u5⟩,r7,t7,b7⟩;have hS7:=hS6.pick hz g1 g2 g3 r7 t7 b7;have H8:=aH R _ 30 w7 n₀ h0 hS7.rd (by omega) (by omega) (by omega))
  |(go_at_call 22;refine H8.mono ?_;clear H8;rintro e w8 ⟨⟨z6,rfl,l6,u6⟩,r8,t8,b8⟩;have hS8:=hS7.pick hz g1 g2 g3 r8 t8 b8;obtain⟨d0,d1,d2,d3,d4,d5⟩:=hS8.mv.at_;simp only[Nat.zero_add]at d0 d1 d2 d3 d4 d5;have f4:=hS8.mv.frozen 4;have f3:=hS8.mv.frozen 3;obtain⟨m0,hm0⟩:=hS8.res;obtain⟨k0,k1,k2,k3,k4,k5⟩:=hm0.at_;simp only[Nat.zero_add]at k0 k1 k2 k3 k4 k5;have fr:=hm0.frozen))
 .clear H8;obtain⟨c0,c1,c2,c3,c4,c5⟩:=hS7.mv.at_;simp only[Nat.zero_add]at c0 c1 c2 c3 c4 c5;have HP:=aH R _ 40 w7.drew n₀ h0 hS7.drew.rd (by omega) (by omega) (by omega);have hwa:IntKind.i64.wrap (now+z3+20)=now+z3+20:=by rw[IntKind.wrap_i64];omega
  go_region_held3 (λw'=>w'.cell? ⟨Bm,3,none⟩=some (.int .i64 (now+z3))) (go_keep)
   (first|(go_at_call 22;refine HP.mono ?_;clear HP;rintro e w5 ⟨⟨z7,rfl,l7,u7⟩,r5,t5,b5⟩;have hS5:=hS7.drew.pick hz g1 g2 g3 r5 t5 b5;obtain⟨d0,d1,d2,d3,d4,d5⟩:=hS5.mv.at_;simp only[Nat.zero_add]at d0 d1 d2 d3 d4 d5;have f5:=hS5.mv.frozen 4;have d34:∀v,(w5.setCell ⟨Bm,4,none⟩ v).cell? ⟨Bm,3,none⟩=some (.int .i64 (now+z3)):=λv=>(World.cell?_setCell_other _ _ _ _ (by simp)).trans d3;have hwr:IntKind.i64.wrap (now+z3+20+z7)=now+z3+20+z7:=by rw[IntKind.wrap_i64];omega))
  have hS9:=hS5.late h0 g1 g2 g3 (now+z3+20+z7);revert hS9;generalize w5.setCell ⟨Bm,4,none⟩ (.int .i64 (now+z3+20+z7))=W9;intro hS9;clear hS5 d0 d1 d2 d3 d4 d5 f5 d34 hwr r5 t5 b5 c0 c1 c2 c3 c4 c5;clear hL;obtain⟨L,hL⟩:∃L,now+z3+20+z7=L:=⟨_,rfl⟩;rw[hL]at hS9;try rw[hL]
  have H8:=aH R _ 30 W9 n₀ h0 hS9.rd (by omega) (by omega) (by omega);go_wp2_with(first
   |(go_at_call 22;refine H8.mono ?_;clear H8;rintro e w8 ⟨⟨z6,rfl,l6,u6⟩,r8,t8,b8⟩;have hS8:=hS9.pick hz g1 g2 g3 r8 t8 b8;obtain⟨d0,d1,d2,d3,d4,d5⟩:=hS8.mv.at_;simp only[Nat.zero_add]at d0 d1 d2 d3 d4 d5;have f4:=hS8.mv.frozen 4;have f3:=hS8.mv.frozen 3;obtain⟨m0,hm0⟩:=hS8.res;obtain⟨k0,k1,k2,k3,k4,k5⟩:=hm0.at_;simp only[Nat.zero_add]at k0 k1 k2 k3 k4 k5;have fr:=hm0.frozen))
  all_goals first
   |(exfalso;omega)
   |(have hx:(z6==0)=false/\L<=10000:=⟨by assumption,by omega⟩;obtain⟨m1,hm1⟩:=(hS8).res;have q:=cP (w8) Br 0 ⟨s,decide (z1<3),1+z2,now+z3,L,-1⟩ _ _ hm1 (by simp);obtain⟨q0,q1,q2,q3,q4,q5⟩:=q;simp only[Nat.zero_add]at q0 q1 q2 q3 q4 q5;change bodyPost _ _ _ _ _ (setMv (w8) Br 0 ⟨s,decide (z1<3),1+z2,now+z3,L,-1⟩);exact bodyPost_ret (v:=.agg #[.string s,.bool (decide (z1<3)),.int .i64 (1+z2),.int .i64 (now+z3),.int .i64 (L),.int .i64 (-1)]) (by simp[results,Tryz.results81,go_sem,q0,q1,q2,q3,q4,q5]) rfl ⟨⟨⟨s,decide (z1<3),1+z2,now+z3,L,-1⟩,rfl,⟨rfl,by simp only;omega,by simp only;omega,rfl⟩⟩,(hS8).went h0 g1 g3 _ (by omega)⟩)
   |(have hx:((z6==0)=true\/10000<L)/\now+z3<=10000:=⟨by first|exact .inl (by assumption)|exact .inr (by omega),by omega⟩;obtain⟨m1,hm1⟩:=(hS8.late h0 g1 g2 g3 10000).res;have q:=cP (w8.setCell ⟨Bm,4,none⟩ (.int .i64 10000)) Br 0 ⟨s,decide (z1<3),1+z2,now+z3,10000,-1⟩ _ _ hm1 (by simp);obtain⟨q0,q1,q2,q3,q4,q5⟩:=q;simp only[Nat.zero_add]at q0 q1 q2 q3 q4 q5;change bodyPost _ _ _ _ _ (setMv (w8.setCell ⟨Bm,4,none⟩ (.int .i64 10000)) Br 0 ⟨s,decide (z1<3),1+z2,now+z3,10000,-1⟩);exact bodyPost_ret (v:=.agg #[.string s,.bool (decide (z1<3)),.int .i64 (1+z2),.int .i64 (now+z3),.int .i64 (10000),.int .i64 (-1)]) (by simp[results,Tryz.results81,go_sem,q0,q1,q2,q3,q4,q5]) rfl ⟨⟨⟨s,decide (z1<3),1+z2,now+z3,10000,-1⟩,rfl,⟨rfl,by simp only;omega,by simp only;omega,rfl⟩⟩,(hS8.late h0 g1 g2 g3 10000).went h0 g1 g3 _ (by omega)⟩)
   |(have hx:((z6==0)=true\/10000<L)/\10000<now+z3:=⟨by first|exact .inl (by assumption)|exact .inr (by omega),by omega⟩;obtain⟨m1,hm1⟩:=((hS8.late h0 g1 g2 g3 10000).est h0 g1 g2 g3 10000).res;have q:=cP ((w8.setCell ⟨Bm,4,none⟩ (.int .i64 10000)).setCell ⟨Bm,3,none⟩ (.int .i64 10000)) Br 0 ⟨s,decide (z1<3),1+z2,10000,10000,-1⟩ _ _ hm1 (by simp);obtain⟨q0,q1,q2,q3,q4,q5⟩:=q;simp only[Nat.zero_add]at q0 q1 q2 q3 q4 q5;change bodyPost _ _ _ _ _ (setMv ((w8.setCell ⟨Bm,4,none⟩ (.int .i64 10000)).setCell ⟨Bm,3,none⟩ (.int .i64 10000)) Br 0 ⟨s,decide (z1<3),1+z2,10000,10000,-1⟩);exact bodyPost_ret (v:=.agg #[.string s,.bool (decide (z1<3)),.int .i64 (1+z2),.int .i64 (10000),.int .i64 (10000),.int .i64 (-1)]) (by simp[results,Tryz.results81,go_sem,q0,q1,q2,q3,q4,q5]) rfl ⟨⟨⟨s,decide (z1<3),1+z2,10000,10000,-1⟩,rfl,⟨rfl,by simp only;omega,by simp only;omega,rfl⟩⟩,((hS8.late h0 g1 g2 g3 10000).est h0 g1 g2 g3 10000).went h0 g1 g3 _ (by omega)⟩)
 all_goals first
  |(exfalso;omega)
  |(have hx:(z6==0)=false/\L<=10000:=⟨by assumption,by omega⟩;obtain⟨m1,hm1⟩:=(hS8).res;have q:=cP (w8) Br 0 ⟨s,decide (z1<3),1+z2,now+z3,L,-1⟩ _ _ hm1 (by simp);obtain⟨q0,q1,q2,q3,q4,q5⟩:=q;simp only[Nat.zero_add]at q0 q1 q2 q3 q4 q5;change bodyPost _ _ _ _ _ (setMv (w8) Br 0 ⟨s,decide (z1<3),1+z2,now+z3,L,-1⟩);exact bodyPost_ret (v:=.agg #[.string s,.bool (decide (z1<3)),.int .i64 (1+z2),.int .i64 (now+z3),.int .i64 (L),.int .i64 (-1)]) (by simp[results,Tryz.results81,go_sem,q0,q1,q2,q3,q4,q5]) rfl ⟨⟨⟨s,decide (z1<3),1+z2,now+z3,L,-1⟩,rfl,⟨rfl,by simp only;omega,by simp only;omega,rfl⟩⟩,(hS8).went h0 g1 g3 _ (by omega)⟩)
  |(have hx:((z6==0)=true\/10000<L)/\now+z3<=10000:=⟨by first|exact .inl (by assumption)|exact .inr (by omega),by omega⟩;obtain⟨m1,hm1⟩:=(hS8.late h0 g1 g2 g3 10000).res;have q:=cP (w8.setCell ⟨Bm,4,none⟩ (.int .i64 10000)) Br 0 ⟨s,decide (z1<3),1+z2,now+z3,10000,-1⟩ _ _ hm1 (by simp);obtain⟨q0,q1,q2,q3,q4,q5⟩:=q;simp only[Nat.zero_add]at q0 q1 q2 q3 q4 q5;change bodyPost _ _ _ _ _ (setMv (w8.setCell ⟨Bm,4,none⟩ (.int .i64 10000)) Br 0 ⟨s,decide (z1<3),1+z2,now+z3,10000,-1⟩);exact bodyPost_ret (v:=.agg #[.string s,.bool (decide (z1<3)),.int .i64 (1+z2),.int .i64 (now+z3),.int .i64 (10000),.int .i64 (-1)]) (by simp[results,Tryz.results81,go_sem,q0,q1,q2,q3,q4,q5]) rfl ⟨⟨⟨s,decide (z1<3),1+z2,now+z3,10000,-1⟩,rfl,⟨rfl,by simp only;omega,by simp only;omega,rfl⟩⟩,(hS8.late h0 g1 g2 g3 10000).went h0 g1 g3 _ (by omega)⟩)
  |(have hx:((z6==0)=true\/10000<L)/\10000<now+z3:=⟨by first|exact .inl (by assumption)|exact .inr (by omega),by omega⟩;obtain⟨m1,hm1⟩:=((hS8.late h0 g1 g2 g3 10000).est h0 g1 g2 g3 10000).res;have q:=cP ((w8.setCell ⟨Bm,4,none⟩ (.int .i64 10000)).setCell ⟨Bm,3,none⟩ (.int .i64 10000)) Br 0 ⟨s,decide (z1<3),1+z2,10000,10000,-1⟩ _ _ hm1 (by simp);obtain⟨q0,q1,q2,q3,q4,q5⟩:=q;simp only[Nat.zero_add]at q0 q1 q2 q3 q4 q5;change bodyPost _ _ _ _ _ (setMv ((w8.setCell ⟨Bm,4,none⟩ (.int .i64 10000)).setCell ⟨Bm,3,none⟩ (.int .i64 10000)) Br 0 ⟨s,decide (z1<3),1+z2,10000,10000,-1⟩);exact bodyPost_ret (v:=.agg #[.string s,.bool (decide (z1<3)),.int .i64 (1+z2),.int .i64 (10000),.int .i64 (10000),.int .i64 (-1)]) (by simp[results,Tryz.results81,go_sem,q0,q1,q2,q3,q4,q5]) rfl ⟨⟨⟨s,decide (z1<3),1+z2,10000,10000,-1⟩,rfl,⟨rfl,by simp only;omega,by simp only;omega,rfl⟩⟩,((hS8.late h0 g1 g2 g3 10000).est h0 g1 g2 g3 10000).went h0 g1 g3 _ (by omega)⟩)
end Go.Proofs.YtlmcblcijndipaaGreat
