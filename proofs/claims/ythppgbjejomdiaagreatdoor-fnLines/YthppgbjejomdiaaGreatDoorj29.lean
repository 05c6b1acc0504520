import Derived.Test.YthppgbjejomdiaaGreatDoorj28
import Derived.Test.YthppgbjejomdiaaGreatDoorj20
set_option linter.all false
set_option maxHeartbeats 4000000
set_option maxRecDepth 10000
open ByteArray renaming size_append->az,mk->a4
open Go renaming World->ay,Calls->aV,wp_region_held_drew->a0,heap_alloc_new->a1,cell_of_row->a2,wpAnyH_done->a3
open Go.Act renaming put->au
open Go.RowKit renaming Below->av
open Go.Value renaming string->aa,int->ac,pointer->aE,bool->aP
open List renaming setIfInBounds_toArray->ad,set_cons_zero->aj,set_cons_succ->ao,length_cons->aG,length_nil->aL
namespace Go.Proofs.YthppgbjejomdiaaGreatDoor
variable {W W':ay}
open RowKit
theorem acu (R p b n w c)(f:c<=R)(g:Rd w R p)(v:p<=1000000)(x:0<n)(y:n<=1000)(j:b≠R)(l:b<w)(r:∀i,i<n->∃s:ByteArray,w.cell? ⟨b,i,none⟩=some (aa s)/\s.size<=20): aV Tz.prog 10 #[aE R,.slice b n n] w λe w'=>(∃s:ByteArray,e=.returned (aa s)/\s.size<=20)/\Rd w' R (p+1)/\lp R w w'/\av c w w':=by have d:=fk R p n w c f g ab ab ab;go_enter Tz.func10,Tryz.ntmps10;(go_wp2_with(go_at_call 8;refine d.mono ?_;clear d;rintro e A ⟨⟨z,rfl,B,C⟩,D,t,E⟩;obtain⟨k,rfl⟩:∃k:Nat,z=(k:Int):=⟨z.toNat,ab⟩;let⟨s,u,F⟩:=r k ab;have J:=(Px t l j).trans u));go_ret;simp_all
theorem Q6 (s)(n:Nat)(w)(c:n<=100000)(f:s.size<=100): aV Tz.prog 13 #[aa s,ac .i64 n] w λe w'=>(∃t:ByteArray,e=.returned (aa t)/\t.size<=n*s.size)/\av w w w':=by
 have r:=Nat.mul_le_mul c f;go_enter Tz.func13,Tryz.ntmps13;go_wp2;go_loopw [0,1,5] (λx y z wr=>∃(u o:ByteArray) (k:Nat),x=aa u/\y=ac .i64 k/\z=aa o/\k<=100000/\o.size+k*u.size<=n*s.size/\av w w wr) (λ_ y _ _=>(intOf y).toNat)
 exact⟨s,_,n,rfl,rfl,rfl,c,Nat.le_of_eq<|Nat.zero_add _,agn _ _⟩;obtain⟨u,o,k,rfl,rfl,rfl,hk,ho,d⟩:=hrel;by_cases g:k=0
 .subst g;go_wp2;go_ret;simp_all
 have v:u.size<=k*u.size:=Nat.le_mul_of_pos_left _ (by omega);have j:k*u.size=(k/2)*(u.size+u.size)+(k%2)*u.size:=by grind [Nat.div_add_mod,Nat.add_mul,Nat.mul_comm,Nat.mul_assoc,Nat.two_mul]
 by_cases l:k%2=1
 .go_wp2<;>first|omega|skip
  refine⟨⟨u++u,o++u,k/2,rfl,by simp,rfl,by omega,?_,d⟩,by simp[intOf];omega⟩;rw[az,az];rw[l]at j;omega
 go_wp2<;>first|omega|skip
 refine⟨⟨u++u,o,k/2,rfl,by simp,rfl,by omega,?_,d⟩,by simp[intOf];omega⟩;rw[az];omega
def Sbx (V:ay)(B:Nat)(s:ByteArray)(a b c:Nat)(W:ay):Prop:=av V V W/\W.cell? ⟨B,0,none⟩=some (aa s)/\W.cell? ⟨B,2,none⟩=some (ac .i64 a)/\W.cell? ⟨B,3,none⟩=some (ac .i64 b)/\W.cell? ⟨B,4,none⟩=some (ac .i64 c)
theorem uj {p v}(k:av W W W')(h:W.cell? p=some v):W'.cell? p=some v:=(k.cell<|block_lt_of_cell h).trans h
theorem Sbx.to {V B s a b c}(h:Sbx V B s a b c W)(k:av W W W'):Sbx V B s a b c W':=⟨h.1.trans<|k.mono h.1.size,uj k h.2.1,uj k h.2.2.1,uj k h.2.2.2.1,uj k h.2.2.2.2⟩
theorem Yt (l:List UInt8):(a4 l.toArray).size=l.length:=rfl
theorem qg {p:Prop}(h:p:=by intro w' hSw;let⟨s0,s1,s2,s3,s4⟩:=hSw;first|(go_simp;done)|(go_simp;omega)):p:=h
theorem TV (w:ay)(m):∃a W,w.alloc (.cells #[aa ⟨#[]⟩,aP false,ac .i64 0,ac .i64 0,ac .i64 0,ac .i64 0] 30)=a/\(((((a.setCell ⟨w,0,none⟩<|aa m.name).setCell ⟨w,1,none⟩<|aP m.ax).setCell ⟨w,2,none⟩<|ac .i64 m.aI).setCell ⟨w,3,none⟩<|ac .i64 m.cj).setCell ⟨w,4,none⟩<|ac .i64 m.late).setCell ⟨w,5,none⟩ (ac .i64 m.prom)=W/\dU a w ⟨⟨#[]⟩,false,0,0,0,0⟩/\dU W w m/\av w w W:=by refine⟨_,_,rfl,rfl,a1 w _,?_,?_⟩;rotate_left;exact(((((((agn _ w).alloc (agw _) _).setCell (agw _) _).setCell (agw _) _).setCell (agw _) _).setCell (agw _) _).setCell (agw _) _).setCell (agw _) _;have:=heap_setCell_same _ _ 5 _ _ (ac .i64 m.prom)<|heap_setCell_same _ _ 4 _ _ (ac .i64 m.late)<|heap_setCell_same _ _ 3 _ _ (ac .i64 m.cj)<|heap_setCell_same _ _ 2 _ _ (ac .i64 m.aI)<|heap_setCell_same _ _ 1 _ _ (aP m.ax)<|heap_setCell_same _ w 0 _ _ (aa m.name)<|heap_alloc_new w<|.cells #[aa ⟨#[]⟩,aP false,ac .i64 0,ac .i64 0,ac .i64 0,ac .i64 0] 30;assumption
theorem Ht (a l cap cd w)(h:vE w a l cd)(BG:l<=cap): aV Tz.prog 4 #[.slice a l cap] w λe w'=>(∃t:ByteArray,e=.returned (aa t)/\t.size<=20000)/\av w w w':=by
 have H1:=Rp a l cap cd w h BG;go_enter Tz.func4,Tryz.ntmps4;go_wp2_with(first
  |(go_at_call 7;refine H1.mono ?_;clear H1;rintro e w1 ⟨rfl,r1,b1⟩;have H2:=fk w 0 16 w1 w ab r1 ab ab ab)
  |(go_at_call 8;refine H2.mono ?_;clear H2;rintro e w2 ⟨⟨z,rfl,l2,u2⟩,r2,t2,b2⟩;obtain⟨j0,rfl⟩:∃k:Nat,z=(k:Int):=⟨z.toNat,ab⟩))
 have ax:j0<=15:=by omega
 clear r1 t2 l2 u2;replace b2:=b1.trans b2;clear b1 w1;revert b2 r2;generalize nG:(w:Nat)=R;intro r2 b2;replace nG:Hid _:=nG;go_loopw [4,5] (λx y W=>∃(o:ByteArray) (j:Nat) (q:Int),x=aa o/\y=ac .i64 j/\j<=15/\o.size+j*60<=900/\0<=q/\q+j*20<=400/\Rd W R q/\av R w W) (λ_ y _=>(intOf y).toNat)
 exact⟨_,j0,1,rfl,rfl,ax,by show 0+_<=_;omega,ab,ab,r2,b2⟩;clear r2 b2;obtain⟨o,j,q,rfl,rfl,hj,ho,XX,bb,r,b⟩:=hrel;by_cases ax:0<j
 .have be:(0:Int)<j:=ab;have hR:=r.lt;go_wp2_with fail
  refine(NH wr).mono ?_;rintro e w3 ⟨rfl,⟨cs,U,XR⟩,b3⟩;have r3:=r.below b3;replace b:=b.trans<|b3.mono ab;have HO:=acu R q wr 6 w3 R ab r3 ab ab ab ab (agy.1 U).1 λi hi=>by let⟨s,h1,h2⟩:=XR i hi;exact⟨s,(a2 _ _ _ _ _ _ U).trans h1,by omega⟩
  go_wp2_with fail
  refine HO.mono ?_;clear HO;rintro e w4 ⟨⟨s,rfl,a5⟩,r4,-,b4⟩;replace b:=b.trans b4;have H5:=fk R _ 8 w4 R ab r4 ab ab ab;go_wp2_with fail
  refine H5.mono ?_;clear H5;rintro e w5 ⟨⟨a6,rfl,l5,u5⟩,r5,-,b5⟩;replace b:=b.trans b5;have HM:=JT R _ s a6 w5 R (agw _) r5 ab ab ab;go_wp2_with fail
  refine HM.mono ?_;clear HM;rintro e w6 ⟨⟨m,rfl,J,gZ⟩,⟨q6,g6,v6,r6⟩,-,b6⟩;replace b:=b.trans b6;clear r3 r4 r5 b3 b4 b5 b6 U XR r;have ZY:=r6.lt;let⟨Wa,W7,ea,e7,C,hM,b7⟩:=TV w6 m;have r7:=r6.below b7;replace b:=b.trans<|b7.mono<|agO ZY;have Y:(w6:Nat)≠R:=agM ZY;let⟨k0,k1,k2,k3,k4,k5⟩:=C.at_;simp only[Nat.zero_add]at k0 k1 k2 k3 k4 k5;have fr:=C.frozen;revert ea e7 C hM Y k0 k1 k2 k3 k4 k5 fr;generalize hB:(w6:Nat)=N;intro ea e7 C hM Y k0 k1 k2 k3 k4 k5 fr;clear b7 r6 ZY;go_wp2_with fail
  refine(fk R q6 10 W7 R (agw _) r7 ab ab ab).mono ?_;rintro e w8 ⟨⟨z,rfl,l8,u8⟩,T,t8,b8⟩;have Z:=hM.but t8 Y;replace b:=b.trans b8;clear t8 b8 hM r7 C k0 k1 k2 k3 k4 k5 fr ea e7 hB;let⟨y0,y1⟩:=J.aI;let⟨y2,y3,y4⟩:=J.span;have y5:=gZ l5;have XR:m.name.size<=20:=J.name▸a5;obtain⟨f,U3⟩:∃k:Nat,m.aI=(k:Int):=⟨m.aI.toNat,ab⟩;obtain⟨B,IB⟩:∃k:Nat,m.cj=(k:Int):=⟨m.cj.toNat,ab⟩;obtain⟨D,Lv⟩:∃k:Nat,m.late=(k:Int):=⟨m.late.toNat,ab⟩;have x1:=iv 4 f ab;have x2:=iv 4 B ab;have x3:=iv 4 D ab;have v1:f<1000000:=ab;have v2:B<1000000:=ab;have v3:D<1000000:=ab;let⟨c0,c1,c2,c3,c4,c5⟩:=Z.at_;simp only[Nat.zero_add]at c0 c1 c2 c3 c4 c5;rw[U3]at c2;rw[IB]at c3;rw[Lv]at c4;have O:=T.lt;have bi:=Z.lt;clear y0 y1 y2 y3 y4 y5 U3 IB Lv Z J gZ c1 c5;generalize m.name=u at c0 XR;have aZ:Sbx w8 N u f B D w8.drew:=⟨(agn _ _).drew,c0,c2,c3,c4⟩;have lu:Hid (∀(t:ByteArray) (q':Int) (W':ay),t.size<=o.size+60->0<=q'->q'<=q+20->Rd W' R q'->av R w W'->(∃(o:ByteArray) (j':Nat) (q:Int),aa t=aa o/\ac .i64 ((j:Int)-1)=ac .i64 j'/\j'<=15/\o.size+j'*60<=900/\0<=q/\q+j'*20<=400/\Rd W' R q/\av R w W')/\(intOf<|ac .i64<|(j:Int)-1).toNat<(intOf<|ac .i64 (j:Int)).toNat):=λt q' W' h1 h2 h3 h4 h5=>⟨⟨t,j-1,q',rfl,by congr 1;omega,ab,ab,h2,ab,h4,h5⟩,cD⟩;obtain rfl|rfl|rfl|rfl|rfl|rfl|rfl|rfl|rfl|rfl:z=0\/z=1\/z=2\/z=3\/z=4\/z=5\/z=6\/z=7\/z=8\/z=9:=ab;all_goals go_wp2_with(first
   |(go_at_call 8;refine(fk R (q6+1) 7 w8 R (agw _) T ab ab ab).mono ?_;rintro e w9 ⟨⟨z,rfl,l9,u9⟩,r9,-,b9⟩;obtain⟨k,rfl⟩:∃k:Nat,z=(k:Int):=⟨z.toNat,ab⟩;have x4:=iv 0 k ab)
   |(go_at_call 12;refine(jZ k ab w9).mono ?_;rintro e a7 ⟨rfl,Bu⟩;have a8:=r9.below Bu;replace b:=(b.trans b9).trans<|Bu.mono<|agO r9.lt))
  all_goals first|(exfalso;omega)|skip
  all_goals first
   |exact lu.out _ _ _ (by simp only[az,Yt,aG,aL];omega) ab ab T b
   |exact lu.out _ _ _ (by simp only[az,Yt,aG,aL];omega) ab ab a8 b
   |skip
  rotate_left 4
  .refine(acu R (q6+1) w8 13 _ R (agw _) (T.below<|(agn _ _).alloc (agw _) _) ab ab ab (agM O) aN λi hi=>?_).mono ?_;(.rw[a2 _ _ _ _ _ _ (a1 _ _)];(iterate 13 (rcases i with _|i;exact⟨_,rfl,bc⟩));omega);rintro e w9 ⟨⟨s9,rfl,bj⟩,r9,-,b9⟩;go_wp2;(all_goals first|(exfalso;omega)|skip);exact lu.out _ _ _ (by simp only[az,Yt,aG,aL];omega) ab ab r9<|(b.alloc (agO O) _).trans b9
  rotate_left 3
  .refine a0 aO aZ (λhS=>?_);refine ai 0 (aa o) 53 rfl qg hS ?_;refine ai 1 (aa<|o++⟨#[108,101,97,118,101,32]⟩) 54 rfl qg hS ?_;refine ai 2 (aE<|some ⟨N,0,none⟩) 55 rfl qg hS ?_;refine ai 3 (aa u) 56 rfl qg hS ?_;simp only[au,ad,aj,ao];refine ai 4 (aa<|(o++⟨#[108,101,97,118,101,32]⟩)++u) 57 rfl qg hS ?_;refine ai 5 (aa<|(o++⟨#[108,101,97,118,101,32]⟩)++u++⟨#[32]⟩) 58 rfl qg hS ?_;refine ai 6 (aE<|some ⟨N,2,none⟩) 59 rfl qg hS ?_;refine ai 7 (ac .i64 f) 60 rfl qg hS ?_;simp only[au,ad,aj,ao];refine ai 11 (aE<|some ⟨N,3,none⟩) 64 rfl qg hS ?_;refine ai 12 (ac .i64 B) 65 rfl qg hS ?_;refine ai 16 (aE<|some ⟨N,4,none⟩) 69 rfl qg hS ?_;refine ai 17 (ac .i64 D) 70 rfl qg hS ?_;simp only[au,ad,aj,ao];refine fH 8 rfl λK hK=>?_;go_simp;(go_at_call 12);refine(jZ f v1 _).mono ?_;rintro e wn ⟨rfl,A⟩;refine hK.out _ _ (hS.to A) λhS=>?_;clear hK K A;refine ai 9 (aa<|(o++⟨#[108,101,97,118,101,32]⟩)++u++⟨#[32]⟩++d7 f) 62 rfl qg hS ?_;refine ai 10 (aa<|(o++⟨#[108,101,97,118,101,32]⟩)++u++⟨#[32]⟩++d7 f++⟨#[32]⟩) 63 rfl qg hS ?_;simp only[au,ad,aj,ao];refine fH 13 rfl λK hK=>?_;go_simp;(go_at_call 12);refine(jZ B v2 _).mono ?_;rintro e wn ⟨rfl,A⟩;refine hK.out _ _ (hS.to A) λhS=>?_;clear hK K A;refine ai 14 (aa<|(o++⟨#[108,101,97,118,101,32]⟩)++u++⟨#[32]⟩++d7 f++⟨#[32]⟩++d7 B) 67 rfl qg hS ?_;refine ai 15 (aa<|(o++⟨#[108,101,97,118,101,32]⟩)++u++⟨#[32]⟩++d7 f++⟨#[32]⟩++d7 B++⟨#[32]⟩) 68 rfl qg hS ?_;simp only[au,ad,aj,ao];refine fH 18 rfl λK hK=>?_;go_simp;(go_at_call 12);refine(jZ D v3 _).mono ?_;rintro e wn ⟨rfl,A⟩;refine hK.out _ _ (hS.to A) λhS=>?_;clear hK K A;refine ai 19 (aa<|(o++⟨#[108,101,97,118,101,32]⟩)++u++⟨#[32]⟩++d7 f++⟨#[32]⟩++d7 B++⟨#[32]⟩++d7 D) 72 rfl qg hS ?_;refine ai 20 (aa<|(o++⟨#[108,101,97,118,101,32]⟩)++u++⟨#[32]⟩++d7 f++⟨#[32]⟩++d7 B++⟨#[32]⟩++d7 D++⟨#[10]⟩) 73 rfl qg hS ?_;simp only[au,ad,aj,ao];refine fH 21 rfl λK hK=>?_;go_simp;refine hK.out _ _ hS λhS=>?_;clear hK K;refine a3 aO ?_ _;go_wp2;(all_goals first|(exfalso;omega)|skip);exact lu.out _ _ _ (by simp only[az,Yt,aG,aL];omega) ab ab (T.below hS.1)<|b.trans<|hS.1.mono<|agO O
  all_goals refine a0 aO aZ λhS=>?_
  all_goals(refine ai 0 (aa o) 30 rfl qg hS ?_)
  all_goals(refine ai 1 (aa<|o++⟨#[108,97,110,100,32]⟩) 31 rfl qg hS ?_)
  all_goals(refine ai 2 (aE<|some ⟨N,0,none⟩) 32 rfl qg hS ?_)
  all_goals(refine ai 3 (aa u) 33 rfl qg hS ?_)
  all_goals(simp only[au,ad,aj,ao])
  all_goals(refine ai 4 (aa<|(o++⟨#[108,97,110,100,32]⟩)++u) 34 rfl qg hS ?_)
  all_goals(refine ai 5 (aa<|(o++⟨#[108,97,110,100,32]⟩)++u++⟨#[32]⟩) 35 rfl qg hS ?_)
  all_goals(refine ai 6 (aE<|some ⟨N,2,none⟩) 36 rfl qg hS ?_)
  all_goals(refine ai 7 (ac .i64 f) 37 rfl qg hS ?_)
  all_goals(simp only[au,ad,aj,ao])
  all_goals(refine ai 11 (aE<|some ⟨N,3,none⟩) 41 rfl qg hS ?_)
  all_goals(refine ai 12 (ac .i64 B) 42 rfl qg hS ?_)
  all_goals(refine ai 16 (aE<|some ⟨N,4,none⟩) 46 rfl qg hS ?_)
  all_goals(refine ai 17 (ac .i64 D) 47 rfl qg hS ?_)
  all_goals(simp only[au,ad,aj,ao])
  all_goals(refine fH 8 rfl λK hK=>?_)
  all_goals(go_simp)
  all_goals(go_at_call 12)
  all_goals(refine(jZ f v1 _).mono ?_)
  all_goals(rintro e wn ⟨rfl,A⟩)
  all_goals(refine hK.out _ _ (hS.to A) λhS=>?_)
  all_goals(clear hK K A)
  all_goals(refine ai 9 (aa<|(o++⟨#[108,97,110,100,32]⟩)++u++⟨#[32]⟩++d7 f) 39 rfl qg hS ?_)
  all_goals(refine ai 10 (aa<|(o++⟨#[108,97,110,100,32]⟩)++u++⟨#[32]⟩++d7 f++⟨#[32]⟩) 40 rfl qg hS ?_)
  all_goals(simp only[au,ad,aj,ao])
  all_goals(refine fH 13 rfl λK hK=>?_)
  all_goals(go_simp)
  all_goals(go_at_call 12)
  all_goals(refine(jZ B v2 _).mono ?_)
  all_goals(rintro e wn ⟨rfl,A⟩)
  all_goals(refine hK.out _ _ (hS.to A) λhS=>?_)
  all_goals(clear hK K A)
  all_goals(refine ai 14 (aa<|(o++⟨#[108,97,110,100,32]⟩)++u++⟨#[32]⟩++d7 f++⟨#[32]⟩++d7 B) 44 rfl qg hS ?_)
  all_goals(refine ai 15 (aa<|(o++⟨#[108,97,110,100,32]⟩)++u++⟨#[32]⟩++d7 f++⟨#[32]⟩++d7 B++⟨#[32]⟩) 45 rfl qg hS ?_)
  all_goals(simp only[au,ad,aj,ao])
  all_goals(refine fH 18 rfl λK hK=>?_)
  all_goals(go_simp)
  all_goals(go_at_call 12)
  all_goals(refine(jZ D v3 _).mono ?_)
  all_goals(rintro e wn ⟨rfl,A⟩)
  all_goals(refine hK.out _ _ (hS.to A) λhS=>?_)
  all_goals(clear hK K A)
  all_goals(refine ai 19 (aa<|(o++⟨#[108,97,110,100,32]⟩)++u++⟨#[32]⟩++d7 f++⟨#[32]⟩++d7 B++⟨#[32]⟩++d7 D) 49 rfl qg hS ?_)
  all_goals(refine ai 20 (aa<|(o++⟨#[108,97,110,100,32]⟩)++u++⟨#[32]⟩++d7 f++⟨#[32]⟩++d7 B++⟨#[32]⟩++d7 D++⟨#[10]⟩) 50 rfl qg hS ?_)
  all_goals(simp only[au,ad,aj,ao])
  all_goals(refine fH 21 rfl λK hK=>?_)
  all_goals(go_simp)
  all_goals(refine hK.out _ _ hS λhS=>?_)
  all_goals(clear hK K)
  all_goals(refine a3 aO ?_ _)
  all_goals(go_wp2)
  all_goals(all_goals first|(exfalso;omega)|skip)
  all_goals(exact lu.out _ _ _ (by simp only[az,Yt,aG,aL];omega) ab ab (T.below hS.1)<|b.trans<|hS.1.mono<|agO O)
 obtain rfl:j=0:=ab;go_wp2_with(fail)
 refine(fk R q 24 wr R (agw _) r ab ab ab).mono ?_;rintro e w8 ⟨⟨z,rfl,l8,u8⟩,T,t8,b8⟩;replace b:=b.trans b8;have hM:∀(s:ByteArray) (x:Int) (w':ay),0<=x/\x<=100000->s.size<=100->aV Tz.prog 13 #[aa s,ac .i64 x] w' λe a9=>(∃t:ByteArray,e=.returned (aa t)/\t.size<=x.toNat*s.size)/\av w' w' a9:=λs x w' h1 h3=>by have:=Q6 s x.toNat w' ab h3;rwa [Int.toNat_of_nonneg h1.1]at this
 clear t8 b8 r;obtain rfl|rfl|⟨n0,n1⟩:z=0\/z=1\/(z≠0/\z≠1):=ab;all_goals go_wp2_with(first
   |(go_at_call 8;refine(fk R (q+1) 2 w8 R (agw _) T ab ab ab).mono ?_;rintro e w9 ⟨⟨z,rfl,l9,u9⟩,r9,-,b9⟩;obtain⟨k,rfl⟩:∃k:Nat,z=(k:Int):=⟨z.toNat,ab⟩;replace b:=b.trans b9)
   |(go_at_call 13;refine(hM _ _ w9 ab bc).mono ?_;rintro e a7 ⟨⟨t,rfl,ht⟩,Bu⟩))
 all_goals first|(exfalso;omega)|skip
 all_goals go_ret
 exact⟨⟨t,rfl,by simp only[Yt,aG,aL]at ht;omega⟩,by rw[nG.out];exact b.trans<|Bu.mono<|agO r9.lt⟩;exact⟨⟨t,rfl,by simp only[Yt,aG,aL]at ht;omega⟩,by rw[nG.out];exact b.trans<|Bu.mono<|agO r9.lt⟩;exact⟨⟨_,rfl,by simp only[az,Yt,aG,aL];omega⟩,by rw[nG.out];exact b⟩
