import Derived.Test.YthppgbjejomdiaaGreatDoorj24
import Derived.Test.YthppgbjejomdiaaGreatDoorj27
set_option linter.all false
set_option maxHeartbeats 4000000
set_option maxRecDepth 10000
open ByteArray renaming empty->a0
open Go renaming World->ad,cell_of_row->aE,Value->aP,heap_alloc_new->a1,bodyPost_ret->a2,results->a3,Calls->a4,heap_setCell_same->a6,wpList_append_own->a7,frozen_of_row->a9,info_parts->bb,bodyPost->be
open Go.RowKit renaming Below->ao
open Go.Value renaming int->aa,slice->ac,string->aj,bool->aL,ownBlock->a8
open Go.World renaming cell?_setCell_other->a5
open Nat renaming zero_add->ay
namespace Go.Proofs.YthppgbjejomdiaaGreatDoor
open RowKit
variable {q:Int}{m:Mv}{r a R b t:Nat}{W w w':ad}
section
variable {B:Nat}{p:Int}
def Rd.drew (u:Rd w R p):Rd w.drew R p:=by let⟨⟨a,n,e,c,x,y,s,hc⟩,z⟩:=u;refine⟨⟨a,n,e,c,x,y,?_,hc⟩,z⟩;rcases s with h|⟨b,off,rfl,A,s⟩;exact .inl h;exact .inr ⟨b,off,rfl,A,λi C=>s i C⟩
def vE (w:ad)(a:Option Addr)(n:Nat)(c:Nat->Int):Prop:=n<=maxLen/\(n=0\/∃b off,a=some ⟨b,off,none⟩/\b<w/\tZ w b off n c)/\∀i,i<n->0<=c i/\c i<=255
def Rp (a n cap c w)(h:vE w a n c)(C:n<=cap): Calls Tz.prog 7 #[.slice a n cap] w λe w'=>e=.returned (.pointer w)/\Rd w' w 0/\Below w w w':=by let⟨y,s,hc⟩:=h;unfold maxLen at y;have u:∀o,Below w w (w.alloc o):=λo=>(agn _ _).alloc (agw _) _;by_cases z:n<=2000;(.go_enter Tz.func7,Tryz.ntmps7;go_wp2;go_ret;refine⟨rfl,⟨⟨a,n,cap,c,heap_alloc_new _ _,z,?_,hc⟩,Int.le_refl _⟩,u _⟩;rcases s with h|⟨b,off,rfl,hb,s⟩;exact .inl h;exact .inr ⟨b,off,rfl,hb,λi x=>((u _).cell (p:=⟨b,off+i,none⟩) hb).trans<|s i x⟩);(obtain⟨b,off,rfl,hb,A⟩:∃b off,a=some ⟨b,off,none⟩/\b<w/\tZ w b off n c:=by rcases s with h|h;omega;exact h);have D:(2000:Int)<=cap:=ab;go_enter Tz.func7,Tryz.ntmps7;go_wp2;go_ret;exact⟨rfl,⟨⟨some ⟨b,off,none⟩,2000,cap,c,heap_alloc_new _ _,agw _,.inr ⟨b,off,rfl,hb,λi x=>((u _).cell (p:=⟨b,off+i,none⟩) hb).trans<|A i ab⟩,λi x=>hc i ab⟩,Int.le_refl _⟩,u _⟩
structure aaP (m:Mv)(s):Prop where
 name:m.name=s
 aI:1<=m.aI/\m.aI<=3
 span:-1<=m.cj/\m.cj<=m.late/\m.late<=10000
 prom:m.prom=-1
structure aaY (R p k t w w'):Prop where
 rd:∃q,p<=q/\q<=p+k/\Rd w' R q
 but:lp R w w'
 below:ao t w w'
def Rd.set (u:Rd w R p)(h:R<B)(o:Nat)(v:aP):Rd (w.setCell ⟨B,o,none⟩ v) R p:=by let⟨⟨a,n,e,c,x,y,s,hc⟩,z⟩:=u;refine⟨⟨a,n,e,c,(agp w _ v R cY).trans x,y,?_,hc⟩,z⟩;rcases s with A|⟨b,off,rfl,C,s⟩;exact .inl A;exact .inr ⟨b,off,rfl,C,λi D=>by rw[a5 _ _ _ _ DZ];exact s i D⟩
structure sP (R a r t)(w:ad)(m q W):Prop where
 mv:dU W r m
 res:∃m0,dU W a m0
 rd:Rd W R q
 but:∀k,k<(w:Nat)->k≠R->W.heap[k]?=w.heap[k]?
 below:ao t w W
def sP.drew (h:sP R a r t w m q W):sP R a r t w m q W.drew:=⟨h.mv,h.res,h.rd.drew,h.but,h.below.drew⟩
theorem sP.pick {W':ad}(h:sP R a r t w m q W)(s:R<w)(u:R<a)(x:a<r)(y:(w:Nat)<=a)(d:Rd W' R (q+1))(e:lp R W W')(g:ao t W W'):sP R a r t w m (q+1) W':=by have i:r<W:=(agy.1 h.mv).1;let⟨j,l⟩:=h.res;exact⟨(e.block r i ab).trans h.mv,⟨j,(e.block a ab ab).trans l⟩,d,λk o c=>(e.block k ab c).trans<|h.but k o c,h.below.trans g⟩
def sP.late (h:sP R a r t w m q W)(i:t<=R)(j:R<a)(l:a<r)(o:(w:Nat)<=a)(x):sP R a r t w {m with late:=x} q (W.setCell ⟨r,4,none⟩ x):=by let⟨d,e⟩:=h.res;refine⟨?_,⟨d,(agp W _ _ a cY).trans e⟩,h.rd.set ab _ _,λk g c=>(agp W _ _ k cY).trans<|h.but k g c,h.below.setCell cY _⟩;have:=a6 W r 4 _ _ x h.mv;simpa[dU]using this
def sP.cj (h:sP R a r t w m q W)(i:t<=R)(j:R<a)(l:a<r)(o:(w:Nat)<=a)(x):sP R a r t w {m with cj:=x} q (W.setCell ⟨r,3,none⟩ x):=by let⟨d,e⟩:=h.res;refine⟨?_,⟨d,(agp W _ _ a cY).trans e⟩,h.rd.set ab _ _,λk g c=>(agp W _ _ k cY).trans<|h.but k g c,h.below.setCell cY _⟩;have:=a6 W r 3 _ _ x h.mv;simpa[dU]using this
def Hv (W B o m) k (h:k≠B):(ol W B o m).heap[k]?=W.heap[k]?:=by simp_all [ol,Below.heap_setCell]
def Rd.ol (h:Rd W R q)(c:R<B)(o m):Rd (ol W B o m) R q:=
 (((((h.set c _ _).set c _ _).set c _ _).set c _ _).set c _ _).set c _ _
def sP.went (h:sP R a r t w m q W)(j:t<=R)(g:R<a)(l:(w:Nat)<=a)(c)(e:p<=q/\q<=p+7):aaY R p 7 t w (ol W a 0 c):=
 ⟨⟨q,e.1,e.2,h.rd.ol g _ _⟩,⟨by have:=h.below.size;simpa[ol]using this,λk i d=>(Hv W a 0 c k ab).trans<|h.but k i d⟩,Hu h.below ab 0 c⟩
def JT (R:Nat)(p:Int)(s:ByteArray)(now:Int)(w:ad)(t:Nat)(d:t<=R)(hr:Rd w R p)(hp:p<=900000)(av:-1<=now)(F8:now<=10009): a4 Tz.prog 9 #[.pointer R,s,now] w λe w'=>(∃m:Mv,e=.returned (.agg #[aj m.name,aL m.ax,aa .i64 m.aI,aa .i64 m.cj,aa .i64 m.late,aa .i64 m.prom])/\aaP m s/\(0<=now->0<=m.cj))/\aaY R p 7 t w w':=by
 have V:=hr.lt;have H1:=fk R p 5 (w.alloc<|.cells #[a0,false,(0:Int),(0:Int),(0:Int),(0:Int)] 30) t d (hr.below<|(agn _ _).alloc (agw _) _) ab ab ab;go_enter Tz.func9,Tryz.ntmps9;go_wp2_with(first
  |(go_at_call 8;refine H1.mono ?_;clear H1;rintro e w1 ⟨⟨g,rfl,l1,u1⟩,r1,t1,b1⟩;have H2:=fk R _ 3 w1 t d r1 ab ab ab)
  |(go_at_call 8;refine H2.mono ?_;clear H2;rintro e w2 ⟨⟨i,rfl,l2,u2⟩,r2,t2,b2⟩;have H3:=fk R _ 16 w2 t d r2 ab ab ab)
  |(go_at_call 8;refine H3.mono ?_;clear H3;rintro e O ⟨⟨c,rfl,l3,u3⟩,r3,t3,b3⟩))
 have eI:=t1.size;have f8:=t2.size;have ED:=t3.size;simp at eI;have S:sP R w O t w ⟨s,decide (g<3),1+i,now+c,0,-1⟩ (p+1+1+1) (O.alloc<|.cells #[s,aL<|decide (g<3),aa .i64<|1+i,aa .i64<|now+c,(0:Int),aa .i64 (-1)] 30):=by have bA:ao O O (O.alloc<|.cells #[s,aL<|decide (g<3),aa .i64<|1+i,aa .i64<|now+c,(0:Int),aa .i64 (-1)] 30):=(agn _ _).alloc (agw _) _;have b0:ao w w (w.alloc<|.cells #[a0,false,(0:Int),(0:Int),(0:Int),(0:Int)] 30):=(agn _ _).alloc (agw _) _;have X:=t1.trans<|t2.trans t3;refine⟨a1 _ _,⟨⟨a0,false,0,0,0,0⟩,?_⟩,r3.below bA,λk hk au=>?_,?_⟩;exact(bA.block w ab).trans<|(X.block w aN ab).trans<|heap_alloc_new _ _;exact(bA.block k ab).trans<|(X.block k cY au).trans<|b0.block k hk;exact(b0.mono ab).trans<|b1.trans<|b2.trans<|b3.trans<|bA.mono ab
 revert S;obtain⟨a,iK⟩:∃a,a=(w:Nat):=⟨_,rfl⟩;obtain⟨r,Xp⟩:∃r,r=(O:Nat):=⟨_,rfl⟩;rw[<-Xp];rw[<-iK];generalize (O.alloc<|.cells #[aj s,aL<|decide (g<3),aa .i64<|1+i,aa .i64<|now+c,(0:Int),aa .i64 (-1)] 30)=W4;intro S;have j:R<a:=ab;have u:a<r:=ab;have l:(w:Nat)<=a:=ab;clear iK Xp eI f8 ED r1 r2 r3 t1 t2 t3 b1 b2 b3;let⟨Y,Z,c2,c3,c4,c5⟩:=S.mv.at_;simp only[ay]at Y Z c2 c3 c4 c5;have HP:=fk R _ 20 W4.drew t d S.drew.rd ab ab ab;go_region_held3 (λw'=>w'.cell? ⟨r,3,none⟩=some (aa .i64<|now+c)) (go_keep)
  (first|(go_at_call 8;refine HP.mono ?_;clear HP;rintro e w5 ⟨⟨z4,rfl,l4,u4⟩,r5,t5,b5⟩;have y:=S.drew.pick V j u l r5 t5 b5;let⟨z,A,C,x,D,E⟩:=y.mv.at_;simp only[ay]at z A C x D E;have f5:=y.mv.frozen 4;have P:∀v,(w5.setCell ⟨r,4,none⟩ v).cell? ⟨r,3,none⟩=some (aa .i64<|now+c):=λv=>(a5 _ _ _ _ aN).trans x;have CY:IntKind.i64.wrap (now+c+z4)=now+c+z4:=jh))
 have UI:=y.late d j u l<|now+c+z4;revert UI;generalize w5.setCell ⟨r,4,none⟩ (aa .i64<|now+c+z4)=W6;intro UI;clear y z A C x D E f5 P CY r5 t5 b5 S Y Z c2 c3 c4 c5;obtain⟨L,T⟩:∃L,now+c+z4=L:=⟨_,rfl⟩;rw[T]at UI;try rw[T]
 have H7:=fk R _ 3 W6 t d UI.rd ab ab ab;go_wp2_with(first
  |(go_at_call 8;refine H7.mono ?_;clear H7;rintro e w7 ⟨⟨z5,rfl,l5,u5⟩,r7,t7,b7⟩;have OQ:=UI.pick V j u l r7 t7 b7;have U:=fk R _ 30 w7 t d OQ.rd ab ab ab)
  |(go_at_call 8;refine U.mono ?_;clear U;rintro e Q ⟨⟨z6,rfl,l6,u6⟩,r8,t8,b8⟩;have o:=OQ.pick V j u l r8 t8 b8;let⟨z,A,C,x,D,E⟩:=o.mv.at_;simp only[ay]at z A C x D E;have f4:=o.mv.frozen 4;have f3:=o.mv.frozen 3;let⟨m0,rE⟩:=o.res;let⟨k0,k1,k2,k3,k4,k5⟩:=rE.at_;simp only[ay]at k0 k1 k2 k3 k4 k5;have fr:=rE.frozen))
 focus
  clear U;let⟨Y,Z,c2,c3,c4,c5⟩:=OQ.mv.at_;simp only[ay]at Y Z c2 c3 c4 c5;have HP:=fk R _ 40 w7.drew t d OQ.drew.rd ab ab ab;have az:IntKind.i64.wrap (now+c+20)=now+c+20:=jh;go_region_held3 (λw'=>w'.cell? ⟨r,3,none⟩=some (aa .i64<|now+c)) (go_keep)
   (first|(go_at_call 8;refine HP.mono ?_;clear HP;rintro e w5 ⟨⟨z7,rfl,l7,u7⟩,r5,t5,b5⟩;have y:=OQ.drew.pick V j u l r5 t5 b5;let⟨z,A,C,x,D,E⟩:=y.mv.at_;simp only[ay]at z A C x D E;have f5:=y.mv.frozen 4;have P:∀v,(w5.setCell ⟨r,4,none⟩ v).cell? ⟨r,3,none⟩=some (aa .i64<|now+c):=λv=>(a5 _ _ _ _ aN).trans x;have CY:IntKind.i64.wrap (now+c+20+z7)=now+c+20+z7:=jh))
  have Xw:=y.late d j u l<|now+c+20+z7;revert Xw;generalize w5.setCell ⟨r,4,none⟩ (aa .i64<|now+c+20+z7)=W9;intro Xw;clear y z A C x D E f5 P CY r5 t5 b5 Y Z c2 c3 c4 c5;clear T;obtain⟨L,T⟩:∃L,now+c+20+z7=L:=⟨_,rfl⟩;rw[T]at Xw;try rw[T]
  have U:=fk R _ 30 W9 t d Xw.rd ab ab ab;go_wp2_with(first
   |(go_at_call 8;refine U.mono ?_;clear U;rintro e Q ⟨⟨z6,rfl,l6,u6⟩,r8,t8,b8⟩;have o:=Xw.pick V j u l r8 t8 b8;let⟨z,A,C,x,D,E⟩:=o.mv.at_;simp only[ay]at z A C x D E;have f4:=o.mv.frozen 4;have f3:=o.mv.frozen 3;let⟨m0,rE⟩:=o.res;let⟨k0,k1,k2,k3,k4,k5⟩:=rE.at_;simp only[ay]at k0 k1 k2 k3 k4 k5;have fr:=rE.frozen))
 all_goals first
  |(exfalso;omega)
  |(have hx:(z6==0)=false/\L<=10000:=⟨by assumption,ab⟩;let⟨m1,jQ⟩:=(o).res;have q:=AR (Q) a 0 ⟨s,decide (g<3),1+i,now+c,L,-1⟩ _ _ jQ aN;let⟨F,G,J,K,M,N⟩:=q;simp only[ay]at F G J K M N;change be _ _ _ _ _ (ol (Q) a 0 ⟨s,decide (g<3),1+i,now+c,L,-1⟩);exact a2 (v:=.agg #[aj s,aL<|decide (g<3),aa .i64<|1+i,aa .i64<|now+c,aa .i64<|L,aa .i64 (-1)]) (by simp[a3,Tryz.results9,go_sem,F,G,J,K,M,N]) rfl ⟨⟨⟨s,decide (g<3),1+i,now+c,L,-1⟩,rfl,⟨rfl,D0,D0,rfl⟩,λ_=>D0⟩,(o).went d j l _ ab⟩)
  |(have hx:((z6==0)=true\/10000<L)/\now+c<=10000:=⟨by first|exact .inl (by assumption)|exact .inr ab,ab⟩;let⟨m1,jQ⟩:=(o.late d j u l 10000).res;have q:=AR (Q.setCell ⟨r,4,none⟩<|aa .i64 10000) a 0 ⟨s,decide (g<3),1+i,now+c,10000,-1⟩ _ _ jQ aN;let⟨F,G,J,K,M,N⟩:=q;simp only[ay]at F G J K M N;change be _ _ _ _ _ (ol (Q.setCell ⟨r,4,none⟩<|aa .i64 10000) a 0 ⟨s,decide (g<3),1+i,now+c,10000,-1⟩);exact a2 (v:=.agg #[aj s,aL<|decide (g<3),aa .i64<|1+i,aa .i64<|now+c,aa .i64<|10000,aa .i64 (-1)]) (by simp[a3,Tryz.results9,go_sem,F,G,J,K,M,N]) rfl ⟨⟨⟨s,decide (g<3),1+i,now+c,10000,-1⟩,rfl,⟨rfl,D0,D0,rfl⟩,λ_=>D0⟩,(o.late d j u l 10000).went d j l _ ab⟩)
  |(have hx:((z6==0)=true\/10000<L)/\10000<now+c:=⟨by first|exact .inl (by assumption)|exact .inr ab,ab⟩;let⟨m1,jQ⟩:=((o.late d j u l 10000).cj d j u l 10000).res;have q:=AR ((Q.setCell ⟨r,4,none⟩<|aa .i64 10000).setCell ⟨r,3,none⟩<|aa .i64 10000) a 0 ⟨s,decide (g<3),1+i,10000,10000,-1⟩ _ _ jQ aN;let⟨F,G,J,K,M,N⟩:=q;simp only[ay]at F G J K M N;change be _ _ _ _ _ (ol ((Q.setCell ⟨r,4,none⟩<|aa .i64 10000).setCell ⟨r,3,none⟩<|aa .i64 10000) a 0 ⟨s,decide (g<3),1+i,10000,10000,-1⟩);exact a2 (v:=.agg #[aj s,aL<|decide (g<3),aa .i64<|1+i,aa .i64<|10000,aa .i64<|10000,aa .i64 (-1)]) (by simp[a3,Tryz.results9,go_sem,F,G,J,K,M,N]) rfl ⟨⟨⟨s,decide (g<3),1+i,10000,10000,-1⟩,rfl,⟨rfl,D0,D0,rfl⟩,λ_=>D0⟩,((o.late d j u l 10000).cj d j u l 10000).went d j l _ ab⟩)
end
def Nms (cs:Array aP):Prop:=∀i,i<6->∃s,cs[i]?=some (aj s)/\s.size<=8
def NH (w:ad): a4 Tz.prog 11 #[] w λe w'=>e=.returned (ac (some ⟨w,0,none⟩) 6 6)/\(∃cs,w'.heap[(w:Nat)]?=some (.cells cs 9 (0,0))/\Nms cs)/\ao w w w':=by go_enter Tz.func11,Tryz.ntmps11;go_wp2;go_ret;refine⟨rfl,⟨_,a1 _ _,λi c=>?_⟩,(agn _ _).alloc ab _⟩;match i,c with|0,_=>exact⟨_,rfl,bc⟩|1,_=>exact⟨_,rfl,bc⟩|2,_=>exact⟨_,rfl,bc⟩|3,_=>exact⟨_,rfl,bc⟩|4,_=>exact⟨_,rfl,bc⟩|5,_=>exact⟨_,rfl,bc⟩
structure Ds (R Bn t:Nat)(w:ad)(v:aP)(n:Nat)(f:Nat->Mv)(q:Int)(W:ad):Prop where
 own:W.ownsRow w 30 6 v n (fI f n)
 nm:∃cs,W.heap[Bn]?=some (.cells cs 9 (0,0))/\Nms cs
 rd:Rd W R q
 but:lp R w W
 below:ao t w W
 pl:wK W v
def dU.but (h:dU w b m)(d:lp R w w')(c:b≠R):dU w' b m:=(d.block b (agy.1 h).1 c).trans h
def dU.lt (h:dU w b m):b<w:=(agy.1 h).1
def Px {o}(hb:lp R w w')(d:b<w)(c:b≠R):w'.cell? ⟨b,o,none⟩=w.cell? ⟨b,o,none⟩:=agt<|hb.block b d c
structure Ms (R Bn t:Nat)(w:ad)(v:aP)(n:Nat)(f:Nat->Mv)(q:Int)(r:Nat)(m:Mv)(W:ad):Prop where
 ds:Ds R Bn t w v n f q W
 mv:dU W r m
 lo:(w:Nat)<=r
 nn:r≠Bn
 no:v.ownBlock≠some r
structure Good (m:Mv):Prop where
 name:m.name.size<=8
 aI:1<=m.aI/\m.aI<=3
 span:-1<=m.cj/\m.cj<=m.late/\m.late<=10000
 prom:-1<=m.prom/\m.prom<=10000
structure adr (m:Mv):Prop where
 name:m.name.size<=8
 aI:-9223372036854775808<=m.aI/\m.aI<=9223372036854775807
 cj:-9223372036854775808<=m.cj/\m.cj<=9223372036854775807
 late:-9223372036854775808<=m.late/\m.late<=9223372036854775807
 prom:-9223372036854775808<=m.prom/\m.prom<=9223372036854775807
def ae9:Nat->ByteArray
 |0=>⟨#[]⟩
 |1=>⟨#[65]⟩
 |2=>⟨#[122,122]⟩
 |_=>⟨#[97,49]⟩
section
variable {off n base:Nat}{f:Nat->Mv}{v:aP}{xs:List aP}
def J2 (f) n:∀u∈fI f n,u.oneCell':=λu s=>by
 unfold fI at s;rw[List.mem_flatMap]at s;let⟨j,_,x⟩:=s;exact Rn (f j) u x
def JN {T}(h:aD w b off n T):∀j u,(eL T n)[j]?=some u->w.cell? ((⟨b,off,none⟩:Addr).add j)=some u:=λj u c=>by
 have d:j<n:=by rcases agE j n with h|h;exact h;rw[agG (by rw[fg];exact h)]at c;cases c
 rw[dY d]at c;rw[addr_add,h j d];exact c
def J3 (h:aM w b off n f):∀j u,(fI f n)[j]?=some u->w.cell? ((⟨b,off,none⟩:Addr).add j)=some u:=λj u x=>by
 have hj:j<n*6:=by rcases agE j (n*6)with h|h;exact h;rw[agG (by rw[jS];exact h)]at x;cases x
 have C:j/6<n:=ab;have D:j%6<6:=Nat.mod_lt _ ab;have J:j=j/6*6+j%6:=ab;rw[J,tD f n _ _ C D]at x;rw[addr_add];let⟨N,O,T,U,Y,Z⟩:=h (j/6) C;have y:∀r,r=j%6->(f<|j/6).cells.toList[r]?=some u->w.cell? ⟨b,off+j/6*6+r,none⟩=some u:=λr hr s=>by
  have A:r<6:=ab;match r,A with
  |0,_=>rw[Nat.add_zero,N];exact s
  |1,_=>rw[O];exact s
  |2,_=>rw[T];exact s
  |3,_=>rw[U];exact s
  |4,_=>rw[Y];exact s
  |5,_=>rw[Z];exact s
 have:=y (j%6) rfl x;rw[show off+j=off+j/6*6+j%6 by omega];exact this
def QM:(Tz.prog.info? 9).map (λi=>(i.zero,i.size,i.bytes))=some (some<|aj a0,1,16):=aO
def QL:(Tz.prog.info? 3).map (λi=>(i.zero,i.size,i.bytes))=some (some<|aa .i64 0,1,8):=aO
def zn (now shift:Int)(b off n cap:Nat)(f:Nat->Mv)(b' bJ m cap':Nat)(t:Nat->Int)(w:ad)(hn:n<=1048576)(hm:m<=1048576)(bN:b<w)(az:aM w b off n f)(bz:b'<w)(aV:aD w b' bJ m t): a4 Tz.prog 95 #[Xe now shift (ac (some ⟨b,off,none⟩) n cap)<|ac (some ⟨b',bJ,none⟩) m cap'] w λe w'=>(∃v u,e=.returned (Xe now shift v u)/\w'.ownsRow w 30 6 v n (fI f n)/\w'.ownsRow w 3 1 u m (eL t m))/\ao w w w':=by
 let⟨iM,hI,gE,eI,f8⟩:=bb EL;let⟨i0,Ln,Nm,IE,JH⟩:=bb QL;have qu:∀N O,ao w w ((w.alloc N).alloc O):=λN O=>((agn _ w).alloc ab _).alloc aN _;have ax:∀x y o3,((w.alloc<|.cells x y).alloc o3).heap[(w:Nat)]?=some (.cells x y (0,0)):=λx y o3=>(ago _ _ _ aN).trans<|heap_alloc_new w<|.cells x y;have Qb:∀N x y,((w.alloc N).alloc<|.cells x y).heap[(w:Nat)+1]?=some (.cells x y (0,0)):=λN x y=>by have:=a1 (w.alloc N)<|.cells x y;simp_all
 go_enter Tz.func95,Tryz.ntmps95;go_wp2_with(first
  |(at_builtin;refine a7 _ rfl (.const<|ac none 0 0) (.tmp 4) 39 rfl ((w:Nat)+1+1) 30 iM _ 6 56 (Tz.al Tryz.underlying39) hI gE eI f8 rfl bc (ac none 0 0) 0 [] bQ ⟨rfl,.inl ⟨rfl,rfl⟩⟩ ⟨b,off,none⟩ n cap (fI f n) bQ (by rw[jS]) (J3<|az.below (qu _ _) bN) (J2 f n) iR ab aN ?_;intro v1 C Be nY _;simp at Be;obtain⟨T,U,rfl⟩:=mu Be;have g0:=(nY.block w cY I5).trans<|ax _ _ _;have g1:=(nY.block ((w:Nat)+1) aN I5).trans<|Qb _ _ _;have B1:=(qu _ _).grown nY (qu _ _).size (λq hq=>by grind [a8]);have s1:=nY.size;simp at s1;have k2:=aE C _ 2 _ _ _ g0;have k3:=aE C _ 3 _ _ _ g0;have kf:=λj=>a9 C _ j _ _ g0;simp at k2 k3;have Y:=a6 C _ 2 _ _ (ac T n U) g0;simp at Y;have Z:=eQ (w':=C.setCell ⟨w,2,none⟩<|ac T n U) Be λB A=>agp C _ _ B (by have:=(Be.lt B A).1;simp;omega);have Xm:=(agp C ⟨w,2,none⟩ (ac T n U) ((w:Nat)+1) aN).trans g1;have D:=B1.setCell (p:=⟨w,2,none⟩) aN<|ac T n U)
  |(at_builtin;refine a7 _ rfl (.const<|ac none 0 0) (.tmp 8) 40 rfl ((w:Nat)+1+1) 3 i0 _ 1 8 (Tz.al Tryz.underlying40) Ln Nm IE JH rfl bc (ac none 0 0) 0 [] bQ ⟨rfl,.inl ⟨rfl,rfl⟩⟩ ⟨b',bJ,none⟩ m cap' (eL t m) bQ Bw (JN<|aV.below D bz) (jR t m) iR ab cY ?_;intro u2 s nI jI _;simp at nI;obtain⟨au,cu,rfl⟩:=mu nI;have h0:=(jI.block w cY I5).trans Y;have J:=(jI.block ((w:Nat)+1) cY I5).trans Xm;have B2:=D.grown jI D.size (λq hq=>by simp[a8]at hq);have s2:=jI.size;simp at s2;have O:=eQ (w':=s) Z λB A=>jI.block B (Z.lt B A).2 I5;have p0:=aE s _ 0 _ _ _ h0;have p1:=aE s _ 1 _ _ _ h0;have p2:=aE s _ 2 _ _ _ h0;have p3:=aE s _ 3 _ _ _ h0;have pf:=λj=>a9 s _ j _ _ h0;have r0:=aE s _ 0 _ _ _ J;have r1:=aE s _ 1 _ _ _ J;have r2:=aE s _ 2 _ _ _ J;have r3:=aE s _ 3 _ _ _ J;have rf:=λj=>a9 s _ j _ _ J;simp at p0 p1 p2 p3 r0 r1 r2 r3))
 have eW:∀q,q≠(w:Nat)->q≠(w:Nat)+1->(((((s.setCell ⟨w,3,none⟩<|ac au m cu).setCell ⟨(w:Nat)+1,0,none⟩ now).setCell ⟨(w:Nat)+1,1,none⟩ shift).setCell ⟨(w:Nat)+1,2,none⟩<|ac T n U).setCell ⟨(w:Nat)+1,3,none⟩<|ac au m cu).heap[q]?=s.heap[q]?:=λq J h2=>by rw[agp _ _ _ _ ab,agp _ _ _ _ (by simpa using h2),agp _ _ _ _ (by simpa using h2),agp _ _ _ _ (by simpa using h2),agp _ _ _ _ (by simpa using J)]
 exact a2 (by simp[a3,Tryz.results95,go_sem,r0,r1,r2,r3]) rfl ⟨⟨_,_,rfl,mq (eQ O λB A=>eW B (by have:=(O.lt B A).1;omega) (by have:=(O.lt B A).1;omega)) ab,mq (eQ nI λB A=>eW B (by have:=(nI.lt B A).1;omega) (by have:=(nI.lt B A).1;omega)) ab⟩,((((B2.setCell aN _).setCell aN _).setCell aN _).setCell aN _).setCell aN _⟩
def GN (now shift u:Int)(b off n cap:Nat)(f:Nat->Mv)(A J cap':Nat)(t:Nat->Int)(w:ad)(hn:n<=6)(bN:b<w)(az:aM w b off n f)(bz:A<w)(aV:aD w A J n t):
  a4 Tz.prog 72 #[Xe now shift (ac (some ⟨b,off,none⟩) n cap)<|ac (some ⟨A,J,none⟩) n cap',u] w λe w'=>(∃s,e=.returned s/\w'.ownsRow w 9 1 s (gone u t n).length (nX f<|gone u t n))/\ao w w w':=by
 let⟨iS,hI,gE,eI,f8⟩:=bb QM;have bA:=kG w now shift (some ⟨b,off,none⟩) n cap (some ⟨A,J,none⟩) n cap';have hA:=qo w now shift (some ⟨b,off,none⟩) n cap (some ⟨A,J,none⟩) n cap';go_enter Tz.func72,Tryz.ntmps72
 go_wp2;go_loopw [5,11] (λs x W=>∃k:Nat,k<=n/\x=aa .i64 k/\sO W w now shift (some ⟨b,off,none⟩) n cap (some ⟨A,J,none⟩) n cap'/\W.ownsRow ((w:Nat)+1) 9 1 s (gone u t k).length (nX f<|gone u t k)/\(w:Nat)+1<=(W:Nat)/\ao w w W) (λ_ x _=>n-(intOf x).toNat)
 case atStart=>exact⟨0,agB _,rfl,hA,⟨rfl,.inl ⟨rfl,rfl⟩⟩,aN,bA⟩
 obtain⟨k,hk,rfl,hb,ho,hs,y⟩:=hrel;by_cases aG:k<n
 .have dQ:(k:Int)<n:=by omega
  let⟨c0,c1,c2,c3,c4,c5⟩:=az.below y bN k aG;have gm:=aV.below y bz k aG;have OU:=qs u t k;have N:=gJ wr<|f k;let⟨m0,m1,m2,m3,m4,m5⟩:=lZ wr<|f k;simp[ay]at m0 m1 m2 m3 m4 m5;have T:=hb.below N ab;have au:(dN wr<|f k).cell? ⟨A,J+k,none⟩=some (aa .i64<|t k):=(N.cell<|agx bz y.size).trans gm;have C:=eQ ho λB O=>N.block B (ho.lt B O).2;let⟨g0,g1,g2,g3⟩:=T;by_cases vC:t k=u
  .have D:(t k==u)=true:=cQ;have U:Hid (gone u t (k+1)=gone u t k++[k]):=by
    have h:gone u t (k+1)=gone u t k++[k]:=by simp only[gone];grind
    exact h
   have Y:ao (dN wr<|f k).heap.size (dN wr<|f k) ((dN wr<|f k).alloc<|.cells #[aj (f k).name] 9):=(agn _ _).alloc ab _;have Qt:=eQ C λB O=>Y.block B (C.lt B O).2;have d_:((dN wr<|f k).alloc<|.cells #[aj (f k).name] 9).heap[(wr:Nat)+1]?=some (.cells #[aj (f k).name] 9 (0,0)):=by have:=a1 (dN wr<|f k)<|.cells #[aj (f k).name] 9;simp_all
   clear vC;go_wp2_with(at_builtin;refine a7 _ rfl (.tmp 23) (.tmp 26) 33 rfl ((w:Nat)+1) 9 iS _ 1 16 (Tz.al Tryz.underlying33) hI gE eI f8 rfl bc _ (gone u t k).length (nX f<|gone u t k) bQ Qt _ 1 1 [aj (f k).name] bQ rfl (fC d_) sU iR ab cY ?_;intro s5 w5 xZ Z _)
   have X0:∀B,a8 _=some B->(w:Nat)+1<=B:=λB O=>(ho.lt B O).1
   have BO:ao w w ((dN wr<|f k).alloc<|.cells #[aj (f k).name] 9):=(y.trans<|N.mono y.size).trans<|Y.mono (by have:=y.size;simp;omega);have jd:=(((sO.mk g0 g1 g2 g3).below Y cY).same<|Z.block w cY (λe=>by have:=X0 w e.symm;omega));refine⟨⟨k+1,ab,aN,jd,by rw[U.out,List.length_append,Jq];exact xZ,by have:=Z.size;simp at this;omega,BO.grown Z BO.size (λq hq=>by have:=X0 q hq;omega)⟩,cD⟩
  .have D:(t k==u)=false:=cQ;have U:Hid (gone u t (k+1)=gone u t k):=by
    have h:gone u t (k+1)=gone u t k:=by simp only[gone];grind
    exact h
   clear vC;go_wp2;refine⟨⟨k+1,ab,aN,⟨g0,g1,g2,g3⟩,by rw[U.out];exact C,cY,y.trans<|N.mono y.size⟩,cD⟩
 .have tX:k=n:=by omega
  subst tX;go_wp2;go_ret;exact⟨⟨_,rfl,mq ho ab⟩,y⟩
end
