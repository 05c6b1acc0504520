import Derived.Test.YtjoalkgmgmmedaaGreatDoorj41
import Derived.Test.YtjoalkgmgmmedaaGreatDoorj42
set_option linter.defProp false
set_option linter.unusedVariables false
set_option linter.unusedSectionVars false
set_option maxHeartbeats 8000000
set_option maxRecDepth 100000
open Bool renaming and_eq_true->ac
open Go renaming bodyPost_ret->ai,World->ay,results->a6,Addr->a9,heap_setCell_same->be,Value->bi,heap_alloc_new->bj
open Go.RowKit renaming Below->av
open Go.Value renaming slice->aa,int->au,agg->aL,tuple->a8,string->bm
open Or renaming inr->a7,inl->bn
namespace Go.Proofs.YtjoalkgmgmmedaaGreatDoor
open Conc RowKit
variable {name:ByteArray}{ok:Ctx}{c r0:Frame}{cd now shift:Int}{cs:List Frame}{q:Mv}{b cp d s k m n p:Nat}{T t:Nat->Int}{f:Nat->Mv}{ao bo:Option a9}{Q:bi->ay->Prop}{V W w:ay}
inductive BP (f:Nat->Mv)(n:Nat)(t:Nat->Int)(m:Nat)(now shift:Int)(q:Mv):Int->Int->Nat->(Nat->Mv)->Nat->(Nat->Int)->Int->Prop
 |bad:aY now shift f n t m=false->BP f n t m now shift q 0 0 0 f 0 t 1
 |no {cd:Int}:aY now shift f n t m=true->vj f n now shift q=.no cd->BP f n t m now shift q now shift n f m t cd
 |yes {p:Nat} {T:Nat->Int}:aY now shift f n t m=true->vj f n now shift q=.yes p T->BP f n t m now shift q now shift (n+1) (ee f p q) (n+1) T 0
def aaj (now shift ao n c f bo k d t m w)(A:Bq w now shift ao n c f bo k d t)(hf:m.Fits):
  Calls Tz.prog 16 #[aL #[now,shift,aa ao n c,aa bo k d],aL #[m.name,m.ax,m.aI,m.cE,m.late,m.prom]] w λe w'=>(∃a0 a1 s2 l c2 F s3 o c3 T cd,e=.returned (a8 #[aL #[au .i64 a0,au .i64 a1,aa s2 l c2,aa s3 o c3],au .i64 cd])/\BP f n t k now shift m a0 a1 l F o T cd/\If w' w.heap.size s2 l c2 F s3 o c3 T)/\av w w w':=by
 obtain⟨W0,Y⟩:∃W,W=((w.alloc<|.cells #[au .i64 now,au .i64 shift,aa ao n c,aa bo k d] 29).alloc<|.cells #[bm m.name,.bool m.ax,au .i64 m.aI,au .i64 m.cE,au .i64 m.late,au .i64 m.prom] 55).alloc (.cells #[(0:Int),(0:Int),aa none 0 0,aa none 0 0] 29):=⟨_,rfl⟩;have b0:av w w W0:=by rw[Y];exact(((afB _ w).alloc (afK _) _).alloc aP _).alloc dj _
 have DA:aR W0 w.heap.size now shift (aa ao n c) (aa bo k d):=by rw[Y];exact(afC _ _ _ dj).trans<|(afC _ _ _ aP).trans<|heap_alloc_new _ _
 have bs:fy W0 (w.heap.size+1) m:=by rw[Y];exact(afC _ _ _ aP).trans<|dY _ _ _
 have uP:aR W0 (w.heap.size+1+1) 0 0 () ():=by
  rw[Y];have:=dY (w.alloc<|.cells #[now,shift,aa ao n c,aa bo k d] 29) (.cells #[m.name,m.ax,m.aI,m.cE,m.late,m.prom] 55)<|.cells #[(0:Int),(0:Int),(),()] 29;exact RH
 have gK:W0.heap.size=w.heap.size+3:=by rw[Y];simp
 have HB:=(A.bl<|Bl.of b0).sk;have h6:=A.n6;cases hb:aY now shift f n t k with
 |false=>
  rw[hb,Y]at HB;go_enter Tz.func16,Tryz.ntmps16
  go_wp2_with(go_at_call 34;refine HB.mono ?_;clear HB;rintro e w1 ⟨rfl,U⟩;rw[<-Y]at U;have r1:=uP.same<|U.block _ uP.lt;have yy:=r1.cells)
  let⟨W5,e5,k5,iZ,tN,ol⟩:=aJ r1 (b0.trans<|U.mono b0.size) ab 0 0 none 0 0 none 0 0;rw[e5];let⟨q0,q1,q2,q3,q4⟩:=k5.cells;refine ai (v:=a8 #[aL #[(0:Int),(0:Int),(),()],au .i64 1]) ?_ rfl ⟨⟨0,0,none,0,0,f,none,0,0,t,1,rfl,.bad hb,bn ⟨rfl,rfl,rfl,rfl,rfl,rfl⟩⟩,iZ⟩;simp[a6,Tryz.f16,go_sem,q0,q1,q2,q3]
 |true=>
  let⟨hm,hk,ju⟩:=bK hb;have hk:=hk.symm;subst hk;have KU:0<=now/\now<=10000:=by unfold aY at hb;simp only[ac]at hb;exact eJ.1 hb.1.1.1
  have nk:0<=shift/\shift<=6:=by unfold aY at hb;simp only[ac]at hb;exact eJ.1 hb.1.1.2
  have p7:Hid _:=hb;let⟨K,Mo,TX,Ws⟩:=tw (λj=>cr (f j).name m.name) n;rw[hb,Y]at HB;have bt:=ye Mo TX Ws;have Kt:=λW (hW:av w w W)=>gM now shift ao n c f bo n d t W ab ab (A.bl<|Bl.of hW).sm (A.bl<|Bl.of hW).si
  have aZ:=Kt;have HM:=λW=>AC hf W
  have HA:=λW (hW:av w w W)=>zJ now shift ao n c f bo n d m.name W h6 (A.bl<|Bl.of hW).sm
  have HP:=λB c W (h1:n<=c) (h2:B<W.heap.size) (h3:aK W B 0 n f)=>ML B n c f m W h6 h1 h2 h3
  have bb:∀(P:Prop),(∀u:Int,u=2->m.ok=false->Hid (vj f n now shift m=.no u)->P)->(∀u:Int,u=2->m.ok=true->¬m.prom<0->Hid (vj f n now shift m=.no u)->P)->(∀u:Int,u=3->m.ok=true->m.prom<0->(∀k,ik f n m.name k->0<=k)->Hid (vj f n now shift m=.no u)->P)->(∀u:Int,u=4->m.ok=true->m.prom<0->(∀k,ik f n m.name k->k<0)->¬n<6->Hid (vj f n now shift m=.no u)->P)->(m.ok=true->m.prom<0->(∀j,j<n->de (f j).name m.name=false)->(∀k,ik f n m.name k->k<0)->n<6->P)->P:=λP a1 a2 a3 a4 a5=>by
   cases C:m.ok with
   |false=>exact a1 2 rfl C (vk<|KA<|bn C)
   |true=>
    by_cases D:m.prom<0
    .rcases KD f n m.name with⟨J,hJ,Z,TW⟩|Z
     .exact a3 3 rfl C D (λk hk=>by have:=hk.yes hJ Z TW;omega) (vk<|VY C D ⟨J,hJ,Z⟩)
     .have AT:∀k,ik f n m.name k->k<0:=λk hk=>by have:=hk.no Z;omega
      by_cases h:n<6
      .exact a5 C D Z AT h
      .exact a4 4 rfl C D AT h (vk<|VZ C D Z h)
    .exact a2 2 rfl C D (vk<|KA<|a7 D)
  clear hb;refine bb _ (λu hc C r=>?_) (λu hc C D r=>?_) (λu hc C D AT r=>?_) (λu hc C D AT aF r=>?_) λC D Z AT aF=>?_;all_goals clear bb
  rotate_right;focus
   have hF:=CV hm aF Mo C TX Ws Z;have bp:∀i,i<n+1->(ee f K m i).ok=true:=λi hi=>bd hF i hi
   have NZ:=λB c W (h2:B<W.heap.size) (h3:aK W B 0 (n+1) (ee f K m))=>sW B (n+1) c (ee f K m) now shift W ab bp KU.1 ab nk.1 nk.2 (λhr=>wY hF ab hr) h2 h3
   have tL:=V0 (now:=now) (shift:=shift) C D Z aF bt;rcases p9:gw (ee f K m) (n+1) now shift with _|T;focus
    rw[p9]at NZ;have HN:=NZ;clear NZ;rw[p9]at tL;obtain⟨u,hc⟩:∃u:Int,u=5:=⟨_,rfl⟩;have r:Hid (vj f n now shift m=.no u):=by rw[hc];exact vk tL
    clear tL
   rotate_left;focus
    rw[p9]at NZ;have HS:=NZ;clear NZ;have Yj:=λB c b' c' W (h2:B<W.heap.size) (h3:aK W B 0 (n+1) (ee f K m)) (h4:b'<W.heap.size) (h5:aD W b' 0 (n+1) T)=>pv now shift B (n+1) c (ee f K m) b' (n+1) c' T W ab iN h2 h3 (λi hi=>Ew<|bp i hi) h4 h5
    have VT:=λB c b' c' W (h2:B<W.heap.size) (h3:aK W B 0 (n+1) (ee f K m)) (h4:b'<W.heap.size) (h5:aD W b' 0 (n+1) T)=>gM now shift (some ⟨B,0,none⟩) (n+1) c (ee f K m) (some ⟨b',0,none⟩) (n+1) c' T W ab ab ⟨(λh=>nomatch h),λad r=>by cases r;exact⟨B,rfl,h2,h3⟩⟩ ⟨(λh=>nomatch h),λad r=>by cases r;exact⟨b',rfl,h4,h5⟩⟩
    obtain⟨sb,vf⟩:∃sb,fD now shift (ee f K m) (n+1) T (n+1)=sb:=⟨_,rfl⟩;rw[vf]at Yj;rw[p9]at tL;cases sb;focus
     obtain⟨u,hc⟩:∃u:Int,u=6:=⟨_,rfl⟩;have r:Hid (vj f n now shift m=.no u):=by rw[hc];exact VX tL vf
     clear tL vf
    rotate_left;focus
     have r:Hid (vj f n now shift m=.yes K T):=VW tL vf;clear tL vf
  all_goals
   rw[C]at HM;go_enter Tz.func16,Tryz.ntmps16
   go_wp2_with(first
    |(go_at_call 34;refine HB.mono ?_;clear HB;rintro e w1 ⟨rfl,U⟩;rw[<-Y]at U;have B1:=b0.trans<|U.mono b0.size;have bk:=DA.same<|U.block _ DA.lt;have O:=bs.keep<|U.block _ ab;have rs:=uP.same<|U.block _ uP.lt;have yy:=bk.cells)
    |(go_at_call 35;refine(Kt _ B1).mono ?_;clear Kt;rintro e w2 ⟨⟨Bx,cx,Bi,ci,rfl,oM,oI⟩,b2⟩;have z2:=b2.size;have z1:=U.size;have bk:=bk.same<|b2.block _ ab;have rs:=rs.same<|b2.block _ ab;let⟨W3,e3,k3,b3,z3⟩:=boxed w2 now shift (some ⟨Bx,0,none⟩) n cx (some ⟨Bi,0,none⟩) n ci;have hA:Ad w now shift ao n c bo d (w.heap.size+1+1) w2.heap.size Bx cx Bi ci f t W3:=⟨(B1.trans<|b2.mono B1.size).trans<|b3.mono ab,bk.same<|b3.block _ ab,rs.same<|b3.block _ ab,ab,k3,ab,cg (az oM λB A=>b3.block B (oM.lt B A).2) ab,cg (az oI λB A=>b3.block B (oI.lt B A).2) ab⟩;have O:=(O.keep<|b2.block _ ab).keep<|b3.block _ ab;let⟨s0,s1,s2,s3,s4,s5⟩:=fS O;clear oM oI bk rs)
    |(go_at_call 36;refine(HM W3).mono ?_;clear HM;rintro e w4 ⟨rfl,b4⟩;have z4:=b4.size;have O:=O.keep<|b4.block _ ab;have hA:=hA.grow b4;have yy:=hA.bk.cells;let⟨s0,s1,s2,s3,s4,s5⟩:=fS O;have xx:=hA.x.cells;let⟨r0,r1,r2,r3,r4⟩:=hA.rs.cells)
    |(go_at_call 37;refine(HA _ hA.below).mono ?_;clear HA;rintro e w5 ⟨⟨kk,rfl,Mx⟩,b5⟩;have z5:=b5.size;have O:=O.keep<|b5.block _ ab;have hA:=hA.grow b5;have yy:=hA.bk.cells;let⟨s0,s1,s2,s3,s4,s5⟩:=fS O;have xx:=hA.x.cells;let⟨r0,r1,r2,r3,r4⟩:=hA.rs.cells;have tM:=AT kk Mx)
    |(go_at_call 35;refine(aZ _ hA.below).mono ?_;clear aZ;rintro e w6 ⟨⟨By,cy,Bz,cz,rfl,oY,oZ⟩,b6⟩;have z6:=b6.size;let⟨W7,e7,k7,b7,z7⟩:=boxed w6 now shift (some ⟨By,0,none⟩) n cy (some ⟨Bz,0,none⟩) n cz;have hA:=(hA.grow b6).grow b7;have O:=(O.keep<|b6.block _ ab).keep<|b7.block _ ab;have oY:=az oY λB A=>b7.block B (oY.lt B A).2;have yy:=hA.bk.cells;let⟨s0,s1,s2,s3,s4,s5⟩:=fS O;have pp:=k7.cells)
    |(go_at_call 38;refine(HP By cy W7 (fE oY).2.2 (fE oY).2.1<|eh oY).mono ?_;clear HP;rintro e w8 ⟨⟨B8,c8,k8,rfl,g1,g2,g3,o8⟩,b8⟩;obtain rfl:=Lr Mo TX Ws g1 g2 g3;have z8:=b8.size;have hA:=hA.grow b8;have y8:=k7.same<|b8.block _ k7.lt;have l8:=y8.lt;have pp:=y8.cells;let⟨W9,e9,y9,bv,z9,h9⟩:=JM y8 hA.below (by have:=hA.hR;have:=hA.hX;omega)<|aa (some ⟨B8,0,none⟩) (n+1) c8;have hA:=hA.set y8 ab bv h9;have o9:=az o8 λB A=>h9 B<|gN o8 y8 bh A;have yy:=hA.bk.cells;have pp:=y9.cells)
    |(go_at_call 39;refine(HN B8 c8 W9 (fE o9).2.1<|eh o9).mono ?_;clear HN;rintro e bx ⟨⟨bF,bH,rfl⟩,In⟩;have hA:=hA.grow In;have xx:=hA.x.cells;let⟨r0,r1,r2,r3,r4⟩:=hA.rs.cells)
    |(go_at_call 39;refine(HS B8 c8 W9 (fE o9).2.1<|eh o9).mono ?_;clear HS;rintro e bx ⟨⟨BT,cT,Si,rfl,oT,_⟩,In⟩;have hA:=hA.grow In;have aB:=y9.same<|In.block _ y9.lt;have pp:=aB.cells;let⟨bz,U_,aV,Y9,bI,DV⟩:=yk aB hA.below (by have:=hA.hR;have:=hA.hX;omega)<|aa (some ⟨BT,0,none⟩) (n+1) cT;have hA:=hA.set aB ab Y9 DV;have bq:=az o9 λB A=>In.block B (o9.lt B A).2;have aE:=az bq λB A=>DV B<|gN bq aB bh A;have oT:=gY oT<|DV BT ab;have pp:=aV.cells)
    |(go_at_call 21;refine(Yj B8 c8 BT cT bz (fE aE).2.1 (eh aE) oT.lt oT.2).mono ?_;clear Yj;rintro e bA ⟨rfl,Dz⟩;have hA:=hA.grow Dz;have bB:=aV.same<|Dz.block _ aV.lt;have br:=az aE λB A=>Dz.block B (aE.lt B A).2;have oT:=gY oT<|Dz.block _ oT.lt;have pp:=bB.cells;have xx:=hA.x.cells;let⟨r0,r1,r2,r3,r4⟩:=hA.rs.cells)
    |(go_at_call 35;refine(VT B8 c8 BT cT bA (fE br).2.1 (eh br) oT.lt oT.2).mono ?_;clear VT;rintro e bL ⟨⟨Bg,cq,Bv,cv,rfl,oQ,oV⟩,bE⟩;have bM:=hA.x.lt;have hA:=hA.grow bE;let⟨r0,r1,r2,r3,r4⟩:=hA.rs.cells))
   all_goals try omega
   all_goals first
    |(let⟨W5,e5,k5,iZ,tN,ol⟩:=aJ hA.rs hA.below ab now shift (some ⟨Bg,0,none⟩) (n+1) cq (some ⟨Bv,0,none⟩) (n+1) cv;rw[e5];let⟨q0,q1,q2,q3,q4⟩:=k5.cells;have bN:=hA.hX;refine ai (by simp[a6,Tryz.f16,go_sem,q0,q1,q2,q3]) rfl ⟨⟨now,shift,_,n+1,cq,_,_,n+1,cv,T,0,rfl,.yes p7.out r.out,a7 ⟨Bg,Bv,rfl,rfl,cg (az oQ λB A=>ol B (by have:=(oQ.lt B A).1;omega)) ab,(fE oV).2.2,tR.of<|cg (az oV λB A=>ol B (by have:=(oV.lt B A).1;omega)) ab⟩⟩,iZ⟩)
    |(let⟨W5,e5,k5,iZ,tN,ol⟩:=aJ hA.rs hA.below ab now shift (some ⟨Bx,0,none⟩) n cx (some ⟨Bi,0,none⟩) n ci;rw[e5];let⟨q0,q1,q2,q3,q4⟩:=k5.cells;exact ai (by simp[a6,Tryz.f16,go_sem,q0,q1,q2,q3,hc]) rfl ⟨⟨now,shift,_,n,cx,f,_,n,ci,t,u,rfl,.no p7.out r.out,hA.out ol⟩,iZ⟩)
    |trace_state
inductive Dp
 |no (c:Int)
 |yes (p:Nat) (T:Nat->Int)
noncomputable def kx (f:Nat->Mv)(n:Nat)(t:Nat->Int)(now shift:Int)(p:Nat):Nat->Int:=
 match gw (dX f p) (n-1) now shift with
 |none=>dX t p
 |some T=>if pa T (dX t p) (n-1)=true then dX t p else if fD now shift (dX f p) (n-1) T (n-1)=true then T else dX t p
noncomputable def oG (f:Nat->Mv)(n:Nat)(t:Nat->Int)(now shift k:Int):Dp:=if k<0 then .no 3 else .yes k.toNat (kx f n t now shift k.toNat)
def MPd (now shift:Int)(f:Nat->Mv)(n:Nat)(t:Nat->Int)(name:ByteArray)(N:Nat)(y e:bi)(W:ay):Prop:=∃k,ew f n name k/\match oG f n t now shift k with
 |.no cd=>y=aL #[(0:Int),(0:Int),(),()]/\e=.iface 143 (aL #[au .i64 cd])
 |.yes p T=>e=.nilIface/\∃r v BT u,y=aL #[au .i64 now,au .i64 shift,aa (some ⟨r,0,none⟩) (n-1) v,aa (some ⟨BT,0,none⟩) (n-1) u]/\N<=r/\N<=BT/\Dw W r (n-1) (dX f p)/\Fd W BT (n-1) T/\n-1<=u
def mpd (now shift f n t name):Oy (MPd now shift f n t name) where
 is:=λ⟨k,hk,h⟩=>by
  cases r:oG f n t now shift k with
  |no cd=>
   rw[r]at h;have:cd=3:=by unfold oG at r;split at r<;>cases r;rfl
   exact a7 ⟨cd,ab,h.2,h.1⟩
  |yes p T=>rw[r]at h;let⟨u,v,A,BT,B,x,_⟩:=h;exact bn ⟨u,_,_,_,_,_,_,_,_,x⟩
 to:=λ⟨k,hk,h⟩ C e=>⟨k,hk,by
  cases r:oG f n t now shift k with
  |no cd=>rw[r]at h;exact h
  |yes p T=>
   rw[r]at h;let⟨u,v,A,BT,B,x,D,J,O,U,Y⟩:=h;exact⟨u,v,A,BT,B,x,afN C D,afN C J,O.same<|e v D O.lt,iQ U<|e BT J U.lt,Y⟩⟩
section
variable [g:Gl]
def RZ (E:dB Tz.prog ok c aS)(x:ok.aN 246=true)(lq:ok.aN 57=true)(tK:ok.aN 81=true)(zg:ok.aN 108=true)(ww:ok.aN 142=true)(E3:ok.aN 166=false)(eN:ok.aN r0.fn=true)(hB:Bq V now shift ao n cp f bo m s t)(p7:aY now shift f n t m=true)
  (aE:∀y e W',Bl V V W'->MPd now shift f n t name V.heap.size y e W'->ae Tz.prog ok c aS Q ⟨r0.finish<|a8 #[y,e],cs,W'⟩):
  ae Tz.prog ok c aS Q ⟨Frame.enter Tz.prog 246 #[aL #[name],aL #[now,shift,aa ao n cp,aa bo m s]] .normal,r0::cs,V⟩:=by
 let⟨hm,A5,hf⟩:=bK p7;subst A5;replace aE:Hid _:=aE;have h6:=hB.n6;have D7:0<=now/\now<=10000:=by
  unfold aY at p7;simp only[ac]at p7;exact eJ.1 p7.1.1.1
 refine ae.en Tz.func246 rfl Tryz.ntmps246 iE ?_;refine ae.ck E x [_,_] _ λK R τ0 mC hK hR=>?_
 let⟨W1,e1,k1,b1⟩:=DB (re V τ0 mC) #[bm name] 98;obtain⟨W2,e2,k2,b2,-⟩:=boxed W1 now shift ao m cp bo m s;obtain⟨W3,e3,k3,b3,-⟩:=boxed W2 0 0 none 0 0 none 0 0;have bW:=Bl.kH<|(b1.trans<|b2.mono b1.size).trans<|b3.mono<|afN b1.size b2.size;have p2:=k2.same<|b3.block _ k2.lt;have C:=p2.cells;have n1:W3.cell? ⟨(re V τ0 mC).heap.size,0,none⟩=some (bm name):=by
  exact acf
 have H1:=qJ ao m cp f name W3 h6 (hB.bl bW).sm;have o2:V.heap.size<=W1:=b1.size;have o3:W1.heap.size<W2:=k2.lt;simp only[ak];go_wp2_with(go_at_call 247;refine H1.mono ?_;clear H1;rintro e w4 ⟨⟨k,rfl,hk⟩,b4⟩)
 refine hK.out _ _ ?_;have p2:=p2.same<|b4.block _ p2.lt;have A:=k3.same<|b4.block _ k3.lt;have B:Bl V V w4:=bW.trans (Bl.of b4) bW.size;clear hK hR K R e1 e2 e3 k1 k2 k3 b1 b2 b3 b4 C n1 bW;have back:∀{w W8:ay},Bl V V w->W8.heap.size=w.heap.size->(∀k,k≠W2.heap.size->W8.heap[k]?=w.heap[k]?)->Bl V V W8:=λh h1 h2=>⟨by rw[h1];exact h.size,λk hk=>(h2 k ab).trans<|h.block k hk⟩
 replace back:Hid _:=@back;have l3:=A.lt;rcases hk with⟨rfl,hn⟩|⟨j,rfl,hj,FL,D0⟩
 .refine ae.ck E x [_] _ λK R τ d hK hR=>?_
  have xx:=A.rc τ d;obtain⟨W8,e8,k8,-,U,Y⟩:=aJ (A.r τ d) (afB 0 _) (afP _) 0 0 none 0 0 none 0 0;replace U:Hid _:=U;simp only[ak];go_wp2;exact hR.out _ _ λa3=>ae.lv E eN Tz.func246 (λτ d=>cH rfl rfl rfl<|k8.r τ d)<|aE.out _ _ _ (back.out B U.out Y) ⟨-1,bn ⟨rfl,hn⟩,by simp[oG]⟩
 obtain⟨b,rfl,hb,aB⟩:=hB.sm.pos ab;obtain⟨b',rfl,dl,aV⟩:=hB.si.pos ab;have mD:∀T u Z BS cS W,kx f m t now shift j=T->V.heap.size<=u->V.heap.size<=BS->Dw W u (m-1) (dX f j)->Fd W BS (m-1) T->m-1<=cS->MPd now shift f m t name V.heap.size (aL #[now,shift,aa (some ⟨u,0,none⟩) (m-1) Z,aa (some ⟨BS,0,none⟩) (m-1) cS]) .nilIface W:=λT u Z BS cS W h h1 h2 h3 h4 h5=>⟨j,a7 ⟨j,rfl,hj,FL,D0⟩,by
  have:oG f m t now shift j=.yes j T:=by simp[oG,h]
  rw[this];exact⟨rfl,u,Z,BS,cS,rfl,h1,h2,h3,h4,h5⟩⟩
 replace mD:Hid _:=mD;refine ae.ck E x [_,_,_,_] _ λK R τ d hK hR=>?_
 have q3:aR (re w4 τ d) _ _ _ _ _:=p2;have lb:b<(re w4 τ d).heap.size:=afL hb B.size;have bB:b'<(re w4 τ d).heap.size:=afL dl B.size;have H1:=yX now shift b 0 m cp f b' 0 m s t (re w4 τ d) ab ab lb (dJ aB<|B.block b hb) bB<|lZ aV<|B.block b' dl;have C:=q3.cells;have H5:IntKind.i64.wrap ((j:Int)+1)=(j:Int)+1:=kw;have bR:¬(j:Int)<0:=ab;simp only[ak];go_wp2_with(first
  |(go_at_call 96;refine H1.mono ?_;clear H1;rintro e D ⟨⟨v,u5,rfl,ov,ou⟩,b2⟩;obtain⟨u,Z,rfl,Sf,lM⟩:=CQ ov ab;obtain⟨BT,cT,rfl,Si,lT⟩:=CQ ou ab;clear C;obtain⟨X2,bq⟩:∃W,D.alloc (.cells #[au .i64 now,au .i64 shift,aa (some ⟨u,0,none⟩) m Z,aa (some ⟨BT,0,none⟩) m cT] 29)=W:=⟨_,rfl⟩;have bx:aR X2 D.heap.size now shift (aa (some ⟨u,0,none⟩) m Z) (aa (some ⟨BT,0,none⟩) m cT):=(by rw[<-bq];exact bj _ _);have bo:av D.heap.size D X2:=(by rw[<-bq];exact(afB _ _).alloc (afK _) _);have bE:=ff ov<|bo.block u lM;have bF:=ff ou<|bo.block BT lT;have nM:u≠D.heap.size:=ab;have nT:BT≠D.heap.size:=ab;have bs:=UX ov ou bh;have C:=bx.cells;have H2:=L9 u m Z j (re w4 τ d).heap.size f X2 ab hj bE;have zw:=b2.size)
  |(go_at_call 248;refine H2.mono ?_;clear H2;rintro e w3 ⟨rfl,bH,ax,a4⟩;have bt:=bx.same<|a4 D.heap.size λe=>nM e.symm;clear C;have C:=bt.cells;have bI:=ff bF<|a4 BT λe=>bs e.symm;obtain⟨W3,AP⟩:∃W,w3.setCell ⟨D.heap.size,2,none⟩ (aa (some ⟨u,0,none⟩) (m-1) Z)=W:=⟨_,rfl⟩;have bv:aR W3 D.heap.size now shift (aa (some ⟨u,0,none⟩) (m-1) Z) (aa (some ⟨BT,0,none⟩) m cT):=(by rw[<-AP];exact be w3 D.heap.size 2 _ _ _ bt);have a5:∀i,i≠D.heap.size->W3.heap[i]?=w3.heap[i]?:=(λi hi=>by rw[<-AP];exact afD w3 _ _ _ hi);have bL:=ff bH<|a5 u nM;have bM:=ff bI<|a5 BT nT;have vv:=bv.cells;have H3:=O3 BT m cT j (re w4 τ d).heap.size t W3 ab hj bM;have aF:W3.heap.size=w3.heap.size:=(by rw[<-AP];simp);have ax:Hid (w3.heap.size=X2.heap.size):=ax;have aF:Hid (W3.heap.size=w3.heap.size):=aF)
  |(go_at_call 249;refine H3.mono ?_;clear H3;rintro e w5 ⟨rfl,bz,aI,bb⟩;have bk:=bv.same<|bb D.heap.size λe=>nT e.symm;clear C vv;have C:=bk.cells;have bA:=ff bL<|bb u bs;have aI:Hid (w5.heap.size=W3.heap.size):=aI))
 all_goals try omega
 have a2:∀i,i≠D.heap.size->(w5.setCell ⟨D.heap.size,3,none⟩<|aa BT (m-1) cT).heap[i]?=w5.heap[i]?:=λi hi=>afD w5 _ _ _ hi
 have s3:=ax.out;have s4:=aF.out;have s5:=aI.out;have zo:=bo.size;have z2:w4.heap.size<=D:=b2.size;have zM:w4.heap.size<=u:=Sf;have zT:w4.heap.size<=BT:=Si;have dw:∀k,k<w4.heap.size->(w5.setCell ⟨D.heap.size,3,none⟩<|aa BT (m-1) cT).heap[k]?=w4.heap[k]?:=λk hk=>(a2 k ab).trans<|(bb k ab).trans<|(a5 k ab).trans<|(a4 k ab).trans<|(bo.block k ab).trans<|b2.block k hk
 have J:=be w5 D.heap.size 3 _ _ (aa BT (m-1) cT) bk;have O:=Es<|ff bA<|a2 u nM;have rT:=M8<|ff bz<|a2 BT nT;have kT:Hid (m-1<=cT):=(du bz).choose_spec.2.1;have B:Bl V V (w5.setCell ⟨D.heap.size,3,none⟩<|aa BT (m-1) cT):=⟨by have:=B.size;simp;omega,λk hk=>(dw k ab).trans<|B.block k hk⟩;have A:=A.same<|dw _ l3;have J:aR (w5.setCell ⟨D.heap.size,3,none⟩<|aa BT (m-1) cT) D.heap.size now shift (aa u (m-1) Z) (aa BT (m-1) cT):=J;have n7:D.heap.size≠W2.heap.size:=ab;have mM:u≠W2.heap.size:=ab;have mT:BT≠W2.heap.size:=ab;have vM:V.heap.size<=u:=ab;have vT:V.heap.size<=BT:=ab;refine hK.out _ _ ?_;revert B A J O rT n7;generalize w5.setCell ⟨D.heap.size,3,none⟩ (aa (some ⟨BT,0,none⟩) (m-1) cT)=W6;generalize D.heap.size=B7;intro O rT B A J n7;clear dw a2 s3 s4 s5 zo z2 zM zT ax aF aI bA bk C hK hR K R;have l3:=A.lt;refine ae.seq E x<|ae.rg E x<|ae.oc E x 0 6 λK τ d hK=>?_;have C:=J.rc τ d;simp only[ap];go_wp2;refine hK.out _ _<|ae.un ?_;clear hK K C;refine ae.aZ E (i:=6) rfl rfl zg (λw=>od)<|EW (cap:=Z) (shift:=shift) E zg ww E3 x ab (λi hi=>bd (vZ hm hj) i hi) D7.1 ab O.lt O.1 ?_;intro v V7 gt;rw[ar rfl];obtain⟨r,hr⟩:∃r,gw (dX f j) (m-1) now shift=r:=⟨_,rfl⟩;rw[hr]at gt;obtain⟨v5,rfl,t5,b7⟩:=yd gt;have Zh:Hid (∀a l c,v5=aa a l c->l<=c):=λa l c e=>GK gt e
 clear gt;obtain⟨br,oh⟩:∃br,r.isSome=br:=⟨_,rfl⟩;rw[oh];have z7:=b7.size;have z6:=B.size;have J:=J.same<|b7.block _ J.lt;have A:=A.same<|b7.block _ A.lt;have O:=O.same<|b7.block u O.lt;have rT:=iQ rT<|b7.block BT rT.lt;have B:=B.trans b7 z6;replace hr:Hid _:=hr;replace oh:Hid _:=oh;replace t5:Hid _:=t5;refine ae.oc E x 7 5 λK τ d hK=>?_
 simp only[ap,Act.put];go_wp2;refine hK.out _ _<|ae.un<|ae.regionEnd E x ?_;clear hK K;cases r with
 |none=>
  have oh:=oh.out;subst oh;refine ae.ck E x [_] _ λK R τ d hK hR=>?_
  have C:=J.rc τ d;have xx:=A.rc τ d;obtain⟨W8,e8,k8,-,U,Y⟩:=aJ (A.r τ d) (afB 0 _) (afP _) now shift (some ⟨u,0,none⟩) (m-1) Z (some ⟨BT,0,none⟩) (m-1) cT;replace U:Hid _:=U;simp only[ak,Option.isSome_none];go_wp2;exact hR.out _ _ λa3=>ae.lv E eN Tz.func246 (λτ d=>cH rfl rfl rfl<|k8.r τ d) (aE.out _ _ _ (back.out B U.out Y)<|mD.out _ _ _ _ _ _ (by simp[kx,hr.out]) vM vT (O.same<|Y u mM) (iQ rT<|Y BT mT) kT.out)
 |some T=>
  have oh:=oh.out;subst oh;obtain⟨BS,cS,bS,rfl,oS⟩:=t5.out;have mS:BS≠W2.heap.size:=ab;have vS:V.heap.size<=BS:=ab;have H1:=λτ d=>BE BS (m-1) cS T BT cT (dX t j) (re V7 τ d) ab (a7 ⟨BS,rfl,oS.lt,oS.2⟩)<|a7 ⟨BT,rfl,rT.lt,rT.2⟩
  cases hl:pa T (dX t j) (m-1)with
  |true=>
   rw[hl]at H1;replace hl:Hid _:=hl;refine ae.ck E x [_] _ λK R τ d hK hR=>?_
   have H1:=H1 τ d;have C:=J.rc τ d;simp only[ak,Option.isSome_some];go_wp2_with(go_at_call 250;refine H1.mono ?_;clear H1;rintro e w9 ⟨rfl,b9⟩;clear C;have C:=((J.r τ d).same<|b9.block _ J.lt).cells;have j3:=(A.r τ d).same<|b9.block _ A.lt;have xx:=j3.cells;obtain⟨W8,e8,k8,-,U,Y⟩:=aJ j3 (afB 0 _) (afP _) now shift (some ⟨u,0,none⟩) (m-1) Z (some ⟨BT,0,none⟩) (m-1) cT;replace U:Hid _:=U)
   exact hR.out _ _ λa3=>ae.lv E eN Tz.func246 (λτ d=>cH rfl rfl rfl<|k8.r τ d) (aE.out _ _ _ (back.out (B.trans (Bl.kH b9) B.size) U.out Y)<|mD.out _ _ _ _ _ _ (by simp[kx,hr.out,hl.out]) vM vT ((O.same<|b9.block u O.lt).same<|Y u mM) (iQ (iQ rT<|b9.block BT rT.lt)<|Y BT mT) kT.out)
  |false=>
   rw[hl]at H1;replace hl:Hid _:=hl;refine ae.ck E x [_,_] _ λK R τ d hK hR=>?_
   have H1:=H1 τ d;have C:=J.rc τ d;simp only[ak,Option.isSome_some];go_wp2_with(go_at_call 250;refine H1.mono ?_;clear H1;rintro e w9 ⟨rfl,b9⟩;clear C;have C:=((J.r τ d).same<|b9.block _ J.lt).cells;obtain⟨W9,e9,k9,c9,-⟩:=boxed w9 now shift (some ⟨u,0,none⟩) (m-1) Z (some ⟨BS,0,none⟩) (m-1) cS)
   refine hK.out _ _ ?_;have B9:Bl V7 V7 W9:=Bl.kH<|b9.trans<|c9.mono b9.size;have z9:=B9.size;have J:=J.same<|B9.block _ J.lt;have A:=A.same<|B9.block _ A.lt;have O:=O.same<|B9.block u O.lt;have rT:=iQ rT<|B9.block BT rT.lt;have rS:=fT oS<|B9.block BS oS.lt;have bN:=B.size;have B:=B.trans B9 bN;have Sj:Bq W9 now shift u (m-1) Z (dX f j) BS (m-1) cS T:=⟨ab,ab,⟨(λh=>nomatch h),λad bp=>⟨u,by cases bp;rfl,O.lt,O.1⟩⟩,⟨(λh=>nomatch h),λad bp=>⟨BS,by cases bp;rfl,rS.lt,rS.2⟩⟩,(λh=>by rcases h with h|h<;>cases h),λi hi=>by unfold dX;split<;>exact hB.fit _ ab⟩;clear hK hR K R C b9 e9 c9;refine ae.seq E x<|ae.seq E x<|ae.rg E x<|ae.oc E x 0 1 λK τ d hK=>?_;have C:=k9.rc τ d;simp only[ap];go_wp2;refine hK.out _ _<|ae.un ?_;clear hK K C;refine ae.aZ E (i:=1) rfl rfl lq (λw=>od)<|AN E lq tK zg ww E3 x Sj ?_;intro b0 In;rw[ar rfl];have b5:=In.size;have J:=J.same<|In.block _ J.lt;have k9:=k9.same<|In.block _ k9.lt;have A:=A.same<|In.block _ A.lt;have O:=O.same<|In.block u O.lt;have rT:=iQ rT<|In.block BT rT.lt;have rS:=fT rS<|In.block BS rS.lt;have bO:=B.size;have B:=B.trans In bO;obtain⟨sb,vf⟩:∃sb,fD now shift (dX f j) (m-1) T (m-1)=sb:=⟨_,rfl⟩;rw[vf];replace vf:Hid _:=vf;refine ae.oc E x 2 1 λK τ d hK=>?_
   simp only[ap,Act.put];go_wp2;refine hK.out _ _<|ae.un<|ae.regionEnd E x<|ae.cond E x (t:=!sb) rfl ?_;clear hK K;cases sb with
   |false=>
    refine ae.ck E x [_] _ λK R τ d hK hR=>?_
    have C:=J.rc τ d;have xx:=A.rc τ d;obtain⟨W8,e8,k8,-,U,Y⟩:=aJ (A.r τ d) (afB 0 _) (afP _) now shift (some ⟨u,0,none⟩) (m-1) Z (some ⟨BT,0,none⟩) (m-1) cT;replace U:Hid _:=U;simp only[ak];go_wp2;exact hK.out _ _ (ae.ret E x<|ae.lv E eN Tz.func246 (λτ d=>cH rfl rfl rfl<|k8.r τ d)<|aE.out _ _ _ (back.out B U.out Y)<|mD.out _ _ _ _ _ _ (by simp[kx,hr.out,hl.out,vf.out]) vM vT (O.same<|Y u mM) (iQ rT<|Y BT mT) kT.out)
   |true=>
    refine ae.skip E x<|ae.ck E x [_] _ λK R τ d hK hR=>?_;have C:=k9.rc τ d;have xx:=A.rc τ d;obtain⟨W8,e8,k8,-,U,Y⟩:=aJ (A.r τ d) (afB 0 _) (afP _) now shift (some ⟨u,0,none⟩) (m-1) Z (some ⟨BS,0,none⟩) (m-1) cS;replace U:Hid _:=U;simp only[ak];go_wp2;exact hK.out _ _<|ae.ret E x<|ae.lv E eN Tz.func246 (λτ d=>cH rfl rfl rfl<|k8.r τ d)<|aE.out _ _ _ (back.out B U.out Y)<|mD.out _ _ _ _ _ _ (by simp[kx,hr.out,hl.out,vf.out]) vM vS (O.same<|Y u mM) (Qe<|fT rS<|Y BS mS)<|Zh.out _ _ _ rfl
end
def Ys (w:ay):∃W,w.alloc (.cells #[] 3)=W/\W.heap[w.heap.size]?=some (.cells #[] 3 (0,0))/\av w w W/\W.heap.size=w.heap.size+1:=
 ⟨_,rfl,bj w _,(afB _ w).alloc (afK _) _,aP⟩
def aD.upto (h:aD w b 0 n t)(a:k<=n):aD w b 0 k t:=λi e=>h i ab
def MI (h:aD w b 0 n t)(r:k<n)(v:n<=d):∀ad,(if d=k+1 then some (b:a9)else some ⟨b,k+1,none⟩)=some ad->∀j u,(eG (λj=>t<|k+1+j)<|n-(k+1))[j]?=some u->w.cell? (ad.add j)=some u:=λad a=>by
 split at a
 .have:n-(k+1)=0:=by omega
  rw[this];intro j u h;simp[eG]at h
 .cases a;intro j u e;have i:j<n-(k+1):=by rcases afS j (n-(k+1))with h|h;exact h;rw[afU (by rw[eZ];exact h)]at e;cases e
  rw[dW i]at e;have:=h (k+1+j) ab;rw[Nat.zero_add]at this;rw[qf,this];exact e
structure C3 (N sl)(W:ay):Prop where
 c3:W.cell? ⟨N,3,none⟩=some sl
structure Dd (w:ay)(now shift ao n c bo d R W):Prop where
 below:av w w W
 bk:aR W w.heap.size now shift (aa ao n c) (aa bo n d)
 rs:aR W R 0 0 () ()
 hR:w.heap.size<R
section
variable {c:Nat}{R:Nat}{W':ay}
def Dd.grow (h:Dd w now shift ao n c bo d R W)(b:av W W W'):Dd w now shift ao n c bo d R W':=
 ⟨h.below.trans<|b.mono h.below.size,h.bk.same<|b.block _ h.bk.lt,h.rs.same<|b.block _ h.rs.lt,h.hR⟩
def Dd.set (h:Dd w now shift ao n c bo d R W){Y}(r:R<Y)(hb:av w w W')(e:∀k,k≠Y->W'.heap[k]?=W.heap[k]?):Dd w now shift ao n c bo d R W':=by
 have u:=h.hR;exact⟨hb,h.bk.same<|e _ ab,h.rs.same<|e _ ab,h.hR⟩
def Dd.c3 (h:Dd w now shift ao n c bo d R W):C3 w.heap.size (aa bo n d) W:=⟨h.bk.cells.2.2.2.1⟩
end
inductive wi (f:Nat->Mv)(n:Nat)(t:Nat->Int)(m:Nat)(now shift:Int)(name:ByteArray):Int->Int->Nat->(Nat->Mv)->Nat->(Nat->Int)->Int->Prop
 |bad:aY now shift f n t m=false->wi f n t m now shift name 0 0 0 f 0 t 1
 |no {k cd:Int}:aY now shift f n t m=true->ew f n name k->oG f n t now shift k=.no cd->wi f n t m now shift name now shift n f m t cd
 |yes {k:Int} {p:Nat} {T:Nat->Int}:aY now shift f n t m=true->ew f n name k->oG f n t now shift k=.yes p T->wi f n t m now shift name now shift (n-1) (dX f p) (n-1) T 0
def YJ (now shift ao n c f bo k d t)(name:ByteArray)(w)(u:Bq w now shift ao n c f bo k d t)(bM:k<=d):
  Calls Tz.prog 17 #[aL #[now,shift,aa ao n c,aa bo k d],name] w λe w'=>(∃a0 a1 s2 l c2 F s3 o c3 T cd,e=.returned (a8 #[aL #[au .i64 a0,au .i64 a1,aa s2 l c2,aa s3 o c3],au .i64 cd])/\wi f n t k now shift name a0 a1 l F o T cd/\If w' w.heap.size s2 l c2 F s3 o c3 T)/\av w w w':=by
 obtain⟨W0,pH⟩:∃W,W=(w.alloc<|.cells #[au .i64 now,au .i64 shift,aa ao n c,aa bo k d] 29).alloc (.cells #[(0:Int),(0:Int),aa none 0 0,aa none 0 0] 29):=⟨_,rfl⟩;have b0:av w w W0:=by rw[pH];exact((afB _ w).alloc (afK _) _).alloc aP _
 have DA:aR W0 w.heap.size now shift (aa ao n c) (aa bo k d):=by rw[pH];exact(afC _ _ _ aP).trans<|heap_alloc_new _ _
 have uP:aR W0 (w.heap.size+1) 0 0 () ():=by rw[pH];exact dY _ _ _
 have gK:W0.heap.size=w.heap.size+2:=by rw[pH];simp
 have HB:=(u.bl<|Bl.of b0).sk;have h6:=u.n6;cases hb:aY now shift f n t k with
 |false=>
  rw[hb,pH]at HB;go_enter Tz.func17,Tryz.ntmps17
  go_wp2_with(go_at_call 34;refine HB.mono ?_;clear HB;rintro e w1 ⟨rfl,b1⟩;rw[<-pH]at b1;have r1:=uP.same<|b1.block _ uP.lt;have yy:=r1.cells)
  let⟨W5,e5,k5,iZ,tN,ol⟩:=aJ r1 (b0.trans<|b1.mono b0.size) ab 0 0 none 0 0 none 0 0;rw[e5];let⟨q0,q1,q2,q3,q4⟩:=k5.cells;refine ai (v:=a8 #[aL #[(0:Int),(0:Int),(),()],au .i64 1]) ?_ rfl ⟨⟨0,0,none,0,0,f,none,0,0,t,1,rfl,.bad hb,bn ⟨rfl,rfl,rfl,rfl,rfl,rfl⟩⟩,iZ⟩;simp[a6,Tryz.f17,go_sem,q0,q1,q2,q3]
 |true=>
  let⟨hm,hk,ju⟩:=bK hb;have hk:=hk.symm;subst hk;have KU:0<=now/\now<=10000:=by unfold aY at hb;simp only[ac]at hb;exact eJ.1 hb.1.1.1
  have nk:0<=shift/\shift<=6:=by unfold aY at hb;simp only[ac]at hb;exact eJ.1 hb.1.1.2
  have p7:Hid _:=hb;rw[hb,pH]at HB;clear hb;have Kt:=λW (hW:av w w W)=>gM now shift ao n c f bo n d t W ab ab (u.bl<|Bl.of hW).sm (u.bl<|Bl.of hW).si
  have HA:=λW (hW:av w w W)=>zJ now shift ao n c f bo n d name W h6 (u.bl<|Bl.of hW).sm
  rcases KD f n name with⟨J,hJ,im,TW⟩|im;focus
   have AT:∀k,ik f n name k->k=J:=λk hk=>hk.yes hJ im TW
   have hN:0<n:=ab;let⟨O,bN,bz,aV⟩:=u.si.pos hN;have hd:n<=d:=bM;have bO:Hid (ew f n name (J:Int)):=a7 ⟨J,rfl,hJ,im,TW⟩;subst bN;have HW:=λB c W (h1:n<=c) (h2:B<W.heap.size) (h3:aK W B 0 n f)=>Bf B n c J f W h6 hJ h1 h2 h3
   have cb:¬(J:Int)<0:=ab
  rotate_left;focus
   have AT:∀k,ik f n name k->k=-1:=λk hk=>hk.no im
   obtain⟨kc,hc⟩:∃kc:Int,kc=3:=⟨_,rfl⟩;have C:Hid (wi f n t n now shift name now shift n f n t kc):=.no p7.out (bn ⟨rfl,im⟩)<|by simp[oG,hc]
  all_goals
   go_enter Tz.func17,Tryz.ntmps17
   go_wp2_with(first
    |(go_at_call 34;refine HB.mono ?_;clear HB;rintro e w1 ⟨rfl,b1⟩;rw[<-pH]at b1;have B1:=b0.trans<|b1.mono b0.size;have bk:=DA.same<|b1.block _ DA.lt;have rs:=uP.same<|b1.block _ uP.lt;have yy:=bk.cells)
    |(go_at_call 35;refine(Kt _ B1).mono ?_;clear Kt;rintro e w2 ⟨⟨Bx,cx,Bi,ci,rfl,oM,oI⟩,b2⟩;have z2:=b2.size;have z1:=b1.size;have bk:=bk.same<|b2.block _ ab;have rs:=rs.same<|b2.block _ ab;let⟨W3,e3,k3,b3,z3⟩:=boxed w2 now shift (some ⟨Bx,0,none⟩) n cx (some ⟨Bi,0,none⟩) n ci;have hA:Ad w now shift _ n c _ d (w.heap.size+1) w2.heap.size Bx cx Bi ci f t W3:=⟨(B1.trans<|b2.mono B1.size).trans<|b3.mono ab,bk.same<|b3.block _ ab,rs.same<|b3.block _ ab,ab,k3,ab,cg (az oM λB u=>b3.block B (oM.lt B u).2) ab,cg (az oI λB u=>b3.block B (oI.lt B u).2) ab⟩;have yy:=hA.bk.cells;clear oM oI bk rs)
    |(go_at_call 37;refine(HA _ hA.below).mono ?_;clear HA;rintro e w5 ⟨⟨kk,rfl,Mx⟩,b5⟩;have z5:=b5.size;have hA:=hA.grow b5;have Z:=hA.x.cells;let⟨r0,r1,r2,r3,r4⟩:=hA.rs.cells;obtain rfl:=AT kk Mx)
    |(go_at_call 40;refine(HW Bx cx w5 (fE hA.om).2.2 (fE hA.om).2.1<|eh hA.om).mono ?_;clear HW;rintro e w6 ⟨⟨B6,c6,rfl,o6⟩,b6⟩;have bq:=hA.hX;have cc:=hA.hR;have lX:=hA.x.lt;have A:Dd w now shift ao n c (some ⟨O,0,none⟩) d (w.heap.size+1) w6:=⟨(hA.grow b6).below,(hA.grow b6).bk,(hA.grow b6).rs,hA.hR⟩;have x6:=(hA.grow b6).x;have pp:=x6.cells;let⟨W7,e7,x7,bR,z7,h7⟩:=JM x6 A.below ab<|aa (some ⟨B6,0,none⟩) (n-1) c6;have A:=A.set bq bR h7;have o7:=az o6 λB u=>h7 B<|gN o6 x6 bh u))
   all_goals try omega
   all_goals first
    |(let⟨W5,e5,k5,iZ,tN,ol⟩:=aJ hA.rs hA.below ab now shift (some ⟨Bx,0,none⟩) n cx (some ⟨Bi,0,none⟩) n ci;rw[e5];let⟨q0,q1,q2,q3,q4⟩:=k5.cells;exact ai (v:=a8 #[aL #[au .i64 now,au .i64 shift,aa (some ⟨Bx,0,none⟩) n cx,aa (some ⟨Bi,0,none⟩) n ci],au .i64 kc]) (by simp[a6,Tryz.f17,go_sem,q0,q1,q2,q3,hc]) rfl ⟨⟨now,shift,_,n,cx,f,_,n,ci,t,kc,rfl,C.out,hA.out ol⟩,iZ⟩)
    |skip
  have ce:(0:Int)<=J:=ab;have cf:(J:Int)<=d:=ab;have ch:(0:Int)<=(J:Int)+1:=ab;have ck:(J:Int)+1<=n:=ab;have cl:(J:Int)+1<=d:=ab;have cn:IntKind.i64.wrap ((J:Int)+1)=(J:Int)+1:=kw;let⟨i0,KN,MD,I8,I9⟩:=ur;have A:=A.grow (afB _ _).drew;have x8:=x7.same (w':=W7.drew) rfl;have o8:=az o7 (w':=W7.drew) λ_ _=>rfl;refine wp_region_held_drew (S:=C3 w.heap.size<|aa O n d) aO A.c3 λr=>?_;revert r A x8 o8;generalize W7.drew=W8;refine λA x8 o8 r=>aj 1 (.pointer<|some ⟨w.heap.size,3,none⟩) 29 rfl Vz r<|aj 2 (aa O n d) 30 rfl Vz r<|aj 3 (au .i64 (J:Int)) 31 rfl Vz r<|aj 4 (aa O J d) 32 rfl Vz r<|aj 6 (.pointer<|some ⟨w.heap.size,3,none⟩) 34 rfl Vz r<|aj 7 (aa O n d) 35 rfl Vz r<|aj 8 (au .i64 (J:Int)) 36 rfl Vz r<|aj 9 (au .i64<|(J:Int)+1) 37 rfl Vz r<|aj 10 (aa (if d=J+1 then some ⟨O,0,none⟩else some ⟨O,J+1,none⟩) (n-(J+1))<|d-(J+1)) 38 rfl Vz r ?_
  simp only[Act.put,List.setIfInBounds_toArray,List.set_cons_zero,List.set_cons_succ];refine f8 0 rfl λK hK=>?_;go_simp
  let⟨WE,eE,kE,bE,zE⟩:=Ys W8;rw[eE];have br:=A.grow bE;refine hK.out _ _ br.c3 λr=>f8 5 rfl λK hK=>bu rfl (.tmp 28) (.tmp 32) 27 rfl 3 i0 _ 1 8 iH KN MD I8 I9 rfl bh W8.heap.size (aa W8.heap.size 0 0) 0 [] bQ (⟨rfl,a7 ⟨W8.heap.size,0,#[],rfl,afK _,kE,afK _,afP _,rfl,rfl⟩⟩) oC O J d (eG t J) bQ AZ oC (λad C=>by cases C;exact wN<|aD.upto (aV.below br.below bz) ab) (jM t J) iN ab bE.size ?_;intro v9 w9 aF bS bV;simp only[Nat.zero_add,List.nil_append]at aF;have B9:av W8 W8 w9:=bE.grown bV bE.size λq hq=>Iw;have bs:=A.grow B9;refine hK.out _ _ bs.c3 λr=>?_;clear hK K;refine f8 11 rfl λK hK=>bu rfl (.tmp 33) (.tmp 38) 27 rfl 3 i0 _ 1 8 iH KN MD I8 I9 rfl bh W8.heap.size v9 J (eG t J) bQ aF bS (if d=J+1 then some (O:a9)else some ⟨O,J+1,none⟩) (n-(J+1)) (d-(J+1)) (eG (λj=>t<|J+1+j)<|n-(J+1)) bQ AZ (by split<;>(intro h;cases h)) (MI (aV.below bs.below bz) hJ hd) (jM _ _) iN ab B9.size ?_;intro co bW Un b4 b7;rw[CB t J n hJ,show J+(n-(J+1))=n-1 by omega]at Un;have aI:av W8 W8 bW:=B9.grown b7 B9.size λq hq=>(aF.lt q hq).1;obtain⟨U,c8,rfl⟩:=ml Un b4;have TU:=A.grow aI;have ax:=x8.same<|aI.block _ x8.lt;have bt:=az o8 λB u=>aI.block B (o8.lt B u).2;have pp:=ax.cells;refine hK.out _ _ TU.c3 λr=>?_;clear hK K;refine f8 12 rfl λK hK=>?_;go_simp
  refine hK.out _ _ TU.c3 λr=>?_;clear hK K;refine f8 13 rfl λK hK=>?_;go_simp
  let⟨aZ,U_,a2,Y9,cq,DV⟩:=yk ax TU.below ab<|aa (some ⟨U,0,none⟩) (n-1) c8;rw[U_];have A:=TU.set bq Y9 DV;have oM:=az bt λB u=>DV B<|gN bt ax bh u;have oI:=az Un λB u=>DV B<|gN Un ax bh u;refine hK.out _ _ A.c3 λr=>?_;clear hK K;refine wpAnyH_done aO ?_ _;have yy:=A.bk.cells;have Z:=a2.cells;have b8:=a2.lt;have ct:w5.heap.size<=B6:=(oM.lt B6 rfl).1;have cu:W8.heap.size<=U:=(oI.lt U rfl).1;have hF:=vZ hm hJ;have bv:∀i,i<n-1->(dX f J i).ok=true:=λi hi=>bd hF i hi
  have NZ:=sW B6 (n-1) c6 (dX f J) now shift aZ ab bv KU.1 ab nk.1 nk.2 (λhr=>wY hF ab hr) (fE oM).2.1<|eh oM;have VT:=λW (h2:B6<W.heap.size) (h3:aK W B6 0 (n-1) (dX f J)) (h4:U<W.heap.size) (h5:aD W U 0 (n-1) (dX t J))=>gM now shift B6 (n-1) c6 (dX f J) U (n-1) c8 (dX t J) W ab ab ⟨(λh=>nomatch h),λad C=>by cases C;exact⟨B6,rfl,h2,h3⟩⟩ ⟨(λh=>nomatch h),λad C=>by cases C;exact⟨U,rfl,h4,h5⟩⟩
  have Cz:∀W,av aZ aZ W->(B6<W.heap.size/\aK W B6 0 (n-1) (dX f J))/\(U<W.heap.size/\aD W U 0 (n-1) (dX t J))/\Dd w now shift ao n c O d (w.heap.size+1) W/\aR W w2.heap.size now shift (aa B6 (n-1) c6) (aa U (n-1) c8):=λW hW=>
   ⟨⟨afL (fE oM).2.1 hW.size,(eh oM).below hW (fE oM).2.1⟩,⟨afL (fE oI).2.1 hW.size,(GF oI).below hW (fE oI).2.1⟩,A.grow hW,a2.same<|hW.block _ b8⟩
  have Ea:∀T,kx f n t now shift J=T->Hid (wi f n t n now shift name now shift (n-1) (dX f J) (n-1) T 0):=λT h=>.yes p7.out bO.out (by show oG f n t now shift (J:Int)=.yes J T;simp[oG,h])
  rcases p9:gw (dX f J) (n-1) now shift with _|T;focus
   rw[p9]at NZ;have HN:=NZ;have C:=Ea (dX t J)<|by simp[kx,p9]
  rotate_left;focus
   rw[p9]at NZ;have HS:=NZ;clear NZ;have aB:=λB c W (h2:B<W.heap.size) (h3:aD W B 0 (n-1) T) (h4:U<W.heap.size) (h5:aD W U 0 (n-1) (dX t J))=>Be (some ⟨B,0,none⟩) (n-1) c T U c8 (dX t J) W ab (a7 ⟨B,rfl,h2,h3⟩)<|a7 ⟨U,rfl,h4,h5⟩
   have Yj:=λB c O c' W (h2:B<W.heap.size) (h3:aK W B 0 (n-1) (dX f J)) (h4:O<W.heap.size) (h5:aD W O 0 (n-1) T)=>pv now shift B (n-1) c (dX f J) O (n-1) c' T W ab iN h2 h3 (λi hi=>Ew<|bv i hi) h4 h5
   obtain⟨sb,vf⟩:∃sb,fD now shift (dX f J) (n-1) T (n-1)=sb:=⟨_,rfl⟩;rw[vf]at Yj;cases hl:pa T (dX t J) (n-1);focus
    rw[hl]at aB;cases sb;focus
     have C:=Ea (dX t J)<|by simp[kx,p9,hl,vf]
    rotate_left;focus
     have C:=Ea T<|by simp[kx,p9,hl,vf]
   rotate_right;focus
    rw[hl]at aB;have C:=Ea (dX t J)<|by simp[kx,p9,hl]
   all_goals clear vf hl
  all_goals clear Ea
  all_goals
   go_wp2_with(first
    |(go_at_call 39;refine HN.mono ?_;clear HN;rintro e a3 ⟨⟨cv,cw,rfl⟩,Dz⟩;have D:=Dz;let⟨⟨f1,f2⟩,⟨f3,f4⟩,A,xx⟩:=Cz _ D;have Z:=xx.cells)
    |(go_at_call 39;refine HS.mono ?_;clear HS;rintro e a3 ⟨⟨BT,cT,Si,rfl,Y,b9⟩,Dz⟩;have D:=Dz;have HT:Hid (a3.heap.size=a3.heap.size):=rfl;let⟨⟨f1,f2⟩,⟨f3,f4⟩,A,xx⟩:=Cz _ D;have Z:=xx.cells)
    |(go_at_call 41;refine(aB BT cT _ Y.lt Y.2 f3 f4).mono ?_;clear aB;rintro e cA ⟨rfl,bx⟩;have Y:=gY Y<|bx.block _ Y.lt;have D:=D.trans<|bx.mono D.size;let⟨⟨f1,f2⟩,⟨f3,f4⟩,A,xx⟩:=Cz _ D;have Z:=xx.cells)
    |(go_at_call 21;refine(Yj By cy BT cT ca (fE UN).2.1 (eh UN) UM.lt UM.2).mono ?_;clear Yj;rintro e cB ⟨rfl,aE⟩;have bA:=gY UM<|aE.block _ UM.lt;have bB:=az UN λB u=>aE.block B (UN.lt B u).2;have yb:=a4.same<|aE.block _ a4.lt;have D:=bF.trans<|aE.mono bF.size;let⟨⟨f1,f2⟩,⟨f3,f4⟩,A,xx⟩:=Cz _ D;have Y:=bA;have Z:=xx.cells;have pp:=yb.cells;let⟨r0,r1,r2,r3,r4⟩:=A.rs.cells)
    |(go_at_call 35;refine(VT _ f1 f2 f3 f4).mono ?_;rintro e bH ⟨⟨By,cy,Bz,cz,rfl,oY,oZ⟩,T_⟩;have Y:=gY Y<|T_.block _ Y.lt;have zb:=D.size;have cC:=T_.size;have D:=D.trans<|T_.mono D.size;let⟨_,_,A,xx⟩:=Cz _ D;let⟨r0,r1,r2,r3,r4⟩:=A.rs.cells;let⟨cE,cF,a5,bp,cI⟩:=boxed bH now shift (some ⟨By,0,none⟩) (n-1) cy (some ⟨Bz,0,none⟩) (n-1) cz;have pp:=a5.cells;let⟨ca,cK,a4,bF,cL,bI⟩:=yk a5 (D.trans<|bp.mono D.size) D.size<|aa (some ⟨BT,0,none⟩) (n-1) cT;have UM:=gY Y<|(bI BT (by have:=Y.lt;omega)).trans<|bp.block _ Y.lt;have bL:=az oY λB u=>bp.block B (oY.lt B u).2;have UN:=az bL λB u=>bI B<|gN bL a5 bh u;have pp:=a4.cells)
    |(go_at_call 35;refine(VT _ f1 f2 f3 f4).mono ?_;rintro e bH ⟨⟨By,cy,Bz,cz,rfl,oY,oZ⟩,T_⟩;have zb:=D.size;have D:=D.trans<|T_.mono D.size;let⟨_,_,A,xx⟩:=Cz _ D;let⟨r0,r1,r2,r3,r4⟩:=A.rs.cells))
   all_goals try omega
   all_goals first
    |(let⟨W5,e5,k5,iZ,tN,ol⟩:=aJ A.rs A.below ab now shift (some ⟨By,0,none⟩) (n-1) cy (some ⟨Bz,0,none⟩) (n-1) cz;rw[e5];let⟨q0,q1,q2,q3,q4⟩:=k5.cells;have hl:=A.rs.lt;exact ai (by simp[a6,Tryz.f17,go_sem,q0,q1,q2,q3]) rfl ⟨⟨now,shift,_,n-1,cy,_,_,n-1,cz,_,0,rfl,C.out,a7 ⟨By,Bz,rfl,rfl,cg (az oY λB u=>ol B (by have:=(oY.lt B u).1;omega)) ab,(fE oZ).2.2,tR.of<|cg (az oZ λB u=>ol B (by have:=(oZ.lt B u).1;omega)) ab⟩⟩,iZ⟩)
    |(let⟨W5,e5,k5,iZ,tN,ol⟩:=aJ A.rs A.below ab now shift (some ⟨By,0,none⟩) (n-1) cy (some ⟨BT,0,none⟩) (n-1) cT;rw[e5];let⟨q0,q1,q2,q3,q4⟩:=k5.cells;have hl:=A.rs.lt;exact ai (by simp[a6,Tryz.f17,go_sem,q0,q1,q2,q3]) rfl ⟨⟨now,shift,_,n-1,cy,_,_,n-1,cT,_,0,rfl,C.out,a7 ⟨By,BT,rfl,rfl,cg (az bB λB u=>ol B (by have:=(bB.lt B u).1;omega)) ab,b9,tR.Z2 (gY bA<|ol BT ab) ab⟩⟩,iZ⟩)
    |trace_state
section
variable {a0 a1:Int}{l:Nat}{F:Nat->Mv}{o:Nat}
def AI (h:fD now shift f n t m=true):aY now shift f n t m=true/\LE f n t:=by
 unfold fD at h;grind
def RV (hb:aY now shift f n t n=true)(r:p<n):aY now shift (dX f p) (n-1) (dX t p) (n-1)=true:=by
 let⟨u,_,v⟩:=bK hb;unfold aY at hb⊢;simp at hb⊢;refine⟨⟨hb.1.1,(fN<|vZ u r).2<|VM v r⟩,?_⟩;have h:=hb.2;unfold mW at h⊢;simp at h⊢;intro i x;rw[qV,qV];exact h _<|RQ r x
def S0 (h:vj f n now shift q=.yes p T):AY f n now shift q=.yes p T/\fD now shift (ee f p q) (n+1) T (n+1)=true:=by
 grind [vj]
def YI {k}(hk:ew f n name k)(h:oG f n t now shift k=.yes p T):p<n/\T=kx f n t now shift p:=by
 unfold oG at h;rcases hk with⟨rfl,_⟩|⟨j,rfl,r,_⟩<;>grind
def Tv (f n t now shift p):kx f n t now shift p=dX t p\/fD now shift (dX f p) (n-1) (kx f n t now shift p) (n-1)=true/\∀j,j<n-1->kx f n t now shift p j<=dX t p j:=by
 generalize r:kx f n t now shift p=D;unfold kx at r;split at r
 .grind
 split at r
 .grind
 rename_i u;split at r
 .rename_i hs;subst r;refine a7 ⟨hs,λj v=>?_⟩;rcases Int.lt_or_le _ _ with h|h
  .exact absurd (sY v h) u
  omega
 grind
end
section
variable [g:Gl]
def RX (E:dB Tz.prog ok c aS)(u:ok.aN 49=true)(Y:ok.aN 70=true)(jA:ok.aN 94=true)(Pp:ok.aN 95=false)(Z:ok.aN 246=true)(lq:ok.aN 57=true)(tK:ok.aN 81=true)(zg:ok.aN 108=true)(ww:ok.aN 142=true)(E3:ok.aN 166=false)(eN:ok.aN r0.fn=true)(C:Bq V now shift ao n cp f bo m s t)
  (D:∀y cd W',Bl V V W'->EZ (MPd now shift f n t name) (R9 now shift f n t m) (aY now shift f n t m) V.heap.size y cd W'->ae Tz.prog ok c aS Q ⟨r0.finish<|a8 #[y,au .i64 cd],cs,W'⟩):
  ae Tz.prog ok c aS Q ⟨Frame.enter Tz.prog 49 #[aL #[now,shift,aa ao n cp,aa bo m s],name] .normal,r0::cs,V⟩:=by
 replace D:Hid _:=D;refine ae.en Tz.func49 rfl Tryz.ntmps49 iE<|ae.ck E u [_] _ λK R J mC hK hR=>?_
 obtain⟨W1,e1,O,b1,-⟩:=boxed (re V J mC) now shift ao n cp bo m s;obtain⟨W2,e2,v,b2,-⟩:=boxed W1 0 0 none 0 0 none 0 0;have x:=Bl.kH<|b1.trans<|b2.mono b1.size;simp[ak];go_wp2;apply hK.out _ _;have p2:=O.same<|b2.block _ O.lt;have o4:V.heap.size<W1:=O.lt;refine ae.seq E u<|ae.rg E u<|ae.oc E u 0 4 λK τ d hK=>?_;let⟨y0,y1,y2,y3,y4⟩:=p2.rc τ d;simp only[ap];go_wp2;refine hK.out _ _<|ae.un ?_;refine ae.aZ E (i:=4) rfl rfl Y (λw=>od)<|qW E Y jA Pp u (a7<|a7 ⟨name,rfl,rfl,rfl⟩) Z (λW A=>((C.bl x).bl A).ib) (mpd now shift f n t name) (λh W r cs hr A hk=>RZ E Z lq tK zg ww E3 hr ((C.bl x).bl A) h hk) (Wd now shift f n t m) (λW A=>(C.bl x).cy W A) ?_;rintro y cd W4 U hy;rw[ar rfl];obtain⟨a0,a1,s2,l2,c2,s3,l3,c3,rfl⟩:=hy.is (mpd now shift f n t name)<|Wd now shift f n t m;have ZM:=v.lt;have v:=v.same<|U.block _ ZM;have z0:=x.size;have z4:=U.size;have bV:=x.trans U z0;refine ae.oc E u 5 4 λK τ d hK=>?_
 let⟨x0,x1,x2,x3,x4⟩:=v.rc τ d;obtain⟨W8,e8,k8,-,B,o8⟩:=aJ (v.r τ d) (afB 0 _) ab a0 a1 s2 l2 c2 s3 l3 c3;replace B:Hid _:=B;simp only[ap,Act.put];go_wp2;have B:W8.heap.size=W4.heap.size:=B.out;exact hK.out _ _<|ae.regionEnd E u<|ae.ret E u<|ae.lv E eN Tz.func49 (λτ d=>cH rfl rfl rfl<|k8.r τ d)<|D.out _ _ _ ⟨ab,λk hk=>(o8 k ab).trans<|bV.block k hk⟩<|hy.to (mpd now shift f n t name) (Wd now shift f n t m) z0 λk g1 g2=>o8 k ab
end
def aew (W:ay)(y:bi)(a0 a1:Int)(l:Nat)(F:Nat->Mv)(o:Nat)(T:Nat->Int):Prop:=∃j r u e,y=aL #[a0,a1,aa j l r,aa u o e]/\qe W j l r F/\pN W u o e T/\o<=e
section
variable {N:Nat}{y:bi}
end
