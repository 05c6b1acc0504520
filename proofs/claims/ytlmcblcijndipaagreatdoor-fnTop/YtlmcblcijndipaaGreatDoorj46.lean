import Derived.Test.YtlmcblcijndipaaGreatDoorj44
import Derived.Test.YtlmcblcijndipaaGreatDoorj37
set_option linter.defProp false
set_option linter.unusedVariables false
set_option linter.unusedSectionVars false
set_option maxHeartbeats 8000000
set_option maxRecDepth 100000
namespace Go.Proofs.YtlmcblcijndipaaGreatDoor
open Conc RowKit
variable {now shift:Int}{b d k n:Nat}{t:Nat->Int}{ao bo:Option Addr}{w:World}
inductive mN (f:Nat->Mv)(n:Nat)(t:Nat->Int)(m:Nat)(now shift:Int)(q:Mv):Int->Int->Nat->(Nat->Mv)->Nat->(Nat->Int)->Int->Prop
 |bad:aM now shift f n t m=false->mN f n t m now shift q 0 0 0 f 0 t 1
 |no {cd:Int}:aM now shift f n t m=true->wc f n now shift q=.no cd->mN f n t m now shift q now shift n f m t cd
 |yes {p:Nat} {T:Nat->Int}:aM now shift f n t m=true->wc f n now shift q=.yes p T->mN f n t m now shift q now shift (n+1) (dR f p q) (n+1) T 0
def Ym (now shift:Int)(ao:Option Addr)(n c:Nat)(f:Nat->Mv)(bo:Option Addr)(k d:Nat)(t:Nat->Int)(m:Mv)(w:World)(hB:Bq w now shift ao n c f bo k d t)(hf:m.Fits):
  Calls Tz.prog 9 #[.agg #[now,shift,.slice ao n c,.slice bo k d],.agg #[m.name,m.ak,m.ap,m.bF,m.late,m.prom]] w λe w'=>(∃a0 a1 s2 l c2 F s3 o c3 T cd,e=.returned (.tuple #[.agg #[.int .i64 a0,.int .i64 a1,.slice s2 l c2,.slice s3 o c3],.int .i64 cd])/\mN f n t k now shift m a0 a1 l F o T cd/\J7 w' w.heap.size s2 l c2 F s3 o c3 T)/\Below w w w':=by
 obtain⟨W0,sX⟩:∃W,W=((w.alloc<|.cells #[.int .i64 now,.int .i64 shift,.slice ao n c,.slice bo k d] 29).alloc<|.cells #[.string m.name,.bool m.ak,.int .i64 m.ap,.int .i64 m.bF,.int .i64 m.late,.int .i64 m.prom] 31).alloc (.cells #[(0:Int),(0:Int),.slice none 0 0,.slice none 0 0] 29):=⟨_,rfl⟩;have b0:Below w w W0:=by rw[sX];exact(((acU _ w).alloc (ac3 _) _).alloc aG _).alloc cH _
 have FY:aT W0 w.heap.size now shift (.slice ao n c) (.slice bo k d):=by rw[sX];exact(acV _ _ _ cH).trans<|(acV _ _ _ aG).trans<|heap_alloc_new _ _
 have mv0:dw W0 (w.heap.size+1) m:=by rw[sX];exact(acV _ _ _ aG).trans<|dX _ _ _
 have wz:aT W0 (w.heap.size+1+1) 0 0 () ():=by
  rw[sX];have:=dX (w.alloc<|.cells #[now,shift,.slice ao n c,.slice bo k d] 29) (.cells #[m.name,m.ak,m.ap,m.bF,m.late,m.prom] 31)<|.cells #[(0:Int),(0:Int),(),()] 29;rw[acZ]at this;exact this
 have gE:W0.heap.size=w.heap.size+3:=by rw[sX];simp
 have HB:=(hB.bl<|Bl.of b0).sk;have h6:=hB.n6;cases hb:aM now shift f n t k with
 |false=>
  rw[hb,sX]at HB;go_enter Tz.func9,Tryz.ntmps9
  go_wp2_with(go_at_call 39;refine HB.mono ?_;clear HB;rintro e w1 ⟨rfl,b1⟩;rw[<-sX]at b1;have r1:=wz.same<|b1.block _ wz.lt;have yy:=r1.cells)
  let⟨W5,e5,k5,jQ,vV,qT⟩:=aV r1 (b0.trans<|b1.mono b0.size) ab 0 0 none 0 0 none 0 0;rw[e5];let⟨q0,q1,q2,q3,q4⟩:=k5.cells;refine bodyPost_ret (v:=.tuple #[.agg #[(0:Int),(0:Int),(),()],.int .i64 1]) ?_ rfl ⟨⟨0,0,none,0,0,f,none,0,0,t,1,rfl,.bad hb,.inl ⟨rfl,rfl,rfl,rfl,rfl,rfl⟩⟩,jQ⟩;simp[results,Tryz.f9,go_sem,q0,q1,q2,q3]
 |true=>
  let⟨hm,hk,gG⟩:=bG hb;have hk:=hk.symm;subst hk;have Ji:0<=now/\now<=10000:=by unfold aM at hb;simp only[Bool.and_eq_true]at hb;exact d6.1 hb.1.1.1
  have lh:0<=shift/\shift<=6:=by unfold aM at hb;simp only[Bool.and_eq_true]at hb;exact d6.1 hb.1.1.2
  have nI:Hid _:=hb;let⟨K,S2,Xs,Xt⟩:=p7 (λj=>bX (f j).name m.name) n;rw[hb,sX]at HB;have hPP:=ww S2 Xs Xt;have Mt:=λW (hW:Below w w W)=>jp now shift ao n c f bo n d t W ab ab (hB.bl<|Bl.of hW).sm (hB.bl<|Bl.of hW).si
  have HC2:=Mt;have HM:=λW=>yO hf W
  have HA:=λW (hW:Below w w W)=>Ey now shift ao n c f bo n d m.name W h6 (hB.bl<|Bl.of hW).sm
  have HP:=λB c W (h1:n<=c) (h2:B<W.heap.size) (h3:aJ W B 0 n f)=>KZ B n c f m W h6 h1 h2 h3
  have hgo:∀(P:Prop),(∀kc:Int,kc=2->m.ok=false->Hid (wc f n now shift m=.no kc)->P)->(∀kc:Int,kc=2->m.ok=true->¬m.prom<0->Hid (wc f n now shift m=.no kc)->P)->(∀kc:Int,kc=3->m.ok=true->m.prom<0->(∀k,jj f n m.name k->0<=k)->Hid (wc f n now shift m=.no kc)->P)->(∀kc:Int,kc=4->m.ok=true->m.prom<0->(∀k,jj f n m.name k->k<0)->¬n<6->Hid (wc f n now shift m=.no kc)->P)->(m.ok=true->m.prom<0->(∀j,j<n->bJ (f j).name m.name=false)->(∀k,jj f n m.name k->k<0)->n<6->P)->P:=λP a1 a2 a3 a4 a5=>by
   cases eO:m.ok with
   |false=>exact a1 2 rfl eO (tY<|IU<|.inl eO)
   |true=>
    by_cases hp:m.prom<0
    .rcases MG f n m.name with⟨J,hJ,xA,Xr⟩|xA
     .exact a3 3 rfl eO hp (λk hk=>by have:=hk.yes hJ xA Xr;omega) (tY<|SQ eO hp ⟨J,hJ,xA⟩)
     .have AT:∀k,jj f n m.name k->k<0:=λk hk=>by have:=hk.no xA;omega
      by_cases h:n<6
      .exact a5 eO hp xA AT h
      .exact a4 4 rfl eO hp AT h (tY<|SR eO hp xA h)
    .exact a2 2 rfl eO hp (tY<|IU<|.inr hp)
  clear hb;refine hgo _ (λkc hc eO had=>?_) (λkc hc eO hp had=>?_) (λkc hc eO hp AT had=>?_) (λkc hc eO hp AT ay had=>?_) λeO hp xA AT ay=>?_;all_goals clear hgo
  rotate_right;focus
   have hF:=AW hm ay S2 eO Xs Xt xA;have ZI:∀i,i<n+1->(dR f K m i).ok=true:=λi hi=>aW hF i hi
   have J4:=λB c W (h2:B<W.heap.size) (h3:aJ W B 0 (n+1) (dR f K m))=>rU B (n+1) c (dR f K m) now shift W ab ZI Ji.1 ab lh.1 lh.2 (λhr=>vo hF ab hr) h2 h3
   have qS:=SS (now:=now) (shift:=shift) eO hp xA ay hPP;rcases oh:fI (dR f K m) (n+1) now shift with _|T;focus
    rw[oh]at J4;have HN:=J4;clear J4;rw[oh]at qS;obtain⟨kc,hc⟩:∃kc:Int,kc=5:=⟨_,rfl⟩;have had:Hid (wc f n now shift m=.no kc):=by rw[hc];exact tY qS
    clear qS
   rotate_left;focus
    rw[oh]at J4;have HS:=J4;clear J4;have Uo:=λB c b' c' W (h2:B<W.heap.size) (h3:aJ W B 0 (n+1) (dR f K m)) (h4:b'<W.heap.size) (h5:aA W b' 0 (n+1) T)=>tH now shift B (n+1) c (dR f K m) b' (n+1) c' T W ab ie h2 h3 (λi hi=>CN<|ZI i hi) h4 h5
    have Ya:=λB c b' c' W (h2:B<W.heap.size) (h3:aJ W B 0 (n+1) (dR f K m)) (h4:b'<W.heap.size) (h5:aA W b' 0 (n+1) T)=>jp now shift (some ⟨B,0,none⟩) (n+1) c (dR f K m) (some ⟨b',0,none⟩) (n+1) c' T W ab ab ⟨(λh=>nomatch h),λad had=>by cases had;exact⟨B,rfl,h2,h3⟩⟩ ⟨(λh=>nomatch h),λad had=>by cases had;exact⟨b',rfl,h4,h5⟩⟩
    obtain⟨sb,sK⟩:∃sb,dG now shift (dR f K m) (n+1) T (n+1)=sb:=⟨_,rfl⟩;rw[sK]at Uo;rw[oh]at qS;cases sb;focus
     obtain⟨kc,hc⟩:∃kc:Int,kc=6:=⟨_,rfl⟩;have had:Hid (wc f n now shift m=.no kc):=by rw[hc];exact SP qS sK
     clear qS sK
    rotate_left;focus
     have had:Hid (wc f n now shift m=.yes K T):=SO qS sK;clear qS sK
  all_goals
   rw[eO]at HM;go_enter Tz.func9,Tryz.ntmps9
   go_wp2_with(first
    |(go_at_call 39;refine HB.mono ?_;clear HB;rintro e w1 ⟨rfl,b1⟩;rw[<-sX]at b1;have B1:=b0.trans<|b1.mono b0.size;have bk:=FY.same<|b1.block _ FY.lt;have mv:=mv0.keep<|b1.block _ ab;have rs:=wz.same<|b1.block _ wz.lt;have yy:=bk.cells)
    |(go_at_call 40;refine(Mt _ B1).mono ?_;clear Mt;rintro e w2 ⟨⟨Bx,cx,Bi,ci,rfl,oM,oI⟩,b2⟩;have z2:=b2.size;have z1:=b1.size;have bk:=bk.same<|b2.block _ ab;have rs:=rs.same<|b2.block _ ab;let⟨W3,e3,k3,b3,z3⟩:=cI w2 now shift (some ⟨Bx,0,none⟩) n cx (some ⟨Bi,0,none⟩) n ci;have hA:Ad w now shift ao n c bo d (w.heap.size+1+1) w2.heap.size Bx cx Bi ci f t W3:=⟨(B1.trans<|b2.mono B1.size).trans<|b3.mono ab,bk.same<|b3.block _ ab,rs.same<|b3.block _ ab,ab,k3,ab,cJ (aB oM λB hB=>b3.block B (oM.lt B hB).2) ab,cJ (aB oI λB hB=>b3.block B (oI.lt B hB).2) ab⟩;have mv:=(mv.keep<|b2.block _ ab).keep<|b3.block _ ab;let⟨s0,s1,s2,s3,s4,s5⟩:=eD mv;clear oM oI bk rs)
    |(go_at_call 41;refine(HM W3).mono ?_;clear HM;rintro e w4 ⟨rfl,b4⟩;have z4:=b4.size;have mv:=mv.keep<|b4.block _ ab;have hA:=hA.grow b4;have yy:=hA.bk.cells;let⟨s0,s1,s2,s3,s4,s5⟩:=eD mv;have xx:=hA.x.cells;let⟨r0,r1,r2,r3,r4⟩:=hA.rs.cells)
    |(go_at_call 42;refine(HA _ hA.below).mono ?_;clear HA;rintro e w5 ⟨⟨kk,rfl,F4⟩,b5⟩;have z5:=b5.size;have mv:=mv.keep<|b5.block _ ab;have hA:=hA.grow b5;have yy:=hA.bk.cells;let⟨s0,s1,s2,s3,s4,s5⟩:=eD mv;have xx:=hA.x.cells;let⟨r0,r1,r2,r3,r4⟩:=hA.rs.cells;have tS:=AT kk F4)
    |(go_at_call 40;refine(HC2 _ hA.below).mono ?_;clear HC2;rintro e w6 ⟨⟨By,cy,Bz,cz,rfl,oY,oZ⟩,b6⟩;have z6:=b6.size;let⟨W7,e7,k7,b7,z7⟩:=cI w6 now shift (some ⟨By,0,none⟩) n cy (some ⟨Bz,0,none⟩) n cz;have hA:=(hA.grow b6).grow b7;have mv:=(mv.keep<|b6.block _ ab).keep<|b7.block _ ab;have oY:=aB oY λB hB=>b7.block B (oY.lt B hB).2;have yy:=hA.bk.cells;let⟨s0,s1,s2,s3,s4,s5⟩:=eD mv;have pp:=k7.cells)
    |(go_at_call 43;refine(HP By cy W7 (fB oY).2.2 (fB oY).2.1<|dW oY).mono ?_;clear HP;rintro e w8 ⟨⟨B8,c8,k8,rfl,g1,g2,g3,o8⟩,b8⟩;obtain rfl:=JK S2 Xs Xt g1 g2 g3;have z8:=b8.size;have hA:=hA.grow b8;have y8:=k7.same<|b8.block _ k7.lt;have l8:=y8.lt;have pp:=y8.cells;let⟨W9,e9,y9,hb9,z9,h9⟩:=Ib y8 hA.below (by have:=hA.hR;have:=hA.hX;omega)<|.slice (some ⟨B8,0,none⟩) (n+1) c8;have hA:=hA.set y8 ab hb9 h9;have o9:=aB o8 λB hB=>h9 B<|gw o8 y8 bd hB;have yy:=hA.bk.cells;have pp:=y9.cells)
    |(go_at_call 44;refine(HN B8 c8 W9 (fB o9).2.1<|dW o9).mono ?_;clear HN;rintro e w10 ⟨⟨a10,c10,rfl⟩,Gq⟩;have hA:=hA.grow Gq;have xx:=hA.x.cells;let⟨r0,r1,r2,r3,r4⟩:=hA.rs.cells)
    |(go_at_call 44;refine(HS B8 c8 W9 (fB o9).2.1<|dW o9).mono ?_;clear HS;rintro e w10 ⟨⟨BT,cT,Kv,rfl,oT,_⟩,Gq⟩;have hA:=hA.grow Gq;have y10:=y9.same<|Gq.block _ y9.lt;have pp:=y10.cells;let⟨Yj,Xn,y11,Vl,z11,Cc⟩:=wA y10 hA.below (by have:=hA.hR;have:=hA.hX;omega)<|.slice (some ⟨BT,0,none⟩) (n+1) cT;have hA:=hA.set y10 ab Vl Cc;have Mc:=aB o9 λB hB=>Gq.block B (o9.lt B hB).2;have o11:=aB Mc λB hB=>Cc B<|gw Mc y10 bd hB;have oT:=ik oT<|Cc BT ab;have pp:=y11.cells)
    |(go_at_call 26;refine(Uo B8 c8 BT cT Yj (fB o11).2.1 (dW o11) oT.lt oT.2).mono ?_;clear Uo;rintro e w12 ⟨rfl,QC⟩;have hA:=hA.grow QC;have y12:=y11.same<|QC.block _ y11.lt;have XZ:=aB o11 λB hB=>QC.block B (o11.lt B hB).2;have oT:=ik oT<|QC.block _ oT.lt;have pp:=y12.cells;have xx:=hA.x.cells;let⟨r0,r1,r2,r3,r4⟩:=hA.rs.cells)
    |(go_at_call 40;refine(Ya B8 c8 BT cT w12 (fB XZ).2.1 (dW XZ) oT.lt oT.2).mono ?_;clear Ya;rintro e w13 ⟨⟨Bg,cq,Bv,cv,rfl,oQ,oV⟩,Yo⟩;have z13:=hA.x.lt;have hA:=hA.grow Yo;let⟨r0,r1,r2,r3,r4⟩:=hA.rs.cells))
   all_goals try omega
   all_goals first
    |(let⟨W5,e5,k5,jQ,vV,qT⟩:=aV hA.rs hA.below ab now shift (some ⟨Bg,0,none⟩) (n+1) cq (some ⟨Bv,0,none⟩) (n+1) cv;rw[e5];let⟨q0,q1,q2,q3,q4⟩:=k5.cells;have hhR:=hA.hX;refine bodyPost_ret (v:=.tuple #[.agg #[.int .i64 now,.int .i64 shift,.slice (some ⟨Bg,0,none⟩) (n+1) cq,.slice (some ⟨Bv,0,none⟩) (n+1) cv],.int .i64 0]) (by simp[results,Tryz.f9,go_sem,q0,q1,q2,q3]) rfl ⟨⟨now,shift,_,n+1,cq,_,_,n+1,cv,T,0,rfl,.yes nI.out had.out,.inr ⟨Bg,Bv,rfl,rfl,cJ (aB oQ λB hB=>qT B (by have:=(oQ.lt B hB).1;omega)) ab,(fB oV).2.2,qH.of<|cJ (aB oV λB hB=>qT B (by have:=(oV.lt B hB).1;omega)) ab⟩⟩,jQ⟩)
    |(let⟨W5,e5,k5,jQ,vV,qT⟩:=aV hA.rs hA.below ab now shift (some ⟨Bx,0,none⟩) n cx (some ⟨Bi,0,none⟩) n ci;rw[e5];let⟨q0,q1,q2,q3,q4⟩:=k5.cells;exact bodyPost_ret (v:=.tuple #[.agg #[.int .i64 now,.int .i64 shift,.slice (some ⟨Bx,0,none⟩) n cx,.slice (some ⟨Bi,0,none⟩) n ci],.int .i64 kc]) (by simp[results,Tryz.f9,go_sem,q0,q1,q2,q3,hc]) rfl ⟨⟨now,shift,_,n,cx,f,_,n,ci,t,kc,rfl,.no nI.out had.out,hA.out qT⟩,jQ⟩)
    |trace_state
inductive Dp
 |no (c:Int)
 |yes (p:Nat) (T:Nat->Int)
noncomputable def jd (f:Nat->Mv)(n:Nat)(t:Nat->Int)(now shift:Int)(p:Nat):Nat->Int:=
 match fI (cQ f p) (n-1) now shift with
 |none=>cQ t p
 |some T=>if oq T (cQ t p) (n-1)=true then cQ t p else if dG now shift (cQ f p) (n-1) T (n-1)=true then T else cQ t p
noncomputable def pF (f:Nat->Mv)(n:Nat)(t:Nat->Int)(now shift k:Int):Dp:=if k<0 then .no 3 else .yes k.toNat (jd f n t now shift k.toNat)
def Yf (now shift:Int)(f:Nat->Mv)(n:Nat)(t:Nat->Int)(name:ByteArray)(N:Nat)(y e:Value)(W:World):Prop:=∃k,eI f n name k/\match pF f n t now shift k with
 |.no cd=>y=.agg #[(0:Int),(0:Int),(),()]/\e=.iface 131 (.agg #[.int .i64 cd])
 |.yes p T=>e=.nilIface/\∃BN c2 BT c3,y=.agg #[.int .i64 now,.int .i64 shift,.slice (some ⟨BN,0,none⟩) (n-1) c2,.slice (some ⟨BT,0,none⟩) (n-1) c3]/\N<=BN/\N<=BT/\BE W BN (n-1) (cQ f p)/\DJ W BT (n-1) T/\n-1<=c3
def V9 (now shift:Int)(f:Nat->Mv)(n:Nat)(t:Nat->Int)(name:ByteArray):Mw (Yf now shift f n t name) where
 is:=λ⟨k,hk,h⟩=>by
  cases hr:pF f n t now shift k with
  |no cd=>
   rw[hr]at h;have:cd=3:=by unfold pF at hr;split at hr<;>cases hr;rfl
   exact .inr ⟨cd,ab,h.2,h.1⟩
  |yes p T=>rw[hr]at h;let⟨h1,BN,c2,BT,c3,h2,_⟩:=h;exact .inl ⟨h1,_,_,_,_,_,_,_,_,h2⟩
 to:=λ⟨k,hk,h⟩ hN e=>⟨k,hk,by
  cases hr:pF f n t now shift k with
  |no cd=>rw[hr]at h;exact h
  |yes p T=>
   rw[hr]at h;let⟨h1,BN,c2,BT,c3,h2,h3,h4,h5,h6,h7⟩:=h;exact⟨h1,BN,c2,BT,c3,h2,ac6 hN h3,ac6 hN h4,h5.same<|e BN h3 h5.lt,ij h6<|e BT h4 h6.lt,h7⟩⟩
section
variable [g:Gl]{ok:Ctx}{c r0:Frame}{cs:List Frame}{V:World}{Q:Value->World->Prop}{cp:Nat}{f:Nat->Mv}{m dp:Nat}{name:ByteArray}
def PF (E:dM Tz.prog ok c bY)(fZ:ok.aX 287=true)(kB:ok.aX 18=true)(sI:ok.aX 52=true)(xw:ok.aX 80=true)(uO:ok.aX 111=true)(Dz:ok.aX 139=false)(f7:ok.aX r0.fn=true)(hB:Bq V now shift ao n cp f bo m dp t)(nI:aM now shift f n t m=true)
  (aH:∀y e W',Bl V V W'->Yf now shift f n t name V.heap.size y e W'->aj Tz.prog ok c bY Q ⟨r0.finish<|.tuple #[y,e],cs,W'⟩):
  aj Tz.prog ok c bY Q ⟨Frame.enter Tz.prog 287 #[.agg #[name],.agg #[now,shift,.slice ao n cp,.slice bo m dp]] .normal,r0::cs,V⟩:=by
 let⟨hm,uU,hf⟩:=bG nI;subst uU;replace aH:Hid _:=aH;have h6:=hB.n6;have KJ:0<=now/\now<=10000:=by
  unfold aM at nI;simp only[Bool.and_eq_true]at nI;exact d6.1 nI.1.1.1
 refine aj.en Tz.func287 rfl Tryz.ntmps287 vH ?_;refine aj.ck E fZ [_,_] _ λK R τ0 kW hK hR=>?_
 let⟨W1,e1,k1,b1⟩:=DS (re V τ0 kW) #[.string name] 67;obtain⟨W2,e2,k2,b2,-⟩:=cI W1 now shift ao m cp bo m dp;obtain⟨W3,e3,k3,b3,-⟩:=cI W2 0 0 none 0 0 none 0 0;have bW:=Bl.nP<|(b1.trans<|b2.mono b1.size).trans<|b3.mono<|ac6 b1.size b2.size;have p2:=k2.same<|b3.block _ k2.lt;have yy:=p2.cells;have n1:W3.cell? ⟨(re V τ0 kW).heap.size,0,none⟩=some (.string name):=by
  have h:W3.heap[(re V τ0 kW).heap.size]?=_:=(b3.block _<|ac4 (ac5.1 k1).1 b2.size).trans<|(b2.block _ (ac5.1 k1).1).trans k1;simp[World.cell?,h]
 have H1:=p6 ao m cp f name W3 h6 (hB.bl bW).sm;have o2:V.heap.size<=W1:=b1.size;have o3:W1.heap.size<W2:=k2.lt;simp only[aD];go_wp2_with(go_at_call 278;refine H1.mono ?_;clear H1;rintro e w4 ⟨⟨k,rfl,hk⟩,b4⟩)
 refine hK.out _ _ ?_;have p2:=p2.same<|b4.block _ p2.lt;have p3:=k3.same<|b4.block _ k3.lt;have bV:Bl V V w4:=bW.trans (Bl.of b4) bW.size;clear hK hR K R e1 e2 e3 k1 k2 k3 b1 b2 b3 b4 yy n1 bW;have back:∀{w W8:World},Bl V V w->W8.heap.size=w.heap.size->(∀k,k≠W2.heap.size->W8.heap[k]?=w.heap[k]?)->Bl V V W8:=λh h1 h2=>⟨by rw[h1];exact h.size,λk hk=>(h2 k ab).trans<|h.block k hk⟩
 replace back:Hid _:=@back;have l3:=p3.lt;rcases hk with⟨rfl,hn⟩|⟨j,rfl,hj,lg,Cj⟩
 .refine aj.ck E fZ [_] _ λK R τ d hK hR=>?_
  have xx:=p3.rc τ d;obtain⟨W8,e8,k8,-,z8,o8⟩:=aV (p3.r τ d) (acU 0 _) (ac8 _) 0 0 none 0 0 none 0 0;replace z8:Hid _:=z8;simp only[aD];go_wp2;exact hR.out _ _ λtodo=>aj.lv E f7 Tz.func287 (λτ d=>cg rfl rfl rfl<|k8.r τ d)<|aH.out _ _ _ (back.out bV z8.out o8) ⟨-1,.inl ⟨rfl,hn⟩,by simp[pF]⟩
 obtain⟨b,rfl,hb,am⟩:=hB.sm.pos ab;obtain⟨b',rfl,dt,aP⟩:=hB.si.pos ab;have gN:∀T BM cM BS cS W,jd f m t now shift j=T->V.heap.size<=BM->V.heap.size<=BS->BE W BM (m-1) (cQ f j)->DJ W BS (m-1) T->m-1<=cS->Yf now shift f m t name V.heap.size (.agg #[now,shift,.slice (some ⟨BM,0,none⟩) (m-1) cM,.slice (some ⟨BS,0,none⟩) (m-1) cS]) .nilIface W:=λT BM cM BS cS W h h1 h2 h3 h4 h5=>⟨j,.inr ⟨j,rfl,hj,lg,Cj⟩,by
  have:pF f m t now shift j=.yes j T:=by simp[pF,h]
  rw[this];exact⟨rfl,BM,cM,BS,cS,rfl,h1,h2,h3,h4,h5⟩⟩
 replace gN:Hid _:=gN;refine aj.ck E fZ [_,_,_,_] _ λK R τ d hK hR=>?_
 have q3:aT (re w4 τ d) _ _ _ _ _:=p2;have lb:b<(re w4 τ d).heap.size:=ac4 hb bV.size;have lb':b'<(re w4 τ d).heap.size:=ac4 dt bV.size;have H1:=xd now shift b 0 m cp f b' 0 m dp t (re w4 τ d) ab ab lb (dA am<|bV.block b hb) lb'<|th aP<|bV.block b' dt;have yy:=q3.cells;have xP:IntKind.i64.wrap ((j:Int)+1)=(j:Int)+1:=ia;have hj0:¬(j:Int)<0:=ab;simp only[aD];go_wp2_with(first
  |(go_at_call 69;refine H1.mono ?_;clear H1;rintro e w2 ⟨⟨v,u5,rfl,ov,ou⟩,b2⟩;obtain⟨BM,cM,rfl,hBM,lM⟩:=AS ov ab;obtain⟨BT,cT,rfl,Kv,lT⟩:=AS ou ab;clear yy;obtain⟨X2,hX2⟩:∃W,w2.alloc (.cells #[.int .i64 now,.int .i64 shift,.slice (some ⟨BM,0,none⟩) m cM,.slice (some ⟨BT,0,none⟩) m cT] 29)=W:=⟨_,rfl⟩;have bx:aT X2 w2.heap.size now shift (.slice (some ⟨BM,0,none⟩) m cM) (.slice (some ⟨BT,0,none⟩) m cT):=(by rw[<-hX2];exact heap_alloc_new _ _);have bo:Below w2.heap.size w2 X2:=(by rw[<-hX2];exact(acU _ _).alloc (ac3 _) _);have ov2:=eQ ov<|bo.block BM lM;have ou2:=eQ ou<|bo.block BT lT;have nM:BM≠w2.heap.size:=ab;have nT:BT≠w2.heap.size:=ab;have nMT:=R1 ov ou bd;have yy:=bx.cells;have H2:=Km BM m cM j (re w4 τ d).heap.size f X2 ab hj ov2;have zw:=b2.size)
  |(go_at_call 288;refine H2.mono ?_;clear H2;rintro e w3 ⟨rfl,ov3,sz3,of3⟩;have bx3:=bx.same<|of3 w2.heap.size λe=>nM e.symm;clear yy;have yy:=bx3.cells;have ou3:=eQ ou2<|of3 BT λe=>nMT e.symm;obtain⟨W3,Ch⟩:∃W,w3.setCell ⟨w2.heap.size,2,none⟩ (.slice (some ⟨BM,0,none⟩) (m-1) cM)=W:=⟨_,rfl⟩;have bx4:aT W3 w2.heap.size now shift (.slice (some ⟨BM,0,none⟩) (m-1) cM) (.slice (some ⟨BT,0,none⟩) m cT):=(by rw[<-Ch];exact heap_setCell_same w3 w2.heap.size 2 _ _ _ bx3);have of4:∀i,i≠w2.heap.size->W3.heap[i]?=w3.heap[i]?:=(λi hi=>by rw[<-Ch];exact acW w3 _ _ _ hi);have ov4:=eQ ov3<|of4 BM nM;have ou4:=eQ ou3<|of4 BT nT;have vv:=bx4.cells;have H3:=M8 BT m cT j (re w4 τ d).heap.size t W3 ab hj ou4;have sz4:W3.heap.size=w3.heap.size:=(by rw[<-Ch];simp);have sz3:Hid (w3.heap.size=X2.heap.size):=sz3;have sz4:Hid (W3.heap.size=w3.heap.size):=sz4)
  |(go_at_call 289;refine H3.mono ?_;clear H3;rintro e w5 ⟨rfl,ou5,sz5,of5⟩;have bx5:=bx4.same<|of5 w2.heap.size λe=>nT e.symm;clear yy vv;have yy:=bx5.cells;have ov5:=eQ ov4<|of5 BM nMT;have sz5:Hid (w5.heap.size=W3.heap.size):=sz5))
 all_goals try omega
 have of6:∀i,i≠w2.heap.size->(w5.setCell ⟨w2.heap.size,3,none⟩<|.slice BT (m-1) cT).heap[i]?=w5.heap[i]?:=λi hi=>acW w5 _ _ _ hi
 have s3:=sz3.out;have s4:=sz4.out;have s5:=sz5.out;have zo:=bo.size;have z2:w4.heap.size<=w2:=b2.size;have zM:w4.heap.size<=BM:=hBM;have zT:w4.heap.size<=BT:=Kv;have cD:∀k,k<w4.heap.size->(w5.setCell ⟨w2.heap.size,3,none⟩<|.slice BT (m-1) cT).heap[k]?=w4.heap[k]?:=λk hk=>(of6 k ab).trans<|(of5 k ab).trans<|(of4 k ab).trans<|(of3 k ab).trans<|(bo.block k ab).trans<|b2.block k hk
 have q7:=heap_setCell_same w5 w2.heap.size 3 _ _ (.slice BT (m-1) cT) bx5;have rM:=CL<|eQ ov5<|of6 BM nM;have rT:=K9<|eQ ou5<|of6 BT nT;have kT:Hid (m-1<=cT):=(di ou5).choose_spec.2.1;have bV:Bl V V (w5.setCell ⟨w2.heap.size,3,none⟩<|.slice BT (m-1) cT):=⟨by have:=bV.size;simp;omega,λk hk=>(cD k (by have:=bV.size;omega)).trans<|bV.block k hk⟩;have p3:=p3.same<|cD _ l3;have q7:aT (w5.setCell ⟨w2.heap.size,3,none⟩<|.slice BT (m-1) cT) w2.heap.size now shift (.slice BM (m-1) cM) (.slice BT (m-1) cT):=q7;have n7:w2.heap.size≠W2.heap.size:=ab;have mM:BM≠W2.heap.size:=ab;have mT:BT≠W2.heap.size:=ab;have vM:V.heap.size<=BM:=ab;have vT:V.heap.size<=BT:=ab;refine hK.out _ _ ?_;revert bV p3 q7 rM rT n7;generalize w5.setCell ⟨w2.heap.size,3,none⟩ (.slice (some ⟨BT,0,none⟩) (m-1) cT)=W6;generalize w2.heap.size=B7;intro rM rT bV p3 q7 n7;clear cD of6 s3 s4 s5 zo z2 zM zT sz3 sz4 sz5 ov5 bx5 yy hK hR K R;have l3:=p3.lt;refine aj.seq E fZ<|aj.rg E fZ<|aj.oc E fZ 0 6 λK τ d hK=>?_;have yy:=q7.rc τ d;simp only[aK];go_wp2;refine hK.out _ _<|aj.un ?_;clear hK K yy;refine aj.dO E (i:=6) rfl rfl xw (λw=>y7)<|Dq (cap:=cM) (shift:=shift) E xw uO Dz fZ ab (λi hi=>aW (qF hm hj) i hi) KJ.1 ab rM.lt rM.1 ?_;intro v V7 fQ;rw[bT rfl];obtain⟨r,hr⟩:∃r,fI (cQ f j) (m-1) now shift=r:=⟨_,rfl⟩;rw[hr]at fQ;obtain⟨v5,rfl,t5,b7⟩:=wu fQ;have Za:Hid (∀a l c,v5=.slice a l c->l<=c):=λa l c e=>Fb fQ e
 clear fQ;obtain⟨br,lP⟩:∃br,r.isSome=br:=⟨_,rfl⟩;rw[lP];have z7:=b7.size;have z6:=bV.size;have q7:=q7.same<|b7.block _ q7.lt;have p3:=p3.same<|b7.block _ p3.lt;have rM:=rM.same<|b7.block BM rM.lt;have rT:=ij rT<|b7.block BT rT.lt;have bV:=bV.trans b7 z6;replace hr:Hid _:=hr;replace lP:Hid _:=lP;replace t5:Hid _:=t5;refine aj.oc E fZ 7 5 λK τ d hK=>?_
 simp only[aK,Act.put];go_wp2;refine hK.out _ _<|aj.un<|aj.regionEnd E fZ ?_;clear hK K;cases r with
 |none=>
  have lP:=lP.out;subst lP;refine aj.ck E fZ [_] _ λK R τ d hK hR=>?_
  have yy:=q7.rc τ d;have xx:=p3.rc τ d;obtain⟨W8,e8,k8,-,z8,o8⟩:=aV (p3.r τ d) (acU 0 _) (ac8 _) now shift (some ⟨BM,0,none⟩) (m-1) cM (some ⟨BT,0,none⟩) (m-1) cT;replace z8:Hid _:=z8;simp only[aD,Option.isSome_none];go_wp2;exact hR.out _ _ λtodo=>aj.lv E f7 Tz.func287 (λτ d=>cg rfl rfl rfl<|k8.r τ d) (aH.out _ _ _ (back.out bV z8.out o8)<|gN.out _ _ _ _ _ _ (by simp[jd,hr.out]) vM vT (rM.same<|o8 BM mM) (ij rT<|o8 BT mT) kT.out)
 |some T=>
  have lP:=lP.out;subst lP;obtain⟨BS,cS,hBS,rfl,oS⟩:=t5.out;have mS:BS≠W2.heap.size:=ab;have vS:V.heap.size<=BS:=ab;have H1:=λτ d=>zK BS (m-1) cS T BT cT (cQ t j) (re V7 τ d) ab (.inr ⟨BS,rfl,oS.lt,oS.2⟩)<|.inr ⟨BT,rfl,rT.lt,rT.2⟩
  cases hl:oq T (cQ t j) (m-1)with
  |true=>
   rw[hl]at H1;replace hl:Hid _:=hl;refine aj.ck E fZ [_] _ λK R τ d hK hR=>?_
   have H1:=H1 τ d;have yy:=q7.rc τ d;simp only[aD,Option.isSome_some];go_wp2_with(go_at_call 290;refine H1.mono ?_;clear H1;rintro e w9 ⟨rfl,b9⟩;clear yy;have yy:=((q7.r τ d).same<|b9.block _ q7.lt).cells;have j3:=(p3.r τ d).same<|b9.block _ p3.lt;have xx:=j3.cells;obtain⟨W8,e8,k8,-,z8,o8⟩:=aV j3 (acU 0 _) (ac8 _) now shift (some ⟨BM,0,none⟩) (m-1) cM (some ⟨BT,0,none⟩) (m-1) cT;replace z8:Hid _:=z8)
   exact hR.out _ _ λtodo=>aj.lv E f7 Tz.func287 (λτ d=>cg rfl rfl rfl<|k8.r τ d) (aH.out _ _ _ (back.out (bV.trans (Bl.nP b9) bV.size) z8.out o8)<|gN.out _ _ _ _ _ _ (by simp[jd,hr.out,hl.out]) vM vT ((rM.same<|b9.block BM rM.lt).same<|o8 BM mM) (ij (ij rT<|b9.block BT rT.lt)<|o8 BT mT) kT.out)
  |false=>
   rw[hl]at H1;replace hl:Hid _:=hl;refine aj.ck E fZ [_,_] _ λK R τ d hK hR=>?_
   have H1:=H1 τ d;have yy:=q7.rc τ d;simp only[aD,Option.isSome_some];go_wp2_with(go_at_call 290;refine H1.mono ?_;clear H1;rintro e w9 ⟨rfl,b9⟩;clear yy;have yy:=((q7.r τ d).same<|b9.block _ q7.lt).cells;obtain⟨W9,e9,k9,c9,-⟩:=cI w9 now shift (some ⟨BM,0,none⟩) (m-1) cM (some ⟨BS,0,none⟩) (m-1) cS)
   refine hK.out _ _ ?_;have B9:Bl V7 V7 W9:=Bl.nP<|b9.trans<|c9.mono b9.size;have z9:=B9.size;have q7:=q7.same<|B9.block _ q7.lt;have p3:=p3.same<|B9.block _ p3.lt;have rM:=rM.same<|B9.block BM rM.lt;have rT:=ij rT<|B9.block BT rT.lt;have rS:=fi oS<|B9.block BS oS.lt;have z70:=bV.size;have bV:=bV.trans B9 z70;have PR:Bq W9 now shift BM (m-1) cM (cQ f j) BS (m-1) cS T:=⟨ab,ab,⟨(λh=>nomatch h),λad had=>⟨BM,by cases had;rfl,rM.lt,rM.1⟩⟩,⟨(λh=>nomatch h),λad had=>⟨BS,by cases had;rfl,rS.lt,rS.2⟩⟩,(λh=>by rcases h with h|h<;>cases h),λi hi=>by unfold cQ;split<;>exact hB.fit _ ab⟩;clear hK hR K R yy b9 e9 c9;refine aj.seq E fZ<|aj.seq E fZ<|aj.rg E fZ<|aj.oc E fZ 0 1 λK τ d hK=>?_;have yy:=k9.rc τ d;simp only[aK];go_wp2;refine hK.out _ _<|aj.un ?_;clear hK K yy;refine aj.dO E (i:=1) rfl rfl kB (λw=>y7)<|yX E kB sI xw uO Dz fZ PR ?_;intro V10 Gq;rw[bT rfl];have Me:=Gq.size;have q7:=q7.same<|Gq.block _ q7.lt;have k9:=k9.same<|Gq.block _ k9.lt;have p3:=p3.same<|Gq.block _ p3.lt;have rM:=rM.same<|Gq.block BM rM.lt;have rT:=ij rT<|Gq.block BT rT.lt;have rS:=fi rS<|Gq.block BS rS.lt;have z90:=bV.size;have bV:=bV.trans Gq z90;obtain⟨sb,sK⟩:∃sb,dG now shift (cQ f j) (m-1) T (m-1)=sb:=⟨_,rfl⟩;rw[sK];replace sK:Hid _:=sK;refine aj.oc E fZ 2 1 λK τ d hK=>?_
   simp only[aK,Act.put];go_wp2;refine hK.out _ _<|aj.un<|aj.regionEnd E fZ<|aj.cond E fZ (t:=!sb) rfl ?_;clear hK K;cases sb with
   |false=>
    refine aj.ck E fZ [_] _ λK R τ d hK hR=>?_
    have yy:=q7.rc τ d;have xx:=p3.rc τ d;obtain⟨W8,e8,k8,-,z8,o8⟩:=aV (p3.r τ d) (acU 0 _) (ac8 _) now shift (some ⟨BM,0,none⟩) (m-1) cM (some ⟨BT,0,none⟩) (m-1) cT;replace z8:Hid _:=z8;simp only[aD];go_wp2;exact hK.out _ _ (aj.ret E fZ<|aj.lv E f7 Tz.func287 (λτ d=>cg rfl rfl rfl<|k8.r τ d)<|aH.out _ _ _ (back.out bV z8.out o8)<|gN.out _ _ _ _ _ _ (by simp[jd,hr.out,hl.out,sK.out]) vM vT (rM.same<|o8 BM mM) (ij rT<|o8 BT mT) kT.out)
   |true=>
    refine aj.skip E fZ<|aj.ck E fZ [_] _ λK R τ d hK hR=>?_;have yy:=k9.rc τ d;have xx:=p3.rc τ d;obtain⟨W8,e8,k8,-,z8,o8⟩:=aV (p3.r τ d) (acU 0 _) (ac8 _) now shift (some ⟨BM,0,none⟩) (m-1) cM (some ⟨BS,0,none⟩) (m-1) cS;replace z8:Hid _:=z8;simp only[aD];go_wp2;exact hK.out _ _<|aj.ret E fZ<|aj.lv E f7 Tz.func287 (λτ d=>cg rfl rfl rfl<|k8.r τ d)<|aH.out _ _ _ (back.out bV z8.out o8)<|gN.out _ _ _ _ _ _ (by simp[jd,hr.out,hl.out,sK.out]) vM vS (rM.same<|o8 BM mM) (Oh<|fi rS<|o8 BS mS)<|Za.out _ _ _ rfl
end
def Uz (w:World):∃W,w.alloc (.cells #[] 3)=W/\W.heap[w.heap.size]?=some (.cells #[] 3 (0,0))/\Below w w W/\W.heap.size=w.heap.size+1:=
 ⟨_,rfl,heap_alloc_new w _,(acU _ w).alloc (ac3 _) _,aG⟩
def aA.upto (h:aA w b 0 n t)(hk:k<=n):aA w b 0 k t:=λi hi=>h i ab
def KW (h:aA w b 0 n t)(hk:k<n)(hd:n<=d):∀ad,(if d=k+1 then some (b:Addr)else some ⟨b,k+1,none⟩)=some ad->∀j u,(ee (λj=>t<|k+1+j)<|n-(k+1))[j]?=some u->w.cell? (ad.add j)=some u:=λad had=>by
 split at had
 .have:n-(k+1)=0:=by omega
  rw[this];intro j u h;simp[ee]at h
 .cases had;intro j u hu;have hj:j<n-(k+1):=by rcases adb j (n-(k+1))with h|h;exact h;rw[ade (by rw[eN];exact h)]at hu;cases hu
  rw[dY hj]at hu;have:=h (k+1+j) ab;rw[Nat.zero_add]at this;rw[pz,this];exact hu
structure C3 (N:Nat)(sl:Value)(W:World):Prop where
 c3:W.cell? ⟨N,3,none⟩=some sl
structure Dd (w:World)(now shift:Int)(ao:Option Addr)(n c:Nat)(bo:Option Addr)(d R:Nat)(W:World):Prop where
 below:Below w w W
 bk:aT W w.heap.size now shift (.slice ao n c) (.slice bo n d)
 rs:aT W R 0 0 () ()
 hR:w.heap.size<R
section
variable {c:Nat}{R:Nat}{W W':World}
def Dd.grow (h:Dd w now shift ao n c bo d R W)(b:Below W W W'):Dd w now shift ao n c bo d R W':=
 ⟨h.below.trans<|b.mono h.below.size,h.bk.same<|b.block _ h.bk.lt,h.rs.same<|b.block _ h.rs.lt,h.hR⟩
def Dd.set (h:Dd w now shift ao n c bo d R W){Y:Nat}(hY:R<Y)(hb:Below w w W')(e:∀k,k≠Y->W'.heap[k]?=W.heap[k]?):Dd w now shift ao n c bo d R W':=by
 have h1:=h.hR;exact⟨hb,h.bk.same<|e _ ab,h.rs.same<|e _ ab,h.hR⟩
def Dd.c3 (h:Dd w now shift ao n c bo d R W):C3 w.heap.size (.slice bo n d) W:=⟨h.bk.cells.2.2.2.1⟩
end
inductive kO (f:Nat->Mv)(n:Nat)(t:Nat->Int)(m:Nat)(now shift:Int)(name:ByteArray):Int->Int->Nat->(Nat->Mv)->Nat->(Nat->Int)->Int->Prop
 |bad:aM now shift f n t m=false->kO f n t m now shift name 0 0 0 f 0 t 1
 |no {k cd:Int}:aM now shift f n t m=true->eI f n name k->pF f n t now shift k=.no cd->kO f n t m now shift name now shift n f m t cd
 |yes {k:Int} {p:Nat} {T:Nat->Int}:aM now shift f n t m=true->eI f n name k->pF f n t now shift k=.yes p T->kO f n t m now shift name now shift (n-1) (cQ f p) (n-1) T 0
def UQ (now shift:Int)(ao:Option Addr)(n c:Nat)(f:Nat->Mv)(bo:Option Addr)(k d:Nat)(t:Nat->Int)(name:ByteArray)(w:World)(hB:Bq w now shift ao n c f bo k d t)(hkd:k<=d):
  Calls Tz.prog 11 #[.agg #[now,shift,.slice ao n c,.slice bo k d],name] w λe w'=>(∃a0 a1 s2 l c2 F s3 o c3 T cd,e=.returned (.tuple #[.agg #[.int .i64 a0,.int .i64 a1,.slice s2 l c2,.slice s3 o c3],.int .i64 cd])/\kO f n t k now shift name a0 a1 l F o T cd/\J7 w' w.heap.size s2 l c2 F s3 o c3 T)/\Below w w w':=by
 obtain⟨W0,sX⟩:∃W,W=(w.alloc<|.cells #[.int .i64 now,.int .i64 shift,.slice ao n c,.slice bo k d] 29).alloc (.cells #[(0:Int),(0:Int),.slice none 0 0,.slice none 0 0] 29):=⟨_,rfl⟩;have b0:Below w w W0:=by rw[sX];exact((acU _ w).alloc (ac3 _) _).alloc aG _
 have FY:aT W0 w.heap.size now shift (.slice ao n c) (.slice bo k d):=by rw[sX];exact(acV _ _ _ aG).trans<|heap_alloc_new _ _
 have wz:aT W0 (w.heap.size+1) 0 0 () ():=by rw[sX];exact dX _ _ _
 have gE:W0.heap.size=w.heap.size+2:=by rw[sX];simp
 have HB:=(hB.bl<|Bl.of b0).sk;have h6:=hB.n6;cases hb:aM now shift f n t k with
 |false=>
  rw[hb,sX]at HB;go_enter Tz.func11,Tryz.ntmps11
  go_wp2_with(go_at_call 39;refine HB.mono ?_;clear HB;rintro e w1 ⟨rfl,b1⟩;rw[<-sX]at b1;have r1:=wz.same<|b1.block _ wz.lt;have yy:=r1.cells)
  let⟨W5,e5,k5,jQ,vV,qT⟩:=aV r1 (b0.trans<|b1.mono b0.size) ab 0 0 none 0 0 none 0 0;rw[e5];let⟨q0,q1,q2,q3,q4⟩:=k5.cells;refine bodyPost_ret (v:=.tuple #[.agg #[(0:Int),(0:Int),(),()],.int .i64 1]) ?_ rfl ⟨⟨0,0,none,0,0,f,none,0,0,t,1,rfl,.bad hb,.inl ⟨rfl,rfl,rfl,rfl,rfl,rfl⟩⟩,jQ⟩;simp[results,Tryz.f11,go_sem,q0,q1,q2,q3]
 |true=>
  let⟨hm,hk,gG⟩:=bG hb;have hk:=hk.symm;subst hk;have Ji:0<=now/\now<=10000:=by unfold aM at hb;simp only[Bool.and_eq_true]at hb;exact d6.1 hb.1.1.1
  have lh:0<=shift/\shift<=6:=by unfold aM at hb;simp only[Bool.and_eq_true]at hb;exact d6.1 hb.1.1.2
  have nI:Hid _:=hb;rw[hb,sX]at HB;clear hb;have Mt:=λW (hW:Below w w W)=>jp now shift ao n c f bo n d t W ab ab (hB.bl<|Bl.of hW).sm (hB.bl<|Bl.of hW).si
  have HA:=λW (hW:Below w w W)=>Ey now shift ao n c f bo n d name W h6 (hB.bl<|Bl.of hW).sm
  rcases MG f n name with⟨J,hJ,xA,Xr⟩|xA;focus
   have AT:∀k,jj f n name k->k=J:=λk hk=>hk.yes hJ xA Xr
   have hN:0<n:=ab;let⟨b',eb',bu,aP⟩:=hB.si.pos hN;have hd:n<=d:=hkd;have hpi:Hid (eI f n name (J:Int)):=.inr ⟨J,rfl,hJ,xA,Xr⟩;subst eb';have HW:=λB c W (h1:n<=c) (h2:B<W.heap.size) (h3:aJ W B 0 n f)=>zB B n c J f W h6 hJ h1 h2 h3
   have aco:¬(J:Int)<0:=ab
  rotate_left;focus
   have AT:∀k,jj f n name k->k=-1:=λk hk=>hk.no xA
   obtain⟨kc,hc⟩:∃kc:Int,kc=3:=⟨_,rfl⟩;have had:Hid (kO f n t n now shift name now shift n f n t kc):=.no nI.out (.inl ⟨rfl,xA⟩)<|by simp[pF,hc]
  all_goals
   go_enter Tz.func11,Tryz.ntmps11
   go_wp2_with(first
    |(go_at_call 39;refine HB.mono ?_;clear HB;rintro e w1 ⟨rfl,b1⟩;rw[<-sX]at b1;have B1:=b0.trans<|b1.mono b0.size;have bk:=FY.same<|b1.block _ FY.lt;have rs:=wz.same<|b1.block _ wz.lt;have yy:=bk.cells)
    |(go_at_call 40;refine(Mt _ B1).mono ?_;clear Mt;rintro e w2 ⟨⟨Bx,cx,Bi,ci,rfl,oM,oI⟩,b2⟩;have z2:=b2.size;have z1:=b1.size;have bk:=bk.same<|b2.block _ ab;have rs:=rs.same<|b2.block _ ab;let⟨W3,e3,k3,b3,z3⟩:=cI w2 now shift (some ⟨Bx,0,none⟩) n cx (some ⟨Bi,0,none⟩) n ci;have hA:Ad w now shift _ n c _ d (w.heap.size+1) w2.heap.size Bx cx Bi ci f t W3:=⟨(B1.trans<|b2.mono B1.size).trans<|b3.mono ab,bk.same<|b3.block _ ab,rs.same<|b3.block _ ab,ab,k3,ab,cJ (aB oM λB hB=>b3.block B (oM.lt B hB).2) ab,cJ (aB oI λB hB=>b3.block B (oI.lt B hB).2) ab⟩;have yy:=hA.bk.cells;clear oM oI bk rs)
    |(go_at_call 42;refine(HA _ hA.below).mono ?_;clear HA;rintro e w5 ⟨⟨kk,rfl,F4⟩,b5⟩;have z5:=b5.size;have hA:=hA.grow b5;have xxx:=hA.x.cells;let⟨r0,r1,r2,r3,r4⟩:=hA.rs.cells;obtain rfl:=AT kk F4)
    |(go_at_call 45;refine(HW Bx cx w5 (fB hA.om).2.2 (fB hA.om).2.1<|dW hA.om).mono ?_;clear HW;rintro e w6 ⟨⟨B6,c6,rfl,o6⟩,b6⟩;have hRX:=hA.hX;have hRw:=hA.hR;have lX:=hA.x.lt;have hD:Dd w now shift ao n c (some ⟨b',0,none⟩) d (w.heap.size+1) w6:=⟨(hA.grow b6).below,(hA.grow b6).bk,(hA.grow b6).rs,hA.hR⟩;have x6:=(hA.grow b6).x;have pp:=x6.cells;let⟨W7,e7,x7,hb7,z7,h7⟩:=Ib x6 hD.below ab<|.slice (some ⟨B6,0,none⟩) (n-1) c6;have hD:=hD.set hRX hb7 h7;have o7:=aB o6 λB hB=>h7 B<|gw o6 x6 bd hB))
   all_goals try omega
   all_goals first
    |(let⟨W5,e5,k5,jQ,vV,qT⟩:=aV hA.rs hA.below ab now shift (some ⟨Bx,0,none⟩) n cx (some ⟨Bi,0,none⟩) n ci;rw[e5];let⟨q0,q1,q2,q3,q4⟩:=k5.cells;exact bodyPost_ret (v:=.tuple #[.agg #[.int .i64 now,.int .i64 shift,.slice (some ⟨Bx,0,none⟩) n cx,.slice (some ⟨Bi,0,none⟩) n ci],.int .i64 kc]) (by simp[results,Tryz.f11,go_sem,q0,q1,q2,q3,hc]) rfl ⟨⟨now,shift,_,n,cx,f,_,n,ci,t,kc,rfl,had.out,hA.out qT⟩,jQ⟩)
    |skip
  have hJ0:(0:Int)<=J:=ab;have hJd:(J:Int)<=d:=ab;have hJ1:(0:Int)<=(J:Int)+1:=ab;have hJn:(J:Int)+1<=n:=ab;have ab7:(J:Int)+1<=d:=ab;have hwJ:IntKind.i64.wrap ((J:Int)+1)=(J:Int)+1:=ia;let⟨i0,I4,KP,F8,G8⟩:=xS;have hD:=hD.grow (acU _ _).drew;have x8:=x7.same (w':=W7.drew) rfl;have o8:=aB o7 (w':=W7.drew) λ_ _=>rfl;refine wp_region_held_drew (S:=C3 w.heap.size<|.slice b' n d) bj hD.c3 λhHeld=>?_;revert hHeld hD x8 o8;generalize W7.drew=W8;intro hD x8 o8 hHeld;refine aq 1 (.pointer<|some ⟨w.heap.size,3,none⟩) 29 rfl Su hHeld ?_;refine aq 2 (.slice b' n d) 30 rfl Su hHeld ?_;refine aq 3 (.int .i64 (J:Int)) 31 rfl Su hHeld ?_;refine aq 4 (.slice b' J d) 32 rfl Su hHeld ?_;refine aq 6 (.pointer<|some ⟨w.heap.size,3,none⟩) 34 rfl Su hHeld ?_;refine aq 7 (.slice b' n d) 35 rfl Su hHeld ?_;refine aq 8 (.int .i64 (J:Int)) 36 rfl Su hHeld ?_;refine aq 9 (.int .i64<|(J:Int)+1) 37 rfl Su hHeld ?_;refine aq 10 (.slice (if d=J+1 then some ⟨b',0,none⟩else some ⟨b',J+1,none⟩) (n-(J+1))<|d-(J+1)) 38 rfl Su hHeld ?_;simp only[Act.put,List.setIfInBounds_toArray,List.set_cons_zero,List.set_cons_succ];refine iT 0 rfl λK hK=>?_;go_simp
  let⟨WE,eE,kE,bE,zE⟩:=Uz W8;rw[eE];have oE:WE.ownsRow W8.heap.size 3 1 (.slice W8.heap.size 0 0) 0 []:=⟨rfl,.inr ⟨W8.heap.size,0,#[],rfl,ac3 _,kE,ac3 _,ac8 _,rfl,rfl⟩⟩;have hDE:=hD.grow bE;refine hK.out _ _ hDE.c3 λhHeld=>?_;clear hK K;refine iT 5 rfl λK hK=>?_;refine bh rfl (.tmp 28) (.tmp 32) 27 rfl 3 i0 _ 1 8 jm I4 KP F8 G8 rfl bd W8.heap.size (.slice W8.heap.size 0 0) 0 [] bD oE nV b' J d (ee t J) bD zk nV (λad had=>by cases had;exact vd<|aA.upto (aP.below hDE.below bu) ab) (jo t J) ie ab bE.size ?_;intro v9 w9 XH hs9 Zm;simp only[Nat.zero_add,List.nil_append]at XH;have B9:Below W8 W8 w9:=bE.grown Zm bE.size λq hq=>Gu;have hD9:=hD.grow B9;refine hK.out _ _ hD9.c3 λhHeld=>?_;clear hK K;refine iT 11 rfl λK hK=>?_;refine bh rfl (.tmp 33) (.tmp 38) 27 rfl 3 i0 _ 1 8 jm I4 KP F8 G8 rfl bd W8.heap.size v9 J (ee t J) bD XH hs9 (if d=J+1 then some (b':Addr)else some ⟨b',J+1,none⟩) (n-(J+1)) (d-(J+1)) (ee (λj=>t<|J+1+j)<|n-(J+1)) bD zk (by split<;>(intro h;cases h)) (KW (aP.below hD9.below bu) hJ hd) (jo _ _) ie ab B9.size ?_;intro v10 w10 NO abj aa1;rw[AF t J n hJ,show J+(n-(J+1))=n-1 by omega]at NO;have B10:Below W8 W8 w10:=B9.grown aa1 B9.size λq hq=>(XH.lt q hq).1;obtain⟨B8,c8,rfl⟩:=lA NO abj;have Ra:=hD.grow B10;have x10:=x8.same<|B10.block _ x8.lt;have Mc:=aB o8 λB hB=>B10.block B (o8.lt B hB).2;have pp:=x10.cells;refine hK.out _ _ Ra.c3 λhHeld=>?_;clear hK K;refine iT 12 rfl λK hK=>?_;go_simp
  refine hK.out _ _ Ra.c3 λhHeld=>?_;clear hK K;refine iT 13 rfl λK hK=>?_;go_simp
  let⟨Yj,Xn,x11,Vl,z11,Cc⟩:=wA x10 Ra.below ab<|.slice (some ⟨B8,0,none⟩) (n-1) c8;rw[Xn];have hD:=Ra.set hRX Vl Cc;have oM:=aB Mc λB hB=>Cc B<|gw Mc x10 bd hB;have oI:=aB NO λB hB=>Cc B<|gw NO x10 bd hB;refine hK.out _ _ hD.c3 λhHeld=>?_;clear hK K;refine wpAnyH_done bj ?_ _;clear hHeld;have yy:=hD.bk.cells;have xxx:=x11.cells;have abr:=x11.lt;have hX5:w5.heap.size<=B6:=(oM.lt B6 rfl).1;have hX8:W8.heap.size<=B8:=(oI.lt B8 rfl).1;have hF:=qF hm hJ;have ZI:∀i,i<n-1->(cQ f J i).ok=true:=λi hi=>aW hF i hi
  have J4:=rU B6 (n-1) c6 (cQ f J) now shift Yj ab ZI Ji.1 ab lh.1 lh.2 (λhr=>vo hF ab hr) (fB oM).2.1<|dW oM;have Ya:=λW (h2:B6<W.heap.size) (h3:aJ W B6 0 (n-1) (cQ f J)) (h4:B8<W.heap.size) (h5:aA W B8 0 (n-1) (cQ t J))=>jp now shift B6 (n-1) c6 (cQ f J) B8 (n-1) c8 (cQ t J) W ab ab ⟨(λh=>nomatch h),λad had=>by cases had;exact⟨B6,rfl,h2,h3⟩⟩ ⟨(λh=>nomatch h),λad had=>by cases had;exact⟨B8,rfl,h4,h5⟩⟩
  have AD:∀W,Below Yj Yj W->(B6<W.heap.size/\aJ W B6 0 (n-1) (cQ f J))/\(B8<W.heap.size/\aA W B8 0 (n-1) (cQ t J))/\Dd w now shift ao n c b' d (w.heap.size+1) W/\aT W w2.heap.size now shift (.slice B6 (n-1) c6) (.slice B8 (n-1) c8):=λW hW=>
   ⟨⟨ac4 (fB oM).2.1 hW.size,(dW oM).below hW (fB oM).2.1⟩,⟨ac4 (fB oI).2.1 hW.size,(EZ oI).below hW (fB oI).2.1⟩,hD.grow hW,x11.same<|hW.block _ abr⟩
  clear o7 o8 Mc NO x7 x8 x10;have Co:∀T,jd f n t now shift J=T->Hid (kO f n t n now shift name now shift (n-1) (cQ f J) (n-1) T 0):=λT h=>.yes nI.out hpi.out (by show pF f n t now shift (J:Int)=.yes J T;simp[pF,h])
  rcases oh:fI (cQ f J) (n-1) now shift with _|T;focus
   rw[oh]at J4;have HN:=J4;clear J4;have had:=Co (cQ t J)<|by simp[jd,oh]
  rotate_left;focus
   rw[oh]at J4;have HS:=J4;clear J4;have HNL:=λB c W (h2:B<W.heap.size) (h3:aA W B 0 (n-1) T) (h4:B8<W.heap.size) (h5:aA W B8 0 (n-1) (cQ t J))=>zA (some ⟨B,0,none⟩) (n-1) c T B8 c8 (cQ t J) W ab (.inr ⟨B,rfl,h2,h3⟩)<|.inr ⟨B8,rfl,h4,h5⟩
   have Uo:=λB c b' c' W (h2:B<W.heap.size) (h3:aJ W B 0 (n-1) (cQ f J)) (h4:b'<W.heap.size) (h5:aA W b' 0 (n-1) T)=>tH now shift B (n-1) c (cQ f J) b' (n-1) c' T W ab ie h2 h3 (λi hi=>CN<|ZI i hi) h4 h5
   obtain⟨sb,sK⟩:∃sb,dG now shift (cQ f J) (n-1) T (n-1)=sb:=⟨_,rfl⟩;rw[sK]at Uo;cases hl:oq T (cQ t J) (n-1);focus
    rw[hl]at HNL;cases sb;focus
     have had:=Co (cQ t J)<|by simp[jd,oh,hl,sK]
    rotate_left;focus
     have had:=Co T<|by simp[jd,oh,hl,sK]
   rotate_right;focus
    rw[hl]at HNL;have had:=Co (cQ t J)<|by simp[jd,oh,hl]
   all_goals clear sK hl
  all_goals clear Co
  all_goals
   go_wp2_with(first
    |(go_at_call 44;refine HN.mono ?_;clear HN;rintro e w12 ⟨⟨a12,c12,rfl⟩,QC⟩;have bb:=QC;let⟨⟨f1,f2⟩,⟨f3,f4⟩,hD,xx⟩:=AD _ bb;have xxx:=xx.cells)
    |(go_at_call 44;refine HS.mono ?_;clear HS;rintro e w12 ⟨⟨BT,cT,Kv,rfl,oT,hcT⟩,QC⟩;have bb:=QC;have HT:Hid (w12.heap.size=w12.heap.size):=rfl;let⟨⟨f1,f2⟩,⟨f3,f4⟩,hD,xx⟩:=AD _ bb;have xxx:=xx.cells)
    |(go_at_call 46;refine(HNL BT cT _ oT.lt oT.2 f3 f4).mono ?_;clear HNL;rintro e w13 ⟨rfl,Yo⟩;have oT:=ik oT<|Yo.block _ oT.lt;have bb:=bb.trans<|Yo.mono bb.size;let⟨⟨f1,f2⟩,⟨f3,f4⟩,hD,xx⟩:=AD _ bb;have xxx:=xx.cells)
    |(go_at_call 26;refine(Uo By cy BT cT W16 (fB RN).2.1 (dW RN) RM.lt RM.2).mono ?_;clear Uo;rintro e w17 ⟨rfl,Yp⟩;have oTs:=ik RM<|Yp.block _ RM.lt;have oYs:=aB RN λB hB=>Yp.block B (RN.lt B hB).2;have yb:=y16.same<|Yp.block _ y16.lt;have bb:=Yr.trans<|Yp.mono Yr.size;let⟨⟨f1,f2⟩,⟨f3,f4⟩,hD,xx⟩:=AD _ bb;have oT:=oTs;have xxx:=xx.cells;have pp:=yb.cells;let⟨r0,r1,r2,r3,r4⟩:=hD.rs.cells)
    |(go_at_call 40;refine(Ya _ f1 f2 f3 f4).mono ?_;rintro e w14 ⟨⟨By,cy,Bz,cz,rfl,oY,oZ⟩,Xm⟩;have oT:=ik oT<|Xm.block _ oT.lt;have zb:=bb.size;have z14:=Xm.size;have bb:=bb.trans<|Xm.mono bb.size;let⟨_,_,hD,xx⟩:=AD _ bb;let⟨r0,r1,r2,r3,r4⟩:=hD.rs.cells;let⟨W15,e15,k15,b15,z15⟩:=cI w14 now shift (some ⟨By,0,none⟩) (n-1) cy (some ⟨Bz,0,none⟩) (n-1) cz;have pp:=k15.cells;let⟨W16,e16,y16,Yr,z16,h16⟩:=wA k15 (bb.trans<|b15.mono bb.size) bb.size<|.slice (some ⟨BT,0,none⟩) (n-1) cT;have RM:=ik oT<|(h16 BT (by have:=oT.lt;omega)).trans<|b15.block _ oT.lt;have E_:=aB oY λB hB=>b15.block B (oY.lt B hB).2;have RN:=aB E_ λB hB=>h16 B<|gw E_ k15 bd hB;have pp:=y16.cells)
    |(go_at_call 40;refine(Ya _ f1 f2 f3 f4).mono ?_;rintro e w14 ⟨⟨By,cy,Bz,cz,rfl,oY,oZ⟩,Xm⟩;have zb:=bb.size;have bb:=bb.trans<|Xm.mono bb.size;let⟨_,_,hD,xx⟩:=AD _ bb;let⟨r0,r1,r2,r3,r4⟩:=hD.rs.cells))
   all_goals try omega
   all_goals first
    |(let⟨W5,e5,k5,jQ,vV,qT⟩:=aV hD.rs hD.below ab now shift (some ⟨By,0,none⟩) (n-1) cy (some ⟨Bz,0,none⟩) (n-1) cz;rw[e5];let⟨q0,q1,q2,q3,q4⟩:=k5.cells;have hl:=hD.rs.lt;exact bodyPost_ret (v:=.tuple #[.agg #[.int .i64 now,.int .i64 shift,.slice (some ⟨By,0,none⟩) (n-1) cy,.slice (some ⟨Bz,0,none⟩) (n-1) cz],.int .i64 0]) (by simp[results,Tryz.f11,go_sem,q0,q1,q2,q3]) rfl ⟨⟨now,shift,_,n-1,cy,_,_,n-1,cz,_,0,rfl,had.out,.inr ⟨By,Bz,rfl,rfl,cJ (aB oY λB hB=>qT B (by have:=(oY.lt B hB).1;omega)) ab,(fB oZ).2.2,qH.of<|cJ (aB oZ λB hB=>qT B (by have:=(oZ.lt B hB).1;omega)) ab⟩⟩,jQ⟩)
    |(let⟨W5,e5,k5,jQ,vV,qT⟩:=aV hD.rs hD.below ab now shift (some ⟨By,0,none⟩) (n-1) cy (some ⟨BT,0,none⟩) (n-1) cT;rw[e5];let⟨q0,q1,q2,q3,q4⟩:=k5.cells;have hl:=hD.rs.lt;exact bodyPost_ret (v:=.tuple #[.agg #[.int .i64 now,.int .i64 shift,.slice (some ⟨By,0,none⟩) (n-1) cy,.slice (some ⟨BT,0,none⟩) (n-1) cT],.int .i64 0]) (by simp[results,Tryz.f11,go_sem,q0,q1,q2,q3]) rfl ⟨⟨now,shift,_,n-1,cy,_,_,n-1,cT,_,0,rfl,had.out,.inr ⟨By,BT,rfl,rfl,cJ (aB oYs λB hB=>qT B (by have:=(oYs.lt B hB).1;omega)) ab,hcT,qH.Wr (ik oTs<|qT BT ab) ab⟩⟩,jQ⟩)
    |trace_state
