import Derived.Test.YtlmcblcijndipaaGreatDoora43
import Derived.Test.YtlmcblcijndipaaGreatDoora39
set_option linter.defProp false
set_option linter.unusedVariables false
set_option linter.unusedSectionVars false
set_option maxHeartbeats 8000000
set_option maxRecDepth 100000
namespace Go.Proofs.YtlmcblcijndipaaGreatDoor
open Conc RowKit
variable {now shift:Int}{b d k n:Nat}{t:Nat->Int}{ao bo:Option Addr}{w:World}
inductive qG (f:Nat->Mv)(n:Nat)(t:Nat->Int)(m:Nat)(now shift:Int)(q:Mv):Int->Int->Nat->(Nat->Mv)->Nat->(Nat->Int)->Int->Prop
 |bad:aX now shift f n t m=false->qG f n t m now shift q 0 0 0 f 0 t 1
 |no {cd:Int}:aX now shift f n t m=true->vF f n now shift q=.no cd->qG f n t m now shift q now shift n f m t cd
 |yes {p:Nat} {T:Nat->Int}:aX now shift f n t m=true->vF f n now shift q=.yes p T->qG f n t m now shift q now shift (n+1) (dR f p q) (n+1) T 0
def RV (now shift:Int)(ao:Option Addr)(n c:Nat)(f:Nat->Mv)(bo:Option Addr)(k d:Nat)(t:Nat->Int)(m:Mv)(w:World)(hB:Bq w now shift ao n c f bo k d t)(hf:m.Fits):
  Calls Tz.prog 9 #[.agg #[now,shift,.slice ao n c,.slice bo k d],.agg #[m.name,m.aj,m.ap,m.aW,m.late,m.prom]] w λe w'=>(∃a0 a1 s2 l c2 F s3 o c3 T cd,e=.returned (.tuple #[.agg #[.int .i64 a0,.int .i64 a1,.slice s2 l c2,.slice s3 o c3],.int .i64 cd])/\qG f n t k now shift m a0 a1 l F o T cd/\Bf w' w.heap.size s2 l c2 F s3 o c3 T)/\Below w w w':=by
 obtain⟨W0,jh⟩:∃W,W=((w.alloc<|.cells #[.int .i64 now,.int .i64 shift,.slice ao n c,.slice bo k d] 29).alloc<|.cells #[.string m.name,.bool m.aj,.int .i64 m.ap,.int .i64 m.aW,.int .i64 m.late,.int .i64 m.prom] 31).alloc (.cells #[(0:Int),(0:Int),.slice none 0 0,.slice none 0 0] 29):=⟨_,rfl⟩;have b0:Below w w W0:=by rw[jh];exact(((acW _ w).alloc (ac5 _) _).alloc aF _).alloc cU _
 have ww:aH W0 w.heap.size now shift (.slice ao n c) (.slice bo k d):=by rw[jh];exact(acX _ _ _ cU).trans<|(acX _ _ _ aF).trans<|heap_alloc_new _ _
 have mv0:bf W0 (w.heap.size+1) m:=by rw[jh];exact(acX _ _ _ aF).trans<|dq _ _ _
 have qQ:aH W0 (w.heap.size+1+1) 0 0 () ():=by
  rw[jh];have:=dq (w.alloc<|.cells #[now,shift,.slice ao n c,.slice bo k d] 29) (.cells #[m.name,m.aj,m.ap,m.aW,m.late,m.prom] 31)<|.cells #[(0:Int),(0:Int),(),()] 29;rw[ac1]at this;exact this
 have gj:W0.heap.size=w.heap.size+3:=by rw[jh];simp
 have HB:=(hB.bl<|Bl.of b0).sk;have h6:=hB.n6;cases hb:aX now shift f n t k with
 |false=>
  rw[hb,jh]at HB;go_enter Tz.func9,Tryz.ntmps9
  go_wp2_with(go_at_call 39;refine HB.mono ?_;clear HB;rintro e w1 ⟨rfl,b1⟩;rw[<-jh]at b1;have r1:=qQ.same<|b1.block _ qQ.lt;have yy:=r1.cells)
  let⟨W5,e5,k5,ix,rF,mo⟩:=bJ r1 (b0.trans<|b1.mono b0.size) aa 0 0 none 0 0 none 0 0;rw[e5];let⟨q0,q1,q2,q3,q4⟩:=k5.cells;refine bodyPost_ret (v:=.tuple #[.agg #[(0:Int),(0:Int),(),()],.int .i64 1]) ?_ rfl ⟨⟨0,0,none,0,0,f,none,0,0,t,1,rfl,.bad hb,.inl ⟨rfl,rfl,rfl,rfl,rfl,rfl⟩⟩,ix⟩;simp[results,Tryz.f9,go_sem,q0,q1,q2,q3]
 |true=>
  let⟨hm,hk,gE⟩:=cK hb;have hk:=hk.symm;subst hk;have IK:0<=now/\now<=10000:=by unfold aX at hb;simp only[Bool.and_eq_true]at hb;exact ff.1 hb.1.1.1
  have ku:0<=shift/\shift<=6:=by unfold aX at hb;simp only[Bool.and_eq_true]at hb;exact ff.1 hb.1.1.2
  have mG:Hid _:=hb;let⟨K,Sa,Wf,Wh⟩:=pX (λj=>bU (f j).name m.name) n;rw[hb,jh]at HB;have hPP:=vQ Sa Wf Wh;have If:=λW (hW:Below w w W)=>fK now shift ao n c f bo n d t W aa aa (hB.bl<|Bl.of hW).sm (hB.bl<|Bl.of hW).si
  have HC2:=If;have HM:=λW=>yE hf W
  have HA:=λW (hW:Below w w W)=>xG now shift ao n c f bo n d m.name W h6 (hB.bl<|Bl.of hW).sm
  have HP:=λB c W (h1:n<=c) (h2:B<W.heap.size) (h3:aI W B 0 n f)=>Ko B n c f m W h6 h1 h2 h3
  have hgo:∀(P:Prop),(∀kc:Int,kc=2->m.ok=false->Hid (vF f n now shift m=.no kc)->P)->(∀kc:Int,kc=2->m.ok=true->¬m.prom<0->Hid (vF f n now shift m=.no kc)->P)->(∀kc:Int,kc=3->m.ok=true->m.prom<0->(∀k,gu f n m.name k->0<=k)->Hid (vF f n now shift m=.no kc)->P)->(∀kc:Int,kc=4->m.ok=true->m.prom<0->(∀k,gu f n m.name k->k<0)->¬n<6->Hid (vF f n now shift m=.no kc)->P)->(m.ok=true->m.prom<0->(∀j,j<n->bX (f j).name m.name=false)->(∀k,gu f n m.name k->k<0)->n<6->P)->P:=λP a1 a2 a3 a4 a5=>by
   cases ez:m.ok with
   |false=>exact a1 2 rfl ez (tI<|Il<|.inl ez)
   |true=>
    by_cases hp:m.prom<0
    .rcases Ip f n m.name with⟨J,hJ,tB,Qf⟩|tB
     .exact a3 3 rfl ez hp (λk hk=>by have:=hk.yes hJ tB Qf;omega) (tI<|RX ez hp ⟨J,hJ,tB⟩)
     .have AT:∀k,gu f n m.name k->k<0:=λk hk=>by have:=hk.no tB;omega
      by_cases h:n<6
      .exact a5 ez hp tB AT h
      .exact a4 4 rfl ez hp AT h (tI<|RY ez hp tB h)
    .exact a2 2 rfl ez hp (tI<|Il<|.inr hp)
  clear hb;refine hgo _ (λkc hc ez had=>?_) (λkc hc ez hp had=>?_) (λkc hc ez hp AT had=>?_) (λkc hc ez hp AT aB had=>?_) λez hp tB AT aB=>?_;all_goals clear hgo
  rotate_right;focus
   have hF:=AQ hm aB Sa ez Wf Wh tB;have YY:∀i,i<n+1->(dR f K m i).ok=true:=λi hi=>bg hF i hi
   have Jw:=λB c W (h2:B<W.heap.size) (h3:aI W B 0 (n+1) (dR f K m))=>rH B (n+1) c (dR f K m) now shift W aa YY IK.1 aa ku.1 ku.2 (λhr=>uV hF aa hr) h2 h3
   have qL:=RZ (now:=now) (shift:=shift) ez hp tB aB hPP;rcases oW:fQ (dR f K m) (n+1) now shift with _|T;focus
    rw[oW]at Jw;have HN:=Jw;clear Jw;rw[oW]at qL;obtain⟨kc,hc⟩:∃kc:Int,kc=5:=⟨_,rfl⟩;have had:Hid (vF f n now shift m=.no kc):=by rw[hc];exact tI qL
    clear qL
   rotate_left;focus
    rw[oW]at Jw;have HS:=Jw;clear Jw;have Tl:=λB c b' c' W (h2:B<W.heap.size) (h3:aI W B 0 (n+1) (dR f K m)) (h4:b'<W.heap.size) (h5:aA W b' 0 (n+1) T)=>tl now shift B (n+1) c (dR f K m) b' (n+1) c' T W aa jl h2 h3 (λi hi=>qn<|YY i hi) h4 h5
    have RM:=λB c b' c' W (h2:B<W.heap.size) (h3:aI W B 0 (n+1) (dR f K m)) (h4:b'<W.heap.size) (h5:aA W b' 0 (n+1) T)=>fK now shift (some ⟨B,0,none⟩) (n+1) c (dR f K m) (some ⟨b',0,none⟩) (n+1) c' T W aa aa ⟨(λh=>nomatch h),λad had=>by cases had;exact⟨B,rfl,h2,h3⟩⟩ ⟨(λh=>nomatch h),λad had=>by cases had;exact⟨b',rfl,h4,h5⟩⟩
    obtain⟨sb,tF⟩:∃sb,fi now shift (dR f K m) (n+1) T (n+1)=sb:=⟨_,rfl⟩;rw[tF]at Tl;rw[oW]at qL;cases sb;focus
     obtain⟨kc,hc⟩:∃kc:Int,kc=6:=⟨_,rfl⟩;have had:Hid (vF f n now shift m=.no kc):=by rw[hc];exact RU qL tF
     clear qL tF
    rotate_left;focus
     have had:Hid (vF f n now shift m=.yes K T):=RT qL tF;clear qL tF
  all_goals
   rw[ez]at HM;go_enter Tz.func9,Tryz.ntmps9
   go_wp2_with(first
    |(go_at_call 39;refine HB.mono ?_;clear HB;rintro e w1 ⟨rfl,b1⟩;rw[<-jh]at b1;have B1:=b0.trans<|b1.mono b0.size;have bk:=ww.same<|b1.block _ ww.lt;have mv:=mv0.keep<|b1.block _ aa;have rs:=qQ.same<|b1.block _ qQ.lt;have yy:=bk.cells)
    |(go_at_call 40;refine(If _ B1).mono ?_;clear If;rintro e w2 ⟨⟨Bx,cx,Bi,ci,rfl,oM,oI⟩,b2⟩;have z2:=b2.size;have z1:=b1.size;have bk:=bk.same<|b2.block _ aa;have rs:=rs.same<|b2.block _ aa;let⟨W3,e3,k3,b3,z3⟩:=cr w2 now shift (some ⟨Bx,0,none⟩) n cx (some ⟨Bi,0,none⟩) n ci;have hA:Ad w now shift ao n c bo d (w.heap.size+1+1) w2.heap.size Bx cx Bi ci f t W3:=⟨(B1.trans<|b2.mono B1.size).trans<|b3.mono aa,bk.same<|b3.block _ aa,rs.same<|b3.block _ aa,aa,k3,aa,bY (az oM λB hB=>b3.block B (oM.lt B hB).2) aa,bY (az oI λB hB=>b3.block B (oI.lt B hB).2) aa⟩;have mv:=(mv.keep<|b2.block _ aa).keep<|b3.block _ aa;let⟨s0,s1,s2,s3,s4,s5⟩:=dN mv;clear oM oI bk rs)
    |(go_at_call 41;refine(HM W3).mono ?_;clear HM;rintro e w4 ⟨rfl,b4⟩;have z4:=b4.size;have mv:=mv.keep<|b4.block _ aa;have hA:=hA.grow b4;have yy:=hA.bk.cells;let⟨s0,s1,s2,s3,s4,s5⟩:=dN mv;have xx:=hA.x.cells;let⟨r0,r1,r2,r3,r4⟩:=hA.rs.cells)
    |(go_at_call 42;refine(HA _ hA.below).mono ?_;clear HA;rintro e w5 ⟨⟨kk,rfl,zd⟩,b5⟩;have z5:=b5.size;have mv:=mv.keep<|b5.block _ aa;have hA:=hA.grow b5;have yy:=hA.bk.cells;let⟨s0,s1,s2,s3,s4,s5⟩:=dN mv;have xx:=hA.x.cells;let⟨r0,r1,r2,r3,r4⟩:=hA.rs.cells;have tD:=AT kk zd)
    |(go_at_call 40;refine(HC2 _ hA.below).mono ?_;clear HC2;rintro e w6 ⟨⟨By,cy,Bz,cz,rfl,oY,oZ⟩,b6⟩;have z6:=b6.size;let⟨W7,e7,k7,b7,z7⟩:=cr w6 now shift (some ⟨By,0,none⟩) n cy (some ⟨Bz,0,none⟩) n cz;have hA:=(hA.grow b6).grow b7;have mv:=(mv.keep<|b6.block _ aa).keep<|b7.block _ aa;have oY:=az oY λB hB=>b7.block B (oY.lt B hB).2;have yy:=hA.bk.cells;let⟨s0,s1,s2,s3,s4,s5⟩:=dN mv;have pp:=k7.cells)
    |(go_at_call 43;refine(HP By cy W7 (eN oY).2.2 (eN oY).2.1<|dK oY).mono ?_;clear HP;rintro e w8 ⟨⟨B8,c8,k8,rfl,g1,g2,g3,o8⟩,b8⟩;obtain rfl:=Jd Sa Wf Wh g1 g2 g3;have z8:=b8.size;have hA:=hA.grow b8;have y8:=k7.same<|b8.block _ k7.lt;have l8:=y8.lt;have pp:=y8.cells;let⟨W9,e9,y9,hb9,z9,h9⟩:=Hc y8 hA.below (by have:=hA.hR;have:=hA.hX;omega)<|.slice (some ⟨B8,0,none⟩) (n+1) c8;have hA:=hA.set y8 aa hb9 h9;have o9:=az o8 λB hB=>h9 B<|fM o8 y8 bF hB;have yy:=hA.bk.cells;have pp:=y9.cells)
    |(go_at_call 44;refine(HN B8 c8 W9 (eN o9).2.1<|dK o9).mono ?_;clear HN;rintro e w10 ⟨⟨y_,c10,rfl⟩,Aa⟩;have hA:=hA.grow Aa;have xx:=hA.x.cells;let⟨r0,r1,r2,r3,r4⟩:=hA.rs.cells)
    |(go_at_call 44;refine(HS B8 c8 W9 (eN o9).2.1<|dK o9).mono ?_;clear HS;rintro e w10 ⟨⟨BT,cT,JZ,rfl,oT,_⟩,Aa⟩;have hA:=hA.grow Aa;have y10:=y9.same<|Aa.block _ y9.lt;have pp:=y10.cells;let⟨Xr,V8,y11,Um,z11,BP⟩:=vV y10 hA.below (by have:=hA.hR;have:=hA.hX;omega)<|.slice (some ⟨BT,0,none⟩) (n+1) cT;have hA:=hA.set y10 aa Um BP;have WX:=az o9 λB hB=>Aa.block B (o9.lt B hB).2;have o11:=az WX λB hB=>BP B<|fM WX y10 bF hB;have oT:=gp oT<|BP BT aa;have pp:=y11.cells)
    |(go_at_call 26;refine(Tl B8 c8 BT cT Xr (eN o11).2.1 (dK o11) oT.lt oT.2).mono ?_;clear Tl;rintro e k_ ⟨rfl,K7⟩;have hA:=hA.grow K7;have y12:=y11.same<|K7.block _ y11.lt;have o12:=az o11 λB hB=>K7.block B (o11.lt B hB).2;have oT:=gp oT<|K7.block _ oT.lt;have pp:=y12.cells;have xx:=hA.x.cells;let⟨r0,r1,r2,r3,r4⟩:=hA.rs.cells)
    |(go_at_call 40;refine(RM B8 c8 BT cT k_ (eN o12).2.1 (dK o12) oT.lt oT.2).mono ?_;clear RM;rintro e w13 ⟨⟨Bg,cq,Bv,cv,rfl,oQ,oV⟩,Xw⟩;have z13:=hA.x.lt;have hA:=hA.grow Xw;let⟨r0,r1,r2,r3,r4⟩:=hA.rs.cells))
   all_goals try omega
   all_goals first
    |(let⟨W5,e5,k5,ix,rF,mo⟩:=bJ hA.rs hA.below aa now shift (some ⟨Bg,0,none⟩) (n+1) cq (some ⟨Bv,0,none⟩) (n+1) cv;rw[e5];let⟨q0,q1,q2,q3,q4⟩:=k5.cells;have hhR:=hA.hX;refine bodyPost_ret (v:=.tuple #[.agg #[.int .i64 now,.int .i64 shift,.slice (some ⟨Bg,0,none⟩) (n+1) cq,.slice (some ⟨Bv,0,none⟩) (n+1) cv],.int .i64 0]) (by simp[results,Tryz.f9,go_sem,q0,q1,q2,q3]) rfl ⟨⟨now,shift,_,n+1,cq,_,_,n+1,cv,T,0,rfl,.yes mG.out had.out,.inr ⟨Bg,Bv,rfl,rfl,bY (az oQ λB hB=>mo B (by have:=(oQ.lt B hB).1;omega)) aa,(eN oV).2.2,lI.of<|bY (az oV λB hB=>mo B (by have:=(oV.lt B hB).1;omega)) aa⟩⟩,ix⟩)
    |(let⟨W5,e5,k5,ix,rF,mo⟩:=bJ hA.rs hA.below aa now shift (some ⟨Bx,0,none⟩) n cx (some ⟨Bi,0,none⟩) n ci;rw[e5];let⟨q0,q1,q2,q3,q4⟩:=k5.cells;exact bodyPost_ret (v:=.tuple #[.agg #[.int .i64 now,.int .i64 shift,.slice (some ⟨Bx,0,none⟩) n cx,.slice (some ⟨Bi,0,none⟩) n ci],.int .i64 kc]) (by simp[results,Tryz.f9,go_sem,q0,q1,q2,q3,hc]) rfl ⟨⟨now,shift,_,n,cx,f,_,n,ci,t,kc,rfl,.no mG.out had.out,hA.out mo⟩,ix⟩)
    |trace_state
inductive Dp
 |no (c:Int)
 |yes (p:Nat) (T:Nat->Int)
noncomputable def jf (f:Nat->Mv)(n:Nat)(t:Nat->Int)(now shift:Int)(p:Nat):Nat->Int:=
 match fQ (cW f p) (n-1) now shift with
 |none=>cW t p
 |some T=>if nX T (cW t p) (n-1)=true then cW t p else if fi now shift (cW f p) (n-1) T (n-1)=true then T else cW t p
noncomputable def pA (f:Nat->Mv)(n:Nat)(t:Nat->Int)(now shift k:Int):Dp:=if k<0 then .no 3 else .yes k.toNat (jf f n t now shift k.toNat)
def Xp (now shift:Int)(f:Nat->Mv)(n:Nat)(t:Nat->Int)(name:ByteArray)(N:Nat)(y e:Value)(W:World):Prop:=∃k,eX f n name k/\match pA f n t now shift k with
 |.no cd=>y=.agg #[(0:Int),(0:Int),(),()]/\e=.iface 131 (.agg #[.int .i64 cd])
 |.yes p T=>e=.nilIface/\∃BN c2 BT c3,y=.agg #[.int .i64 now,.int .i64 shift,.slice (some ⟨BN,0,none⟩) (n-1) c2,.slice (some ⟨BT,0,none⟩) (n-1) c3]/\N<=BN/\N<=BT/\C7 W BN (n-1) (cW f p)/\Dn W BT (n-1) T/\n-1<=c3
def mpd (now shift:Int)(f:Nat->Mv)(n:Nat)(t:Nat->Int)(name:ByteArray):RO (Xp now shift f n t name) where
 is:=λ⟨k,hk,h⟩=>by
  cases hr:pA f n t now shift k with
  |no cd=>
   rw[hr]at h;have:cd=3:=by unfold pA at hr;split at hr<;>cases hr;rfl
   exact .inr ⟨cd,aa,h.2,h.1⟩
  |yes p T=>rw[hr]at h;let⟨h1,BN,c2,BT,c3,h2,_⟩:=h;exact .inl ⟨h1,_,_,_,_,_,_,_,_,h2⟩
 to:=λ⟨k,hk,h⟩ hN e=>⟨k,hk,by
  cases hr:pA f n t now shift k with
  |no cd=>rw[hr]at h;exact h
  |yes p T=>
   rw[hr]at h;let⟨h1,BN,c2,BT,c3,h2,h3,h4,h5,h6,h7⟩:=h;exact⟨h1,BN,c2,BT,c3,h2,ac8 hN h3,ac8 hN h4,h5.same<|e BN h3 h5.lt,ii h6<|e BT h4 h6.lt,h7⟩⟩
section
variable [g:Gl]{ok:Ctx}{c r0:Frame}{cs:List Frame}{V:World}{Q:Value->World->Prop}{cp:Nat}{f:Nat->Mv}{m dp:Nat}{name:ByteArray}
def OS (E:ee Tz.prog ok c cX)(jO:ok.bh 287=true)(kG:ok.bh 18=true)(tS:ok.bh 52=true)(yZ:ok.bh 80=true)(sx:ok.bh 111=true)(Fu:ok.bh 139=false)(ig:ok.bh r0.fn=true)(hB:Bq V now shift ao n cp f bo m dp t)(mG:aX now shift f n t m=true)
  (aT:∀y e W',Bl V V W'->Xp now shift f n t name V.heap.size y e W'->ak Tz.prog ok c cX Q ⟨r0.finish<|.tuple #[y,e],cs,W'⟩):
  ak Tz.prog ok c cX Q ⟨Frame.enter Tz.prog 287 #[.agg #[name],.agg #[now,shift,.slice ao n cp,.slice bo m dp]] .normal,r0::cs,V⟩:=by
 let⟨hm,Av,hf⟩:=cK mG;subst Av;replace aT:Hid _:=aT;have h6:=hB.n6;have MU:0<=now/\now<=10000:=by
  unfold aX at mG;simp only[Bool.and_eq_true]at mG;exact ff.1 mG.1.1.1
 refine ak.en Tz.func287 rfl Tryz.ntmps287 BA ?_;refine ak.ck E jO [_,_] _ λK R τ0 yW hK hR=>?_
 let⟨W1,e1,k1,b1⟩:=PJ (re V τ0 yW) #[.string name] 67;obtain⟨W2,e2,k2,b2,-⟩:=cr W1 now shift ao m cp bo m dp;obtain⟨W3,e3,k3,b3,-⟩:=cr W2 0 0 none 0 0 none 0 0;have bW:=Bl.lZ<|(b1.trans<|b2.mono b1.size).trans<|b3.mono<|ac8 b1.size b2.size;have p2:=k2.same<|b3.block _ k2.lt;have yy:=p2.cells;have n1:W3.cell? ⟨(re V τ0 yW).heap.size,0,none⟩=some (.string name):=by
  have h:W3.heap[(re V τ0 yW).heap.size]?=_:=(b3.block _<|ac6 (ac7.1 k1).1 b2.size).trans<|(b2.block _ (ac7.1 k1).1).trans k1;simp[World.cell?,h]
 have H1:=uT ao m cp f name W3 h6 (hB.bl bW).sm;have o2:V.heap.size<=W1:=b1.size;have o3:W1.heap.size<W2:=k2.lt;simp only[aD];go_wp2_with(go_at_call 278;refine H1.mono ?_;clear H1;rintro e w4 ⟨⟨k,rfl,hk⟩,b4⟩)
 refine hK.out _ _ ?_;have p2:=p2.same<|b4.block _ p2.lt;have p3:=k3.same<|b4.block _ k3.lt;have bV:Bl V V w4:=bW.trans (Bl.of b4) bW.size;clear hK hR K R e1 e2 e3 k1 k2 k3 b1 b2 b3 b4 yy n1 bW;have back:∀{w W8:World},Bl V V w->W8.heap.size=w.heap.size->(∀k,k≠W2.heap.size->W8.heap[k]?=w.heap[k]?)->Bl V V W8:=λh h1 h2=>⟨by rw[h1];exact h.size,λk hk=>(h2 k aa).trans<|h.block k hk⟩
 replace back:Hid _:=@back;have l3:=p3.lt;rcases hk with⟨rfl,hn⟩|⟨j,rfl,hj,IN,Gw⟩
 .refine ak.ck E jO [_] _ λK R τ d hK hR=>?_
  have xx:=p3.rc τ d;obtain⟨W8,e8,k8,-,z8,o8⟩:=bJ (p3.r τ d) (acW 0 _) (ada _) 0 0 none 0 0 none 0 0;replace z8:Hid _:=z8;simp only[aD];go_wp2;exact hR.out _ _ λtodo=>ak.lv E ig Tz.func287 (λτ d=>dm rfl rfl rfl<|k8.r τ d)<|aT.out _ _ _ (back.out bV z8.out o8) ⟨-1,.inl ⟨rfl,hn⟩,by simp[pA]⟩
 obtain⟨b,rfl,hb,aq⟩:=hB.sm.pos aa;obtain⟨b',rfl,dw,aU⟩:=hB.si.pos aa;have gD:∀T BM cM BS cS W,jf f m t now shift j=T->V.heap.size<=BM->V.heap.size<=BS->C7 W BM (m-1) (cW f j)->Dn W BS (m-1) T->m-1<=cS->Xp now shift f m t name V.heap.size (.agg #[now,shift,.slice (some ⟨BM,0,none⟩) (m-1) cM,.slice (some ⟨BS,0,none⟩) (m-1) cS]) .nilIface W:=λT BM cM BS cS W h h1 h2 h3 h4 h5=>⟨j,.inr ⟨j,rfl,hj,IN,Gw⟩,by
  have:pA f m t now shift j=.yes j T:=by simp[pA,h]
  rw[this];exact⟨rfl,BM,cM,BS,cS,rfl,h1,h2,h3,h4,h5⟩⟩
 replace gD:Hid _:=gD;refine ak.ck E jO [_,_,_,_] _ λK R τ d hK hR=>?_
 have q3:aH (re w4 τ d) _ _ _ _ _:=p2;have lb:b<(re w4 τ d).heap.size:=ac6 hb bV.size;have lb':b'<(re w4 τ d).heap.size:=ac6 dw bV.size;have H1:=wM now shift b 0 m cp f b' 0 m dp t (re w4 τ d) aa aa lb (dL aq<|bV.block b hb) lb'<|xE aU<|bV.block b' dw;have yy:=q3.cells;have Ce:IntKind.i64.wrap ((j:Int)+1)=(j:Int)+1:=hZ;have hj0:¬(j:Int)<0:=aa;simp only[aD];go_wp2_with(first
  |(go_at_call 69;refine H1.mono ?_;clear H1;rintro e w2 ⟨⟨v,u5,rfl,ov,ou⟩,b2⟩;obtain⟨BM,cM,rfl,hBM,lM⟩:=AM ov aa;obtain⟨BT,cT,rfl,JZ,lT⟩:=AM ou aa;clear yy;obtain⟨X2,hX2⟩:∃W,w2.alloc (.cells #[.int .i64 now,.int .i64 shift,.slice (some ⟨BM,0,none⟩) m cM,.slice (some ⟨BT,0,none⟩) m cT] 29)=W:=⟨_,rfl⟩;have bx:aH X2 w2.heap.size now shift (.slice (some ⟨BM,0,none⟩) m cM) (.slice (some ⟨BT,0,none⟩) m cT):=(by rw[<-hX2];exact heap_alloc_new _ _);have bo:Below w2.heap.size w2 X2:=(by rw[<-hX2];exact(acW _ _).alloc (ac5 _) _);have ov2:=eK ov<|bo.block BM lM;have ou2:=eK ou<|bo.block BT lT;have nM:BM≠w2.heap.size:=aa;have nT:BT≠w2.heap.size:=aa;have nMT:=QV ov ou bF;have yy:=bx.cells;have H2:=JN BM m cM j (re w4 τ d).heap.size f X2 aa hj ov2;have zw:=b2.size)
  |(go_at_call 288;refine H2.mono ?_;clear H2;rintro e w3 ⟨rfl,ov3,sz3,of3⟩;have bx3:=bx.same<|of3 w2.heap.size λe=>nM e.symm;clear yy;have yy:=bx3.cells;have ou3:=eK ou2<|of3 BT λe=>nMT e.symm;obtain⟨W3,BU⟩:∃W,w3.setCell ⟨w2.heap.size,2,none⟩ (.slice (some ⟨BM,0,none⟩) (m-1) cM)=W:=⟨_,rfl⟩;have bx4:aH W3 w2.heap.size now shift (.slice (some ⟨BM,0,none⟩) (m-1) cM) (.slice (some ⟨BT,0,none⟩) m cT):=(by rw[<-BU];exact heap_setCell_same w3 w2.heap.size 2 _ _ _ bx3);have of4:∀i,i≠w2.heap.size->W3.heap[i]?=w3.heap[i]?:=(λi hi=>by rw[<-BU];exact acY w3 _ _ _ hi);have ov4:=eK ov3<|of4 BM nM;have ou4:=eK ou3<|of4 BT nT;have vv:=bx4.cells;have H3:=L6 BT m cT j (re w4 τ d).heap.size t W3 aa hj ou4;have sz4:W3.heap.size=w3.heap.size:=(by rw[<-BU];simp);have sz3:Hid (w3.heap.size=X2.heap.size):=sz3;have sz4:Hid (W3.heap.size=w3.heap.size):=sz4)
  |(go_at_call 289;refine H3.mono ?_;clear H3;rintro e w5 ⟨rfl,ou5,sz5,of5⟩;have bx5:=bx4.same<|of5 w2.heap.size λe=>nT e.symm;clear yy vv;have yy:=bx5.cells;have ov5:=eK ov4<|of5 BM nMT;have sz5:Hid (w5.heap.size=W3.heap.size):=sz5))
 all_goals try omega
 have of6:∀i,i≠w2.heap.size->(w5.setCell ⟨w2.heap.size,3,none⟩<|.slice BT (m-1) cT).heap[i]?=w5.heap[i]?:=λi hi=>acY w5 _ _ _ hi
 have s3:=sz3.out;have s4:=sz4.out;have s5:=sz5.out;have zo:=bo.size;have z2:w4.heap.size<=w2:=b2.size;have zM:w4.heap.size<=BM:=hBM;have zT:w4.heap.size<=BT:=JZ;have cE:∀k,k<w4.heap.size->(w5.setCell ⟨w2.heap.size,3,none⟩<|.slice BT (m-1) cT).heap[k]?=w4.heap[k]?:=λk hk=>(of6 k aa).trans<|(of5 k aa).trans<|(of4 k aa).trans<|(of3 k aa).trans<|(bo.block k aa).trans<|b2.block k hk
 have q7:=heap_setCell_same w5 w2.heap.size 3 _ _ (.slice BT (m-1) cT) bx5;have rM:=Cz<|eK ov5<|of6 BM nM;have rT:=Kt<|eK ou5<|of6 BT nT;have kT:Hid (m-1<=cT):=(dj ou5).choose_spec.2.1;have bV:Bl V V (w5.setCell ⟨w2.heap.size,3,none⟩<|.slice BT (m-1) cT):=⟨by have:=bV.size;simp;omega,λk hk=>(cE k (by have:=bV.size;omega)).trans<|bV.block k hk⟩;have p3:=p3.same<|cE _ l3;have q7:aH (w5.setCell ⟨w2.heap.size,3,none⟩<|.slice BT (m-1) cT) w2.heap.size now shift (.slice BM (m-1) cM) (.slice BT (m-1) cT):=q7;have n7:w2.heap.size≠W2.heap.size:=aa;have mM:BM≠W2.heap.size:=aa;have mT:BT≠W2.heap.size:=aa;have vM:V.heap.size<=BM:=aa;have vT:V.heap.size<=BT:=aa;refine hK.out _ _ ?_;revert bV p3 q7 rM rT n7;generalize w5.setCell ⟨w2.heap.size,3,none⟩ (.slice (some ⟨BT,0,none⟩) (m-1) cT)=W6;generalize w2.heap.size=B7;intro rM rT bV p3 q7 n7;clear cE of6 s3 s4 s5 zo z2 zM zT sz3 sz4 sz5 ov5 bx5 yy hK hR K R;have l3:=p3.lt;refine ak.seq E jO<|ak.rg E jO<|ak.oc E jO 0 6 λK τ d hK=>?_;have yy:=q7.rc τ d;simp only[aN];go_wp2;refine hK.out _ _<|ak.un ?_;clear hK K yy;refine ak.ey E (i:=6) rfl rfl yZ (λw=>C8)<|C5 (cap:=cM) (shift:=shift) E yZ sx Fu jO aa (λi hi=>bg (qy hm hj) i hi) MU.1 aa rM.lt rM.1 ?_;intro v V7 fO;rw[cO rfl];obtain⟨r,hr⟩:∃r,fQ (cW f j) (m-1) now shift=r:=⟨_,rfl⟩;rw[hr]at fO;obtain⟨v5,rfl,t5,b7⟩:=vP fO;have Yp:Hid (∀a l c,v5=.slice a l c->l<=c):=λa l c e=>ED fO e
 clear fO;obtain⟨br,nR⟩:∃br,r.isSome=br:=⟨_,rfl⟩;rw[nR];have z7:=b7.size;have z6:=bV.size;have q7:=q7.same<|b7.block _ q7.lt;have p3:=p3.same<|b7.block _ p3.lt;have rM:=rM.same<|b7.block BM rM.lt;have rT:=ii rT<|b7.block BT rT.lt;have bV:=bV.trans b7 z6;replace hr:Hid _:=hr;replace nR:Hid _:=nR;replace t5:Hid _:=t5;refine ak.oc E jO 7 5 λK τ d hK=>?_
 simp only[aN,Act.put];go_wp2;refine hK.out _ _<|ak.un<|ak.regionEnd E jO ?_;clear hK K;cases r with
 |none=>
  have nR:=nR.out;subst nR;refine ak.ck E jO [_] _ λK R τ d hK hR=>?_
  have yy:=q7.rc τ d;have xx:=p3.rc τ d;obtain⟨W8,e8,k8,-,z8,o8⟩:=bJ (p3.r τ d) (acW 0 _) (ada _) now shift (some ⟨BM,0,none⟩) (m-1) cM (some ⟨BT,0,none⟩) (m-1) cT;replace z8:Hid _:=z8;simp only[aD,Option.isSome_none];go_wp2;exact hR.out _ _ λtodo=>ak.lv E ig Tz.func287 (λτ d=>dm rfl rfl rfl<|k8.r τ d) (aT.out _ _ _ (back.out bV z8.out o8)<|gD.out _ _ _ _ _ _ (by simp[jf,hr.out]) vM vT (rM.same<|o8 BM mM) (ii rT<|o8 BT mT) kT.out)
 |some T=>
  have nR:=nR.out;subst nR;obtain⟨BS,cS,hBS,rfl,oS⟩:=t5.out;have mS:BS≠W2.heap.size:=aa;have vS:V.heap.size<=BS:=aa;have H1:=λτ d=>zA BS (m-1) cS T BT cT (cW t j) (re V7 τ d) aa (.inr ⟨BS,rfl,oS.lt,oS.2⟩)<|.inr ⟨BT,rfl,rT.lt,rT.2⟩
  cases hl:nX T (cW t j) (m-1)with
  |true=>
   rw[hl]at H1;replace hl:Hid _:=hl;refine ak.ck E jO [_] _ λK R τ d hK hR=>?_
   have H1:=H1 τ d;have yy:=q7.rc τ d;simp only[aD,Option.isSome_some];go_wp2_with(go_at_call 290;refine H1.mono ?_;clear H1;rintro e w9 ⟨rfl,b9⟩;clear yy;have yy:=((q7.r τ d).same<|b9.block _ q7.lt).cells;have j3:=(p3.r τ d).same<|b9.block _ p3.lt;have xx:=j3.cells;obtain⟨W8,e8,k8,-,z8,o8⟩:=bJ j3 (acW 0 _) (ada _) now shift (some ⟨BM,0,none⟩) (m-1) cM (some ⟨BT,0,none⟩) (m-1) cT;replace z8:Hid _:=z8)
   exact hR.out _ _ λtodo=>ak.lv E ig Tz.func287 (λτ d=>dm rfl rfl rfl<|k8.r τ d) (aT.out _ _ _ (back.out (bV.trans (Bl.lZ b9) bV.size) z8.out o8)<|gD.out _ _ _ _ _ _ (by simp[jf,hr.out,hl.out]) vM vT ((rM.same<|b9.block BM rM.lt).same<|o8 BM mM) (ii (ii rT<|b9.block BT rT.lt)<|o8 BT mT) kT.out)
  |false=>
   rw[hl]at H1;replace hl:Hid _:=hl;refine ak.ck E jO [_,_] _ λK R τ d hK hR=>?_
   have H1:=H1 τ d;have yy:=q7.rc τ d;simp only[aD,Option.isSome_some];go_wp2_with(go_at_call 290;refine H1.mono ?_;clear H1;rintro e w9 ⟨rfl,b9⟩;clear yy;have yy:=((q7.r τ d).same<|b9.block _ q7.lt).cells;obtain⟨W9,e9,k9,c9,-⟩:=cr w9 now shift (some ⟨BM,0,none⟩) (m-1) cM (some ⟨BS,0,none⟩) (m-1) cS)
   refine hK.out _ _ ?_;have B9:Bl V7 V7 W9:=Bl.lZ<|b9.trans<|c9.mono b9.size;have z9:=B9.size;have q7:=q7.same<|B9.block _ q7.lt;have p3:=p3.same<|B9.block _ p3.lt;have rM:=rM.same<|B9.block BM rM.lt;have rT:=ii rT<|B9.block BT rT.lt;have rS:=fD oS<|B9.block BS oS.lt;have z70:=bV.size;have bV:=bV.trans B9 z70;have O1:Bq W9 now shift BM (m-1) cM (cW f j) BS (m-1) cS T:=⟨aa,aa,⟨(λh=>nomatch h),λad had=>⟨BM,by cases had;rfl,rM.lt,rM.1⟩⟩,⟨(λh=>nomatch h),λad had=>⟨BS,by cases had;rfl,rS.lt,rS.2⟩⟩,(λh=>by rcases h with h|h<;>cases h),λi hi=>by unfold cW;split<;>exact hB.fit _ aa⟩;clear hK hR K R yy b9 e9 c9;refine ak.seq E jO<|ak.seq E jO<|ak.rg E jO<|ak.oc E jO 0 1 λK τ d hK=>?_;have yy:=k9.rc τ d;simp only[aN];go_wp2;refine hK.out _ _<|ak.un ?_;clear hK K yy;refine ak.ey E (i:=1) rfl rfl kG (λw=>C8)<|qd E kG tS yZ sx Fu jO O1 ?_;intro V10 Aa;rw[cO rfl];have z10:=Aa.size;have q7:=q7.same<|Aa.block _ q7.lt;have k9:=k9.same<|Aa.block _ k9.lt;have p3:=p3.same<|Aa.block _ p3.lt;have rM:=rM.same<|Aa.block BM rM.lt;have rT:=ii rT<|Aa.block BT rT.lt;have rS:=fD rS<|Aa.block BS rS.lt;have z90:=bV.size;have bV:=bV.trans Aa z90;obtain⟨sb,tF⟩:∃sb,fi now shift (cW f j) (m-1) T (m-1)=sb:=⟨_,rfl⟩;rw[tF];replace tF:Hid _:=tF;refine ak.oc E jO 2 1 λK τ d hK=>?_
   simp only[aN,Act.put];go_wp2;refine hK.out _ _<|ak.un<|ak.regionEnd E jO<|ak.cond E jO (t:=!sb) rfl ?_;clear hK K;cases sb with
   |false=>
    refine ak.ck E jO [_] _ λK R τ d hK hR=>?_
    have yy:=q7.rc τ d;have xx:=p3.rc τ d;obtain⟨W8,e8,k8,-,z8,o8⟩:=bJ (p3.r τ d) (acW 0 _) (ada _) now shift (some ⟨BM,0,none⟩) (m-1) cM (some ⟨BT,0,none⟩) (m-1) cT;replace z8:Hid _:=z8;simp only[aD];go_wp2;exact hK.out _ _ (ak.ret E jO<|ak.lv E ig Tz.func287 (λτ d=>dm rfl rfl rfl<|k8.r τ d)<|aT.out _ _ _ (back.out bV z8.out o8)<|gD.out _ _ _ _ _ _ (by simp[jf,hr.out,hl.out,tF.out]) vM vT (rM.same<|o8 BM mM) (ii rT<|o8 BT mT) kT.out)
   |true=>
    refine ak.skip E jO<|ak.ck E jO [_] _ λK R τ d hK hR=>?_;have yy:=k9.rc τ d;have xx:=p3.rc τ d;obtain⟨W8,e8,k8,-,z8,o8⟩:=bJ (p3.r τ d) (acW 0 _) (ada _) now shift (some ⟨BM,0,none⟩) (m-1) cM (some ⟨BS,0,none⟩) (m-1) cS;replace z8:Hid _:=z8;simp only[aD];go_wp2;exact hK.out _ _<|ak.ret E jO<|ak.lv E ig Tz.func287 (λτ d=>dm rfl rfl rfl<|k8.r τ d)<|aT.out _ _ _ (back.out bV z8.out o8)<|gD.out _ _ _ _ _ _ (by simp[jf,hr.out,hl.out,tF.out]) vM vS (rM.same<|o8 BM mM) (Nq<|fD rS<|o8 BS mS)<|Yp.out _ _ _ rfl
end
def Ty (w:World):∃W,w.alloc (.cells #[] 3)=W/\W.heap[w.heap.size]?=some (.cells #[] 3 (0,0))/\Below w w W/\W.heap.size=w.heap.size+1:=
 ⟨_,rfl,heap_alloc_new w _,(acW _ w).alloc (ac5 _) _,aF⟩
def aA.upto (h:aA w b 0 n t)(hk:k<=n):aA w b 0 k t:=λi hi=>h i aa
def Kl (h:aA w b 0 n t)(hk:k<n)(hd:n<=d):∀ad,(if d=k+1 then some (b:Addr)else some ⟨b,k+1,none⟩)=some ad->∀j u,(dX (λj=>t<|k+1+j)<|n-(k+1))[j]?=some u->w.cell? (ad.add j)=some u:=λad had=>by
 split at had
 .have:n-(k+1)=0:=by omega
  rw[this];intro j u h;simp[dX]at h
 .cases had;intro j u hu;have hj:j<n-(k+1):=by rcases ade j (n-(k+1))with h|h;exact h;rw[adg (by rw[eH];exact h)]at hu;cases hu
  rw[d9 hj]at hu;have:=h (k+1+j) aa;rw[Nat.zero_add]at this;rw[pu,this];exact hu
structure C3 (N:Nat)(sl:Value)(W:World):Prop where
 c3:W.cell? ⟨N,3,none⟩=some sl
structure Dd (w:World)(now shift:Int)(ao:Option Addr)(n c:Nat)(bo:Option Addr)(d R:Nat)(W:World):Prop where
 below:Below w w W
 bk:aH W w.heap.size now shift (.slice ao n c) (.slice bo n d)
 rs:aH W R 0 0 () ()
 hR:w.heap.size<R
section
variable {c:Nat}{R:Nat}{W W':World}
def Dd.grow (h:Dd w now shift ao n c bo d R W)(b:Below W W W'):Dd w now shift ao n c bo d R W':=
 ⟨h.below.trans<|b.mono h.below.size,h.bk.same<|b.block _ h.bk.lt,h.rs.same<|b.block _ h.rs.lt,h.hR⟩
def Dd.set (h:Dd w now shift ao n c bo d R W){Y:Nat}(hY:R<Y)(hb:Below w w W')(e:∀k,k≠Y->W'.heap[k]?=W.heap[k]?):Dd w now shift ao n c bo d R W':=by
 have h1:=h.hR;exact⟨hb,h.bk.same<|e _ aa,h.rs.same<|e _ aa,h.hR⟩
def Dd.c3 (h:Dd w now shift ao n c bo d R W):C3 w.heap.size (.slice bo n d) W:=⟨h.bk.cells.2.2.2.1⟩
end
inductive oC (f:Nat->Mv)(n:Nat)(t:Nat->Int)(m:Nat)(now shift:Int)(name:ByteArray):Int->Int->Nat->(Nat->Mv)->Nat->(Nat->Int)->Int->Prop
 |bad:aX now shift f n t m=false->oC f n t m now shift name 0 0 0 f 0 t 1
 |no {k cd:Int}:aX now shift f n t m=true->eX f n name k->pA f n t now shift k=.no cd->oC f n t m now shift name now shift n f m t cd
 |yes {k:Int} {p:Nat} {T:Nat->Int}:aX now shift f n t m=true->eX f n name k->pA f n t now shift k=.yes p T->oC f n t m now shift name now shift (n-1) (cW f p) (n-1) T 0
def Me (now shift:Int)(ao:Option Addr)(n c:Nat)(f:Nat->Mv)(bo:Option Addr)(k d:Nat)(t:Nat->Int)(name:ByteArray)(w:World)(hB:Bq w now shift ao n c f bo k d t)(hkd:k<=d):
  Calls Tz.prog 11 #[.agg #[now,shift,.slice ao n c,.slice bo k d],name] w λe w'=>(∃a0 a1 s2 l c2 F s3 o c3 T cd,e=.returned (.tuple #[.agg #[.int .i64 a0,.int .i64 a1,.slice s2 l c2,.slice s3 o c3],.int .i64 cd])/\oC f n t k now shift name a0 a1 l F o T cd/\Bf w' w.heap.size s2 l c2 F s3 o c3 T)/\Below w w w':=by
 obtain⟨W0,jh⟩:∃W,W=(w.alloc<|.cells #[.int .i64 now,.int .i64 shift,.slice ao n c,.slice bo k d] 29).alloc (.cells #[(0:Int),(0:Int),.slice none 0 0,.slice none 0 0] 29):=⟨_,rfl⟩;have b0:Below w w W0:=by rw[jh];exact((acW _ w).alloc (ac5 _) _).alloc aF _
 have ww:aH W0 w.heap.size now shift (.slice ao n c) (.slice bo k d):=by rw[jh];exact(acX _ _ _ aF).trans<|heap_alloc_new _ _
 have qQ:aH W0 (w.heap.size+1) 0 0 () ():=by rw[jh];exact dq _ _ _
 have gj:W0.heap.size=w.heap.size+2:=by rw[jh];simp
 have HB:=(hB.bl<|Bl.of b0).sk;have h6:=hB.n6;cases hb:aX now shift f n t k with
 |false=>
  rw[hb,jh]at HB;go_enter Tz.func11,Tryz.ntmps11
  go_wp2_with(go_at_call 39;refine HB.mono ?_;clear HB;rintro e w1 ⟨rfl,b1⟩;rw[<-jh]at b1;have r1:=qQ.same<|b1.block _ qQ.lt;have yy:=r1.cells)
  let⟨W5,e5,k5,ix,rF,mo⟩:=bJ r1 (b0.trans<|b1.mono b0.size) aa 0 0 none 0 0 none 0 0;rw[e5];let⟨q0,q1,q2,q3,q4⟩:=k5.cells;refine bodyPost_ret (v:=.tuple #[.agg #[(0:Int),(0:Int),(),()],.int .i64 1]) ?_ rfl ⟨⟨0,0,none,0,0,f,none,0,0,t,1,rfl,.bad hb,.inl ⟨rfl,rfl,rfl,rfl,rfl,rfl⟩⟩,ix⟩;simp[results,Tryz.f11,go_sem,q0,q1,q2,q3]
 |true=>
  let⟨hm,hk,gE⟩:=cK hb;have hk:=hk.symm;subst hk;have IK:0<=now/\now<=10000:=by unfold aX at hb;simp only[Bool.and_eq_true]at hb;exact ff.1 hb.1.1.1
  have ku:0<=shift/\shift<=6:=by unfold aX at hb;simp only[Bool.and_eq_true]at hb;exact ff.1 hb.1.1.2
  have mG:Hid _:=hb;rw[hb,jh]at HB;clear hb;have If:=λW (hW:Below w w W)=>fK now shift ao n c f bo n d t W aa aa (hB.bl<|Bl.of hW).sm (hB.bl<|Bl.of hW).si
  have HA:=λW (hW:Below w w W)=>xG now shift ao n c f bo n d name W h6 (hB.bl<|Bl.of hW).sm
  rcases Ip f n name with⟨J,hJ,tB,Qf⟩|tB;focus
   have AT:∀k,gu f n name k->k=J:=λk hk=>hk.yes hJ tB Qf
   have hN:0<n:=aa;let⟨b',eb',bI,aU⟩:=hB.si.pos hN;have hd:n<=d:=hkd;have hpi:Hid (eX f n name (J:Int)):=.inr ⟨J,rfl,hJ,tB,Qf⟩;subst eb';have HW:=λB c W (h1:n<=c) (h2:B<W.heap.size) (h3:aI W B 0 n f)=>zq B n c J f W h6 hJ h1 h2 h3
   have aco:¬(J:Int)<0:=aa
  rotate_left;focus
   have AT:∀k,gu f n name k->k=-1:=λk hk=>hk.no tB
   obtain⟨kc,hc⟩:∃kc:Int,kc=3:=⟨_,rfl⟩;have had:Hid (oC f n t n now shift name now shift n f n t kc):=.no mG.out (.inl ⟨rfl,tB⟩)<|by simp[pA,hc]
  all_goals
   go_enter Tz.func11,Tryz.ntmps11
   go_wp2_with(first
    |(go_at_call 39;refine HB.mono ?_;clear HB;rintro e w1 ⟨rfl,b1⟩;rw[<-jh]at b1;have B1:=b0.trans<|b1.mono b0.size;have bk:=ww.same<|b1.block _ ww.lt;have rs:=qQ.same<|b1.block _ qQ.lt;have yy:=bk.cells)
    |(go_at_call 40;refine(If _ B1).mono ?_;clear If;rintro e w2 ⟨⟨Bx,cx,Bi,ci,rfl,oM,oI⟩,b2⟩;have z2:=b2.size;have z1:=b1.size;have bk:=bk.same<|b2.block _ aa;have rs:=rs.same<|b2.block _ aa;let⟨W3,e3,k3,b3,z3⟩:=cr w2 now shift (some ⟨Bx,0,none⟩) n cx (some ⟨Bi,0,none⟩) n ci;have hA:Ad w now shift _ n c _ d (w.heap.size+1) w2.heap.size Bx cx Bi ci f t W3:=⟨(B1.trans<|b2.mono B1.size).trans<|b3.mono aa,bk.same<|b3.block _ aa,rs.same<|b3.block _ aa,aa,k3,aa,bY (az oM λB hB=>b3.block B (oM.lt B hB).2) aa,bY (az oI λB hB=>b3.block B (oI.lt B hB).2) aa⟩;have yy:=hA.bk.cells;clear oM oI bk rs)
    |(go_at_call 42;refine(HA _ hA.below).mono ?_;clear HA;rintro e w5 ⟨⟨kk,rfl,zd⟩,b5⟩;have z5:=b5.size;have hA:=hA.grow b5;have n_:=hA.x.cells;let⟨r0,r1,r2,r3,r4⟩:=hA.rs.cells;obtain rfl:=AT kk zd)
    |(go_at_call 45;refine(HW Bx cx w5 (eN hA.om).2.2 (eN hA.om).2.1<|dK hA.om).mono ?_;clear HW;rintro e w6 ⟨⟨B6,c6,rfl,o6⟩,b6⟩;have hRX:=hA.hX;have hRw:=hA.hR;have lX:=hA.x.lt;have hD:Dd w now shift ao n c (some ⟨b',0,none⟩) d (w.heap.size+1) w6:=⟨(hA.grow b6).below,(hA.grow b6).bk,(hA.grow b6).rs,hA.hR⟩;have x6:=(hA.grow b6).x;have pp:=x6.cells;let⟨W7,e7,x7,hb7,z7,h7⟩:=Hc x6 hD.below aa<|.slice (some ⟨B6,0,none⟩) (n-1) c6;have hD:=hD.set hRX hb7 h7;have o7:=az o6 λB hB=>h7 B<|fM o6 x6 bF hB))
   all_goals try omega
   all_goals first
    |(let⟨W5,e5,k5,ix,rF,mo⟩:=bJ hA.rs hA.below aa now shift (some ⟨Bx,0,none⟩) n cx (some ⟨Bi,0,none⟩) n ci;rw[e5];let⟨q0,q1,q2,q3,q4⟩:=k5.cells;exact bodyPost_ret (v:=.tuple #[.agg #[.int .i64 now,.int .i64 shift,.slice (some ⟨Bx,0,none⟩) n cx,.slice (some ⟨Bi,0,none⟩) n ci],.int .i64 kc]) (by simp[results,Tryz.f11,go_sem,q0,q1,q2,q3,hc]) rfl ⟨⟨now,shift,_,n,cx,f,_,n,ci,t,kc,rfl,had.out,hA.out mo⟩,ix⟩)
    |skip
  have hJ0:(0:Int)<=J:=aa;have hJd:(J:Int)<=d:=aa;have hJ1:(0:Int)<=(J:Int)+1:=aa;have hJn:(J:Int)+1<=n:=aa;have ab7:(J:Int)+1<=d:=aa;have hwJ:IntKind.i64.wrap ((J:Int)+1)=(J:Int)+1:=hZ;let⟨i0,Lb,Ng,IT,Ke⟩:=xC;have hD:=hD.grow (acW _ _).drew;have x8:=x7.same (w':=W7.drew) rfl;have o8:=az o7 (w':=W7.drew) λ_ _=>rfl;refine wp_region_held_drew (S:=C3 w.heap.size<|.slice b' n d) bD hD.c3 λhHeld=>?_;revert hHeld hD x8 o8;generalize W7.drew=W8;intro hD x8 o8 hHeld;refine aO 1 (.pointer<|some ⟨w.heap.size,3,none⟩) 29 rfl Fa hHeld ?_;refine aO 2 (.slice b' n d) 30 rfl Fa hHeld ?_;refine aO 3 (.int .i64 (J:Int)) 31 rfl Fa hHeld ?_;refine aO 4 (.slice b' J d) 32 rfl Fa hHeld ?_;refine aO 6 (.pointer<|some ⟨w.heap.size,3,none⟩) 34 rfl Fa hHeld ?_;refine aO 7 (.slice b' n d) 35 rfl Fa hHeld ?_;refine aO 8 (.int .i64 (J:Int)) 36 rfl Fa hHeld ?_;refine aO 9 (.int .i64<|(J:Int)+1) 37 rfl Fa hHeld ?_;refine aO 10 (.slice (if d=J+1 then some ⟨b',0,none⟩else some ⟨b',J+1,none⟩) (n-(J+1))<|d-(J+1)) 38 rfl Fa hHeld ?_;simp only[Act.put,List.setIfInBounds_toArray,List.set_cons_zero,List.set_cons_succ];refine iX 0 rfl λK hK=>?_;go_simp
  let⟨WE,eE,kE,bE,zE⟩:=Ty W8;rw[eE];have oE:WE.ownsRow W8.heap.size 3 1 (.slice W8.heap.size 0 0) 0 []:=⟨rfl,.inr ⟨W8.heap.size,0,#[],rfl,ac5 _,kE,ac5 _,ada _,rfl,rfl⟩⟩;have hDE:=hD.grow bE;refine hK.out _ _ hDE.c3 λhHeld=>?_;clear hK K;refine iX 5 rfl λK hK=>?_;refine bw rfl (.tmp 28) (.tmp 32) 27 rfl 3 i0 _ 1 8 jr Lb Ng IT Ke rfl bF W8.heap.size (.slice W8.heap.size 0 0) 0 [] cj oE nK b' J d (dX t J) cj yU nK (λad had=>by cases had;exact uL<|aA.upto (aU.below hDE.below bI) aa) (jt t J) jl aa bE.size ?_;intro v9 w9 WF hs9 YB;simp only[Nat.zero_add,List.nil_append]at WF;have B9:Below W8 W8 w9:=bE.grown YB bE.size λq hq=>F2;have hD9:=hD.grow B9;refine hK.out _ _ hD9.c3 λhHeld=>?_;clear hK K;refine iX 11 rfl λK hK=>?_;refine bw rfl (.tmp 33) (.tmp 38) 27 rfl 3 i0 _ 1 8 jr Lb Ng IT Ke rfl bF W8.heap.size v9 J (dX t J) cj WF hs9 (if d=J+1 then some (b':Addr)else some ⟨b',J+1,none⟩) (n-(J+1)) (d-(J+1)) (dX (λj=>t<|J+1+j)<|n-(J+1)) cj yU (by split<;>(intro h;cases h)) (Kl (aU.below hD9.below bI) hJ hd) (jt _ _) jl aa B9.size ?_;intro v10 w10 MW abc aaU;rw[Az t J n hJ,show J+(n-(J+1))=n-1 by omega]at MW;have B10:Below W8 W8 w10:=B9.grown aaU B9.size λq hq=>(WF.lt q hq).1;obtain⟨B8,c8,rfl⟩:=lu MW abc;have Qd:=hD.grow B10;have m_:=x8.same<|B10.block _ x8.lt;have WX:=az o8 λB hB=>B10.block B (o8.lt B hB).2;have pp:=m_.cells;refine hK.out _ _ Qd.c3 λhHeld=>?_;clear hK K;refine iX 12 rfl λK hK=>?_;go_simp
  refine hK.out _ _ Qd.c3 λhHeld=>?_;clear hK K;refine iX 13 rfl λK hK=>?_;go_simp
  let⟨Xr,V8,x11,Um,z11,BP⟩:=vV m_ Qd.below aa<|.slice (some ⟨B8,0,none⟩) (n-1) c8;rw[V8];have hD:=Qd.set hRX Um BP;have oM:=az WX λB hB=>BP B<|fM WX m_ bF hB;have oI:=az MW λB hB=>BP B<|fM MW m_ bF hB;refine hK.out _ _ hD.c3 λhHeld=>?_;clear hK K;refine wpAnyH_done bD ?_ _;clear hHeld;have yy:=hD.bk.cells;have n_:=x11.cells;have abk:=x11.lt;have hX5:w5.heap.size<=B6:=(oM.lt B6 rfl).1;have hX8:W8.heap.size<=B8:=(oI.lt B8 rfl).1;have hF:=qy hm hJ;have YY:∀i,i<n-1->(cW f J i).ok=true:=λi hi=>bg hF i hi
  have Jw:=rH B6 (n-1) c6 (cW f J) now shift Xr aa YY IK.1 aa ku.1 ku.2 (λhr=>uV hF aa hr) (eN oM).2.1<|dK oM;have RM:=λW (h2:B6<W.heap.size) (h3:aI W B6 0 (n-1) (cW f J)) (h4:B8<W.heap.size) (h5:aA W B8 0 (n-1) (cW t J))=>fK now shift B6 (n-1) c6 (cW f J) B8 (n-1) c8 (cW t J) W aa aa ⟨(λh=>nomatch h),λad had=>by cases had;exact⟨B6,rfl,h2,h3⟩⟩ ⟨(λh=>nomatch h),λad had=>by cases had;exact⟨B8,rfl,h4,h5⟩⟩
  have Ax:∀W,Below Xr Xr W->(B6<W.heap.size/\aI W B6 0 (n-1) (cW f J))/\(B8<W.heap.size/\aA W B8 0 (n-1) (cW t J))/\Dd w now shift ao n c b' d (w.heap.size+1) W/\aH W w2.heap.size now shift (.slice B6 (n-1) c6) (.slice B8 (n-1) c8):=λW hW=>
   ⟨⟨ac6 (eN oM).2.1 hW.size,(dK oM).below hW (eN oM).2.1⟩,⟨ac6 (eN oI).2.1 hW.size,(EA oI).below hW (eN oI).2.1⟩,hD.grow hW,x11.same<|hW.block _ abk⟩
  clear o7 o8 WX MW x7 x8 m_;have Ca:∀T,jf f n t now shift J=T->Hid (oC f n t n now shift name now shift (n-1) (cW f J) (n-1) T 0):=λT h=>.yes mG.out hpi.out (by show pA f n t now shift (J:Int)=.yes J T;simp[pA,h])
  rcases oW:fQ (cW f J) (n-1) now shift with _|T;focus
   rw[oW]at Jw;have HN:=Jw;clear Jw;have had:=Ca (cW t J)<|by simp[jf,oW]
  rotate_left;focus
   rw[oW]at Jw;have HS:=Jw;clear Jw;have t_:=λB c W (h2:B<W.heap.size) (h3:aA W B 0 (n-1) T) (h4:B8<W.heap.size) (h5:aA W B8 0 (n-1) (cW t J))=>zp (some ⟨B,0,none⟩) (n-1) c T B8 c8 (cW t J) W aa (.inr ⟨B,rfl,h2,h3⟩)<|.inr ⟨B8,rfl,h4,h5⟩
   have Tl:=λB c b' c' W (h2:B<W.heap.size) (h3:aI W B 0 (n-1) (cW f J)) (h4:b'<W.heap.size) (h5:aA W b' 0 (n-1) T)=>tl now shift B (n-1) c (cW f J) b' (n-1) c' T W aa jl h2 h3 (λi hi=>qn<|YY i hi) h4 h5
   obtain⟨sb,tF⟩:∃sb,fi now shift (cW f J) (n-1) T (n-1)=sb:=⟨_,rfl⟩;rw[tF]at Tl;cases hl:nX T (cW t J) (n-1);focus
    rw[hl]at t_;cases sb;focus
     have had:=Ca (cW t J)<|by simp[jf,oW,hl,tF]
    rotate_left;focus
     have had:=Ca T<|by simp[jf,oW,hl,tF]
   rotate_right;focus
    rw[hl]at t_;have had:=Ca (cW t J)<|by simp[jf,oW,hl]
   all_goals clear tF hl
  all_goals clear Ca
  all_goals
   go_wp2_with(first
    |(go_at_call 44;refine HN.mono ?_;clear HN;rintro e k_ ⟨⟨a12,c12,rfl⟩,K7⟩;have bb:=K7;let⟨⟨f1,f2⟩,⟨f3,f4⟩,hD,xx⟩:=Ax _ bb;have n_:=xx.cells)
    |(go_at_call 44;refine HS.mono ?_;clear HS;rintro e k_ ⟨⟨BT,cT,JZ,rfl,oT,hcT⟩,K7⟩;have bb:=K7;have HT:Hid (k_.heap.size=k_.heap.size):=rfl;let⟨⟨f1,f2⟩,⟨f3,f4⟩,hD,xx⟩:=Ax _ bb;have n_:=xx.cells)
    |(go_at_call 46;refine(t_ BT cT _ oT.lt oT.2 f3 f4).mono ?_;clear t_;rintro e w13 ⟨rfl,Xw⟩;have oT:=gp oT<|Xw.block _ oT.lt;have bb:=bb.trans<|Xw.mono bb.size;let⟨⟨f1,f2⟩,⟨f3,f4⟩,hD,xx⟩:=Ax _ bb;have n_:=xx.cells)
    |(go_at_call 26;refine(Tl By cy BT cT W16 (eN QL).2.1 (dK QL) QK.lt QK.2).mono ?_;clear Tl;rintro e w17 ⟨rfl,Xx⟩;have oTs:=gp QK<|Xx.block _ QK.lt;have oYs:=az QL λB hB=>Xx.block B (QL.lt B hB).2;have yb:=y16.same<|Xx.block _ y16.lt;have bb:=Xy.trans<|Xx.mono Xy.size;let⟨⟨f1,f2⟩,⟨f3,f4⟩,hD,xx⟩:=Ax _ bb;have oT:=oTs;have n_:=xx.cells;have pp:=yb.cells;let⟨r0,r1,r2,r3,r4⟩:=hD.rs.cells)
    |(go_at_call 40;refine(RM _ f1 f2 f3 f4).mono ?_;rintro e w14 ⟨⟨By,cy,Bz,cz,rfl,oY,oZ⟩,VY⟩;have oT:=gp oT<|VY.block _ oT.lt;have zb:=bb.size;have z14:=VY.size;have bb:=bb.trans<|VY.mono bb.size;let⟨_,_,hD,xx⟩:=Ax _ bb;let⟨r0,r1,r2,r3,r4⟩:=hD.rs.cells;let⟨W15,e15,k15,z_,z15⟩:=cr w14 now shift (some ⟨By,0,none⟩) (n-1) cy (some ⟨Bz,0,none⟩) (n-1) cz;have pp:=k15.cells;let⟨W16,e16,y16,Xy,z16,h16⟩:=vV k15 (bb.trans<|z_.mono bb.size) bb.size<|.slice (some ⟨BT,0,none⟩) (n-1) cT;have QK:=gp oT<|(h16 BT (by have:=oT.lt;omega)).trans<|z_.block _ oT.lt;have ZO:=az oY λB hB=>z_.block B (oY.lt B hB).2;have QL:=az ZO λB hB=>h16 B<|fM ZO k15 bF hB;have pp:=y16.cells)
    |(go_at_call 40;refine(RM _ f1 f2 f3 f4).mono ?_;rintro e w14 ⟨⟨By,cy,Bz,cz,rfl,oY,oZ⟩,VY⟩;have zb:=bb.size;have bb:=bb.trans<|VY.mono bb.size;let⟨_,_,hD,xx⟩:=Ax _ bb;let⟨r0,r1,r2,r3,r4⟩:=hD.rs.cells))
   all_goals try omega
   all_goals first
    |(let⟨W5,e5,k5,ix,rF,mo⟩:=bJ hD.rs hD.below aa now shift (some ⟨By,0,none⟩) (n-1) cy (some ⟨Bz,0,none⟩) (n-1) cz;rw[e5];let⟨q0,q1,q2,q3,q4⟩:=k5.cells;have hl:=hD.rs.lt;exact bodyPost_ret (v:=.tuple #[.agg #[.int .i64 now,.int .i64 shift,.slice (some ⟨By,0,none⟩) (n-1) cy,.slice (some ⟨Bz,0,none⟩) (n-1) cz],.int .i64 0]) (by simp[results,Tryz.f11,go_sem,q0,q1,q2,q3]) rfl ⟨⟨now,shift,_,n-1,cy,_,_,n-1,cz,_,0,rfl,had.out,.inr ⟨By,Bz,rfl,rfl,bY (az oY λB hB=>mo B (by have:=(oY.lt B hB).1;omega)) aa,(eN oZ).2.2,lI.of<|bY (az oZ λB hB=>mo B (by have:=(oZ.lt B hB).1;omega)) aa⟩⟩,ix⟩)
    |(let⟨W5,e5,k5,ix,rF,mo⟩:=bJ hD.rs hD.below aa now shift (some ⟨By,0,none⟩) (n-1) cy (some ⟨BT,0,none⟩) (n-1) cT;rw[e5];let⟨q0,q1,q2,q3,q4⟩:=k5.cells;have hl:=hD.rs.lt;exact bodyPost_ret (v:=.tuple #[.agg #[.int .i64 now,.int .i64 shift,.slice (some ⟨By,0,none⟩) (n-1) cy,.slice (some ⟨BT,0,none⟩) (n-1) cT],.int .i64 0]) (by simp[results,Tryz.f11,go_sem,q0,q1,q2,q3]) rfl ⟨⟨now,shift,_,n-1,cy,_,_,n-1,cT,_,0,rfl,had.out,.inr ⟨By,BT,rfl,rfl,bY (az oYs λB hB=>mo B (by have:=(oYs.lt B hB).1;omega)) aa,hcT,lI.Ve (gp oTs<|mo BT aa) aa⟩⟩,ix⟩)
    |trace_state
