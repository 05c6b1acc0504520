import Derived.Test.YtlmcblcijndipaaGreatDoora42
set_option linter.defProp false
set_option linter.unusedVariables false
set_option linter.unusedSectionVars false
set_option maxHeartbeats 8000000
set_option maxRecDepth 10000
namespace Go.Proofs.YtlmcblcijndipaaGreatDoor
open Conc RowKit
variable {name:ByteArray}{a0 a1 cd now shift:Int}{L:List Mv}{GL:List Nat}{xs:List Value}{N c cp d dp i js k l lo m n o p:Nat}{T t:Nat->Int}{F f:Nat->Mv}{ao bo s:Option Addr}{v:Value}{W W' w:World}
def iF (h:aX now shift f n t m=true):(0<=now/\now<=10000)/\(0<=shift/\shift<=6)/\mc now f t n=true:=by
 unfold aX at h;simp only[Bool.and_eq_true]at h;exact⟨ff.1 h.1.1.1,ff.1 h.1.1.2,h.2⟩
def MPt (now shift:Int)(f:Nat->Mv)(n:Nat)(t:Nat->Int)(N:Nat)(y e:Value)(W:World):Prop:=now=10000/\y=.agg #[(0:Int),(0:Int),.slice none 0 0,.slice none 0 0]/\e=.iface 131 (.agg #[(2:Int)])\/now≠10000/\e=.nilIface/\∃v u,y=VZ (now+1) shift v u/\W.ownsRow N 31 6 v (stay now t n).length (S0 f t now<|stay now t n)/\W.ownsRow N 3 1 u (stay now t n).length (S1 t<|stay now t n)
structure InR (ok:Ctx):Prop where
 sr:ok.bh 20=true
 st:ok.bh 13=true
 ch:ok.bh 38=true
 tr:ok.bh 67=true
 mr:ok.bh 292=true
 mt:ok.bh 291=true
 su:ok.bh 18=true
 ro:ok.bh 52=true
 pl:ok.bh 80=true
 sb:ok.bh 111=true
 bt:ok.bh 139=false
 co:ok.bh 68=false
def NPt (f:Nat->Mv)(n:Nat)(t:Nat->Int)(now:Int)(N:Nat)(s:Option Addr)(l k:Nat)(W:World):Prop:=l=(gone now t n).length/\W.ownsRow N 9 1 (.slice s l k) l (IA f<|gone now t n)
section
variable [Gl]{ok:Ctx}{c r0:Frame}{cs:List Frame}{V:World}{Q:Value->World->Prop}
end
inductive zU (f:Nat->Mv)(n:Nat)(t:Nat->Int)(m:Nat)(now shift:Int)(name:ByteArray):Int->Int->Nat->(Nat->Mv)->Nat->(Nat->Int)->Int->Prop
 |bad:aX now shift f n t m=false->zU f n t m now shift name 0 0 0 f 0 t 1
 |no {k cd:Int}:aX now shift f n t m=true->eX f n name k->kx f n t now k=.inl cd->zU f n t m now shift name now shift n f m t cd
 |yes {k:Int} {p:Nat} {T:Nat->Int}:aX now shift f n t m=true->eX f n name k->kx f n t now k=.inr (p,T)->zU f n t m now shift name now shift (al f t p n).length (jz<|al f t p n) (al f t p n).length T 0
def Bf (w':World)(lo:Nat)(s2:Option Addr)(l c2:Nat)(F:Nat->Mv)(s3:Option Addr)(o c3:Nat)(T:Nat->Int):Prop:=(s2=none/\s3=none/\l=0/\c2=0/\o=0/\c3=0)\/∃b b',s2=some ⟨b,0,none⟩/\s3=some ⟨b',0,none⟩/\w'.ownsRow lo 31 6 (.slice (some ⟨b,0,none⟩) l c2) l (aV F l)/\o<=c3/\lI w' lo b' o T
def Ad.out {R X Bx cx Bi ci:Nat}(h:Ad w now shift ao n c bo d R X Bx cx Bi ci f t W)(e:∀k,k≠R->W'.heap[k]?=W.heap[k]?):Bf W' w.heap.size Bx n cx f Bi n ci t:=by
 have h1:=h.hR;exact .inr ⟨Bx,Bi,rfl,rfl,bY (az h.om λB hB=>e B (by have:=(h.om.lt B hB).1;omega)) aa,(eN h.oi).2.2,lI.of<|bY (az h.oi λB hB=>e B (by have:=(h.oi.lt B hB).1;omega)) aa⟩
def Q4 (now shift:Int)(ao:Option Addr)(n c:Nat)(f:Nat->Mv)(bo:Option Addr)(m d:Nat)(t:Nat->Int)(name:ByteArray)(w:World)(hB:Bq w now shift ao n c f bo m d t):
  Calls Tz.prog 25 #[.agg #[now,shift,.slice ao n c,.slice bo m d],name] w λe w'=>(∃a0 a1 s2 l c2 F s3 o c3 T cd,e=.returned (.tuple #[.agg #[.int .i64 a0,.int .i64 a1,.slice s2 l c2,.slice s3 o c3],.int .i64 cd])/\zU f n t m now shift name a0 a1 l F o T cd/\Bf w' w.heap.size s2 l c2 F s3 o c3 T)/\Below w w w':=by
 obtain⟨W0,jh⟩:∃W,W=(w.alloc<|.cells #[.int .i64 now,.int .i64 shift,.slice ao n c,.slice bo m d] 29).alloc (.cells #[(0:Int),(0:Int),.slice none 0 0,.slice none 0 0] 29):=⟨_,rfl⟩;have b0:Below w w W0:=by rw[jh];exact((acW _ w).alloc (ac5 _) _).alloc aF _
 have ww:aH W0 w.heap.size now shift (.slice ao n c) (.slice bo m d):=by rw[jh];exact(acX _ _ _ aF).trans<|heap_alloc_new _ _
 have qQ:aH W0 (w.heap.size+1) 0 0 () ():=by rw[jh];exact dq _ _ _
 have gj:W0.heap.size=w.heap.size+2:=by rw[jh];simp
 have HB:=(hB.bl<|Bl.of b0).sk;have h6:=hB.n6;cases hb:aX now shift f n t m with
 |false=>
  rw[hb,jh]at HB;go_enter Tz.func25,Tryz.ntmps25
  go_wp2_with(go_at_call 39;refine HB.mono ?_;clear HB;rintro e w1 ⟨rfl,b1⟩;rw[<-jh]at b1;have r1:=qQ.same<|b1.block _ qQ.lt;let⟨y0,y1,y2,y3,y4⟩:=r1.cells)
  let⟨W5,e5,k5,ix,rF,mo⟩:=bJ r1 (b0.trans<|b1.mono b0.size) aa 0 0 none 0 0 none 0 0;rw[e5];let⟨q0,q1,q2,q3,q4⟩:=k5.cells;refine bodyPost_ret (v:=.tuple #[.agg #[(0:Int),(0:Int),(),()],.int .i64 1]) ?_ rfl ⟨⟨0,0,none,0,0,_,none,0,0,_,1,rfl,.bad hb,.inl ⟨rfl,rfl,rfl,rfl,rfl,rfl⟩⟩,ix⟩;simp[results,Tryz.f25,go_sem,q0,q1,q2,q3]
 |true=>
  let⟨hm,Av,gE⟩:=cK hb;obtain rfl:n=m:=Av.symm;obtain⟨IK,ku,-⟩:=iF hb;have mG:Hid _:=hb;rw[hb,jh]at HB;have If:=λW (hW:Below w w W)=>fK now shift ao n c f bo n d t W aa aa (hB.bl<|Bl.of hW).sm (hB.bl<|Bl.of hW).si
  have HA:=λW (hW:Below w w W)=>xG now shift ao n c f bo n d name W h6 (hB.bl<|Bl.of hW).sm
  have hgo:∀(P:Prop),(∀kc:Int,kc=3->(∀k,gu f n name k->k=-1)->Hid (kx f n t now (-1)=.inl kc)->(∀W,Below w.heap.size w W->True)->P)->(∀(kc:Int) (J b:Nat),kc=3->J<n->(∀k,gu f n name k->k=J)->Hid (kx f n t now J=.inl kc)->ao=some ⟨b,0,none⟩->(∀W,Below w.heap.size w W->W.cell? ⟨b,J*6+1,none⟩=some (.bool false))->P)->(∀(J b b':Nat),J<n->(∀k,gu f n name k->k=J)->Hid ((f J).aj=true)->ao=some ⟨b,0,none⟩->bo=some ⟨b',0,none⟩->(∀W,Below w.heap.size w W->W.cell? ⟨b,J*6+1,none⟩=some (.bool true))->(∀W,Below w.heap.size w W->W.cell? ⟨b',J,none⟩=some (.int .i64<|t J))->(∀W,Below w.heap.size w W->Calls Tz.prog 56 #[.agg #[.int .i64 now,.int .i64 shift,.slice (some ⟨b,0,none⟩) n c,.slice (some ⟨b',0,none⟩) n d],.int .i64 J] W λe w'=>qf f n t J shift (dV f n t J) W e w'/\Below W.heap.size W w')->P)->P:=λP a1 a2 a3=>by
   rcases Ip f n name with⟨J,hJ,tB,Qf⟩|tB
   .let⟨b,e1,bH,aq⟩:=hB.sm.pos aa;let⟨b',e2,bI,aU⟩:=hB.si.pos aa;have HL:∀W,Below w w W->W.cell? ⟨b,J*6+1,none⟩=some (.bool (f J).aj):=λW hW=>by
     have:=(aq.below hW bH J hJ).c1;rw[Nat.zero_add]at this;exact this
    cases hl:(f J).aj with
    |false=>rw[hl]at HL;exact a2 3 J b rfl hJ (λk hk=>hk.yes hJ tB Qf) (by show kx f n t now J=_;simp[kx,hl]) e1 HL
    |true=>
     rw[hl]at HL;refine a3 J b b' hJ (λk hk=>hk.yes hJ tB Qf) hl e1 e2 HL (λW hW=>?_) λW hW=>sR b n c b' d J f t now shift W hm gE hJ (ac6 bH hW.size) (aq.below hW bH) (ac6 bI hW.size)<|aU.below hW bI;have:=aU.below hW bI J hJ;rw[Nat.zero_add]at this;exact this
   .exact a1 3 rfl (λk hk=>hk.no tB) (by show kx f n t now (-1)=_;simp[kx]) (λ_ _=>trivial)
  clear hb;refine hgo _ (λkc hc AT UT HL=>?_) (λkc J b hc hJ AT UT e1 HL=>?_) λJ b b' hJ AT hl e1 e2 HL HT HR=>?_;all_goals clear hgo
  rotate_left;focus
   subst e1
  rotate_left;focus
   subst e1 e2
  all_goals
   go_enter Tz.func25,Tryz.ntmps25
   go_wp2_with(first
    |(go_at_call 39;refine HB.mono ?_;clear HB;rintro e w1 ⟨rfl,b1⟩;rw[<-jh]at b1;have B1:=b0.trans<|b1.mono b0.size;have bk:=ww.same<|b1.block _ ww.lt;have rs:=qQ.same<|b1.block _ qQ.lt;let⟨y0,y1,y2,y3,y4⟩:=bk.cells)
    |(go_at_call 40;refine(If _ B1).mono ?_;clear If;rintro e w2 ⟨⟨Bx,cx,Bi,ci,rfl,oM,oI⟩,b2⟩;have z2:=b2.size;have z1:=b1.size;have bk:=bk.same<|b2.block _ aa;have rs:=rs.same<|b2.block _ aa;let⟨W3,e3,k3,b3,z3⟩:=cr w2 now shift (some ⟨Bx,0,none⟩) n cx (some ⟨Bi,0,none⟩) n ci;have hA:Ad w now shift _ n c _ d (w.heap.size+1) w2.heap.size Bx cx Bi ci f t W3:=⟨(B1.trans<|b2.mono B1.size).trans<|b3.mono aa,bk.same<|b3.block _ aa,rs.same<|b3.block _ aa,aa,k3,aa,bY (az oM λB hB=>b3.block B (oM.lt B hB).2) aa,bY (az oI λB hB=>b3.block B (oI.lt B hB).2) aa⟩;let⟨y0,y1,y2,y3,y4⟩:=hA.bk.cells;clear oM oI bk rs)
    |(go_at_call 42;refine(HA _ hA.below).mono ?_;clear HA;rintro e w5 ⟨⟨kk,rfl,zd⟩,b5⟩;have z5:=b5.size;have hA:=hA.grow b5;let⟨y0,y1,y2,y3,y4⟩:=hA.bk.cells;let⟨x0,x1,x2,x3,x4⟩:=hA.x.cells;let⟨r0,r1,r2,r3,r4⟩:=hA.rs.cells;obtain rfl:=AT kk zd;have c1:=HL _ hA.below))
   all_goals try omega
   all_goals first
    |(let⟨W5,e5,k5,ix,rF,mo⟩:=bJ hA.rs hA.below aa now shift (some ⟨Bx,0,none⟩) n cx (some ⟨Bi,0,none⟩) n ci;rw[e5];let⟨q0,q1,q2,q3,q4⟩:=k5.cells;exact bodyPost_ret (v:=.tuple #[.agg #[.int .i64 now,.int .i64 shift,.slice (some ⟨Bx,0,none⟩) n cx,.slice (some ⟨Bi,0,none⟩) n ci],.int .i64 kc]) (by simp[results,Tryz.f25,go_sem,q0,q1,q2,q3,hc]) rfl ⟨⟨now,shift,_,n,cx,f,_,n,ci,t,kc,rfl,.no mG.out zd UT.out,hA.out mo⟩,ix⟩)
    |skip
  have hJ':(J:Int)<n:=aa;have tJ:=HT _ hA.below;have hne:=aG w5;have u0:=λx:ai w5=>x.cell y0
  have u3:=λx:ai w5=>x.cell y3
  have u5:=λx:ai w5=>x.cell tJ
  refine kI ?_;intro w6 b6;clear hne u0 u3 u5 tJ y0 y1 y2 y3 y4 x0 x1 x2 x3 x4 r0 r1 r2 r3 r4 c1;have hA:=hA.grow b6;let⟨y0,y1,y2,y3,y4⟩:=hA.bk.cells;let⟨x0,x1,x2,x3,x4⟩:=hA.x.cells;let⟨r0,r1,r2,r3,r4⟩:=hA.rs.cells;have z6:=b6.size;have HR:=HR _ hA.below;by_cases ht:t J=now;focus
   have hq:(t J !=now)=false:=by simp[ht]
   have htE:Hid _:=ht;clear ht;rcases hR:dV f n t J with _|T;focus
    rw[hR]at HR;have HN:=HR;clear HR;obtain⟨kc,hc⟩:∃kc:Int,kc=5:=⟨_,rfl⟩;have UT:Hid (kx f n t now J=.inl kc):=by show kx f n t now J=_;simp[kx,hl.out,htE.out,hR,hc]
    clear hR
   rotate_left;focus
    have hle:t J+6<=(f J).late:=by
     by_cases h:t J+6<=(f J).late
     .exact h
     .rw[yi h]at hR;cases hR
    have hlen:=fT f t J n;have UT:Hid (kx f n t now J=.inr (J,T)):=by show kx f n t now J=_;simp[kx,hl.out,htE.out,hR]
    rw[hR]at HR;have HS:=HR;clear HR;have RM:=λB c b' c' W (h2:B<W.heap.size) (h3:aI W B 0 (al f t J n).length (jz<|al f t J n)) (h4:b'<W.heap.size) (h5:aA W b' 0 (al f t J n).length T)=>fK (t J) shift (some ⟨B,0,none⟩) (al f t J n).length c (jz<|al f t J n) (some ⟨b',0,none⟩) (al f t J n).length c' T W aa aa ⟨(λh=>nomatch h),λad had=>by cases had;exact⟨B,rfl,h2,h3⟩⟩ ⟨(λh=>nomatch h),λad had=>by cases had;exact⟨b',rfl,h4,h5⟩⟩
  rotate_right;focus
   have hq:(t J !=now)=true:=by simp[ht]
   obtain⟨kc,hc⟩:∃kc:Int,kc=6:=⟨_,rfl⟩;have UT:Hid (kx f n t now J=.inl kc):=by show kx f n t now J=_;simp[kx,hl.out,ht,hc]
  all_goals
   go_wp2_with(first
    |(go_at_call 56;refine HN.mono ?_;clear HN;rintro e w7 ⟨rfl,b7⟩;let⟨W8,e8,k8,b8,z8⟩:=cr w7 0 0 none 0 0 none 0 0;have e8h:Hid (w7.alloc (.cells #[(0:Int),(0:Int),.slice none 0 0,.slice none 0 0] 29)=W8):=e8;clear e8;have hA7:=hA.grow b7;have Qc:=λo=>hA7.grow<|(acW _ w7).alloc (ac5 _) o;have x0:=λo=>(Qc o).x.cells.1;have x1:=λo=>(Qc o).x.cells.2.1;have x2:=λo=>(Qc o).x.cells.2.2.1;have x3:=λo=>(Qc o).x.cells.2.2.2.1;have r0:=λo=>(Qc o).rs.cells.1;have r1:=λo=>(Qc o).rs.cells.2.1;have r2:=λo=>(Qc o).rs.cells.2.2.1;have r3:=λo=>(Qc o).rs.cells.2.2.2.1;have r4:=λo=>(Qc o).rs.cells.2.2.2.2;have hA:=hA7.grow b8)
    |(go_at_call 56;refine HS.mono ?_;clear HS;rintro e w7 ⟨⟨BN,cN,BT,cT,rfl,uB,rN,oT⟩,b7⟩;let⟨W8,e8,k8,b8,z8⟩:=cr w7 (t J) shift (some ⟨BN,0,none⟩) (al f t J n).length cN (some ⟨BT,0,none⟩) (al f t J n).length cT;have hA:=(hA.grow b7).grow b8;have rN:=rN.below b8 uB;have oT:=gp oT<|b8.block _ oT.lt;have pp:=k8.cells)
    |(go_at_call 40;refine(RM BN cN BT cT W8 aa rN oT.lt oT.2).mono ?_;clear RM;rintro e w9 ⟨⟨Bg,cq,Bv,cv,rfl,oQ,oV⟩,b9⟩;have z9:=hA.x.lt;have hA:=hA.grow b9;let⟨r0,r1,r2,r3,r4⟩:=hA.rs.cells))
   all_goals try omega
   all_goals first
    |(let⟨W5,e5,k5,ix,rF,mo⟩:=bJ hA.rs hA.below aa (t J) shift (some ⟨Bg,0,none⟩) (al f t J n).length cq (some ⟨Bv,0,none⟩) (al f t J n).length cv;rw[e5];let⟨q0,q1,q2,q3,q4⟩:=k5.cells;have hhR:=hA.hX;exact bodyPost_ret (v:=.tuple #[.agg #[.int .i64<|t J,.int .i64 shift,.slice (some ⟨Bg,0,none⟩) (al f t J n).length cq,.slice (some ⟨Bv,0,none⟩) (al f t J n).length cv],.int .i64 0]) (by simp[results,Tryz.f25,go_sem,q0,q1,q2,q3]) rfl ⟨⟨t J,shift,_,_,cq,_,_,_,cv,T,0,rfl,by rw[htE.out];exact .yes mG.out zd UT.out,.inr ⟨Bg,Bv,rfl,rfl,bY (az oQ λB hB=>mo B (by have:=(oQ.lt B hB).1;omega)) aa,(eN oV).2.2,lI.of<|bY (az oV λB hB=>mo B (by have:=(oV.lt B hB).1;omega)) aa⟩⟩,ix⟩)
    |(try rw[e8h.out]
      let⟨W5,e5,k5,ix,rF,mo⟩:=bJ hA.rs hA.below aa now shift (some ⟨Bx,0,none⟩) n cx (some ⟨Bi,0,none⟩) n ci;rw[e5];let⟨q0,q1,q2,q3,q4⟩:=k5.cells;exact bodyPost_ret (v:=.tuple #[.agg #[.int .i64 now,.int .i64 shift,.slice (some ⟨Bx,0,none⟩) n cx,.slice (some ⟨Bi,0,none⟩) n ci],.int .i64 kc]) (by simp[results,Tryz.f25,go_sem,q0,q1,q2,q3,hc]) rfl ⟨⟨now,shift,_,n,cx,f,_,n,ci,t,kc,rfl,.no mG.out zd UT.out,hA.out mo⟩,ix⟩)
    |(trace_state;skip)
def jH (f:Nat->Mv)(t:Nat->Int)(now:Int)(k:Nat)(L:List Mv)(I:List Int)(js:Nat)(xs:List Value):Prop:=L=(stay now t k).map (λi=>de (f i) (t i)<|now+1)/\I=(stay now t k).map t/\js=(gone now t k).length/\xs=IA f (gone now t k)
def jH.gone {I:List Int}(h:jH f t now k L I js xs)(e:t k=now):jH f t now (k+1) L I (js+1) (xs++[.string (f k).name]):=by
 obtain⟨rfl,rfl,rfl,rfl⟩:=h;simp[jH,Proofs.YtlmcblcijndipaaGreatDoor.stay,Proofs.YtlmcblcijndipaaGreatDoor.gone,e,IA]
def jH.stay {I:List Int}(h:jH f t now k L I js xs)(e:¬t k=now){m:Mv}(hm:m=de (f k) (t k) (now+1)):jH f t now (k+1) (L++[m]) (I++[t k]) js xs:=by
 obtain⟨rfl,rfl,rfl,rfl⟩:=h;simp[jH,Proofs.YtlmcblcijndipaaGreatDoor.stay,Proofs.YtlmcblcijndipaaGreatDoor.gone,e,hm]
inductive wl (f:Nat->Mv)(n:Nat)(t:Nat->Int)(m:Nat)(now shift:Int):Int->Int->Nat->(Nat->Mv)->Nat->(Nat->Int)->List Nat->Int->Prop
 |bad:aX now shift f n t m=false->wl f n t m now shift 0 0 0 f 0 t [] 1
 |last:aX now shift f n t m=true->now=10000->wl f n t m now shift now shift n f m t [] 2
 |yes:aX now shift f n t m=true->now≠10000->wl f n t m now shift (now+1) shift (stay now t n).length (jz<|(stay now t n).map λi=>de (f i) (t i)<|now+1) (stay now t n).length (λj=>((stay now t n).map t).getD j 0) (gone now t n) 0
def AV {b:Nat}(hb:lo<=b)(h:W.heap[b]?=some (.cells #[] 9 (0,0))):W.ownsRow lo 9 1 (.slice b 0 0) 0 []:=⟨rfl,.inr ⟨b,0,#[],rfl,hb,h,ac5 _,ada _,rfl,rfl⟩⟩
def LR (w:World)(x:Int):∃W,w.alloc (.cells #[x] 3)=W/\W.heap[w.heap.size]?=some (.cells #[x] 3 (0,0))/\Below w w W/\W.heap.size=w.heap.size+1:=
 ⟨_,rfl,heap_alloc_new w _,(acW _ w).alloc (ac5 _) _,aF⟩
def TA (w:World)(x:ByteArray):∃W,w.alloc (.cells #[x] 9)=W/\W.heap[w.heap.size]?=some (.cells #[x] 9 (0,0))/\Below w w W/\W.heap.size=w.heap.size+1:=
 ⟨_,rfl,heap_alloc_new w _,(acW _ w).alloc (ac5 _) _,aF⟩
def Pr {base:Nat}{T:TypeId}{size:Nat}(h:w.ownsRow base T size v (n+1) xs):∃B c,v=.slice (some ⟨B,0,none⟩) (n+1) c:=by
 obtain⟨h1,h2|⟨g,cap,cur,h2,h3,h4⟩⟩:=h
 .omega
 .exact⟨g,cap,h2⟩
structure St2 (N:Nat)(sl:Value)(b' k:Nat)(x:Int)(W:World):Prop where
 c3:W.cell? ⟨N,3,none⟩=some sl
 tk:W.cell? ⟨b',k,none⟩=some (.int .i64 x)
section
variable {NX:Nat}{u:Value}{I:List Int}{s:Value}{b':Nat}
def Tc.st (h:Tc w now shift ao n c b' d NX v u L I s js xs W)(bH:b'<w)(hr:aA w b' 0 n t)(hk:k<n):St2 w.heap.size (.slice b' n d) b' k (t k) W:=
 ⟨h.bk.cells.2.2.2.1,by have:=hr.below h.below bH k hk;rw[Nat.zero_add]at this;exact this⟩
def SZ (hb:Below w w W)(h:Tc w now shift ao n c b' d NX v u L I s js xs W)(g:W.grownBy W' u.ownBlock)(bH:b'<w)(hr:aA w b' 0 n t)(hk:k<n):St2 w.heap.size (.slice b' n d) b' k (t k) W':=by
 have hN:=h.hN;have b1:Below w w W':=hb.grown g hb.size (λq hq=>by have:=(h.oi.lt q hq).1;omega);exact⟨(h.bk.same<|g.block _ h.bk.lt (λe=>by have:=(h.oi.lt _ e.symm).1;omega)).cells.2.2.2.1,by have:=hr.below b1 bH k hk;rw[Nat.zero_add]at this;exact this⟩
end
def VP (now shift:Int)(ao:Option Addr)(n c:Nat)(f:Nat->Mv)(bo:Option Addr)(m d:Nat)(t:Nat->Int)(w:World)(hB:Bq w now shift ao n c f bo m d t):
  Calls Tz.prog 14 #[.agg #[now,shift,.slice ao n c,.slice bo m d]] w λe w'=>(∃a0 a1 s2 l c2 F s3 o c3 T sa js sc GL cd,e=.returned (.tuple #[.agg #[.int .i64 a0,.int .i64 a1,.slice s2 l c2,.slice s3 o c3],.slice sa js sc,.int .i64 cd])/\wl f n t m now shift a0 a1 l F o T GL cd/\Bf w' w.heap.size s2 l c2 F s3 o c3 T/\js=GL.length/\w'.ownsRow w.heap.size 9 1 (.slice sa js sc) js (IA f GL))/\Below w w w':=by
 obtain⟨W0,jh⟩:∃W,W=((w.alloc<|.cells #[.int .i64 now,.int .i64 shift,.slice ao n c,.slice bo m d] 29).alloc<|.cells #[(0:Int),(0:Int),.slice none 0 0,.slice none 0 0] 29).alloc (.cells #[] 9):=⟨_,rfl⟩;have b0:Below w w W0:=by rw[jh];exact(((acW _ w).alloc (ac5 _) _).alloc aF _).alloc cU _
 have ww:aH W0 w.heap.size now shift (.slice ao n c) (.slice bo m d):=by rw[jh];exact(acX _ _ _ cU).trans<|(acX _ _ _ aF).trans<|heap_alloc_new _ _
 have qQ:aH W0 (w.heap.size+1) 0 0 () ():=by rw[jh];exact(acX _ _ _ aF).trans<|dq _ _ _
 have dn0:W0.heap[w.heap.size+2]?=some (.cells #[] 9 (0,0)):=by
  rw[jh];have:=dq (w.alloc<|.cells #[now,shift,.slice ao n c,.slice bo m d] 29) (.cells #[(0:Int),(0:Int),(),()] 29)<|.cells #[] 9;rw[ac1]at this;exact this
 have gj:W0.heap.size=w.heap.size+3:=by rw[jh];simp
 have HB:=(hB.bl<|Bl.of b0).sk;have h6:=hB.n6;cases hb:aX now shift f n t m with
 |false=>
  rw[hb,jh]at HB;go_enter Tz.func14,Tryz.ntmps14
  go_wp2_with(go_at_call 39;refine HB.mono ?_;clear HB;rintro e w1 ⟨rfl,b1⟩;rw[<-jh]at b1;have r1:=qQ.same<|b1.block _ qQ.lt;let⟨y0,y1,y2,y3,y4⟩:=r1.cells)
  let⟨W5,e5,k5,ix,rF,mo⟩:=bJ r1 (b0.trans<|b1.mono b0.size) aa 0 0 none 0 0 none 0 0;rw[e5];let⟨q0,q1,q2,q3,q4⟩:=k5.cells;refine bodyPost_ret (v:=.tuple #[.agg #[(0:Int),(0:Int),(),()],.slice (some ⟨w.heap.size+1+1,0,none⟩) 0 0,.int .i64 1]) ?_ rfl ⟨⟨0,0,none,0,0,_,none,0,0,_,_,0,0,[],1,rfl,.bad hb,.inl ⟨rfl,rfl,rfl,rfl,rfl,rfl⟩,rfl,AV aa<|(mo _ aa).trans<|(b1.block _ aa).trans dn0⟩,ix⟩;simp[results,Tryz.f14,go_sem,q0,q1,q2,q3]
 |true=>
  let⟨hm,Av,gE⟩:=cK hb;obtain rfl:n=m:=Av.symm;obtain⟨IK,ku,-⟩:=iF hb;have mG:Hid _:=hb;rw[hb,jh]at HB;clear hb;have If:=λW (hW:Below w w W)=>fK now shift ao n c f bo n d t W aa aa (hB.bl<|Bl.of hW).sm (hB.bl<|Bl.of hW).si
  let⟨iM,hI,abh,eO,gM⟩:=eJ;let⟨i0,Lb,Ng,IT,Ke⟩:=xC;let⟨iS,hIS,SE,yQ,mZ⟩:=Nn;by_cases tC:now=10000
  .have UC:10000<=now:=by omega
   have HNW:Hid (now=10000):=tC;clear tC;go_enter Tz.func14,Tryz.ntmps14
   go_wp2_with(first
    |(go_at_call 39;refine HB.mono ?_;clear HB;rintro e w1 ⟨rfl,b1⟩;rw[<-jh]at b1;have B1:=b0.trans<|b1.mono b0.size;have bk:=ww.same<|b1.block _ ww.lt;have rs:=qQ.same<|b1.block _ qQ.lt;have dn:=(b1.block _ aa).trans dn0;let⟨y0,y1,y2,y3,y4⟩:=bk.cells)
    |(go_at_call 40;refine(If _ B1).mono ?_;clear If;rintro e w2 ⟨⟨Bx,cx,Bi,ci,rfl,oM,oI⟩,b2⟩;have z2:=b2.size;have z1:=b1.size;have bk:=bk.same<|b2.block _ aa;have rs:=rs.same<|b2.block _ aa;let⟨W3,e3,k3,b3,z3⟩:=cr w2 now shift (some ⟨Bx,0,none⟩) n cx (some ⟨Bi,0,none⟩) n ci;have dn:=(b3.block _ aa).trans<|(b2.block _ aa).trans dn;have hA:Ad w now shift ao n c bo d (w.heap.size+1) w2.heap.size Bx cx Bi ci f t W3:=⟨(B1.trans<|b2.mono B1.size).trans<|b3.mono aa,bk.same<|b3.block _ aa,rs.same<|b3.block _ aa,aa,k3,aa,bY (az oM λB hB=>b3.block B (oM.lt B hB).2) aa,bY (az oI λB hB=>b3.block B (oI.lt B hB).2) aa⟩;let⟨y0,y1,y2,y3,y4⟩:=hA.bk.cells;let⟨x0,x1,x2,x3,x4⟩:=hA.x.cells;let⟨r0,r1,r2,r3,r4⟩:=hA.rs.cells;clear oM oI bk rs))
   all_goals try omega
   let⟨W5,e5,k5,ix,rF,mo⟩:=bJ hA.rs hA.below aa now shift (some ⟨Bx,0,none⟩) n cx (some ⟨Bi,0,none⟩) n ci;rw[e5];let⟨q0,q1,q2,q3,q4⟩:=k5.cells;have hdn:=hA.hR;exact bodyPost_ret (v:=.tuple #[.agg #[now,shift,.slice Bx n cx,.slice Bi n ci],.slice (some ⟨w.heap.size+1+1,0,none⟩) 0 0,.int .i64 2]) (by simp[results,Tryz.f14,go_sem,q0,q1,q2,q3]) rfl ⟨⟨_,_,_,_,_,_,_,_,_,_,_,0,0,[],2,rfl,.last mG.out HNW.out,hA.out mo,rfl,AV aa<|(mo _ aa).trans dn⟩,ix⟩
  .have UC:¬10000<=now:=by omega
   have Ce:IntKind.i64.wrap (now+1)=now+1:=hZ;have acA:IntKind.i64.wrap (now+1+4)=now+1+4:=hZ;go_enter Tz.func14,Tryz.ntmps14
   go_wp2_with(first
    |(go_at_call 39;refine HB.mono ?_;clear HB;rintro e w1 ⟨rfl,b1⟩;rw[<-jh]at b1;have B1:=b0.trans<|b1.mono b0.size;have bk:=ww.same<|b1.block _ ww.lt;have rs:=qQ.same<|b1.block _ qQ.lt;have dn:=(b1.block _ aa).trans dn0;let⟨y0,y1,y2,y3,y4⟩:=bk.cells)
    |(go_at_call 40;refine(If _ B1).mono ?_;clear If;rintro e w2 ⟨⟨Bx,cx,Bi,ci,rfl,oM,oI⟩,b2⟩;have z2:=b2.size;have z1:=b1.size;let⟨W3,e3,k3,b3,z3⟩:=cr w2 now shift (some ⟨Bx,0,none⟩) n cx (some ⟨Bi,0,none⟩) n ci;have bk:=(bk.same<|b2.block _ aa).same<|b3.block _ aa;have rs:=(rs.same<|b2.block _ aa).same<|b3.block _ aa;have dn:=(b3.block _ aa).trans<|(b2.block _ aa).trans dn;have B3:=(B1.trans<|b2.mono B1.size).trans<|b3.mono aa;let⟨y0,y1,y2,y3,y4⟩:=bk.cells;let⟨W4,e4,k4,b4,z4⟩:=cr W3 (now+1) shift none 0 0 none 0 0;have z3h:Hid (W3.heap.size=w2.heap.size+1):=z3;clear z3;have z4h:Hid (W4.heap.size=W3.heap.size+1):=z4;clear z4;have e4h:Hid (W3.alloc (.cells #[.int .i64<|now+1,.int .i64 shift,.slice none 0 0,.slice none 0 0] 29)=W4):=e4;clear e4))
   rw[e4h.out];have z3:=z3h.out;have z4:=z4h.out;obtain⟨NX,hNX⟩:∃NX,NX=W3.heap.size:=⟨_,rfl⟩;rw[<-hNX]at k4⊢;have hT0:Tc w now shift ao n c bo d NX () () [] [] (.slice (some ⟨w.heap.size+1+1,0,none⟩) 0 0) 0 [] W4:=⟨B3.trans<|b4.mono aa,bk.same<|b4.block _ aa,rs.same<|b4.block _ aa,k4,aa,⟨rfl,.inl ⟨rfl,rfl⟩⟩,⟨rfl,.inl ⟨rfl,rfl⟩⟩,⟨rfl,.inr ⟨w.heap.size+2,0,#[],rfl,ac5 _,(b4.block _ aa).trans dn,ac5 _,ada _,rfl,rfl⟩⟩⟩;clear bk rs dn b4 k4 B3 oM oI k3 b3 b2 b1 hNX z3 z4 z3h z4h e3 e4h;go_loopw [5,8] (λs x W=>∃(k:Nat) (v u:Value) (L:List Mv) (I:List Int) (js:Nat) (xs:List Value),x=.int .i64 k/\k<=n/\L.length=I.length/\L.length<=k/\js<=k/\Hid (jH f t now k L I js xs)/\Tc w now shift ao n c bo d NX v u L I s js xs W) (λ_ x _=>n-(intOf x).toNat)
   case atStart=>exact⟨0,_,_,[],[],0,[],rfl,ada _,rfl,ac5 _,ac5 _,(by show jH _ _ _ _ _ _ _ _;exact⟨rfl,rfl,rfl,rfl⟩),hT0⟩
   case round=>
    clear hT0;obtain⟨k,v,u,L,I,js,xs,rfl,hk,hlen,hLk,hjk,ez,hT⟩:=hrel;have HLN:Hid (L.length=I.length):=hlen;have hIk:I.length<=k:=aa;clear hlen;let⟨y0,y1,y2,y3,y4⟩:=hT.bk.cells;let⟨p0,p1,p2,p3,p4⟩:=hT.nx.cells;by_cases aB:k<n
    .have dr:(k:Int)<n:=by omega
     obtain⟨b,rfl,bH,aq⟩:=hB.sm.pos aa;obtain⟨b',rfl,bI,aU⟩:=hB.si.pos aa;let⟨c0,c1,c2,c3,c4,c5⟩:=aq.below hT.below bH k aB;simp only[Nat.zero_add]at c0 c1 c2 c3 c4 c5;let⟨Wm,em,hM,bm,zm⟩:=nJ wr<|f k;have lb:=ac6 bH hT.below.size;have X7:=hT.grow bm;have hne:=aG Wm;have sm:=X7.st bI aU aB;have x0:=λx:ai Wm=>x.cell X7.bk.cells.1
     have x3:=λx:ai Wm=>x.cell sm.c3
     have y6:=λx:ai Wm=>x.cell sm.tk
     by_cases Cc:t k=now
     .have d0:(t k==now)=true:=by simpa using Cc
      have ez:Hid _:=ez.out.gone Cc;clear Cc;go_wp2;refine kI ?_;intro w3 iw;have Qi:=X7.grow iw;have Sb:=hM.keep<|iw.block _ aa;have m0:=(dN Sb).c0;clear x0 x3 y6 hne sm;let⟨Wo,eo,ko,D_,zo⟩:=TA w3 (f k).name;have As:=Qi.grow D_;go_wp2_with(at_builtin;refine wpList_append_own _ rfl (.tmp 49) (.tmp 52) 24 rfl (w.heap.size+2) 9 iS _ 1 16 GJ hIS SE yQ mZ rfl bF _ js xs cj As.os w3.heap.size 1 1 [.string (f k).name] cj rfl (jD ko) Bw jl aa (by have:=As.rs.lt;have:=As.nx.lt;have:=As.hN;omega) ?_;intro s5 w5 IL O4 _)
      have Wp:=As.names IL O4;go_roundw
      case rel=>exact⟨k+1,v,u,L,I,js+1,_,by go_num,aa,HLN.out,aa,aa,ez,Wp⟩
      case measure=>exact cI
     .have d0:(t k==now)=false:=by simpa using Cc
      have HTK:Hid _:=Cc;clear Cc;go_wp2;refine kI ?_;intro w3 iw;have Qi:=X7.grow iw;have Sb:=hM.keep<|iw.block _ aa;have z3w:=iw.size;clear x0 x3 y6 hne sm d0;have s3:=Qi.st bI aU aB;have hne:=aG w3;have x3:=λx:ai w3=>x.cell s3.c3
      have y6:=λx:ai w3=>x.cell s3.tk
      have x0:=λx:ai w3=>x.cell Qi.nx.cells.1
      go_wp2;by_cases qM:t k<now+1+4;focus
       refine kI ?_;intro w4 Ft;have T_:=Qi.grow Ft;have Wj:=Sb.keep<|Ft.block _ aa;let⟨a0,a1,a2,a3,a4,a5⟩:=dN Wj;have uf:=Wj.frozen 5;let⟨y0,y1,y2,y3,y4⟩:=T_.bk.cells;have t4:=(T_.st bI aU aB).tk;have aci:b'<w4:=ac6 bI T_.below.size;obtain⟨Wq,eq,P_,Wp⟩:∃Wq,w4.setCell ⟨wr.heap.size,5,none⟩ (.int .i64<|t k)=Wq/\bf Wq wr.heap.size {f k with prom:=t k}/\Tc w now shift (some ⟨b,0,none⟩) n c (some ⟨b',0,none⟩) d NX v u L I _ js xs Wq:=by
        refine⟨_,rfl,?_,hT.grow ?_⟩
        .have:=heap_setCell_same w4 wr.heap.size 5 _ _ (.int .i64<|t k) Wj;simpa[bf]using this
        .exact((bm.trans<|iw.mono aa).trans<|Ft.mono aa).setCell (ac5 _) _
       obtain⟨m',tU⟩:∃m',m'=({f k with prom:=t k}:Mv):=⟨_,rfl⟩;have Qt:Hid (m'=de (f k) (t k) (now+1)):=by show m'=_;rw[tU];unfold de;rw[if_pos qM]
       rw[<-tU]at P_;clear tU Wj T_
      rotate_left;focus
       refine kI ?_;intro Wq Ft;have Wp:=Qi.grow Ft;have P_:=Sb.keep<|Ft.block _ aa;obtain⟨m',tU⟩:∃m',m'=f k:=⟨_,rfl⟩;have Qt:Hid (m'=de (f k) (t k) (now+1)):=by show m'=_;rw[tU];unfold de;rw[if_neg qM]
       rw[<-tU]at P_;clear tU
      all_goals
       clear x0 x3 y6 hne s3 Sb Qi hT X7 hM;let⟨g0,g1,g2,g3,g4,g5⟩:=dN P_;let⟨p0,p1,p2,p3,p4⟩:=Wp.nx.cells;let⟨Wo,eo,ko,bo5,zo⟩:=nJ Wq m';have As:=Wp.grow bo5;go_wp2_with(at_builtin;refine wpList_append_own _ rfl (.tmp 70) (.tmp 72) 23 rfl (NX+1) 31 iM _ 6 56 aP hI abh eO gM rfl bF v L.length (aV (jz L) L.length) cj As.om Wq.heap.size 1 1 m'.cells.toList cj rfl (tY ko) (fY m') jl aa (by have:=As.nx.lt;omega) ?_;intro v6 w6 UP Y_ _;let⟨n6,hT⟩:=As.moves UP Y_;obtain⟨B6,c6,rfl⟩:=kN UP;let⟨q0,q1,q2,q3,q4⟩:=n6.cells;obtain⟨W7,e7⟩:∃W,w6.setCell ⟨NX,2,none⟩ (.slice B6 (L.length+1) c6)=W:=⟨_,rfl⟩;rw[e7]at hT)
       clear q0 q1 q2 q3 q4 n6 UP Y_ As Wp p0 p1 p2 p3 p4 g0 g1 g2 g3 g4 g5;have hT:=hT.grow (acW _ _).drew;refine wp_region_held_drew (S:=St2 w.heap.size (.slice b' n d) b' k<|t k) bD (hT.st bI aU aB) λhHeld=>?_;revert hHeld hT;generalize W7.drew=W8;intro hT hHeld;let⟨p0,p1,p2,p3,p4⟩:=hT.nx.cells;refine aO 0 (.pointer<|some ⟨NX,3,none⟩) 75 rfl zI hHeld ?_;refine aO 2 (.pointer<|some ⟨w.heap.size,3,none⟩) 77 rfl zI hHeld ?_;refine aO 3 (.slice b' n d) 78 rfl zI hHeld ?_;refine aO 4 (.int .i64 (k:Int)) 79 rfl zI hHeld ?_;refine aO 5 (.pointer<|some ⟨b',k,none⟩) 80 rfl zI hHeld ?_;refine aO 6 (.int .i64<|t k) 81 rfl zI hHeld ?_;simp only[Act.put,List.setIfInBounds_toArray,List.set_cons_zero,List.set_cons_succ];refine NW 1 7 rfl rfl (λK hK=>?_) λK hK=>?_;focus
        go_simp
        refine hK.out _ _ (hT.st bI aU aB) λhHeld=>?_;clear hK K;refine iX 7 rfl λK hK=>?_;go_simp
        let⟨Wi,ei,ki,bi,zi⟩:=LR W8<|t k;rw[ei];have hT:=hT.grow bi;let⟨p0,p1,p2,p3,p4⟩:=hT.nx.cells;refine hK.out _ _ (hT.st bI aU aB) λhHeld=>?_;clear hK K
       rotate_left;focus
        go_simp
        let⟨Wi,ei,ki,bi,zi⟩:=LR W8<|t k;rw[ei];have hT:=hT.grow bi;let⟨p0,p1,p2,p3,p4⟩:=hT.nx.cells;refine hK.out _ _ (hT.st bI aU aB) λhHeld=>?_;clear hK K;refine iX 1 rfl λK hK=>?_;go_simp
        refine hK.out _ _ (hT.st bI aU aB) λhHeld=>?_;clear hK K
       all_goals
        refine iX 8 rfl λK hK=>?_;refine eh rfl (.tmp 76) (.tmp 82) 27 rfl 3 i0 (.int .i64 0) 1 8 jr Lb Ng IT Ke rfl bF (NX+1) u I.length (FH I) cj hT.oi W8.heap.size 1 1 [.int .i64 (t k)] cj rfl (jD ki) Bw jl aa (by have:=hT.nx.lt;omega) ?_;intro u9 w9 WF YB;let⟨n9,U'⟩:=hT.i_ WF YB;obtain⟨B9,c9,rfl⟩:=Pr WF;let⟨p0,p1,p2,p3,p4⟩:=n9.cells;refine hK.out _ _ (SZ hT.below hT YB bI aU aB) λhHeld=>?_;clear hK K;refine iX 9 rfl λK hK=>?_;go_simp
        refine hK.out _ _ (SZ hT.below hT YB bI aU aB) λhHeld=>?_;clear hK K;refine iX 10 rfl λK hK=>?_;go_simp
        refine hK.out _ _ (U'.st bI aU aB) λhHeld=>?_;clear hK K;refine wpAnyH_done bD ?_ _;clear hHeld;revert U';generalize w9.setCell ⟨NX,3,none⟩ (.slice (some ⟨B9,0,none⟩) (I.length+1) c9)=WZ;intro U';go_wp2;go_roundw
        case rel=>exact⟨k+1,_,_,L++[m'],I++[t k],js,xs,by go_num,aa,by have:=HLN.out;simp;omega,cU,aa,ez.out.stay HTK.out Qt.out,U'⟩
        case measure=>exact cI
    .have dr:¬(k:Int)<n:=by omega
     have hlen:=HLN.out;obtain⟨av,cv,rfl,Kd,UX⟩:=yr hT.om;obtain⟨au,cu,rfl,hu1,hu2⟩:=yr hT.oi;have hsI:ja wr au L.length cu (λj=>I.getD j 0):=by
      rw[hlen];refine⟨hu1,λad had=>?_⟩;let⟨bb,e,hl⟩:=hu2 ad had;subst had e;refine⟨bb,rfl,hl,λi hi=>?_⟩;rw[Nat.zero_add,hT.oi.cellAt i aa];simp[FH,hi]
     have hsM:gw wr av L.length cv (jz L):=by
      refine⟨Kd,λad had=>?_⟩;let⟨bb,e,hl⟩:=UX ad had;subst had e;exact⟨bb,rfl,hl,dK hT.om⟩
     have HC:=fK (now+1) shift av L.length cv (jz L) au L.length cu (λj=>I.getD j 0) wr aa aa hsM hsI;rw[<-hlen]at p3;clear hlen;obtain⟨sa,sc,rfl,_⟩:=yr hT.os;have xr:=hT.rs;have hos:=hT.os;have uD:=hT.below;have hNN:=hT.hN;have IJ:=hT.nx.lt;clear hT hsM hsI;go_wp2_with(go_at_call 40;refine HC.mono ?_;clear HC;rintro e w3 ⟨⟨Bg,cq,Bv,cv',rfl,oQ,oV⟩,b3⟩;have xr:=xr.same<|b3.block _ xr.lt;let⟨r0,r1,r2,r3,r4⟩:=xr.cells)
     all_goals try omega
     let⟨W5,e5,k5,ix,rF,mo⟩:=bJ xr (uD.trans<|b3.mono uD.size) aa (now+1) shift (some ⟨Bg,0,none⟩) L.length cq (some ⟨Bv,0,none⟩) L.length cv';rw[e5];let⟨q0,q1,q2,q3,q4⟩:=k5.cells;refine bodyPost_ret (v:=.tuple #[.agg #[.int .i64<|now+1,shift,.slice Bg L.length cq,.slice Bv L.length cv'],.slice sa js sc,.int .i64 0]) (by simp[results,Tryz.f14,go_sem,q0,q1,q2,q3]) rfl ⟨⟨now+1,shift,_,L.length,cq,jz L,_,L.length,cv',(λj=>I.getD j 0),sa,js,sc,gone now t n,0,rfl,?_,.inr ⟨Bg,Bv,rfl,rfl,bY (az oQ λB hB=>mo B (by have:=(oQ.lt B hB).1;omega)) aa,(eN oV).2.2,lI.of<|bY (az oV λB hB=>mo B (by have:=(oV.lt B hB).1;omega)) aa⟩,?_,?_⟩,ix⟩;all_goals
      obtain rfl:k=n:=aa;obtain⟨rfl,rfl,rfl,rfl⟩:=ez.out
     .have:=wl.yes (shift:=shift) mG.out tC;simpa using this
     .rfl
     .exact bY (az hos λB hB=>(mo B (by have:=(hos.lt B hB).1;omega)).trans<|b3.block B (hos.lt B hB).2) aa
def nB.bq (h:nB w lo now shift ao n c f bo d t):Bq w now shift ao n c f bo n d t:=
 ⟨h.vD,h.vD,h.OC,h.VK,(λhh=>by rcases h.mem with⟨_,_,h0,_⟩|⟨b,b',rfl,rfl,_⟩;exact⟨h0,h0,h.now,h.sh⟩;rcases hh with hh|hh<;>cases hh),λi hi=>qn<|h.ok i hi⟩
def Bf.src {s2:Option Addr}{c2:Nat}{s3:Option Addr}{c3:Nat}(h:Bf w lo s2 l c2 F s3 o c3 T):gw w s2 l c2 F/\ja w s3 o c3 T/\(s2=none\/s3=none->l=0/\o=0):=by
 rcases h with⟨rfl,rfl,rfl,rfl,rfl,rfl⟩|⟨b,b',rfl,rfl,h1,h2,h3⟩
 .exact⟨⟨λ_=>⟨rfl,rfl⟩,(λ_ h=>nomatch h)⟩,⟨λ_=>⟨rfl,rfl⟩,(λ_ h=>nomatch h)⟩,λ_=>⟨rfl,rfl⟩⟩
 .exact⟨⟨(λh=>nomatch h),λad had=>by cases had;exact⟨b,rfl,(eN h1).2.1,dK h1⟩⟩,⟨(λh=>nomatch h),λad had=>by cases had;exact⟨b',rfl,h3.lt,h3.2.2⟩⟩,λh=>by rcases h with h|h<;>cases h⟩
def Vu {k:Int}(hk:eX f n name k)(h:kx f n t now k=.inr (p,T)):p<n/\(f p).aj=true/\t p=now/\dV f n t p=some T/\bX (f p).name name=true:=by
 unfold kx at h;split at h
 .cases h
 .rename_i h0;rcases hk with⟨rfl,_⟩|⟨j,rfl,hj,hs,_⟩
  .omega
  .simp only[Int.toNat_natCast]at h;split at h
   .cases h
   .rename_i hl;split at h
    .rename_i ht;split at h
     .cases h
     .rename_i T' hT;cases h;exact⟨hj,by simpa using hl,ht,hT,hs⟩
    .cases h
def N6 (h:dV f n t p=some T):t p+6<=(f p).late:=by
 by_cases hh:t p+6<=(f p).late
 .exact hh
 .rw[yi hh]at h;cases h
def zU.facts (h:zU f n t m now shift name a0 a1 l F o T cd)(hn:n<=6)(hm:m<=6)(hf:∀i,i<n->(f i).Fits):(0<=a0/\a0<=10000)/\(0<=a1/\a1<=6)/\l<=6/\o<=6/\(∀i,i<l->(F i).Fits)/\((∀i,i<n->(f i).ok=true)->∀i,i<l->(F i).ok=true)/\(m=n->o=l):=by
 cases h with
 |bad _=>exact⟨aa,aa,aa,aa,λi hi=>absurd hi<|ac9 _,λ_ i hi=>absurd hi<|ac9 _,λ_=>rfl⟩
 |no h hk hr=>exact⟨(iF h).1,(iF h).2.1,hn,hm,hf,λh=>h,λh=>h⟩
 |yes h hk hr=>
  let⟨hp,_,ht,hT,_⟩:=Vu hk hr;let⟨pd,_,hft⟩:=cK h;have ez:=λi hi=>rU pd hft hp (N6 hT) (i:=i) hi
  have:=fT f t;exact⟨(iF h).1,(iF h).2.1,ac8 (fT _ _ _ _) hn,ac8 (fT _ _ _ _) hn,λi hi=>qn<|ez i hi,λ_=>ez,λ_=>rfl⟩
def Q0 (hm:aE f n=true)(hf:fk f t n)(hk:k<n):(de (f k) (t k) now).ok=true:=by
 unfold de;split
 .exact RB hm hf hk
 .exact bg hm k hk
def yG {now:Int}{t:Nat->Int}:∀{k i:Nat},i∈stay now t k->i<k/\t i≠now
 |0,i,h=>by simp[stay]at h
 |k+1,i,h=>by
  simp only[stay]at h;split at h
  .have:=yG h;exact⟨aa,this.2⟩
  .rename_i hne;rcases adx.1 h with h|h
   .have:=yG h;exact⟨aa,this.2⟩
   .simp at h;subst h;exact⟨aa,hne⟩
def wl.facts (h:wl f n t m now shift a0 a1 l F o T GL cd)(hn:n<=6)(hm:m<=6)(hf:∀i,i<n->(f i).Fits):(0<=a0/\a0<=10000)/\(0<=a1/\a1<=6)/\l<=6/\o<=6/\(∀i,i<l->(F i).Fits)/\((∀i,i<n->(f i).ok=true)->∀i,i<l->(F i).ok=true)/\(m=n->o=l):=by
 cases h with
 |bad _=>exact⟨aa,aa,aa,aa,λi hi=>absurd hi<|ac9 _,λ_ i hi=>absurd hi<|ac9 _,λ_=>rfl⟩
 |last h hr=>exact⟨(iF h).1,(iF h).2.1,hn,hm,hf,λh=>h,λh=>h⟩
 |yes h hne=>
  let⟨pd,_,hft⟩:=cK h;have hr:=(iF h).1;have hs:=E3 now t n;have ez:∀i,i<(stay now t n).length->(jz ((stay now t n).map λi=>de (f i) (t i)<|now+1) i).ok=true:=λi hi=>by
   have:=Cy (l:=(stay now t n).map λi=>de (f i) (t i)<|now+1) (i:=i) (by simpa using hi);let⟨j,hj,e⟩:=List.mem_map.1 this;rw[<-e];exact Q0 pd hft (yG hj).1
  exact⟨aa,(iF h).2.1,aa,aa,λi hi=>qn<|ez i hi,λ_=>ez,λ_=>rfl⟩
def KG (now shift:Int)(ao:Option Addr)(n c:Nat)(f:Nat->Mv)(bo:Option Addr)(d:Nat)(t:Nat->Int)(name:ByteArray)(w:World)(hB:nB w lo now shift ao n c f bo d t):
  Calls Tz.prog 25 #[.agg #[now,shift,.slice ao n c,.slice bo n d],name] w λe w'=>Ev w e w'/\Below w w w':=by
 refine(Q4 now shift ao n c f bo n d t name w hB.bq).mono ?_;rintro e w' ⟨⟨a0,a1,s2,l,c2,F,s3,o,c3,T,cd,rfl,hr,hq⟩,hb⟩;let⟨h1,h2,h3,h4,h5,h6,h7⟩:=hr.facts hB.vD hB.vD hB.bq.fit;obtain rfl:=h7 rfl;exact⟨⟨a0,a1,s2,o,c2,F,s3,c3,T,cd,rfl,h1,h2,h3,h6 hB.ok,hq.imp (λ⟨a,b,c,d,e,f⟩=>⟨a,b,c,d,f⟩) id⟩,hb⟩
def Fe (now shift:Int)(ao:Option Addr)(n c:Nat)(f:Nat->Mv)(bo:Option Addr)(d:Nat)(t:Nat->Int)(w:World)(hB:nB w lo now shift ao n c f bo d t):
  Calls Tz.prog 14 #[.agg #[now,shift,.slice ao n c,.slice bo n d]] w λe w'=>EvT w e w'/\Below w w w':=by
 refine(VP now shift ao n c f bo n d t w hB.bq).mono ?_;rintro e w' ⟨⟨a0,a1,s2,l,c2,F,s3,o,c3,T,sa,js,sc,GL,cd,rfl,hr,hq,_⟩,hb⟩;let⟨h1,h2,h3,h4,h5,h6,h7⟩:=hr.facts hB.vD hB.vD hB.bq.fit;obtain rfl:=h7 rfl;exact⟨⟨a0,a1,s2,o,c2,F,s3,c3,T,sa,js,sc,cd,rfl,h1,h2,h3,h6 hB.ok,hq.imp (λ⟨a,b,c,d,e,f⟩=>⟨a,b,c,d,f⟩) id⟩,hb⟩
def VM (h:W.ownsRow N 31 6 (.slice s l c) l (gH f l)):gw W s l c f:=by
 let⟨a,c',e,h1,h2⟩:=yr h;cases e;exact⟨h1,λad had=>by obtain⟨b,rfl,hb⟩:=h2 ad had;subst had;exact⟨b,rfl,hb,QU h⟩⟩
def VL (h:W.ownsRow N 3 1 (.slice s l c) l xs)(hx:∀j,j<l->xs[j]?=some (.int .i64<|t j)):ja W s l c t:=by
 let⟨a,c',e,h1,h2⟩:=yr h;cases e;exact⟨h1,λad had=>by obtain⟨b,rfl,hb⟩:=h2 ad had;subst had;exact⟨b,rfl,hb,λi hi=>by rw[Nat.zero_add,h.cellAt i aa];exact hx i hi⟩⟩
def abU (W:World)(y:Value)(a0 a1:Int)(l:Nat)(F:Nat->Mv)(o:Nat)(T:Nat->Int):Prop:=∃s2 c2 s3 c3,y=.agg #[a0,a1,.slice s2 l c2,.slice s3 o c3]/\gw W s2 l c2 F/\ja W s3 o c3 T
section
variable {y:Value}
end
def OD:Tz.prog.stoodInHeld 31=false:=bD
def MB:Tz.prog.eqGuardType Tz.prog.depth 31=false:=bD
def LN (a:ByteArray):(a==a)=true:=by
 show(a.data==a.data)=true;simp
def T1 (a:ByteArray)(d:Nat)(w:World):(Op.equalIn (d+1) 9 a a).run Tz.prog w=.ok true w:=by
 rw[Op.equalIn,Sem.run_bind,run_underlying (Tz.aR Tryz.underlying9)];simp[go_sem];exact LN a
def TZ (a:Bool)(d:Nat)(w:World):(Op.equalIn (d+1) 4 a a).run Tz.prog w=.ok true w:=by
 rw[Op.equalIn,Sem.run_bind,run_underlying (Tz.aR Tryz.underlying4)];simp[go_sem]
def Td (a:Int)(d:Nat)(w:World):(Op.equalIn (d+1) 3 a a).run Tz.prog w=.ok true w:=by
 rw[Op.equalIn,Sem.run_bind,run_underlying (Tz.aR Tryz.underlying3)];simp[go_sem]
def XI (m:Mv)(d:Nat)(w:World):(Op.equalIn (d+1+1) 31 (.agg #[m.name,m.aj,m.ap,m.aW,m.late,m.prom])<|.agg #[m.name,m.aj,m.ap,m.aW,m.late,m.prom]).run Tz.prog w=.ok true w:=by
 rw[Op.equalIn,Sem.run_bind,run_underlying (Tz.aR Tryz.underlying31)];simp only[Result.andThen];simp[OD,part,go_sem,T1,TZ,Td]
def Mg (m:Mv)(w:World):(Op.equal 31 (.agg #[m.name,m.aj,m.ap,m.aW,m.late,m.prom])<|.agg #[m.name,m.aj,m.ap,m.aW,m.late,m.prom]).run Tz.prog w=.ok true w:=XI m 9998 w
def MA (m:Mv)(x y:Operand)(w:World):(eqGuard .neq 31 x y (.agg #[m.name,m.aj,m.ap,m.aW,m.late,m.prom])<|.agg #[m.name,m.aj,m.ap,m.aW,m.late,m.prom]).run Tz.prog w=.ok () w:=by
 simp[eqGuard,MB,go_sem]
def U6 {ev:Operand->Value}{o:Oper}{x y:Operand}{u:TypeId}(ho:o.op=.binOp .neq 31 x y u){m:Mv}(hx:ev x=(.agg #[m.name,m.aj,m.ap,m.aW,m.late,m.prom]))(hy:ev y=(.agg #[m.name,m.aj,m.ap,m.aW,m.late,m.prom]))(w:World):(execOp ev o).run Tz.prog w=.ok (.value false) w:=by
 unfold execOp;rw[ho];have e:binOp .neq 31 (.agg #[m.name,m.aj,m.ap,m.aW,m.late,m.prom]) (.agg #[m.name,m.aj,m.ap,m.aW,m.late,m.prom])=(do pure (.bool<|!(<-Op.equal 31 (.agg #[m.name,m.aj,m.ap,m.aW,m.late,m.prom]) (.agg #[m.name,m.aj,m.ap,m.aW,m.late,m.prom])))):=rfl;simp[hx,hy,MA,e,Mg,go_sem]
def Fg (ao:Option Addr)(cap:Nat)(bo:Option Addr)(cap' n:Nat)(f:Nat->Mv)(w:World)(hn:n<=6)(h1:gw w ao n cap f)(h2:gw w bo n cap' f):
  Calls Tz.prog 48 #[.slice ao n cap,.slice bo n cap'] w λe w'=>e=.returned true/\Below w w w':=by
 go_enter Tz.func48,Tryz.ntmps48
 go_wp2;go_loopw [5] (λi w'=>∃k:Nat,k<=n/\i=.int .i64 k/\Below w w w') (λi _=>n-(intOf i).toNat)
 case atStart=>exact⟨0,ada _,rfl,acW _ _⟩
 case round=>
  obtain⟨k,hk,rfl,hB⟩:=hrel;by_cases aB:k<n
  .obtain⟨b,rfl,bH,aq⟩:=h1.pos aa;obtain⟨b',rfl,bI,aU⟩:=h2.pos aa;let⟨c0,c1,c2,c3,c4,c5⟩:=aq.below hB bH k aB;let⟨d0,d1,d2,d3,d4,d5⟩:=aU.below hB bI k aB;simp only[Nat.zero_add]at c0 c1 c2 c3 c4 c5 d0 d1 d2 d3 d4 d5;have dr:(k:Int)<n:=aa;have hne:=aG wr;have x0:=λx:ai wr=>x.cell c0
   have x1:=λx:ai wr=>x.cell c1
   have x2:=λx:ai wr=>x.cell c2
   have x3:=λx:ai wr=>x.cell c3
   have x4:=λx:ai wr=>x.cell c4
   have x5:=λx:ai wr=>x.cell c5
   have y0:=λx:ai wr=>x.cell d0
   have y1:=λx:ai wr=>x.cell d1
   have y2:=λx:ai wr=>x.cell d2
   have y3:=λx:ai wr=>x.cell d3
   have y4:=λx:ai wr=>x.cell d4
   have y5:=λx:ai wr=>x.cell d5
   go_wp2;refine aS ?_;repeat(go_big_quiet_step (fail))
   refine BigFrame.wpQuiet_want rfl λK hK=>⟨.bool false,λw' _=>?_,hK _<|wpQuiet_nil<|cf ?_⟩
   .unfold Oper.quietAt;rw[U6 rfl (m:=f k) rfl rfl];exact⟨rfl,rfl⟩
   .intro w1 bP;go_wp2;go_roundw
    case rel=>exact⟨k+1,aa,by go_num,hB.trans<|bP.mono hB.size⟩
    case measure=>exact cI
  .go_wp2;go_ret;exact⟨rfl,hB⟩
def K2 (ao:Option Addr)(cap:Nat)(bo:Option Addr)(cap' n:Nat)(t:Nat->Int)(w:World)(hn:n<=6)(h1:ja w ao n cap t)(h2:ja w bo n cap' t):
  Calls Tz.prog 49 #[.slice ao n cap,.slice bo n cap'] w λe w'=>e=.returned true/\Below w w w':=by
 by_cases h0:n=0
 .subst h0;exact Hw ao bo cap cap' w
 .obtain⟨b,rfl,bH,aq⟩:=h1.pos aa;obtain⟨b',rfl,bI,aU⟩:=h2.pos aa;exact Hx b 0 cap b' 0 cap' n t w aa bH aq bI aU
def abY (w:World)(ao:Option Addr)(n:Nat)(g:Nat->ByteArray):Prop:=0<n->∃b,ao=some ⟨b,0,none⟩/\b<w.heap.size/\∀i,i<n->w.cell? ⟨b,i,none⟩=some (.string<|g i)
def gi (now shift:Int)(ao:Option Addr)(n c:Nat)(f:Nat->Mv)(bo:Option Addr)(m d:Nat)(t:Nat->Int)(ws:Option Addr)(c':Nat)(wx:Option Addr)(d':Nat)(w:World)(hn:n<=6)(hm:m<=6)(h1:gw w ao n c f)(h2:ja w bo m d t)(h3:gw w ws n c' f)(h4:ja w wx m d' t):
  Calls Tz.prog 15 #[.agg #[now,shift,.slice ao n c,.slice bo m d],.agg #[now,shift,.slice ws n c',.slice wx m d']] w λe w'=>e=.returned true/\Below w w w':=by
 obtain⟨W1,e1,k1,b1,-⟩:=cr w now shift ao n c bo m d;obtain⟨W2,e2,k2,b2,-⟩:=cr W1 now shift ws n c' wx m d';have bW:=b1.trans<|b2.mono b1.size;have p1:=k1.same<|b2.block _ k1.lt;have yy:=p1.cells;have xx:=k2.cells;have H1:=Fg ao c ws c' n f W2 hn (h1.below bW)<|h3.below bW;have H2:=λW (hW:Below w w W)=>K2 bo d wx d' m t W hm (h2.below hW)<|h4.below hW
 go_enter Tz.func15,Tryz.ntmps15
 go_wp2_with(first
  |(go_at_call 48;refine H1.mono ?_;clear H1;rintro e w3 ⟨rfl,b3⟩;have yy:=(p1.same<|b3.block _ p1.lt).cells;have xx:=(k2.same<|b3.block _ k2.lt).cells;have B3:=bW.trans<|b3.mono bW.size)
  |(go_at_call 49;refine(H2 _ B3).mono ?_;clear H2;rintro e w4 ⟨rfl,b4⟩))
 go_ret;exact⟨rfl,B3.trans<|b4.mono B3.size⟩
def nG (F:Nat->Mv)(l:Nat)(T:Nat->Int)(name:ByteArray)(k:Int):Prop:=k=-1/\(∀i,i<l->bX (F i).name name=false)\/∃j,j<l/\k=T j/\bX (F j).name name=true/\∀i,i<j->bX (F i).name name=false
def A9 (now shift:Int)(ao:Option Addr)(n c:Nat)(f:Nat->Mv)(bo:Option Addr)(d:Nat)(t:Nat->Int)(name:ByteArray)(w:World)(hn:n<=6)(h1:gw w ao n c f)(h2:ja w bo n d t):
  Calls Tz.prog 27 #[.agg #[now,shift,.slice ao n c,.slice bo n d],name] w λe w'=>(∃k,e=.returned (.int .i64 k)/\nG f n t name k)/\Below w w w':=by
 obtain⟨W1,e1,k1,b1,-⟩:=cr w now shift ao n c bo n d;go_enter Tz.func27,Tryz.ntmps27
 go_wp2;go_loopw [5] (λx W=>∃k:Nat,x=.int .i64 k/\k<=n/\Below W1 W1 W/\∀i,i<k->bX (f i).name name=false) (λx _=>n-(intOf x).toNat)
 case atStart=>exact⟨0,rfl,ada _,acW _ _,λi hi=>absurd hi<|ac9 _⟩
 case round=>
  obtain⟨k,rfl,hk,hb,cE⟩:=hrel;have uD:=b1.trans<|hb.mono b1.size;have yy:=(k1.same<|hb.block _ k1.lt).cells;by_cases aB:k<n
  .have dr:(k:Int)<n:=by omega
   obtain⟨b,rfl,bH,aq⟩:=h1.pos aa;obtain⟨b',rfl,bI,aU⟩:=h2.pos aa;have c0:=(aq.below uD bH k aB).c0;have d0:=aU.below uD bI k aB;simp only[Nat.zero_add]at c0 d0;cases he:bX (f k).name name with
   |true=>
    have Qo:((f k).name.toList==name.toList)=true:=he;go_wp2;all_goals try omega
    go_ret;exact⟨⟨_,rfl,.inr ⟨k,aB,rfl,he,cE⟩⟩,uD⟩
   |false=>
    have Qo:((f k).name.toList==name.toList)=false:=he;go_wp2;all_goals try omega
    go_roundw
    case rel=>exact⟨k+1,by go_num,aa,hb,λi hi=>by
     by_cases e:i=k
     .subst e;exact he
     .exact cE i aa⟩
    case measure=>exact cI
  .have dr:¬(k:Int)<n:=by omega
   go_wp2;all_goals try omega
   go_ret;exact⟨⟨-1,rfl,.inl ⟨rfl,λi hi=>cE i aa⟩⟩,uD⟩
def us (now shift:Int)(ao:Option Addr)(n c:Nat)(f:Nat->Mv)(bo:Option Addr)(m d:Nat)(rQ ie:Int)(ws:Option Addr)(l c':Nat)(F:Nat->Mv)(wx:Option Addr)(d':Nat)(T:Nat->Int)(name:ByteArray)(w:World)(hn:n<=6)(hl:l<=6)(h1:gw w ao n c f)(h3:gw w ws l c' F)(h4:ja w wx l d' T)
  (hP:∀i,i<n->∀k,nG F l T (f i).name k->bX (f i).name name=false->0<=(f i).prom->0<=k->k=(f i).prom):
  Calls Tz.prog 21 #[.agg #[now,shift,.slice ao n c,.slice bo m d],.agg #[rQ,ie,.slice ws l c',.slice wx l d'],name] w λe w'=>e=.returned true/\Below w w w':=by
 obtain⟨W1,e1,k1,b1,-⟩:=cr w now shift ao n c bo m d;obtain⟨W2,e2,k2,b2,-⟩:=cr W1 rQ ie ws l c' wx l d';have bW:=b1.trans<|b2.mono b1.size;have p1:=k1.same<|b2.block _ k1.lt;replace hP:Hid _:=hP;go_enter Tz.func21,Tryz.ntmps21
 go_wp2;go_loopw [7] (λx W=>∃k:Nat,x=.int .i64 k/\k<=n/\Below W2 W2 W) (λx _=>n-(intOf x).toNat)
 case atStart=>exact⟨0,rfl,ada _,acW _ _⟩
 case round=>
  obtain⟨k,rfl,hk,hb⟩:=hrel;have uD:=bW.trans<|hb.mono bW.size;have q1:=p1.same<|hb.block _ p1.lt;have q2:=k2.same<|hb.block _ k2.lt;let⟨y0,y1,y2,y3,y4⟩:=q1.cells;by_cases aB:k<n
  .have dr:(k:Int)<n:=by omega
   obtain⟨b,rfl,bH,aq⟩:=h1.pos aa;let⟨c0,c1,c2,c3,c4,c5⟩:=aq.below uD bH k aB;simp only[Nat.zero_add]at c0 c1 c2 c3 c4 c5;let⟨Wm,em,hM,bm,zm⟩:=nJ wr<|f k;clear zm;let⟨m0,m1,m2,m3,m4,m5⟩:=dN hM;let⟨x0,x1,x2,x3,x4⟩:=(q2.same<|bm.block _ q2.lt).cells;have HT:=A9 rQ ie ws l c' F wx d' T (f k).name Wm hl (h3.below<|uD.trans<|bm.mono uD.size)<|h4.below<|uD.trans<|bm.mono uD.size;have lM:=(ac7.1 hM).1;have gD:∀w3,Below Wm Wm w3->(∃Zx:Nat,Value.int .i64 ((k:Int)+1)=.int .i64 (Zx:Int)/\Zx<=n/\Below W2 W2 w3)/\n-(intOf<|.int .i64<|(k:Int)+1).toNat<n-(intOf<|.int .i64 (k:Int)).toNat:=λw3 b3=>⟨⟨k+1,by go_num,aa,(hb.trans<|bm.mono hb.size).trans<|b3.mono<|ac8 hb.size bm.size⟩,cI⟩
   replace gD:Hid _:=gD;cases he:bX (f k).name name;all_goals
    replace he:((f k).name.toList==name.toList)=_:=he;go_wp2_with(go_at_call 27;refine HT.mono ?_;clear HT;rintro e w3 ⟨⟨kk,rfl,zd⟩,b3⟩;have zd:Hid (bX (f k).name name=false->0<=(f k).prom->0<=kk->kk=(f k).prom):=hP.out k aB kk zd;let⟨m0,m1,m2,m3,m4,m5⟩:=dN<|hM.keep<|b3.block _ lM)
    all_goals first
     |exact gD.out w3 b3
     |(exfalso;omega)
     |(exfalso;have e:=zd.out he aa aa;rename_i h;simp[e]at h)
  .have dr:¬(k:Int)<n:=by omega
   go_wp2;all_goals try omega
   go_ret;exact⟨rfl,uD⟩
def zJ (now shift:Int)(ao:Option Addr)(n c:Nat)(f:Nat->Mv)(bo:Option Addr)(m d:Nat)(rQ ie:Int)(ws:Option Addr)(l c':Nat)(F:Nat->Mv)(wx:Option Addr)(d':Nat)(T:Nat->Int)(w:World)(hn:n<=6)(hl:l<=6)(h1:gw w ao n c f)(h3:gw w ws l c' F)(h4:ja w wx l d' T)
  (hP:∀i,i<n->∀k,nG F l T (f i).name k->0<=(f i).prom->0<=k->k=(f i).prom):
  Calls Tz.prog 19 #[.agg #[now,shift,.slice ao n c,.slice bo m d],.agg #[rQ,ie,.slice ws l c',.slice wx l d']] w λe w'=>e=.returned true/\Below w w w':=by
 obtain⟨W1,e1,k1,b1,-⟩:=cr w now shift ao n c bo m d;obtain⟨W2,e2,k2,b2,-⟩:=cr W1 rQ ie ws l c' wx l d';have bW:=b1.trans<|b2.mono b1.size;have yy:=(k1.same<|b2.block _ k1.lt).cells;have xx:=k2.cells;have H1:=us now shift ao n c f bo m d rQ ie ws l c' F wx d' T ⟨#[]⟩ W2 hn hl (h1.below bW) (h3.below bW) (h4.below bW) λi hi k hk _=>hP i hi k hk;clear hP;go_enter Tz.func19,Tryz.ntmps19
 go_wp2_with(go_at_call 21;refine H1.mono ?_;clear H1;rintro e w3 ⟨rfl,b3⟩)
 go_ret;exact⟨rfl,bW.trans<|b3.mono bW.size⟩
def eX.one {k k':Int}(h:eX f n name k)(h':eX f n name k'):k=k':=by
 rcases h with⟨rfl,h⟩|⟨j,rfl,hj,hs,hf⟩<;>rcases h' with⟨rfl,h'⟩|⟨j',rfl,hj',mJ,J7⟩
 .rfl
 .rw[h j' hj']at mJ;cases mJ
 .rw[h' j hj]at hs;cases hs
 .rcases Nat.lt_trichotomy j j' with h|h|h
  .rw[J7 j h]at hs;cases hs
  .rw[h]
  .rw[hf j' h]at mJ;cases mJ
def ER (hm:aE f n=true){j:Nat}(hi:i<n)(hj:j<n)(h:bX (f i).name (f j).name=true):i=j:=by
 rcases Nat.lt_trichotomy i j with hl|hl|hl
 .have:=jS hm j hj i hl;rw[(qs h).1,pN]at this;cases this
 .exact hl
 .have:=jS hm i hi j hl;rw[(qs h).2,pN]at this;cases this
def KX {m:Mv}{t:Int}:m.fG t=true<->m.aW<=t/\t<=m.late/\(m.prom=-1\/m.prom=t):=by
 unfold Mv.fG qW;simp only[Bool.and_eq_true,Bool.or_eq_true,beq_iff_eq,ff,and_assoc]
def QZ (hf:fk f t n)(hi:i<n)(h0:0<=(f i).prom)(now:Int):(de (f i) (t i) now).prom=(f i).prom/\(f i).prom=t i:=by
 have:=(KX.1<|hf.1 i hi).2.2;have e:(f i).prom=t i:=aa;unfold de;split
 .exact⟨e.symm,e⟩
 .exact⟨rfl,e⟩
def tkF (f:Nat->Mv)(t:Nat->Int)(now:Int)(n:Nat):Nat->Mv:=jz<|(stay now t n).map λi=>de (f i) (t i)<|now+1
def tkT (t:Nat->Int)(now:Int)(n:Nat):Nat->Int:=λj=>((stay now t n).map t).getD j 0
