import Derived.Test.YtlmcblcijndipaaGreatDoorj44
set_option linter.unusedVariables false
set_option linter.unusedSectionVars false
set_option maxHeartbeats 8000000
set_option maxRecDepth 10000
namespace Go.Proofs.YtlmcblcijndipaaGreatDoor
section
open Conc RowKit
theorem IP (shift:Int)(v u:Value)(w:World):Calls Tz.prog 291 #[.agg #[],.agg #[.int .i64 10000,shift,v,u]] w λe w'=>e=.returned (.tuple #[.agg #[.int .i64 0,.int .i64 0,.slice none 0 0,.slice none 0 0],.iface 131 (.agg #[.int .i64 2])])/\Below w w w':=by
 obtain⟨W1,e1,k1,b1⟩:=N8 w #[] 71;obtain⟨W2,e2,k2,b2⟩:=N8 W1 #[.int .i64 10000,.int .i64 shift,v,u] 29;obtain⟨W3,e3,k3,b3,-⟩:=cI W2 0 0 none 0 0 none 0 0;have bW:=(b1.trans (b2.mono b1.size)).trans (b3.mono (acn b1.size b2.size));have p2:=(b3.block _ (acm.1 k2).1).trans k2;obtain⟨y0,-⟩:=(show am W3 _ _ _ _ _ from p2).cells;obtain⟨x0,x1,x2,x3,x4⟩:=k3.cells;obtain⟨W8,e8,k8,b8,z8,o8⟩:=bT k3 bW (acn b1.size b2.size) 0 0 none 0 0 none 0 0;replace z8:Hid _:=z8;obtain⟨q0,q1,q2,q3,q4⟩:=k8.cells;go_enter Tz.func291,Tryz.ntmps291
 go_wp2;exact bodyPost_ret (v:=.tuple #[.agg #[.int .i64 0,.int .i64 0,.slice none 0 0,.slice none 0 0],.iface 131 (.agg #[.int .i64 2])]) (by simp[results,Tryz.results291,go_sem,q0,q1,q2,q3]) rfl ⟨rfl,b8⟩
theorem IQ (now shift:Int)(ao:Option Addr)(ca:Nat)(bo:Option Addr)(da:Nat)(w:World)(h0:0<=now)(h1:now<10000):Calls Tz.prog 291 #[.agg #[],.agg #[now,shift,.slice ao 0 ca,.slice bo 0 da]] w λe w'=>e=.returned (.tuple #[.agg #[.int .i64 (now+1),shift,(),()],.nilIface])/\Below w w w':=by
 have hq:(now==10000)=false:=cC;have Ao:IntKind.i64.wrap (now+1)=now+1:=gH;obtain⟨W1,e1,k1,b1⟩:=N8 w #[] 71;obtain⟨W2,e2,k2,b2,-⟩:=cI W1 now shift ao 0 ca bo 0 da;obtain⟨W3,e3,k3,b3,-⟩:=cI W2 0 0 none 0 0 none 0 0;obtain⟨W4,e4,k4,b4,-⟩:=cI W3 (now+1) shift none 0 0 none 0 0;have B3:=(b1.trans (b2.mono b1.size)).trans (b3.mono (acn b1.size b2.size));have bW:=B3.trans (b4.mono B3.size);have p2:=k2.same (b3.block _ k2.lt);obtain⟨y0,y1,y2,y3,y4⟩:=p2.cells;have t2:∀o,(W3.alloc o).cell? ⟨W1.heap.size,2,none⟩=some (.slice ao 0 ca):=λo=>(p2.same (acb W3 o _ p2.lt)).cells.2.2.1
 have p3:=k3.same (b4.block _ k3.lt);have YJ:Hid _:=e4;clear e4;go_enter Tz.func291,Tryz.ntmps291
 go_wp2;rw[YJ.out];go_loopw [24] (λi w'=>i=.int .i64 0/\w'=W4) (λ_ _=>0)
 case atStart=>exact⟨rfl,rfl⟩
 case round=>
  obtain⟨rfl,rfl⟩:=hrel;obtain⟨x0,x1,x2,x3,x4⟩:=p3.cells;obtain⟨u0,u1,u2,u3,u4⟩:=k4.cells;obtain⟨W8,e8,k8,b8,z8,o8⟩:=bT p3 bW (acn b1.size b2.size) (now+1) shift none 0 0 none 0 0;replace z8:Hid _:=z8;obtain⟨q0,q1,q2,q3,q4⟩:=k8.cells;go_wp2;exact bodyPost_ret (v:=.tuple #[.agg #[.int .i64 (now+1),shift,(),()],.nilIface]) (by simp[results,Tryz.results291,go_sem,q0,q1,q2,q3]) rfl ⟨rfl,b8⟩
theorem fJ {now shift:Int}{f:Nat->Mv}{n:Nat}{t:Nat->Int}{m:Nat}(h:bp now shift f n t m=true):(0<=now/\now<=10000)/\(0<=shift/\shift<=6)/\mJ now f t n=true:=by
 unfold bp at h;simp only[Bool.and_eq_true]at h;exact⟨fL.1 h.1.1.1,fL.1 h.1.1.2,h.2⟩
def Vh (now shift:Int)(f:Nat->Mv)(n:Nat)(t:Nat->Int)(N:Nat)(y e:Value)(W:World):Prop:=now=10000/\y=.agg #[.int .i64 0,.int .i64 0,.slice none 0 0,.slice none 0 0]/\e=.iface 131 (.agg #[.int .i64 2])\/now≠10000/\e=.nilIface/\∃v u,y=N6 (now+1) shift v u/\W.ownsRow N 31 6 v (stay now t n).length (qy f t now (stay now t n))/\W.ownsRow N 3 1 u (stay now t n).length (qz t (stay now t n))
theorem mpt (now shift:Int)(f:Nat->Mv)(n:Nat)(t:Nat->Int):P9 (Vh now shift f n t) where
 is:=λh=>by
  rcases h with⟨_,h1,h2⟩|⟨_,h,v,u,h1,h2,h3⟩
  .exact .inr ⟨2,ab,h2,h1⟩
  .obtain⟨a,cc,rfl⟩:=je h2;obtain⟨a',c',rfl⟩:=je h3;exact .inl ⟨h,_,_,_,_,_,_,_,_,h1⟩
 to:=λh hN e=>by
  rcases h with h|⟨h0,h,v,u,h1,h2,h3⟩
  .exact .inl h
  .exact .inr ⟨h0,h,v,u,h1,bG (ay h2 λB hB=>e B (h2.lt B hB).1 (h2.lt B hB).2) hN,bG (ay h3 λB hB=>e B (h3.lt B hB).1 (h3.lt B hB).2) hN⟩
section
variable {w:World}{now shift:Int}{ao:Option Addr}{n cp:Nat}{f:Nat->Mv}{bo:Option Addr}{m dp:Nat}{t:Nat->Int}
theorem Bq.XJ (h:Bq w now shift ao n cp f bo m dp t)(hb:bp now shift f n t m=true):Calls Tz.prog 291 #[.agg #[],.agg #[.int .i64 now,.int .i64 shift,.slice ao n cp,.slice bo m dp]] w λe w'=>(∃y x,e=.returned (.tuple #[y,x])/\Vh now shift f n t w.heap.size y x w')/\Below w w w':=by
 obtain⟨hm,uR,hf⟩:=cE hb;obtain⟨vb,-⟩:=fJ hb;subst uR;have h6:=h.n6;by_cases h1:now=10000
 .subst h1;refine(IP shift _ _ w).mono ?_;rintro e w' ⟨rfl,hb⟩;exact⟨⟨_,_,rfl,.inl ⟨rfl,rfl,rfl⟩⟩,hb⟩
 .refine h.cases (λe1 e2 r1 r2=>?_) (λb b' e1 e2 hb hr cZ eM=>?_)
  .subst e1;refine(IQ now shift ao cp bo dp w vb.1 ab).mono ?_;rintro e w' ⟨rfl,hb⟩;exact⟨⟨_,_,rfl,.inr ⟨h1,rfl,_,_,rfl,⟨rfl,.inl ⟨rfl,rfl⟩⟩,⟨rfl,.inl ⟨rfl,rfl⟩⟩⟩⟩,hb⟩
  .subst e1 e2;refine(LO now shift b 0 m cp f b' 0 dp t w h6 vb.1 ab hb hr cZ eM).mono ?_;rintro e w' ⟨⟨v,u,rfl,o1,o2⟩,hb⟩;exact⟨⟨_,_,rfl,.inr ⟨h1,rfl,v,u,rfl,o1,o2⟩⟩,hb⟩
end
structure ZS (ok:Ctx):Prop where
 sr:ok.bI 20=true
 st:ok.bI 13=true
 ch:ok.bI 38=true
 tr:ok.bI 67=true
 mr:ok.bI 292=true
 mt:ok.bI 291=true
 su:ok.bI 18=true
 ro:ok.bI 52=true
 pl:ok.bI 80=true
 sb:ok.bI 111=true
 bt:ok.bI 139=false
 co:ok.bI 68=false
def ZV (f:Nat->Mv)(n:Nat)(t:Nat->Int)(now:Int)(N:Nat)(s:Option Addr)(l k:Nat)(W:World):Prop:=l=(gone now t n).length/\W.ownsRow N 9 1 (.slice s l k) l (jM f (gone now t n))
section
variable [Gl]{ok:Ctx}{c r0:Frame}{cs:List Frame}{V:World}{Q:Value->World->Prop}{now shift:Int}{ao:Option Addr}{n cp:Nat}{f:Nat->Mv}{bo:Option Addr}{m dp:Nat}{t:Nat->Int}
theorem JD {name:ByteArray}(E:eI Tz.prog ok c dt)(I:ZS ok)(jR:ok.bI r0.fn=true)(hB:Bq V now shift ao n cp f bo m dp t)
  (bh:∀y cd W',Bl V V W'->Hr (Um now shift f n t name) (Uj now shift f n t m) (bp now shift f n t m) V.heap.size y cd W'->aF Tz.prog ok c dt Q ⟨r0.finish (.tuple #[y,.int .i64 cd]),cs,W'⟩):
  aF Tz.prog ok c dt Q ⟨Frame.enter Tz.prog 20 #[.agg #[.int .i64 now,.int .i64 shift,.slice ao n cp,.slice bo m dp],name] .normal,r0::cs,V⟩:=
 JE E I.sr I.ch I.tr I.co jR I.mr (λW hW=>(hB.bl hW).ib) (mpr _ _ _ _ _ _) (λh W r cs hr hW hk=>Nb E I.mr I.ro I.pl I.sb I.bt hr (hB.bl hW) h hk) (cpp _ _ _ _ _ _) (λW hW=>(vN now shift ao n cp f bo m dp t W hB.n6 hB.m6 (hB.bl hW).sm (hB.bl hW).si (λh=>⟨(hB.two h).1,(hB.two h).2.1⟩)).mono λe w' ⟨⟨v,u,h1,h2,h3⟩,hb⟩=>⟨⟨_,h1,v,u,rfl,h2,h3⟩,hb⟩) bh
theorem Nd (E:eI Tz.prog ok c dt)(I:ZS ok)(jR:ok.bI r0.fn=true)(hB:Bq V now shift ao n cp f bo m dp t)
  (bh:∀y s l k cd W',Bl V V W'->Hr (Vh now shift f n t) (Uj now shift f n t m) (bp now shift f n t m) V.heap.size y cd W'->(cd=0/\ZV f n t now V.heap.size s l k W'\/cd≠0/\s=none/\l=0/\k=0)->aF Tz.prog ok c dt Q ⟨r0.finish (.tuple #[y,.slice s l k,.int .i64 cd]),cs,W'⟩):
  aF Tz.prog ok c dt Q ⟨Frame.enter Tz.prog 13 #[.agg #[.int .i64 now,.int .i64 shift,.slice ao n cp,.slice bo m dp]] .normal,r0::cs,V⟩:=by
 refine Nf (NP:=ZV f n t now) E I.st I.ch I.tr I.co jR I.mt (λW hW=>(hB.bl hW).ib) (mpt _ _ _ _ _) (λh W r cs hr hW hk=>?_) (cpp _ _ _ _ _ _) (λW hW=>(vN now shift ao n cp f bo m dp t W hB.n6 hB.m6 (hB.bl hW).sm (hB.bl hW).si (λh=>⟨(hB.two h).1,(hB.two h).2.1⟩)).mono λe w' ⟨⟨v,u,h1,h2,h3⟩,hb⟩=>⟨⟨_,h1,v,u,rfl,h2,h3⟩,hb⟩) (λh hN e=>⟨h.1,bG (ay h.2 λB hB=>e B (h.2.lt B hB).1 (h.2.lt B hB).2) hN⟩) (λh W hW=>?_) bh
 .refine aF.calls E hr (R:=λv w'=>(∃y x,v=.tuple #[y,x]/\Vh now shift f n t W.heap.size y x w')/\Bl W W w') (λτ d=>(((hB.bl hW).bl (W:=re W τ d) ⟨ack _,λ_ _=>rfl⟩).XJ h).mono ?_) ?_
  .rintro e w' ⟨⟨y,x,rfl,hy⟩,hb⟩;exact⟨_,rfl,⟨y,x,rfl,hy⟩,Bl.pu hb⟩
  .rintro _ w' ⟨⟨y,x,rfl,hy⟩,hb⟩;exact hk y x w' hb hy
 .obtain⟨-,uR,-⟩:=cE h;subst uR;refine(CG now shift now ao m cp f bo dp t W hB.n6 (hB.bl hW).sm (hB.bl hW).si (λh=>(hB.two h).1)).mono ?_;rintro e w' ⟨⟨s,rfl,ho⟩,hb⟩;obtain⟨a,k,rfl⟩:=je ho;exact⟨⟨a,_,k,rfl,rfl,ho⟩,hb⟩
end
end
section
open RowKit
inductive jL (f:Nat->Mv)(n:Nat)(t:Nat->Int)(m:Nat)(now shift:Int)(name:ByteArray):Int->Int->Nat->(Nat->Mv)->Nat->(Nat->Int)->Int->Prop
 |bad:bp now shift f n t m=false->jL f n t m now shift name 0 0 0 f 0 t 1
 |no {k cd:Int}:bp now shift f n t m=true->ij f n name k->fS f n t now k=.inl cd->jL f n t m now shift name now shift n f m t cd
 |yes {k:Int} {p:Nat} {T:Nat->Int}:bp now shift f n t m=true->ij f n name k->fS f n t now k=.inr (p,T)->jL f n t m now shift name now shift (al f t p n).length (iy (al f t p n)) (al f t p n).length T 0
def zI (w':World)(lo:Nat)(s2:Option Addr)(l c2:Nat)(F:Nat->Mv)(s3:Option Addr)(o c3:Nat)(T:Nat->Int):Prop:=(s2=none/\s3=none/\l=0/\c2=0/\o=0/\c3=0)\/∃b b',s2=some ⟨b,0,none⟩/\s3=some ⟨b',0,none⟩/\w'.ownsRow lo 31 6 (.slice (some ⟨b,0,none⟩) l c2) l (cG F l)/\o<=c3/\ky w' lo b' o T
theorem Ad.out {w:World}{now shift:Int}{ao:Option Addr}{n c:Nat}{bo:Option Addr}{d R X Bx cx Bi ci:Nat}{f:Nat->Mv}{t:Nat->Int}{W W':World}(h:Ad w now shift ao n c bo d R X Bx cx Bi ci f t W)(e:∀k,k≠R->W'.heap[k]?=W.heap[k]?):zI W' w.heap.size Bx n cx f Bi n ci t:=by
 have h1:=h.hR;exact .inr ⟨Bx,Bi,rfl,rfl,bG (ay h.om (λB hB=>e B (by have:=(h.om.lt B hB).1;omega))) ab,(ee h.oi).2.2,ky.of (bG (ay h.oi (λB hB=>e B (by have:=(h.oi.lt B hB).1;omega))) ab)⟩
theorem He (now shift:Int)(ao:Option Addr)(n c:Nat)(f:Nat->Mv)(bo:Option Addr)(m d:Nat)(t:Nat->Int)(name:ByteArray)(w:World)(hB:Bq w now shift ao n c f bo m d t):
  Calls Tz.prog 25 #[.agg #[now,shift,.slice ao n c,.slice bo m d],name] w λe w'=>(∃a0 a1 s2 l c2 F s3 o c3 T cd,e=.returned (.tuple #[.agg #[.int .i64 a0,.int .i64 a1,.slice s2 l c2,.slice s3 o c3],.int .i64 cd])/\jL f n t m now shift name a0 a1 l F o T cd/\zI w' w.heap.size s2 l c2 F s3 o c3 T)/\Below w w w':=by
 obtain⟨W0,iP⟩:∃W,W=(w.alloc (.cells #[.int .i64 now,.int .i64 shift,.slice ao n c,.slice bo m d] 29)).alloc (.cells #[.int .i64 0,.int .i64 0,.slice none 0 0,.slice none 0 0] 29):=⟨_,rfl⟩;have b0:Below w w W0:=by rw[iP];exact((aca _ w).alloc (ack _) _).alloc aH _
 have tm:am W0 w.heap.size now shift (.slice ao n c) (.slice bo m d):=by rw[iP];exact(acb _ _ _ aH).trans (heap_alloc_new _ _)
 have qs:am W0 (w.heap.size+1) 0 0 () ():=by rw[iP];exact di _ _ _
 have gI:W0.heap.size=w.heap.size+2:=by rw[iP];simp
 have HB:=(hB.bl (Bl.of b0)).sk;have h6:=hB.n6;cases hb:bp now shift f n t m with
 |false=>
  rw[hb,iP]at HB;go_enter Tz.func25,Tryz.ntmps25
  go_wp2_with(go_at_call 39;refine HB.mono ?_;clear HB;rintro e w1 ⟨rfl,b1⟩;rw[<-iP]at b1;have r1:=qs.same (b1.block _ qs.lt);obtain⟨y0,y1,y2,y3,y4⟩:=r1.cells)
  obtain⟨W5,e5,k5,gi,qV,lJ⟩:=bT r1 (b0.trans (b1.mono b0.size)) ab 0 0 none 0 0 none 0 0;rw[e5];obtain⟨q0,q1,q2,q3,q4⟩:=k5.cells;refine bodyPost_ret (v:=.tuple #[.agg #[.int .i64 0,.int .i64 0,(),()],.int .i64 1]) ?_ rfl ⟨⟨0,0,none,0,0,_,none,0,0,_,1,rfl,.bad hb,.inl ⟨rfl,rfl,rfl,rfl,rfl,rfl⟩⟩,gi⟩;simp[results,Tryz.f25,go_sem,q0,q1,q2,q3]
 |true=>
  obtain⟨hm,uR,jQ⟩:=cE hb;obtain rfl:n=m:=uR.symm;obtain⟨vb,jh,-⟩:=fJ hb;have np:Hid _:=hb;rw[hb,iP]at HB;have Gn:=λW (hW:Below w w W)=>fx now shift ao n c f bo n d t W ab ab (hB.bl (Bl.of hW)).sm (hB.bl (Bl.of hW)).si
  have HA:=λW (hW:Below w w W)=>wu now shift ao n c f bo n d name W h6 (hB.bl (Bl.of hW)).sm
  have hgo:∀(P:Prop),(∀kc:Int,kc=3->(∀k,hZ f n name k->k=-1)->Hid (fS f n t now (-1)=.inl kc)->(∀W,Below w.heap.size w W->True)->P)->(∀(kc:Int) (J b:Nat),kc=3->J<n->(∀k,hZ f n name k->k=J)->Hid (fS f n t now J=.inl kc)->ao=some ⟨b,0,none⟩->(∀W,Below w.heap.size w W->W.cell? ⟨b,J*6+1,none⟩=some (.bool false))->P)->(∀(J b b':Nat),J<n->(∀k,hZ f n name k->k=J)->Hid ((f J).an=true)->ao=some ⟨b,0,none⟩->bo=some ⟨b',0,none⟩->(∀W,Below w.heap.size w W->W.cell? ⟨b,J*6+1,none⟩=some (.bool true))->(∀W,Below w.heap.size w W->W.cell? ⟨b',J,none⟩=some (.int .i64 (t J)))->(∀W,Below w.heap.size w W->Calls Tz.prog 56 #[.agg #[.int .i64 now,.int .i64 shift,.slice (some ⟨b,0,none⟩) n c,.slice (some ⟨b',0,none⟩) n d],.int .i64 J] W λe w'=>pJ f n t J shift (dc f n t J) W e w'/\Below W.heap.size W w')->P)->P:=λP a1 a2 a3=>by
   rcases Ki f n name with⟨J,hJ,ES,Uu⟩|ES
   .obtain⟨b,e1,bw,aq⟩:=hB.sm.pos ab;obtain⟨b',e2,bc,aK⟩:=hB.si.pos ab;have HL:∀W,Below w w W->W.cell? ⟨b,J*6+1,none⟩=some (.bool (f J).an):=λW hW=>by
     have:=(aq.below hW bw J hJ).c1;rw[Nat.zero_add]at this;exact this
    cases hl:(f J).an with
    |false=>rw[hl]at HL;exact a2 3 J b rfl hJ (λk hk=>hk.yes hJ ES Uu) (by show fS f n t now J=_;simp[fS,hl]) e1 HL
    |true=>
     rw[hl]at HL;refine a3 J b b' hJ (λk hk=>hk.yes hJ ES Uu) hl e1 e2 HL (λW hW=>?_) (λW hW=>sB b n c b' d J f t now shift W hm jQ hJ (acl bw hW.size) (aq.below hW bw) (acl bc hW.size) (aK.below hW bc));have:=aK.below hW bc J hJ;rw[Nat.zero_add]at this;exact this
   .exact a1 3 rfl (λk hk=>hk.no ES) (by show fS f n t now (-1)=_;simp[fS]) (λ_ _=>trivial)
  clear hb;refine hgo _ (λkc hc AT Tf HL=>?_) (λkc J b hc hJ AT Tf e1 HL=>?_) (λJ b b' hJ AT hl e1 e2 HL HT HR=>?_);all_goals clear hgo
  rotate_left;focus
   subst e1
  rotate_left;focus
   subst e1 e2
  all_goals
   go_enter Tz.func25,Tryz.ntmps25
   go_wp2_with(first
    |(go_at_call 39;refine HB.mono ?_;clear HB;rintro e w1 ⟨rfl,b1⟩;rw[<-iP]at b1;have B1:=b0.trans (b1.mono b0.size);have bk:=tm.same (b1.block _ tm.lt);have rs:=qs.same (b1.block _ qs.lt);obtain⟨y0,y1,y2,y3,y4⟩:=bk.cells)
    |(go_at_call 40;refine(Gn _ B1).mono ?_;clear Gn;rintro e w2 ⟨⟨Bx,cx,Bi,ci,rfl,oM,oI⟩,b2⟩;have z2:=b2.size;have z1:=b1.size;have bk:=bk.same (b2.block _ ab);have rs:=rs.same (b2.block _ ab);obtain⟨W3,e3,k3,b3,z3⟩:=cI w2 now shift (some ⟨Bx,0,none⟩) n cx (some ⟨Bi,0,none⟩) n ci;have hA:Ad w now shift _ n c _ d (w.heap.size+1) w2.heap.size Bx cx Bi ci f t W3:=⟨(B1.trans (b2.mono B1.size)).trans (b3.mono ab),bk.same (b3.block _ ab),rs.same (b3.block _ ab),ab,k3,ab,bG (ay oM (λB hB=>b3.block B (oM.lt B hB).2)) ab,bG (ay oI (λB hB=>b3.block B (oI.lt B hB).2)) ab⟩;obtain⟨y0,y1,y2,y3,y4⟩:=hA.bk.cells;clear oM oI bk rs)
    |(go_at_call 42;refine(HA _ hA.below).mono ?_;clear HA;rintro e w5 ⟨⟨kk,rfl,JR⟩,b5⟩;have z5:=b5.size;have hA:=hA.grow b5;obtain⟨y0,y1,y2,y3,y4⟩:=hA.bk.cells;obtain⟨x0,x1,x2,x3,x4⟩:=hA.x.cells;obtain⟨r0,r1,r2,r3,r4⟩:=hA.rs.cells;obtain rfl:=AT kk JR;have c1:=HL _ hA.below))
   all_goals try(exfalso;omega)
   all_goals first
    |(obtain⟨W5,e5,k5,gi,qV,lJ⟩:=bT hA.rs hA.below ab now shift (some ⟨Bx,0,none⟩) n cx (some ⟨Bi,0,none⟩) n ci;rw[e5];obtain⟨q0,q1,q2,q3,q4⟩:=k5.cells;exact bodyPost_ret (v:=.tuple #[.agg #[.int .i64 now,.int .i64 shift,.slice (some ⟨Bx,0,none⟩) n cx,.slice (some ⟨Bi,0,none⟩) n ci],.int .i64 kc]) (by simp[results,Tryz.f25,go_sem,q0,q1,q2,q3,hc]) rfl ⟨⟨now,shift,_,n,cx,f,_,n,ci,t,kc,rfl,.no np.out JR Tf.out,hA.out lJ⟩,gi⟩)
    |skip
  have hJ':(J:Int)<n:=ab;have tJ:=HT _ hA.below;have hne:=aE w5;have u0:=λx:aj w5=>x.cell y0
  have u3:=λx:aj w5=>x.cell y3
  have u5:=λx:aj w5=>x.cell tJ
  refine ah ?_;repeat(go_big_quiet_step (fail))
  refine wpQuiet_nil (ak ?_);intro w6 b6;clear hne u0 u3 u5 tJ y0 y1 y2 y3 y4 x0 x1 x2 x3 x4 r0 r1 r2 r3 r4 c1;have hA:=hA.grow b6;obtain⟨y0,y1,y2,y3,y4⟩:=hA.bk.cells;obtain⟨x0,x1,x2,x3,x4⟩:=hA.x.cells;obtain⟨r0,r1,r2,r3,r4⟩:=hA.rs.cells;have z6:=b6.size;have HR:=HR _ hA.below;by_cases ht:t J=now;focus
   have hq:(t J !=now)=false:=by simp[ht]
   have htE:Hid _:=ht;clear ht;rcases hR:dc f n t J with _|T;focus
    rw[hR]at HR;have HN:=HR;clear HR;obtain⟨kc,hc⟩:∃kc:Int,kc=5:=⟨_,rfl⟩;have Tf:Hid (fS f n t now J=.inl kc):=by show fS f n t now J=_;simp[fS,hl.out,htE.out,hR,hc]
    clear hR
   rotate_left;focus
    have hle:t J+6<=(f J).late:=by
     by_cases h:t J+6<=(f J).late
     .exact h
     .rw[wR h]at hR;cases hR
    have hlen:=fk f t J n;have Tf:Hid (fS f n t now J=.inr (J,T)):=by show fS f n t now J=_;simp[fS,hl.out,htE.out,hR]
    rw[hR]at HR;have HS:=HR;clear HR;have P7:=λB c b' c' W (h2:B<W.heap.size) (h3:aM W B 0 (al f t J n).length (iy (al f t J n))) (h4:b'<W.heap.size) (h5:aB W b' 0 (al f t J n).length T)=>fx (t J) shift (some ⟨B,0,none⟩) (al f t J n).length c (iy (al f t J n)) (some ⟨b',0,none⟩) (al f t J n).length c' T W ab ab ⟨(λh=>nomatch h),λad had=>by cases had;exact⟨B,rfl,h2,h3⟩⟩ ⟨(λh=>nomatch h),λad had=>by cases had;exact⟨b',rfl,h4,h5⟩⟩
  rotate_right;focus
   have hq:(t J !=now)=true:=by simp[ht]
   obtain⟨kc,hc⟩:∃kc:Int,kc=6:=⟨_,rfl⟩;have Tf:Hid (fS f n t now J=.inl kc):=by show fS f n t now J=_;simp[fS,hl.out,ht,hc]
  all_goals
   go_wp2_with(first
    |(go_at_call 56;refine HN.mono ?_;clear HN;rintro e w7 ⟨rfl,b7⟩;obtain⟨W8,e8,k8,b8,z8⟩:=cI w7 0 0 none 0 0 none 0 0;have e8h:Hid (w7.alloc (.cells #[.int .i64 0,.int .i64 0,.slice none 0 0,.slice none 0 0] 29)=W8):=e8;clear e8;have hA7:=hA.grow b7;have Oz:=λo=>hA7.grow ((aca _ w7).alloc (ack _) o);have x0:=λo=>(Oz o).x.cells.1;have x1:=λo=>(Oz o).x.cells.2.1;have x2:=λo=>(Oz o).x.cells.2.2.1;have x3:=λo=>(Oz o).x.cells.2.2.2.1;have r0:=λo=>(Oz o).rs.cells.1;have r1:=λo=>(Oz o).rs.cells.2.1;have r2:=λo=>(Oz o).rs.cells.2.2.1;have r3:=λo=>(Oz o).rs.cells.2.2.2.1;have r4:=λo=>(Oz o).rs.cells.2.2.2.2;have hA:=hA7.grow b8)
    |(go_at_call 56;refine HS.mono ?_;clear HS;rintro e w7 ⟨⟨BN,cN,BT,cT,rfl,Sl,rN,oT⟩,b7⟩;obtain⟨W8,e8,k8,b8,z8⟩:=cI w7 (t J) shift (some ⟨BN,0,none⟩) (al f t J n).length cN (some ⟨BT,0,none⟩) (al f t J n).length cT;have hA:=(hA.grow b7).grow b8;have rN:=rN.below b8 Sl;have oT:=f7 oT (b8.block _ oT.lt);obtain⟨p0,p1,p2,p3,p4⟩:=k8.cells)
    |(go_at_call 40;refine(P7 BN cN BT cT W8 ab rN oT.lt oT.2).mono ?_;clear P7;rintro e w9 ⟨⟨Bg,cq,Bv,cv,rfl,oQ,oV⟩,b9⟩;have z9:=hA.x.lt;have hA:=hA.grow b9;obtain⟨r0,r1,r2,r3,r4⟩:=hA.rs.cells))
   all_goals try(exfalso;omega)
   all_goals first
    |(obtain⟨W5,e5,k5,gi,qV,lJ⟩:=bT hA.rs hA.below ab (t J) shift (some ⟨Bg,0,none⟩) (al f t J n).length cq (some ⟨Bv,0,none⟩) (al f t J n).length cv;rw[e5];obtain⟨q0,q1,q2,q3,q4⟩:=k5.cells;have hhR:=hA.hX;exact bodyPost_ret (v:=.tuple #[.agg #[.int .i64 (t J),.int .i64 shift,.slice (some ⟨Bg,0,none⟩) (al f t J n).length cq,.slice (some ⟨Bv,0,none⟩) (al f t J n).length cv],.int .i64 0]) (by simp[results,Tryz.f25,go_sem,q0,q1,q2,q3]) rfl ⟨⟨t J,shift,_,_,cq,_,_,_,cv,T,0,rfl,by rw[htE.out];exact .yes np.out JR Tf.out,.inr ⟨Bg,Bv,rfl,rfl,bG (ay oQ (λB hB=>lJ B (by have:=(oQ.lt B hB).1;omega))) ab,(ee oV).2.2,ky.of (bG (ay oV (λB hB=>lJ B (by have:=(oV.lt B hB).1;omega))) ab)⟩⟩,gi⟩)
    |(try rw[e8h.out]
      obtain⟨W5,e5,k5,gi,qV,lJ⟩:=bT hA.rs hA.below ab now shift (some ⟨Bx,0,none⟩) n cx (some ⟨Bi,0,none⟩) n ci;rw[e5];obtain⟨q0,q1,q2,q3,q4⟩:=k5.cells;exact bodyPost_ret (v:=.tuple #[.agg #[.int .i64 now,.int .i64 shift,.slice (some ⟨Bx,0,none⟩) n cx,.slice (some ⟨Bi,0,none⟩) n ci],.int .i64 kc]) (by simp[results,Tryz.f25,go_sem,q0,q1,q2,q3,hc]) rfl ⟨⟨now,shift,_,n,cx,f,_,n,ci,t,kc,rfl,.no np.out JR Tf.out,hA.out lJ⟩,gi⟩)
    |(trace_state;skip)
def jp (f:Nat->Mv)(t:Nat->Int)(now:Int)(k:Nat)(L:List Mv)(I:List Int)(js:Nat)(xs:List Value):Prop:=L=(stay now t k).map (λi=>aX (f i) (t i) (now+1))/\I=(stay now t k).map t/\js=(gone now t k).length/\xs=jM f (gone now t k)
theorem jp.gone {f:Nat->Mv}{t:Nat->Int}{now:Int}{k:Nat}{L:List Mv}{I:List Int}{js:Nat}{xs:List Value}(h:jp f t now k L I js xs)(e:t k=now):jp f t now (k+1) L I (js+1) (xs++[.string (f k).name]):=by
 obtain⟨rfl,rfl,rfl,rfl⟩:=h;simp[jp,Proofs.YtlmcblcijndipaaGreatDoor.stay,Proofs.YtlmcblcijndipaaGreatDoor.gone,e,jM]
theorem jp.stay {f:Nat->Mv}{t:Nat->Int}{now:Int}{k:Nat}{L:List Mv}{I:List Int}{js:Nat}{xs:List Value}(h:jp f t now k L I js xs)(e:¬t k=now){m:Mv}(hm:m=aX (f k) (t k) (now+1)):jp f t now (k+1) (L++[m]) (I++[t k]) js xs:=by
 obtain⟨rfl,rfl,rfl,rfl⟩:=h;simp[jp,Proofs.YtlmcblcijndipaaGreatDoor.stay,Proofs.YtlmcblcijndipaaGreatDoor.gone,e,hm]
inductive kz (f:Nat->Mv)(n:Nat)(t:Nat->Int)(m:Nat)(now shift:Int):Int->Int->Nat->(Nat->Mv)->Nat->(Nat->Int)->List Nat->Int->Prop
 |bad:bp now shift f n t m=false->kz f n t m now shift 0 0 0 f 0 t [] 1
 |last:bp now shift f n t m=true->now=10000->kz f n t m now shift now shift n f m t [] 2
 |yes:bp now shift f n t m=true->now≠10000->kz f n t m now shift (now+1) shift (stay now t n).length (iy ((stay now t n).map (λi=>aX (f i) (t i) (now+1)))) (stay now t n).length (λj=>((stay now t n).map t).getD j 0) (gone now t n) 0
theorem zr {W:World}{lo b:Nat}(hb:lo<=b)(h:W.heap[b]?=some (.cells #[] 9 (0,0))):W.ownsRow lo 9 1 (.slice b 0 0) 0 []:=⟨rfl,.inr ⟨b,0,#[],rfl,hb,h,ack _,acp _,rfl,rfl⟩⟩
theorem Kp (w:World)(x:Int):∃W,w.alloc (.cells #[x] 3)=W/\W.heap[w.heap.size]?=some (.cells #[x] 3 (0,0))/\Below w w W/\W.heap.size=w.heap.size+1:=
 ⟨_,rfl,heap_alloc_new w _,(aca _ w).alloc (ack _) _,aH⟩
theorem RJ (w:World)(x:ByteArray):∃W,w.alloc (.cells #[x] 9)=W/\W.heap[w.heap.size]?=some (.cells #[x] 9 (0,0))/\Below w w W/\W.heap.size=w.heap.size+1:=
 ⟨_,rfl,heap_alloc_new w _,(aca _ w).alloc (ack _) _,aH⟩
theorem NM {w:World}{base:Nat}{T:TypeId}{size:Nat}{v:Value}{n:Nat}{xs:List Value}(h:w.ownsRow base T size v (n+1) xs):∃B c,v=.slice (some ⟨B,0,none⟩) (n+1) c:=by
 obtain⟨h1,h2|⟨g,cap,cur,h2,h3,h4⟩⟩:=h
 .omega
 .exact⟨g,cap,h2⟩
structure Z2 (N:Nat)(sl:Value)(b' k:Nat)(x:Int)(W:World):Prop where
 c3:W.cell? ⟨N,3,none⟩=some sl
 tk:W.cell? ⟨b',k,none⟩=some (.int .i64 x)
section
variable {w:World}{now shift:Int}{ao:Option Addr}{n c d NX:Nat}{v u:Value}{L:List Mv}{I:List Int}{s:Value}{js:Nat}{xs:List Value}{W W':World}{b' k:Nat}{t:Nat->Int}
theorem Tc.st (h:Tc w now shift ao n c b' d NX v u L I s js xs W)(bw:b'<w)(hr:aB w b' 0 n t)(hk:k<n):Z2 w.heap.size (.slice b' n d) b' k (t k) W:=
 ⟨h.bk.cells.2.2.2.1,by have:=hr.below h.below bw k hk;rw[Nat.zero_add]at this;exact this⟩
theorem Q4 (hb:Below w w W)(h:Tc w now shift ao n c b' d NX v u L I s js xs W)(g:W.grownBy W' u.ownBlock)(bw:b'<w)(hr:aB w b' 0 n t)(hk:k<n):Z2 w.heap.size (.slice b' n d) b' k (t k) W':=by
 have hN:=h.hN;have b1:Below w w W':=hb.grown g hb.size (λq hq=>by have:=(h.oi.lt q hq).1;omega);exact⟨(h.bk.same (g.block _ h.bk.lt (λe=>by have:=(h.oi.lt _ e.symm).1;omega))).cells.2.2.2.1,by have:=hr.below b1 bw k hk;rw[Nat.zero_add]at this;exact this⟩
end
theorem F5 (now shift:Int)(ao:Option Addr)(n c:Nat)(f:Nat->Mv)(bo:Option Addr)(m d:Nat)(t:Nat->Int)(w:World)(hB:Bq w now shift ao n c f bo m d t):
  Calls Tz.prog 14 #[.agg #[now,shift,.slice ao n c,.slice bo m d]] w λe w'=>(∃a0 a1 s2 l c2 F s3 o c3 T sa js sc GL cd,e=.returned (.tuple #[.agg #[.int .i64 a0,.int .i64 a1,.slice s2 l c2,.slice s3 o c3],.slice sa js sc,.int .i64 cd])/\kz f n t m now shift a0 a1 l F o T GL cd/\zI w' w.heap.size s2 l c2 F s3 o c3 T/\js=GL.length/\w'.ownsRow w.heap.size 9 1 (.slice sa js sc) js (jM f GL))/\Below w w w':=by
 obtain⟨W0,iP⟩:∃W,W=((w.alloc (.cells #[.int .i64 now,.int .i64 shift,.slice ao n c,.slice bo m d] 29)).alloc (.cells #[.int .i64 0,.int .i64 0,.slice none 0 0,.slice none 0 0] 29)).alloc (.cells #[] 9):=⟨_,rfl⟩;have b0:Below w w W0:=by rw[iP];exact(((aca _ w).alloc (ack _) _).alloc aH _).alloc cC _
 have tm:am W0 w.heap.size now shift (.slice ao n c) (.slice bo m d):=by rw[iP];exact(acb _ _ _ cC).trans ((acb _ _ _ aH).trans (heap_alloc_new _ _))
 have qs:am W0 (w.heap.size+1) 0 0 () ():=by rw[iP];exact(acb _ _ _ aH).trans (di _ _ _)
 have j_:W0.heap[w.heap.size+2]?=some (.cells #[] 9 (0,0)):=by
  rw[iP];have:=di (w.alloc (.cells #[now,shift,.slice ao n c,.slice bo m d] 29)) (.cells #[.int .i64 0,.int .i64 0,(),()] 29) (.cells #[] 9);rw[acg]at this;exact this
 have gI:W0.heap.size=w.heap.size+3:=by rw[iP];simp
 have HB:=(hB.bl (Bl.of b0)).sk;have h6:=hB.n6;cases hb:bp now shift f n t m with
 |false=>
  rw[hb,iP]at HB;go_enter Tz.func14,Tryz.ntmps14
  go_wp2_with(go_at_call 39;refine HB.mono ?_;clear HB;rintro e w1 ⟨rfl,b1⟩;rw[<-iP]at b1;have r1:=qs.same (b1.block _ qs.lt);obtain⟨y0,y1,y2,y3,y4⟩:=r1.cells)
  obtain⟨W5,e5,k5,gi,qV,lJ⟩:=bT r1 (b0.trans (b1.mono b0.size)) ab 0 0 none 0 0 none 0 0;rw[e5];obtain⟨q0,q1,q2,q3,q4⟩:=k5.cells;refine bodyPost_ret (v:=.tuple #[.agg #[.int .i64 0,.int .i64 0,(),()],.slice (some ⟨w.heap.size+1+1,0,none⟩) 0 0,.int .i64 1]) ?_ rfl ⟨⟨0,0,none,0,0,_,none,0,0,_,_,0,0,[],1,rfl,.bad hb,.inl ⟨rfl,rfl,rfl,rfl,rfl,rfl⟩,rfl,zr ab ((lJ _ ab).trans ((b1.block _ ab).trans j_))⟩,gi⟩;simp[results,Tryz.f14,go_sem,q0,q1,q2,q3]
 |true=>
  obtain⟨hm,uR,jQ⟩:=cE hb;obtain rfl:n=m:=uR.symm;obtain⟨vb,jh,-⟩:=fJ hb;have np:Hid _:=hb;rw[hb,iP]at HB;clear hb;have Gn:=λW (hW:Below w w W)=>fx now shift ao n c f bo n d t W ab ab (hB.bl (Bl.of hW)).sm (hB.bl (Bl.of hW)).si
  obtain⟨iM,hI,aaD,fq,iF⟩:=jA;obtain⟨i0,GB,ID,D0,E9⟩:=wo;obtain⟨iS,hIS,Nt,IB,uU⟩:=LE;by_cases td:now=10000
  .have SS:10000<=now:=by omega
   have HNW:Hid (now=10000):=td;clear td;go_enter Tz.func14,Tryz.ntmps14
   go_wp2_with(first
    |(go_at_call 39;refine HB.mono ?_;clear HB;rintro e w1 ⟨rfl,b1⟩;rw[<-iP]at b1;have B1:=b0.trans (b1.mono b0.size);have bk:=tm.same (b1.block _ tm.lt);have rs:=qs.same (b1.block _ qs.lt);have dn:=(b1.block _ ab).trans j_;obtain⟨y0,y1,y2,y3,y4⟩:=bk.cells)
    |(go_at_call 40;refine(Gn _ B1).mono ?_;clear Gn;rintro e w2 ⟨⟨Bx,cx,Bi,ci,rfl,oM,oI⟩,b2⟩;have z2:=b2.size;have z1:=b1.size;have bk:=bk.same (b2.block _ ab);have rs:=rs.same (b2.block _ ab);obtain⟨W3,e3,k3,b3,z3⟩:=cI w2 now shift (some ⟨Bx,0,none⟩) n cx (some ⟨Bi,0,none⟩) n ci;have dn:=(b3.block _ ab).trans ((b2.block _ ab).trans dn);have hA:Ad w now shift ao n c bo d (w.heap.size+1) w2.heap.size Bx cx Bi ci f t W3:=⟨(B1.trans (b2.mono B1.size)).trans (b3.mono ab),bk.same (b3.block _ ab),rs.same (b3.block _ ab),ab,k3,ab,bG (ay oM (λB hB=>b3.block B (oM.lt B hB).2)) ab,bG (ay oI (λB hB=>b3.block B (oI.lt B hB).2)) ab⟩;obtain⟨y0,y1,y2,y3,y4⟩:=hA.bk.cells;obtain⟨x0,x1,x2,x3,x4⟩:=hA.x.cells;obtain⟨r0,r1,r2,r3,r4⟩:=hA.rs.cells;clear oM oI bk rs))
   all_goals try(exfalso;omega)
   obtain⟨W5,e5,k5,gi,qV,lJ⟩:=bT hA.rs hA.below ab now shift (some ⟨Bx,0,none⟩) n cx (some ⟨Bi,0,none⟩) n ci;rw[e5];obtain⟨q0,q1,q2,q3,q4⟩:=k5.cells;have hdn:=hA.hR;exact bodyPost_ret (v:=.tuple #[.agg #[now,shift,.slice Bx n cx,.slice Bi n ci],.slice (some ⟨w.heap.size+1+1,0,none⟩) 0 0,.int .i64 2]) (by simp[results,Tryz.f14,go_sem,q0,q1,q2,q3]) rfl ⟨⟨_,_,_,_,_,_,_,_,_,_,_,0,0,[],2,rfl,.last np.out HNW.out,hA.out lJ,rfl,zr ab ((lJ _ ab).trans dn)⟩,gi⟩
  .have SS:¬10000<=now:=by omega
   have Ao:IntKind.i64.wrap (now+1)=now+1:=gH;have abP:IntKind.i64.wrap (now+1+4)=now+1+4:=gH;go_enter Tz.func14,Tryz.ntmps14
   go_wp2_with(first
    |(go_at_call 39;refine HB.mono ?_;clear HB;rintro e w1 ⟨rfl,b1⟩;rw[<-iP]at b1;have B1:=b0.trans (b1.mono b0.size);have bk:=tm.same (b1.block _ tm.lt);have rs:=qs.same (b1.block _ qs.lt);have dn:=(b1.block _ ab).trans j_;obtain⟨y0,y1,y2,y3,y4⟩:=bk.cells)
    |(go_at_call 40;refine(Gn _ B1).mono ?_;clear Gn;rintro e w2 ⟨⟨Bx,cx,Bi,ci,rfl,oM,oI⟩,b2⟩;have z2:=b2.size;have z1:=b1.size;obtain⟨W3,e3,k3,b3,z3⟩:=cI w2 now shift (some ⟨Bx,0,none⟩) n cx (some ⟨Bi,0,none⟩) n ci;have bk:=(bk.same (b2.block _ ab)).same (b3.block _ ab);have rs:=(rs.same (b2.block _ ab)).same (b3.block _ ab);have dn:=(b3.block _ ab).trans ((b2.block _ ab).trans dn);have B3:=(B1.trans (b2.mono B1.size)).trans (b3.mono ab);obtain⟨y0,y1,y2,y3,y4⟩:=bk.cells;obtain⟨W4,e4,k4,b4,z4⟩:=cI W3 (now+1) shift none 0 0 none 0 0;have z3h:Hid (W3.heap.size=w2.heap.size+1):=z3;clear z3;have z4h:Hid (W4.heap.size=W3.heap.size+1):=z4;clear z4;have YJ:Hid (W3.alloc (.cells #[.int .i64 (now+1),.int .i64 shift,.slice none 0 0,.slice none 0 0] 29)=W4):=e4;clear e4))
   rw[YJ.out];have z3:=z3h.out;have z4:=z4h.out;obtain⟨NX,hNX⟩:∃NX,NX=W3.heap.size:=⟨_,rfl⟩;rw[<-hNX]at k4⊢;have M_:Tc w now shift ao n c bo d NX () () [] [] (.slice (some ⟨w.heap.size+1+1,0,none⟩) 0 0) 0 [] W4:=⟨B3.trans (b4.mono ab),bk.same (b4.block _ ab),rs.same (b4.block _ ab),k4,ab,⟨rfl,.inl ⟨rfl,rfl⟩⟩,⟨rfl,.inl ⟨rfl,rfl⟩⟩,⟨rfl,.inr ⟨w.heap.size+2,0,#[],rfl,ack _,(b4.block _ ab).trans dn,ack _,acp _,rfl,rfl⟩⟩⟩;clear bk rs dn b4 k4 B3 oM oI k3 b3 b2 b1 hNX z3 z4 z3h z4h e3 YJ;go_loopw [5,8] (λs x W=>∃(k:Nat) (v u:Value) (L:List Mv) (I:List Int) (js:Nat) (xs:List Value),x=.int .i64 k/\k<=n/\L.length=I.length/\L.length<=k/\js<=k/\Hid (jp f t now k L I js xs)/\Tc w now shift ao n c bo d NX v u L I s js xs W) (λ_ x _=>n-(intOf x).toNat)
   case atStart=>exact⟨0,_,_,[],[],0,[],rfl,acp _,rfl,ack _,ack _,(by show jp _ _ _ _ _ _ _ _;exact⟨rfl,rfl,rfl,rfl⟩),M_⟩
   case round=>
    clear M_;obtain⟨k,v,u,L,I,js,xs,rfl,hk,hlen,F_,hjk,fw,hT⟩:=hrel;have ZQ:Hid (L.length=I.length):=hlen;have hIk:I.length<=k:=ab;clear hlen;obtain⟨y0,y1,y2,y3,y4⟩:=hT.bk.cells;obtain⟨p0,p1,p2,p3,p4⟩:=hT.nx.cells;by_cases aI:k<n
    .have dG:(k:Int)<n:=by omega
     obtain⟨b,rfl,bw,aq⟩:=hB.sm.pos ab;obtain⟨b',rfl,bc,aK⟩:=hB.si.pos ab;obtain⟨c0,c1,c2,c3,c4,c5⟩:=aq.below hT.below bw k aI;simp only[Nat.zero_add]at c0 c1 c2 c3 c4 c5;obtain⟨Wm,em,hM,bm,zm⟩:=Eq wr (f k);have lb:=acl bw hT.below.size;have VS:=hT.grow bm;have hne:=aE Wm;have sm:=VS.st bc aK aI;have x0:=λx:aj Wm=>x.cell VS.bk.cells.1
     have x3:=λx:aj Wm=>x.cell sm.c3
     have y6:=λx:aj Wm=>x.cell sm.tk
     by_cases pa:t k=now
     .have d0:(t k==now)=true:=by simpa using pa
      have fw:Hid _:=fw.out.gone pa;clear pa;go_wp2;refine ah ?_;repeat(go_big_quiet_step (fail))
      refine wpQuiet_nil (ak ?_);intro w3 gZ;have OF:=VS.grow gZ;have VO:=hM.keep (gZ.block _ ab);have m0:=(ly VO).c0;clear x0 x3 y6 hne sm;obtain⟨Wo,eo,ko,YE,zo⟩:=RJ w3 (f k).name;have yP:=OF.grow YE;go_wp2_with(at_builtin;refine wpList_append_own _ rfl (.tmp 49) (.tmp 52) 24 rfl (w.heap.size+2) 9 iS _ 1 16 Fb hIS Nt IB uU rfl bK _ js xs bU yP.os w3.heap.size 1 1 [.string (f k).name] bU rfl (gj ko) vC iI ab (by have:=yP.rs.lt;have:=yP.nx.lt;have:=yP.hN;omega) ?_;intro s5 w5 DX GH _)
      have Uz:=yP.names DX GH;go_roundw
      case rel=>exact⟨k+1,v,u,L,I,js+1,_,by go_num,ab,ZQ.out,ab,ab,fw,Uz⟩
      case measure=>exact cf
     .have d0:(t k==now)=false:=by simpa using pa
      have HTK:Hid _:=pa;clear pa;go_wp2;refine ah ?_;repeat(go_big_quiet_step (fail))
      refine wpQuiet_nil (ak ?_);intro w3 gZ;have OF:=VS.grow gZ;have VO:=hM.keep (gZ.block _ ab);have z3w:=gZ.size;clear x0 x3 y6 hne sm d0;have s3:=OF.st bc aK aI;have hne:=aE w3;have x3:=λx:aj w3=>x.cell s3.c3
      have y6:=λx:aj w3=>x.cell s3.tk
      have x0:=λx:aj w3=>x.cell OF.nx.cells.1
      go_wp2;by_cases oX:t k<now+1+4;focus
       refine ah ?_;repeat(go_big_quiet_step (fail))
       refine wpQuiet_nil (ak ?_);intro w4 DQ;have Y3:=OF.grow DQ;have YX:=VO.keep (DQ.block _ ab);obtain⟨a0,a1,a2,a3,a4,a5⟩:=ly YX;have uf:=YX.frozen 5;obtain⟨y0,y1,y2,y3,y4⟩:=Y3.bk.cells;have t4:=(Y3.st bc aK aI).tk;have abA:b'<w4:=acl bc Y3.below.size;obtain⟨Wq,eq,YY,Uz⟩:∃Wq,w4.setCell ⟨wr.heap.size,5,none⟩ (.int .i64 (t k))=Wq/\cJ Wq wr.heap.size {f k with prom:=t k}/\Tc w now shift (some ⟨b,0,none⟩) n c (some ⟨b',0,none⟩) d NX v u L I _ js xs Wq:=by
        refine⟨_,rfl,?_,hT.grow ?_⟩
        .have:=heap_setCell_same w4 wr.heap.size 5 _ _ (.int .i64 (t k)) YX;simpa[cJ]using this
        .exact((bm.trans (gZ.mono ab)).trans (DQ.mono ab)).setCell (ack _) _
       obtain⟨m',rX⟩:∃m',m'=({f k with prom:=t k}:Mv):=⟨_,rfl⟩;have OR:Hid (m'=aX (f k) (t k) (now+1)):=by show m'=_;rw[rX];unfold aX;rw[if_pos oX]
       rw[<-rX]at YY;clear rX YX Y3
      rotate_left;focus
       refine ah ?_;repeat(go_big_quiet_step (fail))
       refine wpQuiet_nil (ak ?_);intro Wq DQ;have Uz:=OF.grow DQ;have YY:=VO.keep (DQ.block _ ab);obtain⟨m',rX⟩:∃m',m'=f k:=⟨_,rfl⟩;have OR:Hid (m'=aX (f k) (t k) (now+1)):=by show m'=_;rw[rX];unfold aX;rw[if_neg oX]
       rw[<-rX]at YY;clear rX
      all_goals
       clear x0 x3 y6 hne s3 VO OF hT VS hM;obtain⟨g0,g1,g2,g3,g4,g5⟩:=ly YY;obtain⟨p0,p1,p2,p3,p4⟩:=Uz.nx.cells;obtain⟨Wo,eo,ko,bo5,zo⟩:=Eq Wq m';have yP:=Uz.grow bo5;go_wp2_with(at_builtin;refine wpList_append_own _ rfl (.tmp 70) (.tmp 72) 23 rfl (NX+1) 31 iM _ 6 56 bz hI aaD fq iF rfl bK v L.length (cG (iy L) L.length) bU yP.om Wq.heap.size 1 1 m'.cells.toList bU rfl (AG ko) (ji m') iI ab (by have:=yP.nx.lt;omega) ?_;intro v6 w6 S7 Zb _;obtain⟨n6,hT⟩:=yP.moves S7 Zb;obtain⟨B6,c6,rfl⟩:=kh S7;obtain⟨q0,q1,q2,q3,q4⟩:=n6.cells;obtain⟨W7,e7⟩:∃W,w6.setCell ⟨NX,2,none⟩ (.slice B6 (L.length+1) c6)=W:=⟨_,rfl⟩;rw[e7]at hT)
       clear q0 q1 q2 q3 q4 n6 S7 Zb yP Uz p0 p1 p2 p3 p4 g0 g1 g2 g3 g4 g5;have hT:=hT.grow (aca _ _).drew;refine wp_region_held_drew (S:=Z2 w.heap.size (.slice b' n d) b' k (t k)) bR (hT.st bc aK aI) (λhHeld=>?_);revert hHeld hT;generalize W7.drew=W8;intro hT hHeld;obtain⟨p0,p1,p2,p3,p4⟩:=hT.nx.cells;refine aS 0 (.pointer (some ⟨NX,3,none⟩)) 75 rfl DB hHeld ?_;refine aS 2 (.pointer (some ⟨w.heap.size,3,none⟩)) 77 rfl DB hHeld ?_;refine aS 3 (.slice b' n d) 78 rfl DB hHeld ?_;refine aS 4 (.int .i64 (k:Int)) 79 rfl DB hHeld ?_;refine aS 5 (.pointer (some ⟨b',k,none⟩)) 80 rfl DB hHeld ?_;refine aS 6 (.int .i64 (t k)) 81 rfl DB hHeld ?_;simp only[Act.put,List.setIfInBounds_toArray,List.set_cons_zero,List.set_cons_succ];refine Po 1 7 rfl rfl (λK hK=>?_) (λK hK=>?_);focus
        go_simp
        refine hK.out _ _ (hT.st bc aK aI) (λhHeld=>?_);clear hK K;refine jE 7 rfl (λK hK=>?_);go_simp
        obtain⟨Wi,ei,ki,bi,zi⟩:=Kp W8 (t k);rw[ei];have hT:=hT.grow bi;obtain⟨p0,p1,p2,p3,p4⟩:=hT.nx.cells;refine hK.out _ _ (hT.st bc aK aI) (λhHeld=>?_);clear hK K
       rotate_left;focus
        go_simp
        obtain⟨Wi,ei,ki,bi,zi⟩:=Kp W8 (t k);rw[ei];have hT:=hT.grow bi;obtain⟨p0,p1,p2,p3,p4⟩:=hT.nx.cells;refine hK.out _ _ (hT.st bc aK aI) (λhHeld=>?_);clear hK K;refine jE 1 rfl (λK hK=>?_);go_simp
        refine hK.out _ _ (hT.st bc aK aI) (λhHeld=>?_);clear hK K
       all_goals
        refine jE 8 rfl (λK hK=>?_);refine dy rfl (.tmp 76) (.tmp 82) 27 rfl 3 i0 (.int .i64 0) 1 8 ja GB ID D0 E9 rfl bK (NX+1) u I.length (D7 I) bU hT.oi W8.heap.size 1 1 [.int .i64 (t k)] bU rfl (gj ki) vC iI ab (by have:=hT.nx.lt;omega) ?_;intro u9 w9 UJ Wy;obtain⟨n9,Y4⟩:=hT.MX UJ Wy;obtain⟨B9,c9,rfl⟩:=NM UJ;obtain⟨p0,p1,p2,p3,p4⟩:=n9.cells;refine hK.out _ _ (Q4 hT.below hT Wy bc aK aI) (λhHeld=>?_);clear hK K;refine jE 9 rfl (λK hK=>?_);go_simp
        refine hK.out _ _ (Q4 hT.below hT Wy bc aK aI) (λhHeld=>?_);clear hK K;refine jE 10 rfl (λK hK=>?_);go_simp
        refine hK.out _ _ (Y4.st bc aK aI) (λhHeld=>?_);clear hK K;refine wpAnyH_done bR ?_ _;clear hHeld;revert Y4;generalize w9.setCell ⟨NX,3,none⟩ (.slice (some ⟨B9,0,none⟩) (I.length+1) c9)=WZ;intro Y4;go_wp2;go_roundw
        case rel=>exact⟨k+1,_,_,L++[m'],I++[t k],js,xs,by go_num,ab,by have:=ZQ.out;simp;omega,cC,ab,fw.out.stay HTK.out OR.out,Y4⟩
        case measure=>exact cf
    .have dG:¬(k:Int)<n:=by omega
     have hlen:=ZQ.out;obtain⟨av,cv,rfl,OU,hv2⟩:=tG hT.om;obtain⟨au,cu,rfl,hu1,hu2⟩:=tG hT.oi;have hsI:jG wr au L.length cu (λj=>I.getD j 0):=by
      rw[hlen];refine⟨hu1,λad had=>?_⟩;obtain⟨bb,e,hl⟩:=hu2 ad had;subst had e;refine⟨bb,rfl,hl,λi hi=>?_⟩;rw[Nat.zero_add,hT.oi.cellAt i ab];simp[D7,hi]
     have hsM:ik wr av L.length cv (iy L):=by
      refine⟨OU,λad had=>?_⟩;obtain⟨bb,e,hl⟩:=hv2 ad had;subst had e;exact⟨bb,rfl,hl,dM hT.om⟩
     have HC:=fx (now+1) shift av L.length cv (iy L) au L.length cu (λj=>I.getD j 0) wr ab ab hsM hsI;rw[<-hlen]at p3;clear hlen;obtain⟨sa,sc,rfl,_⟩:=tG hT.os;have xA:=hT.rs;have hos:=hT.os;have GD:=hT.below;have hNN:=hT.hN;have Li:=hT.nx.lt;clear hT hsM hsI;go_wp2_with(go_at_call 40;refine HC.mono ?_;clear HC;rintro e w3 ⟨⟨Bg,cq,Bv,h_,rfl,oQ,oV⟩,b3⟩;have xA:=xA.same (b3.block _ xA.lt);obtain⟨r0,r1,r2,r3,r4⟩:=xA.cells)
     all_goals try(exfalso;omega)
     obtain⟨W5,e5,k5,gi,qV,lJ⟩:=bT xA (GD.trans (b3.mono GD.size)) ab (now+1) shift (some ⟨Bg,0,none⟩) L.length cq (some ⟨Bv,0,none⟩) L.length h_;rw[e5];obtain⟨q0,q1,q2,q3,q4⟩:=k5.cells;refine bodyPost_ret (v:=.tuple #[.agg #[.int .i64 (now+1),shift,.slice Bg L.length cq,.slice Bv L.length h_],.slice sa js sc,.int .i64 0]) (by simp[results,Tryz.f14,go_sem,q0,q1,q2,q3]) rfl ⟨⟨now+1,shift,_,L.length,cq,iy L,_,L.length,h_,(λj=>I.getD j 0),sa,js,sc,gone now t n,0,rfl,?_,.inr ⟨Bg,Bv,rfl,rfl,bG (ay oQ (λB hB=>lJ B (by have:=(oQ.lt B hB).1;omega))) ab,(ee oV).2.2,ky.of (bG (ay oV (λB hB=>lJ B (by have:=(oV.lt B hB).1;omega))) ab)⟩,?_,?_⟩,gi⟩;all_goals
      obtain rfl:k=n:=ab;obtain⟨rfl,rfl,rfl,rfl⟩:=fw.out
     .have:=kz.yes (shift:=shift) np.out td;simpa using this
     .rfl
     .exact bG (ay hos (λB hB=>(lJ B (by have:=(hos.lt B hB).1;omega)).trans (b3.block B (hos.lt B hB).2))) ab
end
section
open Conc RowKit
theorem nV.bq {w:World}{lo:Nat}{now shift:Int}{ao:Option Addr}{n c:Nat}{f:Nat->Mv}{bo:Option Addr}{d:Nat}{t:Nat->Int}(h:nV w lo now shift ao n c f bo d t):Bq w now shift ao n c f bo n d t:=
 ⟨h.tK,h.tK,h.A0,h.Jo,(λhh=>by rcases h.mem with⟨_,_,h0,_⟩|⟨b,b',rfl,rfl,_⟩;exact⟨h0,h0,h.now,h.sh⟩;rcases hh with hh|hh<;>cases hh),λi hi=>pU (h.ok i hi)⟩
theorem zI.src {w:World}{lo:Nat}{s2:Option Addr}{l c2:Nat}{F:Nat->Mv}{s3:Option Addr}{o c3:Nat}{T:Nat->Int}(h:zI w lo s2 l c2 F s3 o c3 T):ik w s2 l c2 F/\jG w s3 o c3 T/\(s2=none\/s3=none->l=0/\o=0):=by
 rcases h with⟨rfl,rfl,rfl,rfl,rfl,rfl⟩|⟨b,b',rfl,rfl,h1,h2,h3⟩
 .exact⟨⟨λ_=>⟨rfl,rfl⟩,(λ_ h=>nomatch h)⟩,⟨λ_=>⟨rfl,rfl⟩,(λ_ h=>nomatch h)⟩,λ_=>⟨rfl,rfl⟩⟩
 .exact⟨⟨(λh=>nomatch h),λad had=>by cases had;exact⟨b,rfl,(ee h1).2.1,dM h1⟩⟩,⟨(λh=>nomatch h),λad had=>by cases had;exact⟨b',rfl,h3.lt,h3.2.2⟩⟩,λh=>by rcases h with h|h<;>cases h⟩
theorem L8 {f:Nat->Mv}{n:Nat}{t:Nat->Int}{now k:Int}{name:ByteArray}{p:Nat}{T:Nat->Int}(hk:ij f n name k)(h:fS f n t now k=.inr (p,T)):p<n/\(f p).an=true/\t p=now/\dc f n t p=some T/\bZ (f p).name name=true:=by
 unfold fS at h;split at h
 .cases h
 .rename_i h0;rcases hk with⟨rfl,_⟩|⟨j,rfl,hj,hs,_⟩
  .omega
  .simp only[Int.toNat_natCast]at h;split at h
   .cases h
   .rename_i hl;split at h
    .rename_i ht;split at h
     .cases h
     .rename_i T' hT;cases h;exact⟨hj,by simpa using hl,ht,hT,hs⟩
    .cases h
theorem C9 {f:Nat->Mv}{n:Nat}{t:Nat->Int}{p:Nat}{T:Nat->Int}(h:dc f n t p=some T):t p+6<=(f p).late:=by
 by_cases hh:t p+6<=(f p).late
 .exact hh
 .rw[wR hh]at h;cases h
section
variable {f:Nat->Mv}{n:Nat}{t:Nat->Int}{m:Nat}{now shift:Int}{name:ByteArray}{a0 a1:Int}{l:Nat}{F:Nat->Mv}{o:Nat}{T:Nat->Int}{cd:Int}{GL:List Nat}
theorem jL.facts (h:jL f n t m now shift name a0 a1 l F o T cd)(hn:n<=6)(hm:m<=6)(hf:∀i,i<n->(f i).Fits):(0<=a0/\a0<=10000)/\(0<=a1/\a1<=6)/\l<=6/\o<=6/\(∀i,i<l->(F i).Fits)/\((∀i,i<n->(f i).ok=true)->∀i,i<l->(F i).ok=true)/\(m=n->o=l):=by
 cases h with
 |bad _=>exact⟨ab,ab,ab,ab,λi hi=>absurd hi (aco _),λ_ i hi=>absurd hi (aco _),λ_=>rfl⟩
 |no h hk hr=>exact⟨(fJ h).1,(fJ h).2.1,hn,hm,hf,λh=>h,λh=>h⟩
 |yes h hk hr=>
  obtain⟨hp,_,ht,hT,_⟩:=L8 hk hr;obtain⟨rZ,_,hft⟩:=cE h;have fw:=λi hi=>nJ rZ hft hp (C9 hT) (i:=i) hi
  have:=fk f t;exact⟨(fJ h).1,(fJ h).2.1,acn (fk _ _ _ _) hn,acn (fk _ _ _ _) hn,λi hi=>pU (fw i hi),λ_=>fw,λ_=>rfl⟩
theorem Hb {f:Nat->Mv}{n:Nat}{t:Nat->Int}{k:Nat}{now:Int}(hm:aG f n=true)(hf:eH f t n)(hk:k<n):(aX (f k) (t k) now).ok=true:=by
 unfold aX;split
 .exact PS hm hf hk
 .exact bj hm k hk
theorem sX {now:Int}{t:Nat->Int}:∀{k i:Nat},i∈stay now t k->i<k/\t i≠now
 |0,i,h=>by simp[stay]at h
 |k+1,i,h=>by
  simp only[stay]at h;split at h
  .have:=sX h;exact⟨ab,this.2⟩
  .rename_i hne;rcases acN.1 h with h|h
   .have:=sX h;exact⟨ab,this.2⟩
   .simp at h;subst h;exact⟨ab,hne⟩
theorem kz.facts (h:kz f n t m now shift a0 a1 l F o T GL cd)(hn:n<=6)(hm:m<=6)(hf:∀i,i<n->(f i).Fits):(0<=a0/\a0<=10000)/\(0<=a1/\a1<=6)/\l<=6/\o<=6/\(∀i,i<l->(F i).Fits)/\((∀i,i<n->(f i).ok=true)->∀i,i<l->(F i).ok=true)/\(m=n->o=l):=by
 cases h with
 |bad _=>exact⟨ab,ab,ab,ab,λi hi=>absurd hi (aco _),λ_ i hi=>absurd hi (aco _),λ_=>rfl⟩
 |last h hr=>exact⟨(fJ h).1,(fJ h).2.1,hn,hm,hf,λh=>h,λh=>h⟩
 |yes h hne=>
  obtain⟨rZ,_,hft⟩:=cE h;have hr:=(fJ h).1;have hs:=sW now t n;have fw:∀i,i<(stay now t n).length->(iy ((stay now t n).map (λi=>aX (f i) (t i) (now+1))) i).ok=true:=λi hi=>by
   have:=sH (l:=(stay now t n).map (λi=>aX (f i) (t i) (now+1))) (i:=i) (by simpa using hi);obtain⟨j,hj,e⟩:=List.mem_map.1 this;rw[<-e];exact Hb rZ hft (sX hj).1
  exact⟨ab,(fJ h).2.1,ab,ab,λi hi=>pU (fw i hi),λ_=>fw,λ_=>rfl⟩
end
theorem I7 {lo:Nat}(now shift:Int)(ao:Option Addr)(n c:Nat)(f:Nat->Mv)(bo:Option Addr)(d:Nat)(t:Nat->Int)(name:ByteArray)(w:World)(hB:nV w lo now shift ao n c f bo d t):
  Calls Tz.prog 25 #[.agg #[now,shift,.slice ao n c,.slice bo n d],name] w λe w'=>Ev w e w'/\Below w w w':=by
 refine(He now shift ao n c f bo n d t name w hB.bq).mono ?_;rintro e w' ⟨⟨a0,a1,s2,l,c2,F,s3,o,c3,T,cd,rfl,hr,hq⟩,hb⟩;obtain⟨h1,h2,h3,h4,h5,h6,h7⟩:=hr.facts hB.tK hB.tK hB.bq.fit;obtain rfl:=h7 rfl;exact⟨⟨a0,a1,s2,o,c2,F,s3,c3,T,cd,rfl,h1,h2,h3,h6 hB.ok,hq.imp (λ⟨a,b,c,d,e,f⟩=>⟨a,b,c,d,f⟩) id⟩,hb⟩
theorem DD {lo:Nat}(now shift:Int)(ao:Option Addr)(n c:Nat)(f:Nat->Mv)(bo:Option Addr)(d:Nat)(t:Nat->Int)(w:World)(hB:nV w lo now shift ao n c f bo d t):
  Calls Tz.prog 14 #[.agg #[now,shift,.slice ao n c,.slice bo n d]] w λe w'=>EvT w e w'/\Below w w w':=by
 refine(F5 now shift ao n c f bo n d t w hB.bq).mono ?_;rintro e w' ⟨⟨a0,a1,s2,l,c2,F,s3,o,c3,T,sa,js,sc,GL,cd,rfl,hr,hq,_⟩,hb⟩;obtain⟨h1,h2,h3,h4,h5,h6,h7⟩:=hr.facts hB.tK hB.tK hB.bq.fit;obtain rfl:=h7 rfl;exact⟨⟨a0,a1,s2,o,c2,F,s3,c3,T,sa,js,sc,cd,rfl,h1,h2,h3,h6 hB.ok,hq.imp (λ⟨a,b,c,d,e,f⟩=>⟨a,b,c,d,f⟩) id⟩,hb⟩
theorem MS {W:World}{N:Nat}{s:Option Addr}{l c:Nat}{f:Nat->Mv}(h:W.ownsRow N 31 6 (.slice s l c) l (fh f l)):ik W s l c f:=by
 obtain⟨a,c',e,h1,h2⟩:=tG h;cases e;exact⟨h1,λad had=>by obtain⟨b,rfl,hb⟩:=h2 ad had;subst had;exact⟨b,rfl,hb,Pi h⟩⟩
theorem MR {W:World}{N:Nat}{s:Option Addr}{l c:Nat}{t:Nat->Int}{xs:List Value}(h:W.ownsRow N 3 1 (.slice s l c) l xs)(hx:∀j,j<l->xs[j]?=some (.int .i64 (t j))):jG W s l c t:=by
 obtain⟨a,c',e,h1,h2⟩:=tG h;cases e;exact⟨h1,λad had=>by obtain⟨b,rfl,hb⟩:=h2 ad had;subst had;exact⟨b,rfl,hb,λi hi=>by rw[Nat.zero_add,h.cellAt i ab];exact hx i hi⟩⟩
def NR (W:World)(y:Value)(a0 a1:Int)(l:Nat)(F:Nat->Mv)(o:Nat)(T:Nat->Int):Prop:=∃s2 c2 s3 c3,y=.agg #[a0,a1,.slice s2 l c2,.slice s3 o c3]/\ik W s2 l c2 F/\jG W s3 o c3 T
theorem GW (W:World)(f:Nat->Mv)(t:Nat->Int):NR W (.agg #[.int .i64 0,.int .i64 0,(),()]) 0 0 0 f 0 t:=⟨_,_,_,_,rfl,⟨λ_=>⟨rfl,rfl⟩,(λ_ h=>nomatch h)⟩,⟨λ_=>⟨rfl,rfl⟩,(λ_ h=>nomatch h)⟩⟩
theorem GV {now shift:Int}{f:Nat->Mv}{n:Nat}{t:Nat->Int}{m N:Nat}{y:Value}{W:World}(h:Uj now shift f n t m N y W):NR W y now shift n f m t:=by
 obtain⟨v,u,rfl,h1,h2⟩:=h;obtain⟨a,c,rfl⟩:=je h1;obtain⟨a',c',rfl⟩:=je h2;exact⟨_,_,_,_,rfl,MS h1,MR h2 λj hj=>f8 hj⟩
section
variable {f:Nat->Mv}{n:Nat}{t:Nat->Int}{m:Nat}{now shift:Int}{name:ByteArray}{N:Nat}{y:Value}{cd:Int}{W:World}
theorem X6 (h:Hr (Um now shift f n t name) (Uj now shift f n t m) (bp now shift f n t m) N y cd W):∃a0 a1 l F o T,jL f n t m now shift name a0 a1 l F o T cd/\NR W y a0 a1 l F o T:=by
 rcases h with⟨h0,rfl,rfl⟩|⟨h0,⟨⟨k,hk,h⟩,rfl⟩|⟨h1,⟨W',N',k,hk,h⟩,hc⟩⟩
 .exact⟨_,_,_,_,_,_,.bad h0,GW W f t⟩
 .cases hr:fS f n t now k with
  |inl cd=>rw[hr]at h;cases h.2
  |inr x=>
   obtain⟨p,T⟩:=x;rw[hr]at h;obtain⟨_,BN,c2,BT,c3,rfl,_,_,h3,h4⟩:=h;exact⟨_,_,_,_,_,_,.yes h0 hk hr,_,_,_,_,rfl,⟨(λh=>nomatch h),λad had=>by cases had;exact⟨BN,rfl,h3.lt,h3.1⟩⟩,⟨(λh=>nomatch h),λad had=>by cases had;exact⟨BT,rfl,h4.lt,h4.2⟩⟩⟩
 .cases hr:fS f n t now k with
  |inl YF=>
   rw[hr]at h;have:=h.2;simp at this;subst this;exact⟨_,_,_,_,_,_,.no h0 hk hr,GV hc⟩
  |inr x=>rw[hr]at h;cases h.1
theorem nE {l:List Nat}{j:Nat}(h:j<l.length):oe l j=l[j]:=by simp[oe,h]
theorem Yl {s:Option Addr}{l k:Nat}(h:Hr (Vh now shift f n t) (Uj now shift f n t m) (bp now shift f n t m) N y cd W)(hs:cd=0/\ZV f n t now N s l k W\/cd≠0/\s=none/\l=0/\k=0):∃a0 a1 l' F o T GL,kz f n t m now shift a0 a1 l' F o T GL cd/\NR W y a0 a1 l' F o T/\l=GL.length/\W.ownsRow N 9 1 (.slice s l k) l (jM f GL):=by
 have hn:cd≠0->l=([]:List Nat).length/\W.ownsRow N 9 1 (.slice s l k) l (jM f []):=λh0=>by
  rcases hs with⟨h,_⟩|⟨_,rfl,rfl,rfl⟩
  .exact absurd h h0
  .exact⟨rfl,rfl,.inl ⟨rfl,rfl⟩⟩
 rcases h with⟨h0,rfl,rfl⟩|⟨h0,⟨h,rfl⟩|⟨h1,⟨W',N',h⟩,hc⟩⟩
 .exact⟨_,_,_,_,_,_,_,.bad h0,GW W f t,hn ab⟩
 .rcases h with⟨_,_,h⟩|⟨h,_,v,u,rfl,h2,h3⟩
  .cases h
  .obtain⟨a,c,rfl⟩:=je h2;obtain⟨a',c',rfl⟩:=je h3;rw[Dw,sG (g:=iy ((stay now t n).map (λi=>aX (f i) (t i) (now+1)))) (λj hj=>by rw[pT (by simpa using hj),nE hj];simp)]at h2;refine⟨_,_,_,_,_,_,_,.yes h0 h,⟨_,_,_,_,rfl,MS h2,MR h3 λj hj=>?_⟩,?_⟩
   .rw[Jp t _ j hj,nE hj];simp[hj]
   .rcases hs with⟨_,h⟩|⟨h,_⟩
    .exact h
    .exact absurd rfl h
 .rcases h with⟨h,_,h2⟩|⟨_,h,_⟩
  .simp at h2;subst h2;exact⟨_,_,_,_,_,_,_,.last h0 h,GV hc,hn ab⟩
  .cases h
end
end
section
open RowKit
theorem MT:Tz.prog.stoodInHeld 31=false:=bR
theorem KV:Tz.prog.eqGuardType Tz.prog.depth 31=false:=bR
theorem Kl (a:ByteArray):(a==a)=true:=by
 show(a.data==a.data)=true;simp
theorem Sa (a:ByteArray)(d:Nat)(w:World):(Op.equalIn (d+1) 9 a a).run Tz.prog w=.ok true w:=by
 rw[Op.equalIn,Sem.run_bind,run_underlying (Tz.az Tryz.underlying9)];simp[go_sem];exact Kl a
theorem R9 (a:Bool)(d:Nat)(w:World):(Op.equalIn (d+1) 4 a a).run Tz.prog w=.ok true w:=by
 rw[Op.equalIn,Sem.run_bind,run_underlying (Tz.az Tryz.underlying4)];simp[go_sem]
theorem Rl (a:Int)(d:Nat)(w:World):(Op.equalIn (d+1) 3 a a).run Tz.prog w=.ok true w:=by
 rw[Op.equalIn,Sem.run_bind,run_underlying (Tz.az Tryz.underlying3)];simp[go_sem]
theorem Vx (m:Mv)(d:Nat)(w:World):(Op.equalIn (d+1+1) 31 (.agg #[m.name,m.an,m.aD,m.ba,m.late,m.prom]) (.agg #[m.name,m.an,m.aD,m.ba,m.late,m.prom])).run Tz.prog w=.ok true w:=by
 rw[Op.equalIn,Sem.run_bind,run_underlying (Tz.az Tryz.underlying31)];simp only[Result.andThen];simp[MT,part,go_sem,Sa,R9,Rl]
theorem KH (m:Mv)(w:World):(Op.equal 31 (.agg #[m.name,m.an,m.aD,m.ba,m.late,m.prom]) (.agg #[m.name,m.an,m.aD,m.ba,m.late,m.prom])).run Tz.prog w=.ok true w:=Vx m 9998 w
theorem KU (m:Mv)(x y:Operand)(w:World):(eqGuard .neq 31 x y (.agg #[m.name,m.an,m.aD,m.ba,m.late,m.prom]) (.agg #[m.name,m.an,m.aD,m.ba,m.late,m.prom])).run Tz.prog w=.ok () w:=by
 simp[eqGuard,KV,go_sem]
theorem Ts {ev:Operand->Value}{o:Oper}{x y:Operand}{u:TypeId}(ho:o.op=.binOp .neq 31 x y u){m:Mv}(hx:ev x=(.agg #[m.name,m.an,m.aD,m.ba,m.late,m.prom]))(hy:ev y=(.agg #[m.name,m.an,m.aD,m.ba,m.late,m.prom]))(w:World):(execOp ev o).run Tz.prog w=.ok (.value false) w:=by
 unfold execOp;rw[ho];have e:binOp .neq 31 (.agg #[m.name,m.an,m.aD,m.ba,m.late,m.prom]) (.agg #[m.name,m.an,m.aD,m.ba,m.late,m.prom])=(do pure (.bool (!(<-Op.equal 31 (.agg #[m.name,m.an,m.aD,m.ba,m.late,m.prom]) (.agg #[m.name,m.an,m.aD,m.ba,m.late,m.prom]))))):=rfl;simp[hx,hy,KU,e,KH,go_sem]
theorem DF (ao:Option Addr)(cap:Nat)(bo:Option Addr)(cap' n:Nat)(f:Nat->Mv)(w:World)(hn:n<=6)(h1:ik w ao n cap f)(h2:ik w bo n cap' f):
  Calls Tz.prog 48 #[.slice ao n cap,.slice bo n cap'] w λe w'=>e=.returned true/\Below w w w':=by
 go_enter Tz.func48,Tryz.ntmps48
 go_wp2;go_loopw [5] (λi w'=>∃k:Nat,k<=n/\i=.int .i64 k/\Below w w w') (λi _=>n-(intOf i).toNat)
 case atStart=>exact⟨0,acp _,rfl,aca _ _⟩
 case round=>
  obtain⟨k,hk,rfl,hB⟩:=hrel;by_cases aI:k<n
  .obtain⟨b,rfl,bw,aq⟩:=h1.pos ab;obtain⟨b',rfl,bc,aK⟩:=h2.pos ab;obtain⟨c0,c1,c2,c3,c4,c5⟩:=aq.below hB bw k aI;obtain⟨d0,d1,d2,d3,d4,d5⟩:=aK.below hB bc k aI;simp only[Nat.zero_add]at c0 c1 c2 c3 c4 c5 d0 d1 d2 d3 d4 d5;have dG:(k:Int)<n:=ab;have hne:=aE wr;have x0:=λx:aj wr=>x.cell c0
   have x1:=λx:aj wr=>x.cell c1
   have x2:=λx:aj wr=>x.cell c2
   have x3:=λx:aj wr=>x.cell c3
   have x4:=λx:aj wr=>x.cell c4
   have x5:=λx:aj wr=>x.cell c5
   have y0:=λx:aj wr=>x.cell d0
   have y1:=λx:aj wr=>x.cell d1
   have y2:=λx:aj wr=>x.cell d2
   have y3:=λx:aj wr=>x.cell d3
   have y4:=λx:aj wr=>x.cell d4
   have y5:=λx:aj wr=>x.cell d5
   go_wp2;refine ah ?_;repeat(go_big_quiet_step (fail))
   refine BigFrame.wpQuiet_want rfl λK hK=>⟨.bool false,λw' _=>?_,hK _ (wpQuiet_nil (ak ?_))⟩
   .unfold Oper.quietAt;rw[Ts rfl (m:=f k) rfl rfl];exact⟨rfl,rfl⟩
   .intro w1 bF;go_wp2;go_roundw
    case rel=>exact⟨k+1,ab,by go_num,hB.trans (bF.mono hB.size)⟩
    case measure=>exact cf
  .go_wp2;go_ret;exact⟨rfl,hB⟩
theorem JB (ao:Option Addr)(cap:Nat)(bo:Option Addr)(cap' n:Nat)(t:Nat->Int)(w:World)(hn:n<=6)(h1:jG w ao n cap t)(h2:jG w bo n cap' t):
  Calls Tz.prog 49 #[.slice ao n cap,.slice bo n cap'] w λe w'=>e=.returned true/\Below w w w':=by
 by_cases h0:n=0
 .subst h0;exact F9 ao bo cap cap' w
 .obtain⟨b,rfl,bw,aq⟩:=h1.pos ab;obtain⟨b',rfl,bc,aK⟩:=h2.pos ab;exact Ga b 0 cap b' 0 cap' n t w ab bw aq bc aK
def Eh (w:World)(ao:Option Addr)(n:Nat)(g:Nat->ByteArray):Prop:=0<n->∃b,ao=some ⟨b,0,none⟩/\b<w.heap.size/\∀i,i<n->w.cell? ⟨b,i,none⟩=some (.string (g i))
theorem DG (ao:Option Addr)(cap:Nat)(bo:Option Addr)(cap' n:Nat)(g:Nat->ByteArray)(w:World)(hn:n<=6)(h1:Eh w ao n g)(h2:Eh w bo n g):
  Calls Tz.prog 29 #[.slice ao n cap,.slice bo n cap'] w λe w'=>e=.returned true/\Below w w w':=by
 go_enter Tz.func29,Tryz.ntmps29
 go_wp2;go_loopw [5] (λi w'=>∃k:Nat,k<=n/\i=.int .i64 k/\Below w w w') (λi _=>n-(intOf i).toNat)
 case atStart=>exact⟨0,acp _,rfl,aca _ _⟩
 case round=>
  obtain⟨k,hk,rfl,hB⟩:=hrel;by_cases aI:k<n
  .obtain⟨b,rfl,bw,aq⟩:=h1 ab;obtain⟨b',rfl,bc,aK⟩:=h2 ab;have hr:=(hB.cell (p:=⟨b,k,none⟩) bw).trans (aq k aI);have eM:=(hB.cell (p:=⟨b',k,none⟩) bc).trans (aK k aI);have dG:(k:Int)<n:=ab;have hne:=aE wr;have c0:=λx:aj wr=>x.cell hr
   have d0:=λx:aj wr=>x.cell eM
   go_wp2;refine ah ?_;repeat(go_big_quiet_step (fail))
   refine wpQuiet_nil (ak ?_);intro w1 bF;go_wp2;go_roundw
   case rel=>exact⟨k+1,ab,by go_num,hB.trans (bF.mono hB.size)⟩
   case measure=>exact cf
  .go_wp2;go_ret;exact⟨rfl,hB⟩
theorem rG (now shift:Int)(ao:Option Addr)(n c:Nat)(f:Nat->Mv)(bo:Option Addr)(m d:Nat)(t:Nat->Int)(uI:Option Addr)(c':Nat)(uJ:Option Addr)(d':Nat)(w:World)(hn:n<=6)(hm:m<=6)(h1:ik w ao n c f)(h2:jG w bo m d t)(h3:ik w uI n c' f)(h4:jG w uJ m d' t):
  Calls Tz.prog 15 #[.agg #[now,shift,.slice ao n c,.slice bo m d],.agg #[now,shift,.slice uI n c',.slice uJ m d']] w λe w'=>e=.returned true/\Below w w w':=by
 obtain⟨W1,e1,k1,b1,-⟩:=cI w now shift ao n c bo m d;obtain⟨W2,e2,k2,b2,-⟩:=cI W1 now shift uI n c' uJ m d';have bW:=b1.trans (b2.mono b1.size);have p1:=k1.same (b2.block _ k1.lt);obtain⟨y0,y1,y2,y3,y4⟩:=p1.cells;obtain⟨x0,x1,x2,x3,x4⟩:=k2.cells;have H1:=DF ao c uI c' n f W2 hn (h1.below bW) (h3.below bW);have H2:=λW (hW:Below w w W)=>JB bo d uJ d' m t W hm (h2.below hW) (h4.below hW)
 go_enter Tz.func15,Tryz.ntmps15
 go_wp2_with(first
  |(go_at_call 48;refine H1.mono ?_;clear H1;rintro e w3 ⟨rfl,b3⟩;obtain⟨y0,y1,y2,y3,y4⟩:=(p1.same (b3.block _ p1.lt)).cells;obtain⟨x0,x1,x2,x3,x4⟩:=(k2.same (b3.block _ k2.lt)).cells;have B3:=bW.trans (b3.mono bW.size))
  |(go_at_call 49;refine(H2 _ B3).mono ?_;clear H2;rintro e w4 ⟨rfl,b4⟩))
 go_ret;exact⟨rfl,B3.trans (b4.mono B3.size)⟩
def mX (F:Nat->Mv)(l:Nat)(T:Nat->Int)(name:ByteArray)(k:Int):Prop:=k=-1/\(∀i,i<l->bZ (F i).name name=false)\/∃j,j<l/\k=T j/\bZ (F j).name name=true/\∀i,i<j->bZ (F i).name name=false
theorem zD (now shift:Int)(ao:Option Addr)(n c:Nat)(f:Nat->Mv)(bo:Option Addr)(d:Nat)(t:Nat->Int)(name:ByteArray)(w:World)(hn:n<=6)(h1:ik w ao n c f)(h2:jG w bo n d t):
  Calls Tz.prog 27 #[.agg #[now,shift,.slice ao n c,.slice bo n d],name] w λe w'=>(∃k,e=.returned (.int .i64 k)/\mX f n t name k)/\Below w w w':=by
 obtain⟨W1,e1,k1,b1,-⟩:=cI w now shift ao n c bo n d;go_enter Tz.func27,Tryz.ntmps27
 go_wp2;go_loopw [5] (λx W=>∃k:Nat,x=.int .i64 k/\k<=n/\Below W1 W1 W/\∀i,i<k->bZ (f i).name name=false) (λx _=>n-(intOf x).toNat)
 case atStart=>exact⟨0,rfl,acp _,aca _ _,λi hi=>absurd hi (aco _)⟩
 case round=>
  obtain⟨k,rfl,hk,hb,cP⟩:=hrel;have GD:=b1.trans (hb.mono b1.size);obtain⟨y0,y1,y2,y3,y4⟩:=(k1.same (hb.block _ k1.lt)).cells;by_cases aI:k<n
  .have dG:(k:Int)<n:=by omega
   obtain⟨b,rfl,bw,aq⟩:=h1.pos ab;obtain⟨b',rfl,bc,aK⟩:=h2.pos ab;have c0:=(aq.below GD bw k aI).c0;have d0:=aK.below GD bc k aI;simp only[Nat.zero_add]at c0 d0;cases he:bZ (f k).name name with
   |true=>
    have OK:((f k).name.toList==name.toList)=true:=he;go_wp2;all_goals try(exfalso;omega)
    go_ret;exact⟨⟨_,rfl,.inr ⟨k,aI,rfl,he,cP⟩⟩,GD⟩
   |false=>
    have OK:((f k).name.toList==name.toList)=false:=he;go_wp2;all_goals try(exfalso;omega)
    go_roundw
    case rel=>exact⟨k+1,by go_num,ab,hb,λi hi=>by
     by_cases e:i=k
     .subst e;exact he
     .exact cP i ab⟩
    case measure=>exact cf
  .have dG:¬(k:Int)<n:=by omega
   go_wp2;all_goals try(exfalso;omega)
   go_ret;exact⟨⟨-1,rfl,.inl ⟨rfl,λi hi=>cP i ab⟩⟩,GD⟩
theorem mO (now shift:Int)(ao:Option Addr)(n c:Nat)(f:Nat->Mv)(bo:Option Addr)(m d:Nat)(pt fU:Int)(uI:Option Addr)(l c':Nat)(F:Nat->Mv)(uJ:Option Addr)(d':Nat)(T:Nat->Int)(name:ByteArray)(w:World)(hn:n<=6)(hl:l<=6)(h1:ik w ao n c f)(h3:ik w uI l c' F)(h4:jG w uJ l d' T)
  (hP:∀i,i<n->∀k,mX F l T (f i).name k->bZ (f i).name name=false->0<=(f i).prom->0<=k->k=(f i).prom):
  Calls Tz.prog 21 #[.agg #[now,shift,.slice ao n c,.slice bo m d],.agg #[pt,fU,.slice uI l c',.slice uJ l d'],name] w λe w'=>e=.returned true/\Below w w w':=by
 obtain⟨W1,e1,k1,b1,-⟩:=cI w now shift ao n c bo m d;obtain⟨W2,e2,k2,b2,-⟩:=cI W1 pt fU uI l c' uJ l d';have bW:=b1.trans (b2.mono b1.size);have p1:=k1.same (b2.block _ k1.lt);replace hP:Hid _:=hP;go_enter Tz.func21,Tryz.ntmps21
 go_wp2;go_loopw [7] (λx W=>∃k:Nat,x=.int .i64 k/\k<=n/\Below W2 W2 W) (λx _=>n-(intOf x).toNat)
 case atStart=>exact⟨0,rfl,acp _,aca _ _⟩
 case round=>
  obtain⟨k,rfl,hk,hb⟩:=hrel;have GD:=bW.trans (hb.mono bW.size);have q1:=p1.same (hb.block _ p1.lt);have q2:=k2.same (hb.block _ k2.lt);obtain⟨y0,y1,y2,y3,y4⟩:=q1.cells;by_cases aI:k<n
  .have dG:(k:Int)<n:=by omega
   obtain⟨b,rfl,bw,aq⟩:=h1.pos ab;obtain⟨c0,c1,c2,c3,c4,c5⟩:=aq.below GD bw k aI;simp only[Nat.zero_add]at c0 c1 c2 c3 c4 c5;obtain⟨Wm,em,hM,bm,zm⟩:=Eq wr (f k);clear zm;obtain⟨m0,m1,m2,m3,m4,m5⟩:=ly hM;obtain⟨x0,x1,x2,x3,x4⟩:=(q2.same (bm.block _ q2.lt)).cells;have HT:=zD pt fU uI l c' F uJ d' T (f k).name Wm hl (h3.below (GD.trans (bm.mono GD.size))) (h4.below (GD.trans (bm.mono GD.size)));have lM:=(acm.1 hM).1;have nt:∀w3,Below Wm Wm w3->(∃k_1:Nat,Value.int .i64 ((k:Int)+1)=.int .i64 (k_1:Int)/\k_1<=n/\Below W2 W2 w3)/\n-(intOf (.int .i64 ((k:Int)+1))).toNat<n-(intOf (.int .i64 (k:Int))).toNat:=λw3 b3=>⟨⟨k+1,by go_num,ab,(hb.trans (bm.mono hb.size)).trans (b3.mono (acn hb.size bm.size))⟩,cf⟩
   replace nt:Hid _:=nt;cases he:bZ (f k).name name;all_goals
    replace he:((f k).name.toList==name.toList)=_:=he;go_wp2_with(go_at_call 27;refine HT.mono ?_;clear HT;rintro e w3 ⟨⟨kk,rfl,JR⟩,b3⟩;have JR:Hid (bZ (f k).name name=false->0<=(f k).prom->0<=kk->kk=(f k).prom):=hP.out k aI kk JR;obtain⟨m0,m1,m2,m3,m4,m5⟩:=ly (hM.keep (b3.block _ lM)))
    all_goals first
     |exact nt.out w3 b3
     |(exfalso;omega)
     |(exfalso;have e:=JR.out he ab ab;rename_i h;simp[e]at h)
  .have dG:¬(k:Int)<n:=by omega
   go_wp2;all_goals try(exfalso;omega)
   go_ret;exact⟨rfl,GD⟩
theorem yr (now shift:Int)(ao:Option Addr)(n c:Nat)(f:Nat->Mv)(bo:Option Addr)(m d:Nat)(pt fU:Int)(uI:Option Addr)(l c':Nat)(F:Nat->Mv)(uJ:Option Addr)(d':Nat)(T:Nat->Int)(w:World)(hn:n<=6)(hl:l<=6)(h1:ik w ao n c f)(h3:ik w uI l c' F)(h4:jG w uJ l d' T)
  (hP:∀i,i<n->∀k,mX F l T (f i).name k->0<=(f i).prom->0<=k->k=(f i).prom):
  Calls Tz.prog 19 #[.agg #[now,shift,.slice ao n c,.slice bo m d],.agg #[pt,fU,.slice uI l c',.slice uJ l d']] w λe w'=>e=.returned true/\Below w w w':=by
 obtain⟨W1,e1,k1,b1,-⟩:=cI w now shift ao n c bo m d;obtain⟨W2,e2,k2,b2,-⟩:=cI W1 pt fU uI l c' uJ l d';have bW:=b1.trans (b2.mono b1.size);obtain⟨y0,y1,y2,y3,y4⟩:=(k1.same (b2.block _ k1.lt)).cells;obtain⟨x0,x1,x2,x3,x4⟩:=k2.cells;have H1:=mO now shift ao n c f bo m d pt fU uI l c' F uJ d' T ⟨#[]⟩ W2 hn hl (h1.below bW) (h3.below bW) (h4.below bW) (λi hi k hk _=>hP i hi k hk);clear hP;go_enter Tz.func19,Tryz.ntmps19
 go_wp2_with(go_at_call 21;refine H1.mono ?_;clear H1;rintro e w3 ⟨rfl,b3⟩)
 go_ret;exact⟨rfl,bW.trans (b3.mono bW.size)⟩
end
section
theorem ij.one {f:Nat->Mv}{n:Nat}{name:ByteArray}{k k':Int}(h:ij f n name k)(h':ij f n name k'):k=k':=by
 rcases h with⟨rfl,h⟩|⟨j,rfl,hj,hs,hf⟩<;>rcases h' with⟨rfl,h'⟩|⟨j',rfl,hj',lZ,Le⟩
 .rfl
 .rw[h j' hj']at lZ;cases lZ
 .rw[h' j hj]at hs;cases hs
 .rcases Nat.lt_trichotomy j j' with h|h|h
  .rw[Le j h]at hs;cases hs
  .rw[h]
  .rw[hf j' h]at lZ;cases lZ
theorem jL.one {f:Nat->Mv}{n:Nat}{t:Nat->Int}{m:Nat}{now shift:Int}{name:ByteArray}{a0 a1 NU NV c c':Int}{l l' o o':Nat}{F F':Nat->Mv}{T T':Nat->Int}(h:jL f n t m now shift name a0 a1 l F o T c)(h':jL f n t m now shift name NU NV l' F' o' T' c'):a0=NU/\a1=NV/\l=l'/\F=F'/\o=o'/\T=T'/\c=c':=by
 cases h with
 |bad h=>cases h' with
  |bad _=>exact⟨rfl,rfl,rfl,rfl,rfl,rfl,rfl⟩
  |no h'=>rw[h]at h';cases h'
  |yes h'=>rw[h]at h';cases h'
 |no h hk hr=>cases h' with
  |bad h'=>rw[h]at h';cases h'
  |no _ nZ eM=>obtain rfl:=hk.one nZ;rw[hr]at eM;cases eM;exact⟨rfl,rfl,rfl,rfl,rfl,rfl,rfl⟩
  |yes _ nZ eM=>obtain rfl:=hk.one nZ;rw[hr]at eM;cases eM
 |yes h hk hr=>cases h' with
  |bad h'=>rw[h]at h';cases h'
  |no _ nZ eM=>obtain rfl:=hk.one nZ;rw[hr]at eM;cases eM
  |yes _ nZ eM=>obtain rfl:=hk.one nZ;rw[hr]at eM;cases eM;exact⟨rfl,rfl,rfl,rfl,rfl,rfl,rfl⟩
theorem kz.one {f:Nat->Mv}{n:Nat}{t:Nat->Int}{m:Nat}{now shift:Int}{a0 a1 NU NV c c':Int}{l l' o o':Nat}{F F':Nat->Mv}{T T':Nat->Int}{GL ZP:List Nat}(h:kz f n t m now shift a0 a1 l F o T GL c)(h':kz f n t m now shift NU NV l' F' o' T' ZP c'):a0=NU/\a1=NV/\l=l'/\F=F'/\o=o'/\T=T'/\GL=ZP/\c=c':=by
 cases h with
 |bad h=>cases h' with
  |bad _=>exact⟨rfl,rfl,rfl,rfl,rfl,rfl,rfl,rfl⟩
  |last h'=>rw[h]at h';cases h'
  |yes h'=>rw[h]at h';cases h'
 |last h hn=>cases h' with
  |bad h'=>rw[h]at h';cases h'
  |last _ _=>exact⟨rfl,rfl,rfl,rfl,rfl,rfl,rfl,rfl⟩
  |yes _ Cg=>exact absurd hn Cg
 |yes h hn=>cases h' with
  |bad h'=>rw[h]at h';cases h'
  |last _ Cg=>exact absurd Cg hn
  |yes _ _=>exact⟨rfl,rfl,rfl,rfl,rfl,rfl,rfl,rfl⟩
theorem wZ {f:Nat->Mv}{n:Nat}(hm:aG f n=true){i j:Nat}(hi:i<n)(hj:j<n)(h:bZ (f i).name (f j).name=true):i=j:=by
 rcases Nat.lt_trichotomy i j with hl|hl|hl
 .have:=jB hm j hj i hl;rw[(pY h).1,pj]at this;cases this
 .exact hl
 .have:=jB hm i hi j hl;rw[(pY h).2,pj]at this;cases this
theorem gX {m:Mv}{t:Int}:m.eV t=true<->m.ba<=t/\t<=m.late/\(m.prom=-1\/m.prom=t):=by
 unfold Mv.eV sZ;simp only[Bool.and_eq_true,Bool.or_eq_true,beq_iff_eq,fL,and_assoc]
theorem lB {m:Mv}{gD t:Int}(h:(eZ m gD).eV t=true):m.eV t=true/\(m.prom=-1->gD<=t):=by
 rw[gX]at h⊢;unfold eZ at h;split at h
 .rename_i hp;simp only at h;exact⟨⟨ab,h.2.1,.inl hp⟩,λ_=>ab⟩
 .rename_i hp;exact⟨h,λe=>absurd e hp⟩
theorem FE (a b:Mv)(gD s t:Int):(eZ a gD).gt (eZ b gD) s t=a.gt b s t:=by
 unfold eZ;split<;>split<;>rfl
theorem IY (a b:Mv)(x y x' y' s t:Int):(aX a x y).gt (aX b x' y') s t=a.gt b s t:=by
 unfold aX;split<;>split<;>rfl
theorem DC {f:Nat->Mv}{t:Nat->Int}{p:Nat}:∀{k i:Nat},i<k->t p<=t i->fo f t p i∈al f t p k
 |0,i,h,_=>absurd h (aco _)
 |k+1,i,h,ht=>by
  simp only[al];by_cases e:i=k
  .subst e;rw[if_neg ab];simp
  .have:=DC (f:=f) (k:=k) (i:=i) ab ht;split
   .exact this
   .exact List.mem_append_left _ this
section
variable {f:Nat->Mv}{n:Nat}{t:Nat->Int}{p:Nat}{T:Nat->Int}
theorem rm (hm:aG f n=true)(hf:eH f t n)(hp:p<n)(hT:dc f n t p=some T):(∀j,j<(al f t p n).length->(eZ (iy (al f t p n) j) (t p+4)).eV (T j)=true)/\dY (iy (al f t p n)) (al f t p n).length T (al f t p n).length=true:=by
 have hl:=C9 hT;rw[FG hm hf hp hl]at hT;have hF:=(KR hT).fits;obtain⟨_,_,h1,h2⟩:=nh hF;have h6:(al f t p n).length<=6:=acn (fk _ _ _ _) (cg hm);have rZ:aG (iy (al f t p n)) (al f t p n).length=true:=rj h6 (λi hi=>nJ hm hf hp hl hi) (λ_ _=>rfl) ((rk hm).sublist (pF f t p n));refine⟨λj hj=>h1 j hj,(fY rZ).2 ⟨λj hj=>(lB (h1 j hj)).1,λj k hk hj=>?_⟩⟩;have:=h2 j k hk hj;rw[<-FE _ _ (t p+4)];exact this
theorem A4 {j:Nat}(hj:j<(al f t p n).length):∃i,i<n/\t p<=t i/\iy (al f t p n) j=fo f t p i:=kv (sH hj)
theorem Ha {i:Nat}(hf:eH f t n)(hi:i<n)(h0:0<=(f i).prom)(now:Int):(aX (f i) (t i) now).prom=(f i).prom/\(f i).prom=t i:=by
 have:=(gX.1 (hf.1 i hi)).2.2;have e:(f i).prom=t i:=ab;unfold aX;split
 .exact⟨e.symm,e⟩
 .exact⟨rfl,e⟩
theorem FH {now shift:Int}(hb:bp now shift f n t n=true)(hp:p<n)(ht:t p=now)(hT:dc f n t p=some T):bp now shift (iy (al f t p n)) (al f t p n).length T (al f t p n).length=true:=by
 obtain⟨hm,_,hf⟩:=cE hb;obtain⟨r1,r2,_⟩:=fJ hb;obtain⟨h1,h2⟩:=rm hm hf hp hT;refine ml (fL.2 r1) (fL.2 r2) h2 (pZ λj hj=>?_);obtain⟨hs,ew⟩:=lB (h1 j hj);obtain⟨i,hi,US,e⟩:=A4 hj;rw[e]at hs ew⊢;have hs:=gX.1 hs;by_cases QE:(fo f t p i).prom=-1
 .have:=ew QE;simp[fB];omega
 .have Sv:(fo f t p i).prom=T j:=by omega
  have:now<=T j:=by
   rw[<-Sv];unfold fo at QE⊢;split
   .rename_i e;rw[if_pos e]at QE;exact absurd rfl QE
   .rename_i e;rw[if_neg e]at QE;unfold aX at QE⊢;split
    .show now<=t i;omega
    .rename_i h;rw[if_neg h]at QE;have:=(gX.1 (hf.1 i hi)).2.2;omega
  simp[fB,QE];omega
theorem FJ {name:ByteArray}(hm:aG f n=true)(hf:eH f t n)(hp:p<n)(hT:dc f n t p=some T)(hs:bZ (f p).name name=true):∀i,i<n->∀k,mX (iy (al f t p n)) (al f t p n).length T (f i).name k->bZ (f i).name name=false->0<=(f i).prom->0<=k->k=(f i).prom:=by
 intro i hi k hk hne h0 uZ;rcases hk with⟨rfl,_⟩|⟨j,hj,rfl,mw,_⟩
 .omega
 .obtain⟨i0,DS,US,e⟩:=A4 hj;rw[e,lC]at mw;obtain rfl:=wZ hm DS hi mw;have OQ:i0≠p:=λe=>by subst e;rw[hs]at hne;cases hne
  have h:=(lB ((rm hm hf hp hT).1 j hj)).1;rw[e,qb OQ]at h;have hq:=Ha hf hi h0 (t p);have:=(gX.1 h).2.2;omega
theorem FK {name:ByteArray}(hm:aG f n=true)(hf:eH f t n)(hp:p<n)(hT:dc f n t p=some T)(hs:bZ (f p).name name=true){k:Int}(hk:mX (iy (al f t p n)) (al f t p n).length T name k):t p+6<=k:=by
 rcases hk with⟨_,lp⟩|⟨j,hj,rfl,mw,_⟩
 .obtain⟨j,hj,e⟩:=List.getElem_of_mem (DC (f:=f) hp (Int.le_refl (t p)));have:=lp j hj;rw[pT hj,e,lC,hs]at this;cases this
 .obtain⟨i0,DS,US,e⟩:=A4 hj;rw[e,lC]at mw;obtain rfl:=wZ hm DS hp (xb mw (tI hs));have h:=(lB ((rm hm hf hp hT).1 j hj)).1;rw[e,tf]at h;exact(gX.1 h).1
end
theorem zy (now:Int)(t:Nat->Int):∀n,(stay now t n).length+(gone now t n).length=n
 |0=>rfl
 |n+1=>by
  have:=zy now t n;simp only[stay,gone];split<;>simp<;>omega
theorem vU {now:Int}{t:Nat->Int}:∀{k i:Nat},i∈gone now t k->i<k/\t i=now
 |0,i,h=>by simp[gone]at h
 |k+1,i,h=>by
  simp only[gone]at h;split at h
  .rename_i he;rcases acN.1 h with h|h
   .have:=vU h;exact⟨ab,this.2⟩
   .simp at h;subst h;exact⟨ab,he⟩
  .have:=vU h;exact⟨ab,this.2⟩
theorem IT (a b:Mv)(s:Int):a.gt b s s=true:=by
 unfold Mv.gt yZ;have:=iq a.an a.aD b.aD;simp;omega
theorem BW {f:Nat->Mv}{t:Nat->Int}{now:Int}:∀{n:Nat},eH f t n->(gone now t n).length<=1
 |0,_=>by simp[gone]
 |n+1,h=>by
  have h':eH f t n:=⟨λj hj=>h.1 j ab,λj k hk hj=>h.2 j k hk ab⟩;have:=BW (now:=now) h';simp only[gone];split
  .rename_i e;cases hg:gone now t n with
   |nil=>simp
   |cons i l=>
    obtain⟨h1,h2⟩:=vU (i:=i) (by rw[hg];simp);have h3:=h.2 n i h1 ab;rw[h2,e,IT]at h3;cases h3
  .exact this
theorem p7 (now:Int)(t:Nat->Int):∀n,stay now t n=(List.range n).filter (λk=>!decide (t k=now))
 |0=>rfl
 |n+1=>by
  simp only[stay,List.range_succ,List.filter_append,<-p7 now t n];split<;>simp[*]
theorem zG (f:Nat->Mv)(t:Nat->Int)(p:Nat):∀n,al f t p n=((List.range n).filter (λk=>!decide (t k<t p))).map (fo f t p)
 |0=>rfl
 |n+1=>by
  simp only[al,List.range_succ,List.filter_append,List.map_append,<-zG f t p n];split<;>simp[*]
theorem A1 {now:Int}{t:Nat->Int}{n i j:Nat}(lI:i<j)(hj:j<(stay now t n).length):oe (stay now t n) i<oe (stay now t n) j:=by
 rw[nE ab,nE hj];have h:((List.range n).filter (λk=>!decide (t k=now))).Pairwise (·<·):=List.Pairwise.filter _ List.pairwise_lt_range;rw[<-p7]at h;exact List.pairwise_iff_getElem.1 h i j ab hj lI
section
variable {f:Nat->Mv}{n:Nat}{t:Nat->Int}{now shift:Int}
def Q5 (f:Nat->Mv)(t:Nat->Int)(now:Int)(n:Nat):Nat->Mv:=iy ((stay now t n).map (λi=>aX (f i) (t i) (now+1)))
def Q6 (t:Nat->Int)(now:Int)(n:Nat):Nat->Int:=λj=>((stay now t n).map t).getD j 0
theorem lT {j:Nat}(hj:j<(stay now t n).length):Q5 f t now n j=aX (f (oe (stay now t n) j)) (t (oe (stay now t n) j)) (now+1):=by
 unfold Q5;rw[pT (by simpa using hj),nE hj];simp
theorem lU {j:Nat}(hj:j<(stay now t n).length):Q6 t now n j=t (oe (stay now t n) j):=by
 unfold Q6;rw[nE hj];simp[hj]
theorem iA {j:Nat}(hj:j<(stay now t n).length):oe (stay now t n) j<n/\t (oe (stay now t n) j)≠now:=by
 rw[nE hj];exact sX (List.getElem_mem hj)
theorem Hi (hb:bp now shift f n t n=true){i:Nat}(hi:i<n):now<=t i:=by
 have h:=(fJ hb).2.2;apply acK;intro hc;rw[pC hi (by simp[fB];omega)]at h;cases h
theorem zC (hb:bp now shift f n t n=true)(hne:now≠10000):bp (now+1) shift (Q5 f t now n) (stay now t n).length (Q6 t now n) (stay now t n).length=true:=by
 obtain⟨hm,_,hf⟩:=cE hb;obtain⟨r1,r2,_⟩:=fJ hb;have h6:(stay now t n).length<=6:=acn (sW now t n) (cg hm);have rZ:aG (Q5 f t now n) (stay now t n).length=true:=by
  have:=rj (g:=Q5 f t now n) (l:=(stay now t n).map (λi=>aX (f i) (t i) (now+1))) (by simpa using h6) (λi hi=>?_) (λ_ _=>rfl) ?_
  .simpa using this
  .simp only[List.length_map]at hi;rw[lT hi];exact Hb hm hf (iA hi).1
  .have e:((stay now t n).map (λi=>aX (f i) (t i) (now+1))).map Mv.name=(stay now t n).map λi=>(f i).name:=by
    rw[List.map_map];apply List.map_congr_left;intro i _;simp only[Function.comp];unfold aX;split<;>rfl
   rw[e,p7];exact(rk hm).sublist (List.filter_sublist.map _)
 refine ml (fL.2 ab) (fL.2 r2) ((fY rZ).2 ⟨λj hj=>?_,λj k hk hj=>?_⟩) (pZ λj hj=>?_)
 .rw[lT hj,lU hj];have h:=gX.1 (hf.1 _ (iA hj).1);rw[gX];unfold aX;split
  .exact⟨h.1,h.2.1,.inr rfl⟩
  .exact h
 .rw[lT hj,lT ab,lU hj,lU ab,IY];exact hf.2 _ _ (A1 hk hj) (iA hj).1
 .rw[lT hj,lU hj];have h1:=Hi hb (iA hj).1;have h2:=(iA hj).2;unfold aX;split
  .simp[fB];omega
  .simp[fB];omega
theorem Jt (hb:bp now shift f n t n=true):∀i,i<n->∀k,mX (Q5 f t now n) (stay now t n).length (Q6 t now n) (f i).name k->0<=(f i).prom->0<=k->k=(f i).prom:=by
 obtain⟨hm,_,hf⟩:=cE hb;intro i hi k hk h0 uZ;rcases hk with⟨rfl,_⟩|⟨j,hj,rfl,mw,_⟩
 .omega
 .rw[lT hj]at mw;have e:(aX (f (oe (stay now t n) j)) (t (oe (stay now t n) j)) (now+1)).name=(f (oe (stay now t n) j)).name:=by unfold aX;split<;>rfl
  rw[e]at mw;have:=wZ hm (iA hj).1 hi mw;rw[lU hj,this];exact(Ha hf hi h0 0).2.symm
theorem Jv (hb:bp now shift f n t n=true){q:Nat}(hq:q<(stay now t n).length):al (Q5 f t now n) (Q6 t now n) q (stay now t n).length=al f t (oe (stay now t n) q) n:=by
 have WX:now+1<=t (oe (stay now t n) q):=by
  have:=Hi hb (iA hq).1;have:=(iA hq).2;omega
 have e1:(List.range n).filter (λk=>!decide (t k<t (oe (stay now t n) q)))=(stay now t n).filter (λk=>!decide (t k<t (oe (stay now t n) q))):=by
  rw[p7,List.filter_filter];apply List.filter_congr;intro k _;by_cases h:t k<t (oe (stay now t n) q)
  .rw[<-p7];simp[h]
  .rw[<-p7];have:t k≠now:=ab;simp[h,this]
 rw[zG,zG,e1];have e2:=zj (stay now t n);generalize hS:stay now t n=S at*;rw[show S.filter (λk=>!decide (t k<t (oe S q)))=((List.range S.length).map (oe S)).filter (λk=>!decide (t k<t (oe S q))) from by rw[e2]];rw[List.filter_map,List.map_map];have e3:(List.range S.length).filter (λk=>!decide (Q6 t now n k<Q6 t now n q))=(List.range S.length).filter ((λk=>!decide (t k<t (oe S q)))∘oe S):=by
  apply List.filter_congr;intro k hk;have hk:k<S.length:=List.mem_range.1 hk;simp only[Function.comp];rw[lU (by rw[hS];exact hk),lU (by rw[hS];exact hq),hS]
 rw[e3];apply List.map_congr_left;intro k hk;have hk:k<S.length:=List.mem_range.1 (List.mem_filter.1 hk).1;simp only[Function.comp];unfold fo;have jY:=hk;have o0:=hq;rw[<-hS]at jY o0;rw[lT jY,lT o0,lU jY,lU o0,hS];by_cases e:k=q
 .subst e;rw[if_pos rfl,if_pos rfl];unfold qH aX;split<;>rfl
 .have hne:oe S k≠oe S q:=by
   rcases Nat.lt_or_gt_of_ne e with h|h
   .have:=A1 (now:=now) (t:=t) (n:=n) h (by rw[hS];exact hq);rw[hS]at this;omega
   .have:=A1 (now:=now) (t:=t) (n:=n) h (by rw[hS];exact hk);rw[hS]at this;omega
  rw[if_neg e,if_neg hne];unfold aX;split<;>split<;>first|rfl|(exfalso;omega)|simp_all
theorem Ju (hb:bp now shift f n t n=true)(hs:uC f n t):uC (Q5 f t now n) (stay now t n).length (Q6 t now n):=by
 intro q hq hl;have h1:=(iA (t:=t) (now:=now) (n:=n) hq).1;rw[lT hq]at hl;have ll:(f (oe (stay now t n) q)).an=true:=by unfold aX at hl;split at hl<;>exact hl
 have h:=hs _ h1 ll;unfold dc at h⊢;rw[Jv hb hq,lU hq,lT hq];have e:(aX (f (oe (stay now t n) q)) (t (oe (stay now t n) q)) (now+1)).late=(f (oe (stay now t n) q)).late:=by unfold aX;split<;>rfl
 rw[e];exact h
theorem Jr {m:Nat}{name:ByteArray}{k:Int}(hs:eX now shift f n t m=true)(hk:ij f n name k):fS f n t now k≠.inl 5:=by
 intro h;have Bh:uC f n t:=by
  unfold eX at hs;simp only[Bool.and_eq_true,decide_eq_true_eq]at hs;exact hs.2
 unfold fS at h;split at h
 .cases h
 .rename_i h0;rcases hk with⟨rfl,_⟩|⟨j,rfl,hj,_,_⟩
  .omega
  .simp only[Int.toNat_natCast]at h;split at h
   .cases h
   .rename_i hl;split at h
    .have:=Bh j hj (by simpa using hl);split at h
     .rename_i hr;rw[hr]at this;cases this
     .cases h
    .cases h
end
end
section
open RowKit
section
variable {f:Nat->Mv}{n:Nat}{t:Nat->Int}{m:Nat}{now shift:Int}{name:ByteArray}{a0 a1:Int}{l:Nat}{F:Nat->Mv}{o:Nat}{T:Nat->Int}{cd:Int}{GL:List Nat}
theorem jL.Gz (h:jL f n t m now shift name a0 a1 l F o T cd):o=l:=by
 cases h with
 |bad=>rfl
 |no hb=>exact(cE hb).2.1
 |yes=>rfl
theorem kz.Gz (h:kz f n t m now shift a0 a1 l F o T GL cd):o=l:=by
 cases h with
 |bad=>rfl
 |last hb=>exact(cE hb).2.1
 |yes=>rfl
theorem jL.cd_ (h:jL f n t m now shift name a0 a1 l F o T cd):cd=0\/cd=1\/1<cd:=by
 cases h with
 |bad=>exact .inr (.inl rfl)
 |no _ _ hr=>exact .inr (.inr (FF hr))
 |yes=>exact .inl rfl
theorem jL.law (h:jL f n t m now shift name a0 a1 l F o T cd):(eX now shift f n t m=true->cd≠5)/\(1<cd->a0=now/\a1=shift/\l=n/\F=f/\o=m/\T=t)/\(cd=0->a0=now/\bp a0 a1 F l T l=true/\(∀i,i<n->∀k,mX F l T (f i).name k->bZ (f i).name name=false->0<=(f i).prom->0<=k->k=(f i).prom)/\∀k,mX F l T name k->now+6<=k):=by
 cases h with
 |bad hb=>exact⟨λ_=>ab,λh=>ab,λh=>ab⟩
 |no hb hk hr=>exact⟨λhs e=>Jr hs hk (e▸hr),λ_=>⟨rfl,rfl,rfl,rfl,rfl,rfl⟩,λh=>absurd (FF hr) ab⟩
 |yes hb hk hr=>
  obtain⟨hp,hl,ht,hT,hs⟩:=L8 hk hr;obtain⟨hm,uR,hf⟩:=cE hb;subst uR;refine⟨λ_=>ab,λh=>ab,λ_=>⟨rfl,FH hb hp ht hT,FJ hm hf hp hT hs,λk hk=>?_⟩⟩;have:=FK hm hf hp hT hs hk;omega
theorem kz.law (h:kz f n t m now shift a0 a1 l F o T GL cd):GL.length<=1/\(cd=0->bp a0 a1 F l T l=true/\(∀i,i<n->∀k,mX F l T (f i).name k->0<=(f i).prom->0<=k->k=(f i).prom)/\l+GL.length=n/\(eX now shift f n t m=true->eX a0 a1 F l T l=true)):=by
 cases h with
 |bad hb=>exact⟨aH,λh=>ab⟩
 |last hb=>exact⟨aH,λh=>ab⟩
 |yes hb hne=>
  obtain⟨hm,uR,hf⟩:=cE hb;subst uR;refine⟨BW hf,λ_=>⟨zC hb hne,Jt hb,zy now t m,λhs=>p9 (zC hb hne) (Ju hb ?_)⟩⟩;unfold eX at hs;simp only[Bool.and_eq_true,decide_eq_true_eq]at hs;exact hs.2
end
theorem Q3 {W:World}{N:Nat}{s:Option Addr}{l c:Nat}{f:Nat->Mv}{GL:List Nat}(h:W.ownsRow N 9 1 (.slice s l c) l (jM f GL))(hl:l=GL.length):Eh W s l (λi=>(f (oe GL i)).name):=by
 intro h0;obtain⟨a,c',e,h1,h2⟩:=tG h;cases e;cases s with
 |none=>exact absurd (h1 rfl).1 ab
 |some ad=>
  obtain⟨b,rfl,hb⟩:=h2 ad rfl;exact⟨b,rfl,hb,λi hi=>by rw[h.cellAt i ab];exact Im f GL i ab⟩
theorem Eh.bl {w W:World}{ao:Option Addr}{n:Nat}{g:Nat->ByteArray}(h:Eh w ao n g)(b:Bl w w W):Eh W ao n g:=λh0=>by
 obtain⟨b',e,hl,hr⟩:=h h0;refine⟨b',e,acl hl b.size,λi hi=>?_⟩;have:=hr i hi;simp only[World.cell?,b.block b' hl]at this⊢;exact this
end
