import Derived.Test.YtlmcblcijndipaaGreatDoorj47
set_option linter.unusedVariables false
set_option linter.unusedSectionVars false
set_option linter.unusedSimpArgs false
set_option maxHeartbeats 8000000
set_option maxRecDepth 100000
namespace Go.Proofs.YtlmcblcijndipaaGreatDoor
open Conc RowKit
section
variable [Gl]{ok:Ctx}{c:Frame}
theorem ig.to {V W:World}{a:Option Addr}{l:Nat}{cd:Nat->Int}(h:ig V a l cd){τ:Nat->Question->Nat}{d:Nat}(b:Bl V.heap.size V W):ig (re W τ d) a l cd:=by
 obtain⟨h1,h2,h3⟩:=h;refine⟨h1,h2.imp id λ⟨b',off,e,hl,hr⟩=>⟨b',off,e,acl hl b.size,λi hi=>?_⟩,h3⟩;have:=hr i hi;have e:=b.block b' hl;simp only[World.cell?]at this⊢;rw[show(re W τ d).heap[b']?=V.heap[b']? from e];exact this
theorem Qc {W:World}{a0 a1:Int}{s2:Option Addr}{l c2:Nat}{F:Nat->Mv}{s3:Option Addr}{c3:Nat}{T:Nat->Int}(h1:ik W s2 l c2 F)(h2:jG W s3 l c3 T)(hl:l<=6)(g0:0<=a0/\a0<=10000)(g1:0<=a1/\a1<=6)(g4:∀i,i<l->(F i).Fits):Bq W a0 a1 s2 l c2 F s3 l c3 T:=by
 refine⟨hl,hl,h1,h2,λe=>?_,g4⟩;rcases e with e|e
 .exact⟨(h1.1 e).1,(h1.1 e).1,g0,g1⟩
 .exact⟨(h2.1 e).1,(h2.1 e).1,g0,g1⟩
theorem Gb (E:eI Tz.prog ok c dt)(hL:ok.bI 5=true)(I:ZS ok){V:World}{a:Option Addr}{l cap:Nat}{cd:Nat->Int}(h:ig V a l cd)(uP:l<=cap){a':Option Addr}{l' cap':Nat}{YF:Nat->Int}(h':ig V a' l' YF)(Wf:l'<=cap'):
  aF Tz.prog ok c dt (λv V'=>v=.bool true/\Bl V.heap.size V V') ⟨Frame.enter Tz.prog 5 #[.slice a l cap,.slice a' l' cap'] .normal,[],V⟩:=by
 have lL:Hid (∀(x:Act) (w':World) (todo:List Item),Bl V.heap.size V w'->x.defers=[]->x.tmps[4]?=some (.bool true)->aF Tz.prog ok c dt (λv V'=>v=.bool true/\Bl V.heap.size V V') ⟨{(base 5).at x todo with mode:=.returning},[],w'⟩):=by
  rintro x w' todo h1 h2 h3;refine aF.ends (λτ d=>⟨rfl,.bool true,⟨rfl,h2,rfl,_,Tz.func5,?_⟩,rfl,⟨h1.size,h1.block⟩⟩) ⟨_,4,Tz.func5,rfl⟩;have:=results_tmp (fn:=Tryz.f5) rfl x.tmps Tz.prog (re w' τ d);rw[lj h3]at this;exact this
 refine aF.en Tz.func5 rfl Tryz.ntmps5 H0 ?_;refine aF.ck E hL [_,_,_] _ λK R τ d hK hR=>?_
 have H1:=FI a l cap cd (re V τ d) h uP;have hn:=h.1;have Cg:=h'.1;replace h':Hid _:=h';unfold maxLen at hn Cg;clear h;simp only[aP];go_wp2_with(go_at_call 24;refine H1.mono ?_;clear H1;rintro e w1 ⟨⟨now,shift,ao,n,cp,f,bo,m,dp,t,name,rfl,hB⟩,b1⟩;obtain⟨W2,e2,k5,b2,-⟩:=cI w1 now shift ao n cp bo m dp)
 .exact hR.out _ _ λtodo=>lL.out _ _ _ ⟨ack _,λ_ _=>rfl⟩ rfl rfl
 rotate_left
 .exact hR.out _ _ λtodo=>lL.out _ _ _ ⟨ack _,λ_ _=>rfl⟩ rfl rfl
 refine hK.out _ _ ?_;clear hK hR K R e2;have bV:=(Bl.pu b1).trans (Bl.of b2) b1.size;replace hB:=hB.bl (Bl.of b2);clear b1 b2;generalize z_:w1.heap.size=B5 at*;clear z_ w1 τ d;refine aF.seq E hL (aF.rg E hL (aF.oc E hL 0 2 λK τ d hK=>?_));obtain⟨y0,y1,y2,y3,y4⟩:=(show am (re W2 τ d) _ _ _ _ _ from k5).cells;simp only[List.drop_succ_cons,List.drop_zero,List.take_succ_cons,List.take_zero,Act.put];go_wp2;refine hK.out _ _ (aF.un ?_);clear hK K y0 y1 y2 y3 y4 τ d;refine aF.fX E (i:=2) rfl rfl I.sr (λw=>Ia) (JD (name:=name) E I hL hB ?_);rintro y c8 W3 b3 hy;rw[dO rfl];obtain⟨a0,a1,l3,F,o,T,hO,s2,c2,s3,c3,rfl,uU,Ak⟩:=X6 hy;clear hy;replace k5:=k5.same (b3.block _ k5.lt);replace hB:=hB.bl b3;replace bV:=bV.trans b3 bV.size;clear b3 W2;refine aF.oc E hL 3 6 λK τ d hK=>?_
 obtain⟨W4,e4,k7,b4,-⟩:=cI (re W3 τ d) a0 a1 s2 l3 c2 s3 o c3;simp only[List.drop_succ_cons,List.drop_zero,List.take_succ_cons,List.take_zero,Act.put];go_wp2;refine hK.out _ _ (aF.regionEnd E hL ?_);clear hK K e4;have xw:Bl W3.heap.size W3 W4:=Bl.pu b4;replace k5:=k5.same (xw.block _ k5.lt);replace hB:=hB.bl xw;replace uU:=uU.bl xw;replace Ak:=Ak.bl xw;replace bV:=bV.trans xw bV.size;clear b4 xw;generalize Sj:(re W3 τ d).heap.size=B7 at*;clear Sj τ d W3;refine aF.ck E hL [_] _ λK R τ d hK hR=>?_
 obtain⟨y0,y1,y2,y3,y4⟩:=(show am (re W4 τ d) _ _ _ _ _ from k5).cells;have H1:=He now shift ao n cp f bo m dp t name (re W4 τ d) (hB.bl ⟨ack _,λ_ _=>rfl⟩);replace hB:Hid _:=hB;simp only[aP];go_wp2_with(go_at_call 25;refine H1.mono ?_;clear H1;rintro e w5 ⟨⟨NU,NV,s4,l4,c4,F',s5,o',c5,T',cd9,rfl,VP,hQ⟩,b5⟩;obtain⟨W6,e6,k9,b6,-⟩:=cI w5 NU NV s4 l4 c4 s5 o' c5)
 refine hK.out _ _ ?_;clear hK hR K R e6 y0 y1 y2 y3 y4;obtain⟨E5,o0,-⟩:=hQ.src;obtain⟨rfl,rfl,rfl,rfl,rfl,rfl,rfl⟩:=hO.one VP;clear hQ VP;have El:=(Bl.pu b5).trans (Bl.of b6) b5.size;replace E5:=E5.bl (Bl.of b6);replace o0:=o0.bl (Bl.of b6);replace k5:=k5.same (El.block _ k5.lt);replace k7:=k7.same (El.block _ k7.lt);replace hB:=hB.out.bl El;replace uU:=uU.bl El;replace Ak:=Ak.bl El;replace bV:=bV.trans El bV.size;clear b5 b6 El;generalize KW:w5.heap.size=B9 at*;clear KW τ d w5 W4;refine aF.seq E hL (aF.rg E hL (aF.oc E hL 0 1 λK τ d hK=>?_));obtain⟨y0,y1,y2,y3,y4⟩:=(show am (re W6 τ d) _ _ _ _ _ from k5).cells;simp only[List.drop_succ_cons,List.drop_zero,List.take_succ_cons,List.take_zero,Act.put];go_wp2;refine hK.out _ _ (aF.un ?_);clear hK K y0 y1 y2 y3 y4 τ d;refine aF.fX E (i:=1) rfl rfl I.su (λw=>Ia) (xq E I.su I.ro I.pl I.sb I.bt hL hB ?_);rintro W7 b7;rw[dO rfl];replace E5:=E5.bl b7;replace o0:=o0.bl b7;replace k5:=k5.same (b7.block _ k5.lt);replace k7:=k7.same (b7.block _ k7.lt);replace k9:=k9.same (b7.block _ k9.lt);replace hB:=hB.bl b7;replace uU:=uU.bl b7;replace Ak:=Ak.bl b7;replace bV:=bV.trans b7 bV.size;clear b7 W6;have Ru:∀W,Bl W7.heap.size W7 W->_:=λW hW=>(hB.bl hW).su
 obtain⟨h5,hC,hA⟩:=hO.law;generalize Lu:eX now shift f n t m=sb at*;refine aF.oc E hL 2 1 λK τ d hK=>?_
 simp only[List.drop_succ_cons,List.drop_zero,List.take_succ_cons,List.take_zero,Act.put];go_wp2;refine hK.out _ _ (aF.regionEnd E hL (aF.un ?_));clear hK K τ d;obtain⟨g0,g1,g2,-,g4,-⟩:=hO.facts hB.n6 hB.m6 hB.fit;have Iu:=hO.cd_;obtain rfl:=hO.Gz;have hX:=Qc uU Ak g2 g0 g1 g4;clear hO g4;refine aF.ck E hL [_,_] _ λK R τ d hK hR=>?_
 have GP:Hid (∀x w',gd x (rW 167 [(1,.slice a' l' cap')])->Bl V.heap.size V w'->K x w'):=by
  intro x w' hf hb;refine hK.out _ _ ?_;clear hK hR K R k5 k7 k9 hX uU Ak E5 o0 hB hA hC h5 Iu g0 g1 g2 Ru Lu bV τ d;obtain⟨u,rfl⟩:=hf.open;clear hf;refine aF.ck E hL [_] _ λK R τ d hK hR=>?_
  have H1:=Js a' l' cap' YF (re w' τ d) (ig.to h'.out hb) Wf;simp only[aP];go_wp2_with(go_at_call 28;refine H1.mono ?_;clear H1;rintro e w1 ⟨⟨now,shift,ao,n,cp,f,bo,m,dp,t,rfl,hB⟩,b1⟩;obtain⟨W2,e2,k5,b2,-⟩:=cI w1 now shift ao n cp bo m dp)
  refine hK.out _ _ ?_;clear hK hR K R e2;have bV:=(hb.trans (Bl.pu b1) hb.size).trans (Bl.of b2) (acn hb.size b1.size);replace hB:=hB.bl (Bl.of b2);clear b1 b2 hb;generalize z_:w1.heap.size=B5 at*;clear z_ w1 τ d w';refine aF.seq E hL (aF.rg E hL (aF.oc E hL 0 1 λK τ d hK=>?_));obtain⟨y0,y1,y2,y3,y4⟩:=(show am (re W2 τ d) _ _ _ _ _ from k5).cells;simp only[List.drop_succ_cons,List.drop_zero,List.take_succ_cons,List.take_zero,Act.put];go_wp2;refine hK.out _ _ (aF.un ?_);clear hK K y0 y1 y2 y3 y4 τ d;refine aF.fX E (i:=1) rfl rfl I.st (λw=>Ia) (Nd E I hL hB ?_);rintro y sa la ka c8 W3 b3 hy hN;rw[dO rfl];obtain⟨a0,a1,l3,F,o,T,GL,hO,⟨s2,c2,s3,c3,rfl,uU,Ak⟩,va,aq⟩:=Yl hy hN;clear hy hN;replace va:Hid _:=va;replace k5:=k5.same (b3.block _ k5.lt);replace hB:=hB.bl b3;replace bV:=bV.trans b3 bV.size;clear b3;refine aF.oc E hL 2 8 λK τ d hK=>?_
  obtain⟨W4,e4,k7,b4,-⟩:=cI (re W3 τ d) a0 a1 s2 l3 c2 s3 o c3;simp only[List.drop_succ_cons,List.drop_zero,List.take_succ_cons,List.take_zero,Act.put];go_wp2;refine hK.out _ _ (aF.regionEnd E hL ?_);clear hK K e4;have xw:Bl W3.heap.size W3 W4:=Bl.pu b4;have Ql:=(Q3 aq va.out).bl xw;replace k5:=k5.same (xw.block _ k5.lt);replace hB:=hB.bl xw;replace uU:=uU.bl xw;replace Ak:=Ak.bl xw;replace bV:=bV.trans xw bV.size;clear b4 xw aq;generalize Sj:(re W3 τ d).heap.size=B7 at*;clear Sj τ d W3 W2;obtain⟨g0,g1,g2,-,g4,-⟩:=hO.facts hB.n6 hB.m6 hB.fit;obtain rfl:=hO.Gz;have hX:=Qc uU Ak g2 g0 g1 g4;obtain⟨yR,hA⟩:=hO.law;refine aF.ck E hL [_] _ λK R τ d hK hR=>?_
  obtain⟨y0,y1,y2,y3,y4⟩:=(show am (re W4 τ d) _ _ _ _ _ from k5).cells;have H1:=F5 now shift ao n cp f bo m dp t (re W4 τ d) (hB.bl ⟨ack _,λ_ _=>rfl⟩);replace hB:Hid _:=hB;replace hA:Hid _:=hA;replace Ql:Hid _:=Ql;simp only[aP];go_wp2_with(go_at_call 14;refine H1.mono ?_;clear H1;rintro e w5 ⟨⟨NU,NV,s4,l4,c4,F',s5,o',c5,T',sb,js,sc,ZP,cd9,rfl,VP,hQ,WH,aK⟩,b5⟩;replace WH:Hid _:=WH;obtain⟨W6,e6,k9,b6,-⟩:=cI w5 NU NV s4 l4 c4 s5 o' c5)
  refine hK.out _ _ ?_;clear hK hR K R e6 y0 y1 y2 y3 y4;obtain⟨E5,o0,-⟩:=hQ.src;have Uy:=Q3 aK WH.out;obtain⟨rfl,rfl,rfl,rfl,rfl,rfl,rfl,rfl⟩:=hO.one VP;obtain rfl:la=js:=va.out.trans WH.out.symm;clear hQ VP aK;have El:=(Bl.pu b5).trans (Bl.of b6) b5.size;replace E5:=E5.bl (Bl.of b6);replace o0:=o0.bl (Bl.of b6);replace Ql:=Eh.bl Ql.out El;replace Uy:=Uy.bl (Bl.of b6);replace k5:=k5.same (El.block _ k5.lt);replace k7:=k7.same (El.block _ k7.lt);replace hB:=hB.out.bl El;replace hX:=hX.bl El;replace bV:=bV.trans El bV.size;clear b5 b6 El uU Ak;generalize KW:w5.heap.size=B9 at*;clear KW τ d w5 W4;have abz:¬(1:Int)<la:=by have:=va.out;omega
  have hG6:la<=6:=ab;refine aF.ck E hL [_] _ λK R τ d hK hR=>?_
  have i6:Bl W6.heap.size W6 (re W6 τ d):=⟨ack _,λ_ _=>rfl⟩;have H1:=rG a0 a1 s2 o c2 F s3 o c3 T s4 c4 s5 c5 (re W6 τ d) g2 g2 (hX.sm.bl i6) (hX.si.bl i6) (E5.bl i6) (o0.bl i6);have H2:Hid (∀W,Bl W6.heap.size W6 W->_):=λW hW=>DG sa ka sb sc la _ W hG6 (Ql.bl hW) (Uy.bl hW)
  obtain⟨x0,x1,x2,x3,x4⟩:=(show am (re W6 τ d) _ _ _ _ _ from k7).cells;obtain⟨z0,z1,z2,z3,z4⟩:=(show am (re W6 τ d) _ _ _ _ _ from k9).cells;clear E5 o0 Ql Uy WH;replace hB:Hid _:=hB;replace hX:Hid _:=hX;simp only[aP];go_wp2_with(first
   |(go_at_call 15;refine H1.mono ?_;clear H1;rintro e w7 ⟨rfl,b7⟩;have H3:=H2.out w7 (Bl.pu b7))
   |(go_at_call 29;refine H3.mono ?_;clear H3;rintro e w8 ⟨rfl,b8⟩))
  all_goals try(exfalso;omega)
  refine hK.out _ _ ?_;clear hK hR K R x0 x1 x2 x3 x4 z0 z1 z2 z3 z4 k9 H2;have Up:=(Bl.pu b7).trans (Bl.of b8) b7.size;replace k5:=k5.same (Up.block _ k5.lt);replace k7:=k7.same (Up.block _ k7.lt);replace hB:=hB.out.bl Up;replace hX:=hX.out.bl Up;replace bV:=bV.trans Up bV.size;clear b7 b8 Up i6 w7 W6;by_cases hc:c8=0;rotate_left
  .refine aF.ck E hL [_] _ λK R τ d hK hR=>?_
   have hd:¬c8=0:=hc;replace hA:Hid _:=hA;replace hB:Hid _:=hB;replace hX:Hid _:=hX;simp only[aP];go_wp2;exact hK.out _ _ (aF.ret E hL (lL.out _ _ _ ⟨bV.size,bV.block⟩ rfl rfl))
  subst hc;obtain⟨np,oX,hlen,Al⟩:=hA.out rfl;clear hA;refine aF.seq E hL (aF.rg E hL (aF.oc E hL 0 24 λK τ d hK=>?_));have i8:Bl w8.heap.size w8 (re w8 τ d):=⟨ack _,λ_ _=>rfl⟩;have q5:am (re w8 τ d) _ _ _ _ _:=k5;have q7:am (re w8 τ d) _ _ _ _ _:=k7;obtain⟨y0,y1,y2,y3,y4⟩:=q5.cells;obtain⟨x0,x1,x2,x3,x4⟩:=q7.cells;have H1:=(hX.bl i8).ib;rw[np]at H1;have H2:Hid (∀W,Bl w8.heap.size w8 W->_):=λW hW=>yr now shift ao n cp f bo m dp a0 a1 s2 o c2 F s3 c3 T W hB.n6 g2 (hB.sm.bl hW) (hX.sm.bl hW) (hX.si.bl hW) oX
  have hwl:IntKind.i64.wrap ((o:Int)+(la:Int))=(n:Int):=by have e:=va.out;rw[IntKind.wrap_i64];have:=hB.n6;omega
  replace hlen:Hid _:=hlen;replace Al:Hid _:=Al;replace hB:Hid _:=hB;replace hX:Hid _:=hX;clear oX np;simp only[List.drop_succ_cons,List.drop_zero,List.take_succ_cons,List.take_zero,Act.put];go_wp2_with(first
   |(go_at_call 16;refine H1.mono ?_;clear H1;rintro e w9 ⟨rfl,b9⟩;have j5:=q5.same (b9.block _ q5.lt);have j7:=q7.same (b9.block _ q7.lt);obtain⟨y0,y1,y2,y3,y4⟩:=j5.cells;obtain⟨x0,x1,x2,x3,x4⟩:=j7.cells;have H3:=H2.out w9 (Bl.pu b9))
   |(go_at_call 19;refine H3.mono ?_;clear H3;rintro e ZB ⟨rfl,Kj⟩;have o5:=j5.same (Kj.block _ j5.lt);have o7:=j7.same (Kj.block _ j7.lt);obtain⟨y0,y1,y2,y3,y4⟩:=o5.cells;obtain⟨x0,x1,x2,x3,x4⟩:=o7.cells))
  refine hK.out _ _ ?_;clear hK K H2 y0 y1 y2 y3 y4 x0 x1 x2 x3 x4 hwl;have bx:=(Bl.pu b9).trans (Bl.of Kj) b9.size;replace hB:=hB.out.bl bx;replace hX:=hX.out.bl bx;replace bV:=bV.trans bx bV.size;clear bx b9 Kj i8 j5 j7 q5 q7 k5 k7;refine aF.fX E (i:=24) rfl rfl I.su (λw=>Ia) (xq E I.su I.ro I.pl I.sb I.bt hL hB ?_);rintro RA Vl;rw[dO rfl];replace o7:=o7.same (Vl.block _ o7.lt);replace hX:=hX.bl Vl;replace bV:=bV.trans Vl bV.size;clear Vl hB o5;replace Al:=Al.out;generalize eX now shift f n t m=sd at*;rcases Bool.eq_false_or_eq_true sd with rfl|rfl
  .replace Al:=Al rfl;refine aF.oc E hL 25 3 λK τ d hK=>?_
   obtain⟨x0,x1,x2,x3,x4⟩:=(show am (re RA τ d) _ _ _ _ _ from o7).cells;replace hX:Hid _:=hX;replace Al:Hid _:=Al;simp only[List.drop_succ_cons,List.drop_zero,List.take_succ_cons,List.take_zero,Act.put];go_wp2;refine hK.out _ _ (aF.un ?_);clear hK K x0 x1 x2 x3 x4;refine aF.fX E (i:=28) rfl rfl I.su (λw=>Ia) (xq E I.su I.ro I.pl I.sb I.bt hL hX.out ?_);rintro W12 JG;rw[dO rfl,Al.out];refine aF.oc E hL 29 4 λK τ d hK=>?_
   simp only[List.drop_succ_cons,List.drop_zero,List.take_succ_cons,List.take_zero,Act.put];go_wp2;exact hK.out _ _ (aF.regionEnd E hL (aF.ret E hL (lL.out _ _ _ ⟨(bV.trans JG bV.size).size,(bV.trans JG bV.size).block⟩ rfl rfl)))
  .refine aF.oc E hL 25 8 λK τ d hK=>?_
   clear Al;replace hX:Hid _:=hX;simp only[List.drop_succ_cons,List.drop_zero,List.take_succ_cons,List.take_zero,Act.put];go_wp2;exact hK.out _ _ (aF.regionEnd E hL (aF.ret E hL (lL.out _ _ _ ⟨bV.size,bV.block⟩ rfl rfl)))
 clear hK hR;have q5:am (re W7 τ d) _ _ _ _ _:=k5;have q7:am (re W7 τ d) _ _ _ _ _:=k7;have q9:am (re W7 τ d) _ _ _ _ _:=k9;obtain⟨y0,y1,y2,y3,y4⟩:=q5.cells;obtain⟨x0,x1,x2,x3,x4⟩:=q7.cells;obtain⟨z0,z1,z2,z3,z4⟩:=q9.cells;have i7:Bl W7.heap.size W7 (re W7 τ d):=⟨ack _,λ_ _=>rfl⟩;have H1:=rG a0 a1 s2 o c2 F s3 o c3 T s4 c4 s5 c5 (re W7 τ d) g2 g2 (uU.bl i7) (Ak.bl i7) (E5.bl i7) (o0.bl i7);have bl:∀{W},Below (re W7 τ d).heap.size (re W7 τ d) W->Bl V.heap.size V W:=λ{W} hb=>bV.trans (Bl.pu hb) bV.size
 replace bl:Hid _:=@bl;replace Ru:Hid _:=Ru;clear k5 k7 k9;simp only[aP];rcases Iu with rfl|rfl|kJ
 .obtain⟨rfl,np,oX,aI⟩:=hA rfl;have HK:Hid (∀W,Bl W7.heap.size W7 W->_):=λW hW=>(hX.bl hW).ib
  rw[np]at HK;have HP:Hid (∀W,Bl W7.heap.size W7 W->_):=λW hW=>mO a0 shift ao n cp f bo m dp a0 a1 s2 o c2 F s3 c3 T name W hB.n6 g2 (hB.sm.bl hW) (uU.bl hW) (Ak.bl hW) oX
  have HT:Hid (∀W,Bl W7.heap.size W7 W->_):=λW hW=>zD a0 a1 s2 o c2 F s3 c3 T name W g2 (uU.bl hW) (Ak.bl hW)
  have hTL:Hid _:=aI;have hw6:IntKind.i64.wrap (a0+6)=a0+6:=gH;clear hA hC h5 oX aI np;rcases Bool.eq_false_or_eq_true sb with rfl|rfl;all_goals
   go_wp2_with(first
    |(go_at_call 15;refine H1.mono ?_;clear H1;rintro e w1 ⟨rfl,b1⟩;have j5:=q5.same (b1.block _ q5.lt);have j7:=q7.same (b1.block _ q7.lt);obtain⟨y0,y1,y2,y3,y4⟩:=j5.cells;have H2:=Ru.out w1 (Bl.pu b1))
    |(go_at_call 26;refine H2.mono ?_;clear H2;rintro e w2 ⟨rfl,b2⟩))
   have B2:=b1.trans (b2.mono b1.size);clear y0 y1 y2 y3 y4 x0 x1 x2 x3 x4 z0 z1 z2 z3 z4;have o5:am w2.drew _ _ _ _ _:=j5.same (b2.block _ j5.lt);have o7:am w2.drew _ _ _ _ _:=j7.same (b2.block _ j7.lt);obtain⟨y0,y1,y2,y3,y4⟩:=o5.cells;obtain⟨x0,x1,x2,x3,x4⟩:=o7.cells;have l2:Bl W7.heap.size W7 w2.drew:=(Bl.pu b1).trans (Bl.of (b2.drew)) b1.size;have H4:=HK.out w2.drew l2;go_region_held3 (λw'=>(w'.cell? ⟨B5,0,none⟩=some (.int .i64 a0)/\w'.cell? ⟨B5,1,none⟩=some (.int .i64 shift)/\w'.cell? ⟨B5,2,none⟩=some (.slice ao n cp)/\w'.cell? ⟨B5,3,none⟩=some (.slice bo m dp))/\w'.cell? ⟨B7,0,none⟩=some (.int .i64 a0)/\w'.cell? ⟨B7,1,none⟩=some (.int .i64 a1)/\w'.cell? ⟨B7,2,none⟩=some (.slice s2 o c2)/\w'.cell? ⟨B7,3,none⟩=some (.slice s3 o c3)) (go_keep)
    (first
     |(go_at_call 16;refine H4.mono ?_;clear H4;rintro e w4 ⟨rfl,b4⟩;have i5:=o5.same (b4.block _ o5.lt);have i7:=o7.same (b4.block _ o7.lt);obtain⟨y0,y1,y2,y3,y4⟩:=i5.cells;obtain⟨x0,x1,x2,x3,x4⟩:=i7.cells;have l4:=l2.trans (Bl.of b4) l2.size;have H5:=HP.out w4 l4)
     |(go_at_call 21;refine H5.mono ?_;clear H5;rintro e w5 ⟨rfl,b5⟩;have e5:=i5.same (b5.block _ i5.lt);have e7:=i7.same (b5.block _ i7.lt);obtain⟨y0,y1,y2,y3,y4⟩:=e5.cells;obtain⟨x0,x1,x2,x3,x4⟩:=e7.cells;have l5:=l4.trans (Bl.of b5) l4.size;have H6:=HT.out w5 l5)
     |(go_at_call 27;refine H6.mono ?_;clear H6;rintro e w6 ⟨⟨tk,rfl,pa⟩,b6⟩;have d5:=e5.same (b6.block _ e5.lt);have d7:=e7.same (b6.block _ e7.lt);obtain⟨y0,y1,y2,y3,y4⟩:=d5.cells;obtain⟨x0,x1,x2,x3,x4⟩:=d7.cells;have aa6:¬tk<a0+6:=by have:=hTL.out tk pa;omega))
   go_wp2;all_goals try(exfalso;omega)
   exact GP.out _ _ ⟨rfl,rfl⟩ (bV.trans (l5.trans (Bl.of b6) l5.size) bV.size)
 .rcases Bool.eq_false_or_eq_true sb with rfl|rfl;all_goals
   clear h5 hC hA;go_wp2_with(first
    |(go_at_call 15;refine H1.mono ?_;clear H1;rintro e w1 ⟨rfl,b1⟩;have j5:=q5.same (b1.block _ q5.lt);obtain⟨y0,y1,y2,y3,y4⟩:=j5.cells;have H2:=Ru.out w1 (Bl.pu b1))
    |(go_at_call 26;refine H2.mono ?_;clear H2;rintro e w2 ⟨rfl,b2⟩;have hne:=aE w2))
   refine ah ?_;repeat(go_big_quiet_step (fail))
   refine wpQuiet_nil (ak ?_);intro w3 b3;go_wp2;have B2:=b1.trans (b2.mono b1.size);exact GP.out _ _ ⟨rfl,rfl⟩ (bl.out (B2.trans (b3.mono B2.size)))
 .have hd0:¬c8=0:=by omega
  have hd1:(1:Int)<c8:=kJ;obtain⟨rfl,rfl,rfl,rfl,rfl,rfl⟩:=hC kJ;have H3:Hid (∀W,Bl W7.heap.size W7 W->_):=λW hW=>rG a0 a1 s2 o c2 F s3 o c3 T ao cp bo dp W g2 g2 (uU.bl hW) (Ak.bl hW) (hB.sm.bl hW) (hB.si.bl hW)
  clear hA hC kJ;have hd:Hid (decide (c8=0)=false):=decide_eq_false hd0;rcases Bool.eq_false_or_eq_true sb with rfl|rfl
  .have h5':¬c8=5:=h5 rfl;go_wp2_with(first
    |(go_at_call 15;refine H1.mono ?_;clear H1;rintro e w1 ⟨rfl,b1⟩;have j5:=q5.same (b1.block _ q5.lt);have j7:=q7.same (b1.block _ q7.lt);obtain⟨y0,y1,y2,y3,y4⟩:=j5.cells;have H2:=Ru.out w1 (Bl.pu b1))
    |(go_at_call 26;refine H2.mono ?_;clear H2;rintro e w2 ⟨rfl,b2⟩;have o5:=j5.same (b2.block _ j5.lt);have o7:=j7.same (b2.block _ j7.lt);obtain⟨y0,y1,y2,y3,y4⟩:=o5.cells;obtain⟨x0,x1,x2,x3,x4⟩:=o7.cells;have H4:=H3.out w2 ((Bl.pu b1).trans (Bl.of b2) b1.size))
    |(go_at_call 15;refine H4.mono ?_;clear H4;rintro e w3 ⟨rfl,b3⟩;have hne:=aE w3))
   all_goals try(exfalso;omega)
   have La:=hd.out;have GF:¬c8=0:=of_decide_eq_false La;have hd3:(c8==0)=false:=beq_false_of_ne GF;refine ah ?_;repeat(go_big_quiet_step (fail))
   refine wpQuiet_nil (ak ?_);intro w4 b4;go_wp2;have B2:=b1.trans (b2.mono b1.size);have B3:=B2.trans (b3.mono B2.size);exact GP.out _ _ ⟨rfl,rfl⟩ (bl.out (B3.trans (b4.mono B3.size)))
  .clear h5;go_wp2_with(first
    |(go_at_call 15;refine H1.mono ?_;clear H1;rintro e w1 ⟨rfl,b1⟩;have j5:=q5.same (b1.block _ q5.lt);have j7:=q7.same (b1.block _ q7.lt);obtain⟨y0,y1,y2,y3,y4⟩:=j5.cells;have H2:=Ru.out w1 (Bl.pu b1))
    |(go_at_call 26;refine H2.mono ?_;clear H2;rintro e w2 ⟨rfl,b2⟩;have o5:=j5.same (b2.block _ j5.lt);have o7:=j7.same (b2.block _ j7.lt);obtain⟨y0,y1,y2,y3,y4⟩:=o5.cells;obtain⟨x0,x1,x2,x3,x4⟩:=o7.cells;have H4:=H3.out w2 ((Bl.pu b1).trans (Bl.of b2) b1.size))
    |(go_at_call 15;refine H4.mono ?_;clear H4;rintro e w3 ⟨rfl,b3⟩;have hne:=aE w3))
   all_goals try(exfalso;omega)
   have La:=hd.out;have GF:¬c8=0:=of_decide_eq_false La;have hd3:(c8==0)=false:=beq_false_of_ne GF;refine ah ?_;repeat(go_big_quiet_step (fail))
   refine wpQuiet_nil (ak ?_);intro w4 b4;go_wp2;have B2:=b1.trans (b2.mono b1.size);have B3:=B2.trans (b3.mono B2.size);exact GP.out _ _ ⟨rfl,rfl⟩ (bl.out (B3.trans (b4.mono B3.size)))
end
