import Derived.Test.YtjoalkgmgmmedaaGreatDoorj40
set_option linter.defProp false
set_option linter.unusedVariables false
set_option linter.unusedSectionVars false
set_option maxHeartbeats 8000000
set_option maxRecDepth 10000
open Go renaming bodyPost_ret->ac,results->aL,World->a6,Value->a7,Addr->be,Calls->bj,wpList_append_own->bn,heap_alloc_new->br
open Go.RowKit renaming Below->aI
open Go.Value renaming slice->aa,int->ay,agg->a8,tuple->a9,pointer->bp
open Nat renaming zero_add->ai
namespace Go.Proofs.YtjoalkgmgmmedaaGreatDoor
open Conc RowKit
variable {name:ByteArray}{cd now shift:Int}{L:List Mv}{xs:List a7}{N c cp d D i j A k l m n p:Nat}{T t:Nat->Int}{f:Nat->Mv}{ao bo s:Option be}{v:a7}{W W' w:a6}
def MU (shift:Int)(v u w):bj Tz.prog 254 #[a8 #[],a8 #[(10000:Int),shift,v,u]] w λe w'=>e=.returned (a9 #[a8 #[(0:Int),(0:Int),aa none 0 0,aa none 0 0],.iface 143<|a8 #[(2:Int)]])/\aI w w w':=by
 let⟨z,U,X,a⟩:=DB w #[] 100;let⟨B,Y,g,b⟩:=DB z #[(10000:Int),ay .i64 shift,v,u] 29;obtain⟨E,Z,h,q,-⟩:=boxed B 0 0 none 0 0 none 0 0;obtain⟨y0,-⟩:=(show aR E _ _ _ _ _ from((q.block _ (afM.1 g).1).trans g)).cells;have xx:=h.cells;let⟨W8,e8,K,M,x,o8⟩:=aJ h ((a.trans<|b.mono a.size).trans<|q.mono<|afN a.size b.size) (afN a.size b.size) 0 0 none 0 0 none 0 0;replace x:Hid _:=x;let⟨O,P,R,S,q4⟩:=K.cells;go_enter Tz.func254,Tryz.ntmps254
 go_wp2;exact ac (by simp[aL,go_sem,O,P,R,S]) rfl ⟨rfl,M⟩
def MV (now shift:Int)(ao ca bo da w)(h0:0<=now)(h1:now<10000):bj Tz.prog 254 #[a8 #[],a8 #[now,shift,aa ao 0 ca,aa bo 0 da]] w λe w'=>e=.returned (a9 #[a8 #[ay .i64<|now+1,shift,(),()],.nilIface])/\aI w w w':=by
 have hq:(now==10000)=false:=dj;have H5:IntKind.i64.wrap (now+1)=now+1:=kw;let⟨E,e1,k1,g⟩:=DB w #[] 100;obtain⟨W2,e2,O,q,-⟩:=boxed E now shift ao 0 ca bo 0 da;obtain⟨x,e3,R,S,-⟩:=boxed W2 0 0 none 0 0 none 0 0;obtain⟨W4,U,k4,Y,-⟩:=boxed x (now+1) shift none 0 0 none 0 0;have Z:=(g.trans<|q.mono g.size).trans<|S.mono<|afN g.size q.size;have bW:=Z.trans<|Y.mono Z.size;have z:=O.same<|S.block _ O.lt;have yy:=z.cells;have t2:∀o,(x.alloc o).cell? ⟨E.heap.size,2,none⟩=some (aa ao 0 ca):=λo=>(z.same<|afC x o _ z.lt).cells.2.2.1
 have p3:=R.same<|Y.block _ R.lt;have B:Hid _:=U;clear U;go_enter Tz.func254,Tryz.ntmps254
 go_wp2;rw[B.out];go_loopw [24] (λi w'=>i=ay .i64 0/\w'=W4) (λ_ _=>0)
 .grind
 obtain⟨rfl,rfl⟩:=hrel;have xx:=p3.cells;have uu:=k4.cells;let⟨W8,e8,k8,b8,z8,o8⟩:=aJ p3 bW (afN g.size q.size) (now+1) shift none 0 0 none 0 0;replace z8:Hid _:=z8;let⟨q0,q1,q2,q3,q4⟩:=k8.cells;go_wp2;exact ac (by simp[aL,Tryz.results254,go_sem,q0,q1,q2,q3]) rfl ⟨rfl,b8⟩
def gd (h:aY now shift f n t m=true):(0<=now/\now<=10000)/\(0<=shift/\shift<=6)/\mW now f t n=true:=by
 unfold aY at h;simp at h;exact⟨eJ.1 h.1.1.1,eJ.1 h.1.1.2,h.2⟩
def MPt (now shift:Int)(f:Nat->Mv)(n:Nat)(t:Nat->Int)(N:Nat)(y e:a7)(W:a6):Prop:=now=10000/\y=a8 #[(0:Int),(0:Int),aa none 0 0,aa none 0 0]/\e=.iface 143 (a8 #[(2:Int)])\/now≠10000/\e=.nilIface/\∃v u,y=Ta (now+1) shift v u/\W.ownsRow N 55 6 v (stay now t n).length (sC f t now<|stay now t n)/\W.ownsRow N 3 1 u (stay now t n).length (sD t<|stay now t n)
def mpt (now shift f n t):Oy (MPt now shift f n t) where
 is:=λh=>by
  rcases h with⟨_,O,x⟩|⟨_,h,v,u,O,x,R⟩
  .exact .inr ⟨2,ab,x,O⟩
  .obtain⟨a,cc,rfl⟩:=mh x;obtain⟨a',c',rfl⟩:=mh R;exact .inl ⟨h,_,_,_,_,_,_,_,_,O⟩
 to:=λh Y e=>by
  rcases h with h|⟨Z,h,v,u,O,x,R⟩
  .exact .inl h
  .exact .inr ⟨Z,h,v,u,O,cg (az x λB U=>e B (x.lt B U).1 (x.lt B U).2) Y,cg (az R λB U=>e B (R.lt B U).1 (R.lt B U).2) Y⟩
def Bq.abr (h:Bq w now shift ao n cp f bo m D t)(hb:aY now shift f n t m=true):bj Tz.prog 254 #[a8 #[],a8 #[ay .i64 now,ay .i64 shift,aa ao n cp,aa bo m D]] w λe w'=>(∃y x,e=.returned (a9 #[y,x])/\MPt now shift f n t w.heap.size y x w')/\aI w w w':=by
 let⟨hm,Y,hf⟩:=bK hb;obtain⟨R,-⟩:=gd hb;subst Y;by_cases B:now=10000
 .subst B;apply(MU shift _ _ w).mono;rintro e w' ⟨rfl,hb⟩;exact⟨⟨_,_,rfl,.inl ⟨rfl,rfl,rfl⟩⟩,hb⟩
 refine h.cases (λO U r1 r2=>?_) λb r O U hb Z dl gh=>?_
 .subst O;apply(MV now shift ao cp bo D w R.1 ab).mono;rintro e w' ⟨rfl,hb⟩;exact⟨⟨_,_,rfl,.inr ⟨B,rfl,_,_,rfl,⟨rfl,.inl ⟨rfl,rfl⟩⟩,⟨rfl,.inl ⟨rfl,rfl⟩⟩⟩⟩,hb⟩
 subst O U;apply(Qs now shift b 0 m cp f r 0 D t w h.n6 R.1 ab hb Z dl gh).mono;rintro e w' ⟨⟨v,u,rfl,o1,o2⟩,hb⟩;exact⟨⟨_,_,rfl,.inr ⟨B,rfl,v,u,rfl,o1,o2⟩⟩,hb⟩
structure InR (ok:Ctx):Prop where
 sr:ok.aN 50=true
 st:ok.aN 52=true
 ch:ok.aN 70=true
 tr:ok.aN 94=true
 mr:ok.aN 253=true
 mt:ok.aN 254=true
 su:ok.aN 57=true
 ro:ok.aN 81=true
 pl:ok.aN 108=true
 sb:ok.aN 142=true
 bt:ok.aN 166=false
 co:ok.aN 95=false
def NPt (f:Nat->Mv)(n:Nat)(t:Nat->Int)(now:Int)(N:Nat)(s:Option be)(l k:Nat)(W:a6):Prop:=l=(gone now t n).length/\W.ownsRow N 9 1 (aa s l k) l (nL f<|gone now t n)
section
variable [Gl]{ok:Ctx}{c r0:Frame}{cs:List Frame}{V:a6}{Q:a7->a6->Prop}
def NT (E:dB Tz.prog ok c aS)(I:InR ok)(O:ok.aN r0.fn=true)(x:Bq V now shift ao n cp f bo m D t)
  (R:∀y cd W',Bl V V W'->EZ (R_ now shift f n t name) (R9 now shift f n t m) (aY now shift f n t m) V.heap.size y cd W'->ae Tz.prog ok c aS Q ⟨r0.finish<|a9 #[y,ay .i64 cd],cs,W'⟩):
  ae Tz.prog ok c aS Q ⟨Frame.enter Tz.prog 50 #[a8 #[ay .i64 now,ay .i64 shift,aa ao n cp,aa bo m D],name] .normal,r0::cs,V⟩:=
 NU E I.sr I.ch I.tr I.co O I.mr (λW B=>(x.bl B).ib) (mpr _ _ _ _ _ _) (λh W r cs U B hk=>R1 E I.mr I.ro I.pl I.sb I.bt U (x.bl B) h hk) (Wd _ _ _ _ _ _) (λW B=>(sM now shift ao n cp f bo m D t W x.n6 x.m6 (x.bl B).sm (x.bl B).si λh=>⟨(x.two h).1,(x.two h).2.1⟩).mono λe w' ⟨⟨v,u,Y,Z,h3⟩,hb⟩=>⟨⟨_,Y,v,u,rfl,Z,h3⟩,hb⟩) R
def R3 (E:dB Tz.prog ok c aS)(I:InR ok)(Z:ok.aN r0.fn=true)(O:Bq V now shift ao n cp f bo m D t)
  (aE:∀y s l k cd W',Bl V V W'->EZ (MPt now shift f n t) (R9 now shift f n t m) (aY now shift f n t m) V.heap.size y cd W'->(cd=0/\NPt f n t now V.heap.size s l k W'\/cd≠0/\s=none/\l=0/\k=0)->ae Tz.prog ok c aS Q ⟨r0.finish<|a9 #[y,aa s l k,ay .i64 cd],cs,W'⟩):
  ae Tz.prog ok c aS Q ⟨Frame.enter Tz.prog 52 #[a8 #[ay .i64 now,ay .i64 shift,aa ao n cp,aa bo m D]] .normal,r0::cs,V⟩:=by
 refine R4 E I.st I.ch I.tr I.co Z I.mt (λW U=>(O.bl U).ib) (mpt _ _ _ _ _) (λh W r cs hr U hk=>?_) (Wd _ _ _ _ _ _) (λW U=>(sM now shift ao n cp f bo m D t W O.n6 O.m6 (O.bl U).sm (O.bl U).si λh=>⟨(O.two h).1,(O.two h).2.1⟩).mono λe w' ⟨⟨v,u,h1,h2,h3⟩,hb⟩=>⟨⟨_,h1,v,u,rfl,h2,h3⟩,hb⟩) (λh hN e=>⟨h.1,cg (az h.2 λB O=>e B (h.2.lt B O).1 (h.2.lt B O).2) hN⟩) (λh W U=>?_) aE
 .refine ae.calls E hr (R:=λv w'=>(∃y x,v=a9 #[y,x]/\MPt now shift f n t W.heap.size y x w')/\Bl W W w') (λτ d=>(((O.bl U).bl (W:=re W τ d) ⟨afK _,λ_ _=>rfl⟩).abr h).mono ?_) ?_
  .rintro e w' ⟨⟨y,x,rfl,Y⟩,hb⟩;exact⟨_,rfl,⟨y,x,rfl,Y⟩,Bl.kH hb⟩
  rintro _ w' ⟨⟨y,x,rfl,Y⟩,hb⟩;exact hk y x w' hb Y
 obtain⟨-,A5,-⟩:=bK h;subst A5;apply(Gn now shift now ao m cp f bo D t W O.n6 (O.bl U).sm (O.bl U).si λh=>(O.two h).1).mono;rintro e w' ⟨⟨s,rfl,ho⟩,hb⟩;obtain⟨a,k,rfl⟩:=mh ho;exact⟨⟨a,_,k,rfl,rfl,ho⟩,hb⟩
end
inductive BU (f:Nat->Mv)(n:Nat)(t:Nat->Int)(m:Nat)(now shift:Int)(name:ByteArray):Int->Int->Nat->(Nat->Mv)->Nat->(Nat->Int)->Int->Prop
 |bad:aY now shift f n t m=false->BU f n t m now shift name 0 0 0 f 0 t 1
 |no {k cd:Int}:aY now shift f n t m=true->ew f n name k->gD f n t now k=.inl cd->BU f n t m now shift name now shift n f m t cd
 |yes {k:Int} {p:Nat} {T:Nat->Int}:aY now shift f n t m=true->ew f n name k->gD f n t now k=.inr (p,T)->BU f n t m now shift name now shift (aw f t p n).length (jO<|aw f t p n) (aw f t p n).length T 0
def If (w':a6)(e:Nat)(g:Option be)(l q:Nat)(F:Nat->Mv)(x:Option be)(o z:Nat)(T:Nat->Int):Prop:=(g=none/\x=none/\l=0/\q=0/\o=0/\z=0)\/∃b r,g=some ⟨b,0,none⟩/\x=some ⟨r,0,none⟩/\w'.ownsRow e 55 6 (aa (some ⟨b,0,none⟩) l q) l (bc F l)/\o<=z/\tR w' e r o T
def Ad.out {R X Bx U x Y}(h:Ad w now shift ao n c bo d R X Bx U x Y f t W)(e:∀k,k≠R->W'.heap[k]?=W.heap[k]?):If W' w.heap.size Bx n U f x n Y t:=by
 have Z:=h.hR;exact .inr ⟨Bx,x,rfl,rfl,cg (az h.om λB O=>e B (by have:=(h.om.lt B O).1;omega)) ab,(fE h.oi).2.2,tR.of<|cg (az h.oi λB O=>e B (by have:=(h.oi.lt B O).1;omega)) ab⟩
def U6 (now shift:Int)(ao:Option be)(n c:Nat)(f:Nat->Mv)(bo:Option be)(m d:Nat)(t:Nat->Int)(name:ByteArray)(w:a6)(hB:Bq w now shift ao n c f bo m d t):
  bj Tz.prog 18 #[.agg #[now,shift,.slice ao n c,.slice bo m d],name] w λe w'=>(∃a0 a1 s2 l c2 F s3 o c3 T cd,e=.returned (.tuple #[.agg #[.int .i64 a0,.int .i64 a1,.slice s2 l c2,.slice s3 o c3],.int .i64 cd])/\BU f n t m now shift name a0 a1 l F o T cd/\If w' w.heap.size s2 l c2 F s3 o c3 T)/\aI w w w':=by
 obtain⟨W0,pH⟩:∃W,W=(w.alloc<|.cells #[.int .i64 now,.int .i64 shift,.slice ao n c,.slice bo m d] 29).alloc (.cells #[(0:Int),(0:Int),.slice none 0 0,.slice none 0 0] 29):=⟨_,rfl⟩;have b0:aI w w W0:=by rw[pH];exact((afB _ w).alloc (afK _) _).alloc aP _
 have DA:aR W0 w.heap.size now shift (.slice ao n c) (.slice bo m d):=by rw[pH];exact(afC _ _ _ aP).trans<|heap_alloc_new _ _
 have uP:aR W0 (w.heap.size+1) 0 0 () ():=by rw[pH];exact dY _ _ _
 have gK:W0.heap.size=w.heap.size+2:=by rw[pH];simp
 have HB:=(hB.bl<|Bl.of b0).sk;have h6:=hB.n6;cases hb:aY now shift f n t m with
 |false=>
  rw[hb,pH]at HB;go_enter Tz.func18,Tryz.ntmps18
  go_wp2_with(go_at_call 34;refine HB.mono ?_;clear HB;rintro e w1 ⟨rfl,b1⟩;rw[<-pH]at b1;have r1:=uP.same<|b1.block _ uP.lt;let⟨y0,y1,y2,y3,y4⟩:=r1.cells)
  let⟨W5,e5,k5,iZ,tN,ol⟩:=aJ r1 (b0.trans<|b1.mono b0.size) ab 0 0 none 0 0 none 0 0;rw[e5];let⟨q0,q1,q2,q3,q4⟩:=k5.cells;refine ac (v:=.tuple #[.agg #[(0:Int),(0:Int),(),()],.int .i64 1]) ?_ rfl ⟨⟨0,0,none,0,0,_,none,0,0,_,1,rfl,.bad hb,.inl ⟨rfl,rfl,rfl,rfl,rfl,rfl⟩⟩,iZ⟩;simp[aL,Tryz.f18,go_sem,q0,q1,q2,q3]
 |true=>
  let⟨hm,A5,ju⟩:=bK hb;obtain rfl:n=m:=A5.symm;obtain⟨KU,nk,-⟩:=gd hb;have p7:Hid _:=hb;rw[hb,pH]at HB;have Kt:=λW (hW:aI w w W)=>gM now shift ao n c f bo n d t W ab ab (hB.bl<|Bl.of hW).sm (hB.bl<|Bl.of hW).si
  have HA:=λW (hW:aI w w W)=>zJ now shift ao n c f bo n d name W h6 (hB.bl<|Bl.of hW).sm
  have hgo:∀(P:Prop),(∀kc:Int,kc=3->(∀k,ik f n name k->k=-1)->Hid (gD f n t now (-1)=.inl kc)->(∀W,aI w.heap.size w W->True)->P)->(∀(kc:Int) (J b:Nat),kc=3->J<n->(∀k,ik f n name k->k=J)->Hid (gD f n t now J=.inl kc)->ao=some ⟨b,0,none⟩->(∀W,aI w.heap.size w W->W.cell? ⟨b,J*6+1,none⟩=some (.bool false))->P)->(∀(J b r:Nat),J<n->(∀k,ik f n name k->k=J)->Hid ((f J).ax=true)->ao=some ⟨b,0,none⟩->bo=some ⟨r,0,none⟩->(∀W,aI w.heap.size w W->W.cell? ⟨b,J*6+1,none⟩=some (.bool true))->(∀W,aI w.heap.size w W->W.cell? ⟨r,J,none⟩=some (.int .i64<|t J))->(∀W,aI w.heap.size w W->bj Tz.prog 42 #[.agg #[.int .i64 now,.int .i64 shift,.slice (some ⟨b,0,none⟩) n c,.slice (some ⟨r,0,none⟩) n d],.int .i64 J] W λe w'=>qX f n t J shift (dG f n t J) W e w'/\aI W.heap.size W w')->P)->P:=λP a1 a2 a3=>by
   rcases KD f n name with⟨J,hJ,im,TW⟩|im
   .let⟨b,e1,bN,aB⟩:=hB.sm.pos ab;let⟨r,e2,bz,aV⟩:=hB.si.pos ab;have HL:∀W,aI w w W->W.cell? ⟨b,J*6+1,none⟩=some (.bool (f J).ax):=λW hW=>by
     have:=(aB.below hW bN J hJ).c1;rw[ai]at this;exact this
    cases hl:(f J).ax with
    |false=>rw[hl]at HL;exact a2 3 J b rfl hJ (λk hk=>hk.yes hJ im TW) (by show gD f n t now J=_;simp[gD,hl]) e1 HL
    |true=>
     rw[hl]at HL;refine a3 J b r hJ (λk hk=>hk.yes hJ im TW) hl e1 e2 HL (λW hW=>?_) λW hW=>ut b n c r d J f t now shift W hm ju hJ (afL bN hW.size) (aB.below hW bN) (afL bz hW.size)<|aV.below hW bz;have:=aV.below hW bz J hJ;rw[ai]at this;exact this
   .exact a1 3 rfl (λk hk=>hk.no im) (by show gD f n t now (-1)=_;simp[gD]) (λ_ _=>trivial)
  clear hb;refine hgo _ (λkc hc AT ZE HL=>?_) (λkc J b hc hJ AT ZE e1 HL=>?_) λJ b r hJ AT hl e1 e2 HL HT HR=>?_;all_goals clear hgo
  rotate_left;focus
   subst e1
  rotate_left;focus
   subst e1 e2
  all_goals
   go_enter Tz.func18,Tryz.ntmps18
   go_wp2_with(first
    |(go_at_call 34;refine HB.mono ?_;clear HB;rintro e w1 ⟨rfl,b1⟩;rw[<-pH]at b1;have B1:=b0.trans<|b1.mono b0.size;have bk:=DA.same<|b1.block _ DA.lt;have rs:=uP.same<|b1.block _ uP.lt;let⟨y0,y1,y2,y3,y4⟩:=bk.cells)
    |(go_at_call 35;refine(Kt _ B1).mono ?_;clear Kt;rintro e w2 ⟨⟨Bx,cx,Bi,ci,rfl,oM,oI⟩,b2⟩;have z2:=b2.size;have z1:=b1.size;have bk:=bk.same<|b2.block _ ab;have rs:=rs.same<|b2.block _ ab;let⟨W3,e3,k3,b3,z3⟩:=boxed w2 now shift (some ⟨Bx,0,none⟩) n cx (some ⟨Bi,0,none⟩) n ci;have hA:Ad w now shift _ n c _ d (w.heap.size+1) w2.heap.size Bx cx Bi ci f t W3:=⟨(B1.trans<|b2.mono B1.size).trans<|b3.mono ab,bk.same<|b3.block _ ab,rs.same<|b3.block _ ab,ab,k3,ab,cg (az oM λB hB=>b3.block B (oM.lt B hB).2) ab,cg (az oI λB hB=>b3.block B (oI.lt B hB).2) ab⟩;let⟨y0,y1,y2,y3,y4⟩:=hA.bk.cells;clear oM oI bk rs)
    |(go_at_call 37;refine(HA _ hA.below).mono ?_;clear HA;rintro e w5 ⟨⟨kk,rfl,Mx⟩,b5⟩;have z5:=b5.size;have hA:=hA.grow b5;let⟨y0,y1,y2,y3,y4⟩:=hA.bk.cells;let⟨x0,x1,x2,x3,x4⟩:=hA.x.cells;let⟨r0,r1,r2,r3,r4⟩:=hA.rs.cells;obtain rfl:=AT kk Mx;have c1:=HL _ hA.below))
   all_goals try omega
   all_goals first
    |(let⟨W5,e5,k5,iZ,tN,ol⟩:=aJ hA.rs hA.below ab now shift (some ⟨Bx,0,none⟩) n cx (some ⟨Bi,0,none⟩) n ci;rw[e5];let⟨q0,q1,q2,q3,q4⟩:=k5.cells;exact ac (v:=.tuple #[.agg #[.int .i64 now,.int .i64 shift,.slice (some ⟨Bx,0,none⟩) n cx,.slice (some ⟨Bi,0,none⟩) n ci],.int .i64 kc]) (by simp[aL,Tryz.f18,go_sem,q0,q1,q2,q3,hc]) rfl ⟨⟨now,shift,_,n,cx,f,_,n,ci,t,kc,rfl,.no p7.out Mx ZE.out,hA.out ol⟩,iZ⟩)
    |skip
  have hJ':(J:Int)<n:=ab;have tJ:=HT _ hA.below;have hne:=aM w5;have u0:=λx:an w5=>x.cell y0
  have u3:=λx:an w5=>x.cell y3
  have u5:=λx:an w5=>x.cell tJ
  refine nl ?_;intro w6 b6;clear hne u0 u3 u5 tJ y0 y1 y2 y3 y4 x0 x1 x2 x3 x4 r0 r1 r2 r3 r4 c1;have hA:=hA.grow b6;let⟨y0,y1,y2,y3,y4⟩:=hA.bk.cells;let⟨x0,x1,x2,x3,x4⟩:=hA.x.cells;let⟨r0,r1,r2,r3,r4⟩:=hA.rs.cells;have z6:=b6.size;have HR:=HR _ hA.below;by_cases ht:t J=now;focus
   have hq:(t J !=now)=false:=by simp[ht]
   have htE:Hid _:=ht;clear ht;rcases hR:dG f n t J with _|T;focus
    rw[hR]at HR;have HN:=HR;clear HR;obtain⟨kc,hc⟩:∃kc:Int,kc=5:=⟨_,rfl⟩;have ZE:Hid (gD f n t now J=.inl kc):=by show gD f n t now J=_;simp[gD,hl.out,htE.out,hR,hc]
    clear hR
   rotate_left;focus
    have hle:t J+6<=(f J).late:=by
     by_cases h:t J+6<=(f J).late
     .exact h
     .rw[Aq h]at hR;cases hR
    have hlen:=iX f t J n;have ZE:Hid (gD f n t now J=.inr (J,T)):=by show gD f n t now J=_;simp[gD,hl.out,htE.out,hR]
    rw[hR]at HR;have HS:=HR;clear HR;have VT:=λB c r c' W (h2:B<W.heap.size) (h3:aK W B 0 (aw f t J n).length (jO<|aw f t J n)) (h4:r<W.heap.size) (h5:aD W r 0 (aw f t J n).length T)=>gM (t J) shift (some ⟨B,0,none⟩) (aw f t J n).length c (jO<|aw f t J n) (some ⟨r,0,none⟩) (aw f t J n).length c' T W ab ab ⟨(λh=>nomatch h),λad had=>by cases had;exact⟨B,rfl,h2,h3⟩⟩ ⟨(λh=>nomatch h),λad had=>by cases had;exact⟨r,rfl,h4,h5⟩⟩
  rotate_right;focus
   have hq:(t J !=now)=true:=by simp[ht]
   obtain⟨kc,hc⟩:∃kc:Int,kc=6:=⟨_,rfl⟩;have ZE:Hid (gD f n t now J=.inl kc):=by show gD f n t now J=_;simp[gD,hl.out,ht,hc]
  all_goals
   go_wp2_with(first
    |(go_at_call 42;refine HN.mono ?_;clear HN;rintro e w7 ⟨rfl,b7⟩;let⟨W8,e8,k8,b8,z8⟩:=boxed w7 0 0 none 0 0 none 0 0;have e8h:Hid (w7.alloc (.cells #[(0:Int),(0:Int),.slice none 0 0,.slice none 0 0] 29)=W8):=e8;clear e8;have hA7:=hA.grow b7;have TR:=λo=>hA7.grow<|(afB _ w7).alloc (afK _) o;have x0:=λo=>(TR o).x.cells.1;have x1:=λo=>(TR o).x.cells.2.1;have x2:=λo=>(TR o).x.cells.2.2.1;have x3:=λo=>(TR o).x.cells.2.2.2.1;have r0:=λo=>(TR o).rs.cells.1;have r1:=λo=>(TR o).rs.cells.2.1;have r2:=λo=>(TR o).rs.cells.2.2.1;have r3:=λo=>(TR o).rs.cells.2.2.2.1;have r4:=λo=>(TR o).rs.cells.2.2.2.2;have hA:=hA7.grow b8)
    |(go_at_call 42;refine HS.mono ?_;clear HS;rintro e w7 ⟨⟨BN,cN,BT,cT,rfl,Sg,rN,oT⟩,b7⟩;let⟨W8,e8,k8,b8,z8⟩:=boxed w7 (t J) shift (some ⟨BN,0,none⟩) (aw f t J n).length cN (some ⟨BT,0,none⟩) (aw f t J n).length cT;have hA:=(hA.grow b7).grow b8;have rN:=rN.below b8 Sg;have oT:=gY oT<|b8.block _ oT.lt;have pp:=k8.cells)
    |(go_at_call 35;refine(VT BN cN BT cT W8 ab rN oT.lt oT.2).mono ?_;clear VT;rintro e w9 ⟨⟨Bg,cq,Bv,cv,rfl,oQ,oV⟩,b9⟩;have z9:=hA.x.lt;have hA:=hA.grow b9;let⟨r0,r1,r2,r3,r4⟩:=hA.rs.cells))
   all_goals try omega
   all_goals first
    |(let⟨W5,e5,k5,iZ,tN,ol⟩:=aJ hA.rs hA.below ab (t J) shift (some ⟨Bg,0,none⟩) (aw f t J n).length cq (some ⟨Bv,0,none⟩) (aw f t J n).length cv;rw[e5];let⟨q0,q1,q2,q3,q4⟩:=k5.cells;have hhR:=hA.hX;exact ac (v:=.tuple #[.agg #[.int .i64<|t J,.int .i64 shift,.slice (some ⟨Bg,0,none⟩) (aw f t J n).length cq,.slice (some ⟨Bv,0,none⟩) (aw f t J n).length cv],.int .i64 0]) (by simp[aL,Tryz.f18,go_sem,q0,q1,q2,q3]) rfl ⟨⟨t J,shift,_,_,cq,_,_,_,cv,T,0,rfl,by rw[htE.out];exact .yes p7.out Mx ZE.out,.inr ⟨Bg,Bv,rfl,rfl,cg (az oQ λB hB=>ol B (by have:=(oQ.lt B hB).1;omega)) ab,(fE oV).2.2,tR.of<|cg (az oV λB hB=>ol B (by have:=(oV.lt B hB).1;omega)) ab⟩⟩,iZ⟩)
    |(try rw[e8h.out]
      let⟨W5,e5,k5,iZ,tN,ol⟩:=aJ hA.rs hA.below ab now shift (some ⟨Bx,0,none⟩) n cx (some ⟨Bi,0,none⟩) n ci;rw[e5];let⟨q0,q1,q2,q3,q4⟩:=k5.cells;exact ac (v:=.tuple #[.agg #[.int .i64 now,.int .i64 shift,.slice (some ⟨Bx,0,none⟩) n cx,.slice (some ⟨Bi,0,none⟩) n ci],.int .i64 kc]) (by simp[aL,Tryz.f18,go_sem,q0,q1,q2,q3,hc]) rfl ⟨⟨now,shift,_,n,cx,f,_,n,ci,t,kc,rfl,.no p7.out Mx ZE.out,hA.out ol⟩,iZ⟩)
    |(trace_state;skip)
def kq (f:Nat->Mv)(t:Nat->Int)(now:Int)(k:Nat)(L:List Mv)(I:List Int)(A:Nat)(xs:List a7):Prop:=L=(stay now t k).map (λi=>bT (f i) (t i)<|now+1)/\I=(stay now t k).map t/\A=(gone now t k).length/\xs=nL f (gone now t k)
def kq.gone {I}(h:kq f t now k L I A xs)(e:t k=now):kq f t now (k+1) L I (A+1) (xs++[.string (f k).name]):=by
 obtain⟨rfl,rfl,rfl,rfl⟩:=h;simp[kq,Proofs.YtjoalkgmgmmedaaGreatDoor.stay,Proofs.YtjoalkgmgmmedaaGreatDoor.gone,e,nL]
def kq.stay {I}(h:kq f t now k L I A xs)(e:¬t k=now){m}(x:m=bT (f k) (t k) (now+1)):kq f t now (k+1) (L++[m]) (I++[t k]) A xs:=by
 obtain⟨rfl,rfl,rfl,rfl⟩:=h;simp[kq,Proofs.YtjoalkgmgmmedaaGreatDoor.stay,Proofs.YtjoalkgmgmmedaaGreatDoor.gone,e,x]
inductive yE (f:Nat->Mv)(n:Nat)(t:Nat->Int)(m:Nat)(now shift:Int):Int->Int->Nat->(Nat->Mv)->Nat->(Nat->Int)->List Nat->Int->Prop
 |bad:aY now shift f n t m=false->yE f n t m now shift 0 0 0 f 0 t [] 1
 |last:aY now shift f n t m=true->now=10000->yE f n t m now shift now shift n f m t [] 2
 |yes:aY now shift f n t m=true->now≠10000->yE f n t m now shift (now+1) shift (stay now t n).length (jO<|(stay now t n).map λi=>bT (f i) (t i)<|now+1) (stay now t n).length (λj=>((stay now t n).map t).getD j 0) (gone now t n) 0
def C1 {a b}(e:a<=b)(h:W.heap[b]?=some (.cells #[] 9 (0,0))):W.ownsRow a 9 1 (aa b 0 0) 0 []:=⟨rfl,.inr ⟨b,0,#[],rfl,e,h,afK _,afP _,rfl,rfl⟩⟩
def OP (w:a6)(x:Int):∃W,w.alloc (.cells #[x] 3)=W/\W.heap[w.heap.size]?=some (.cells #[x] 3 (0,0))/\aI w w W/\W.heap.size=w.heap.size+1:=
 ⟨_,rfl,br w _,(afB _ w).alloc (afK _) _,aP⟩
def OQ (w:a6)(x:ByteArray):∃W,w.alloc (.cells #[x] 9)=W/\W.heap[w.heap.size]?=some (.cells #[x] 9 (0,0))/\aI w w W/\W.heap.size=w.heap.size+1:=
 ⟨_,rfl,br w _,(afB _ w).alloc (afK _) _,aP⟩
def row_one {base T e}(h:w.ownsRow base T e v (n+1) xs):∃B c,v=aa (some ⟨B,0,none⟩) (n+1) c:=by
 obtain⟨O,q|⟨g,x,z,q,R,U⟩⟩:=h
 .omega
 grind
structure St2 (N sl r k x)(W:a6):Prop where
 c3:W.cell? ⟨N,3,none⟩=some sl
 tk:W.cell? ⟨r,k,none⟩=some (ay .i64 x)
section
variable {C:Nat}{u:a7}{I:List Int}{s:a7}{r:Nat}
def Tc.st (h:Tc w now shift ao n c r d C v u L I s A xs W)(e:r<w)(q:aD w r 0 n t)(hk:k<n):St2 w.heap.size (aa r n d) r k (t k) W:=
 ⟨h.bk.cells.2.2.2.1,by have:=q.below h.below e k hk;rw[ai]at this;exact this⟩
def XB (hb:aI w w W)(h:Tc w now shift ao n c r d C v u L I s A xs W)(g:W.grownBy W' u.ownBlock)(x:r<w)(z:aD w r 0 n t)(hk:k<n):St2 w.heap.size (aa r n d) r k (t k) W':=by
 have O:=h.hN;exact⟨(h.bk.same<|g.block _ h.bk.lt (λe=>by have:=(h.oi.lt _ e.symm).1;omega)).cells.2.2.2.1,by have:=z.below (hb.grown g hb.size (λq B=>by have:=(h.oi.lt q B).1;omega)) x k hk;rw[ai]at this;exact this⟩
end
def C' (now shift ao n c f bo m d t w)(hB:Bq w now shift ao n c f bo m d t):
  bj Tz.prog 43 #[a8 #[now,shift,aa ao n c,aa bo m d]] w λe w'=>(∃a0 a1 s2 l c2 F s3 o c3 T sa A sc J cd,e=.returned (a9 #[a8 #[ay .i64 a0,ay .i64 a1,aa s2 l c2,aa s3 o c3],aa sa A sc,ay .i64 cd])/\yE f n t m now shift a0 a1 l F o T J cd/\If w' w.heap.size s2 l c2 F s3 o c3 T/\A=J.length/\w'.ownsRow w.heap.size 9 1 (aa sa A sc) A (nL f J))/\aI w w w':=by
 obtain⟨W0,pH⟩:∃W,W=((w.alloc<|.cells #[ay .i64 now,ay .i64 shift,aa ao n c,aa bo m d] 29).alloc<|.cells #[(0:Int),(0:Int),aa none 0 0,aa none 0 0] 29).alloc (.cells #[] 9):=⟨_,rfl⟩;have b0:aI w w W0:=by rw[pH];exact(((afB _ w).alloc (afK _) _).alloc aP _).alloc dj _
 have DA:aR W0 w.heap.size now shift (aa ao n c) (aa bo m d):=by rw[pH];exact(afC _ _ _ dj).trans<|(afC _ _ _ aP).trans<|heap_alloc_new _ _
 have uP:aR W0 (w.heap.size+1) 0 0 () ():=by rw[pH];exact(afC _ _ _ aP).trans<|dY _ _ _
 have bv:W0.heap[w.heap.size+2]?=some (.cells #[] 9 (0,0)):=by
  rw[pH];have:=dY (w.alloc<|.cells #[now,shift,aa ao n c,aa bo m d] 29) (.cells #[(0:Int),(0:Int),(),()] 29)<|.cells #[] 9;exact RH
 have gK:W0.heap.size=w.heap.size+3:=by rw[pH];simp
 have HB:=(hB.bl<|Bl.of b0).sk;have h6:=hB.n6;cases hb:aY now shift f n t m with
 |false=>
  rw[hb,pH]at HB;go_enter Tz.func43,Tryz.ntmps43
  go_wp2_with(go_at_call 34;refine HB.mono ?_;clear HB;rintro e w1 ⟨rfl,Y⟩;rw[<-pH]at Y;have r1:=uP.same<|Y.block _ uP.lt;let⟨y0,y1,y2,y3,y4⟩:=r1.cells)
  let⟨W5,e5,k5,iZ,tN,ol⟩:=aJ r1 (b0.trans<|Y.mono b0.size) ab 0 0 none 0 0 none 0 0;rw[e5];let⟨q0,q1,q2,q3,q4⟩:=k5.cells;refine ac (v:=a9 #[a8 #[(0:Int),(0:Int),(),()],aa (some ⟨w.heap.size+1+1,0,none⟩) 0 0,ay .i64 1]) ?_ rfl ⟨⟨0,0,none,0,0,_,none,0,0,_,_,0,0,[],1,rfl,.bad hb,.inl ⟨rfl,rfl,rfl,rfl,rfl,rfl⟩,rfl,C1 ab<|(ol _ ab).trans<|(Y.block _ ab).trans bv⟩,iZ⟩;simp[aL,Tryz.f43,go_sem,q0,q1,q2,q3]
 |true=>
  let⟨hm,A5,ju⟩:=bK hb;obtain rfl:n=m:=A5.symm;obtain⟨KU,nk,-⟩:=gd hb;have p7:Hid _:=hb;rw[hb,pH]at HB;clear hb;have Kt:=λW (hW:aI w w W)=>gM now shift ao n c f bo n d t W ab ab (hB.bl<|Bl.of hW).sm (hB.bl<|Bl.of hW).si
  let⟨iM,hI,bS,eO,fZ⟩:=fe;let⟨i0,KN,MD,I8,I9⟩:=ur;let⟨iS,bV,Sx,uk,xS⟩:=FU;by_cases ug:now=10000
  .have Zn:10000<=now:=by omega
   have bW:Hid (now=10000):=ug;clear ug;go_enter Tz.func43,Tryz.ntmps43
   go_wp2_with(first
    |(go_at_call 34;refine HB.mono ?_;clear HB;rintro e w1 ⟨rfl,Y⟩;rw[<-pH]at Y;have B1:=b0.trans<|Y.mono b0.size;have bk:=DA.same<|Y.block _ DA.lt;have rs:=uP.same<|Y.block _ uP.lt;have dn:=(Y.block _ ab).trans bv;let⟨y0,y1,y2,y3,y4⟩:=bk.cells)
    |(go_at_call 35;refine(Kt _ B1).mono ?_;clear Kt;rintro e w2 ⟨⟨Bx,cx,Bi,ci,rfl,oM,oI⟩,b2⟩;have z2:=b2.size;have z1:=Y.size;have bk:=bk.same<|b2.block _ ab;have rs:=rs.same<|b2.block _ ab;let⟨W3,e3,k3,Z,z3⟩:=boxed w2 now shift (some ⟨Bx,0,none⟩) n cx (some ⟨Bi,0,none⟩) n ci;have dn:=(Z.block _ ab).trans<|(b2.block _ ab).trans dn;have hA:Ad w now shift ao n c bo d (w.heap.size+1) w2.heap.size Bx cx Bi ci f t W3:=⟨(B1.trans<|b2.mono B1.size).trans<|Z.mono ab,bk.same<|Z.block _ ab,rs.same<|Z.block _ ab,ab,k3,ab,cg (az oM λB hB=>Z.block B (oM.lt B hB).2) ab,cg (az oI λB hB=>Z.block B (oI.lt B hB).2) ab⟩;let⟨y0,y1,y2,y3,y4⟩:=hA.bk.cells;let⟨x0,x1,x2,x3,x4⟩:=hA.x.cells;let⟨r0,r1,r2,r3,r4⟩:=hA.rs.cells;clear oM oI bk rs))
   all_goals try omega
   let⟨W5,e5,k5,iZ,tN,ol⟩:=aJ hA.rs hA.below ab now shift (some ⟨Bx,0,none⟩) n cx (some ⟨Bi,0,none⟩) n ci;rw[e5];let⟨q0,q1,q2,q3,q4⟩:=k5.cells;have ce:=hA.hR;exact ac (v:=a9 #[a8 #[now,shift,aa Bx n cx,aa Bi n ci],aa (some ⟨w.heap.size+1+1,0,none⟩) 0 0,ay .i64 2]) (by simp[aL,Tryz.f43,go_sem,q0,q1,q2,q3]) rfl ⟨⟨_,_,_,_,_,_,_,_,_,_,_,0,0,[],2,rfl,.last p7.out bW.out,hA.out ol,rfl,C1 ab<|(ol _ ab).trans dn⟩,iZ⟩
  have Zn:¬10000<=now:=by omega
  have H5:IntKind.i64.wrap (now+1)=now+1:=kw;have cf:IntKind.i64.wrap (now+1+4)=now+1+4:=kw;go_enter Tz.func43,Tryz.ntmps43
  go_wp2_with(first
   |(go_at_call 34;refine HB.mono ?_;clear HB;rintro e w1 ⟨rfl,Y⟩;rw[<-pH]at Y;have B1:=b0.trans<|Y.mono b0.size;have bk:=DA.same<|Y.block _ DA.lt;have rs:=uP.same<|Y.block _ uP.lt;have dn:=(Y.block _ ab).trans bv;let⟨y0,y1,y2,y3,y4⟩:=bk.cells)
   |(go_at_call 35;refine(Kt _ B1).mono ?_;clear Kt;rintro e w2 ⟨⟨Bx,cx,Bi,ci,rfl,oM,oI⟩,b2⟩;have z2:=b2.size;have z1:=Y.size;let⟨W3,e3,k3,Z,z3⟩:=boxed w2 now shift (some ⟨Bx,0,none⟩) n cx (some ⟨Bi,0,none⟩) n ci;have bk:=(bk.same<|b2.block _ ab).same<|Z.block _ ab;have rs:=(rs.same<|b2.block _ ab).same<|Z.block _ ab;have dn:=(Z.block _ ab).trans<|(b2.block _ ab).trans dn;have B3:=(B1.trans<|b2.mono B1.size).trans<|Z.mono ab;let⟨y0,y1,y2,y3,y4⟩:=bk.cells;let⟨W4,e4,k4,b4,z4⟩:=boxed W3 (now+1) shift none 0 0 none 0 0;have bB:Hid (W3.heap.size=w2.heap.size+1):=z3;clear z3;have bE:Hid (W4.heap.size=W3.heap.size+1):=z4;clear z4;have bF:Hid (W3.alloc (.cells #[ay .i64<|now+1,ay .i64 shift,aa none 0 0,aa none 0 0] 29)=W4):=e4;clear e4))
  rw[bF.out];have z3:=bB.out;have z4:=bE.out;obtain⟨C,bH⟩:∃C,C=W3.heap.size:=⟨_,rfl⟩;rw[<-bH]at k4⊢;have bI:Tc w now shift ao n c bo d C () () [] [] (aa (some ⟨w.heap.size+1+1,0,none⟩) 0 0) 0 [] W4:=⟨B3.trans<|b4.mono ab,bk.same<|b4.block _ ab,rs.same<|b4.block _ ab,k4,ab,⟨rfl,.inl ⟨rfl,rfl⟩⟩,⟨rfl,.inl ⟨rfl,rfl⟩⟩,⟨rfl,.inr ⟨w.heap.size+2,0,#[],rfl,afK _,(b4.block _ ab).trans dn,afK _,afP _,rfl,rfl⟩⟩⟩;clear bk rs dn b4 k4 B3 oM oI k3 Z b2 Y bH z3 z4 bB bE e3 bF;go_loopw [5,8] (λs x W=>∃(k:Nat) (v u:a7) (L:List Mv) (I:List Int) (A:Nat) (xs:List a7),x=ay .i64 k/\k<=n/\L.length=I.length/\L.length<=k/\A<=k/\Hid (kq f t now k L I A xs)/\Tc w now shift ao n c bo d C v u L I s A xs W) (λ_ x _=>n-(intOf x).toNat)
  case atStart=>exact⟨0,_,_,[],[],0,[],rfl,afP _,rfl,afK _,afK _,(by show kq _ _ _ _ _ _ _ _;exact⟨rfl,rfl,rfl,rfl⟩),bI⟩
  clear bI;obtain⟨k,v,u,L,I,A,xs,rfl,hk,U,ch,ck,eF,R⟩:=hrel;have bx:Hid (L.length=I.length):=U;have cl:I.length<=k:=ab;clear U;let⟨y0,y1,y2,y3,y4⟩:=R.bk.cells;let⟨p0,p1,p2,p3,p4⟩:=R.nx.cells;by_cases aF:k<n
  .have dV:(k:Int)<n:=by omega
   obtain⟨b,rfl,bN,aB⟩:=hB.sm.pos ab;obtain⟨r,rfl,bz,aV⟩:=hB.si.pos ab;let⟨c0,c1,c2,c3,c4,c5⟩:=aB.below R.below bN k aF;simp only[ai]at c0 c1 c2 c3 c4 c5;let⟨Wm,em,hM,bm,zm⟩:=Iu wr<|f k;have lb:=afL bN R.below.size;have ax:=R.grow bm;have aZ:=aM Wm;have sm:=ax.st bz aV aF;have x0:=λx:an Wm=>x.cell ax.bk.cells.1
   have x3:=λx:an Wm=>x.cell sm.c3
   have y6:=λx:an Wm=>x.cell sm.tk
   by_cases vg:t k=now
   .have d0:(t k==now)=true:=by simpa using vg
    have eF:Hid _:=eF.out.gone vg;clear vg;go_wp2;refine nl ?_;intro w3 lu;have T6:=ax.grow lu;have TZ:=hM.keep<|lu.block _ ab;have m0:=(fS TZ).c0;clear x0 x3 y6 aZ sm;let⟨Wo,eo,ko,b5,zo⟩:=OQ w3 (f k).name;have Ct:=T6.grow b5;go_wp2_with(at_builtin;refine bn _ rfl (.tmp 49) (.tmp 52) 24 rfl (w.heap.size+2) 9 iS _ 1 16 sV bV Sx uk xS rfl bh _ A xs bQ Ct.os w3.heap.size 1 1 [.string (f k).name] bQ rfl (fx ko) sJ iN ab (by have:=Ct.rs.lt;have:=Ct.nx.lt;have:=Ct.hN;omega) ?_;intro s5 w5 xI Cx _)
    have Z':=Ct.names xI Cx;go_roundw
    case rel=>exact⟨k+1,v,u,L,I,A+1,_,by go_num,ab,bx.out,ab,ab,eF,Z'⟩
    case measure=>exact cD
   .have d0:(t k==now)=false:=by simpa using vg
    have b6:Hid _:=vg;clear vg;go_wp2;refine nl ?_;intro w3 lu;have T6:=ax.grow lu;have TZ:=hM.keep<|lu.block _ ab;have cn:=lu.size;clear x0 x3 y6 aZ sm d0;have s3:=T6.st bz aV aF;have aZ:=aM w3;have x3:=λx:an w3=>x.cell s3.c3
    have y6:=λx:an w3=>x.cell s3.tk
    have x0:=λx:an w3=>x.cell T6.nx.cells.1
    go_wp2;by_cases pQ:t k<now+1+4;focus
     refine nl ?_;intro w4 H0;have bq:=T6.grow H0;have Sk:=TZ.keep<|H0.block _ ab;let⟨a0,a1,a2,a3,a4,a5⟩:=fS Sk;have uf:=Sk.frozen 5;let⟨y0,y1,y2,y3,y4⟩:=bq.bk.cells;have t4:=(bq.st bz aV aF).tk;have co:r<w4:=afL bz bq.below.size;obtain⟨Wq,eq,bs,Z'⟩:∃Wq,w4.setCell ⟨wr.heap.size,5,none⟩ (ay .i64<|t k)=Wq/\fy Wq wr.heap.size {f k with prom:=t k}/\Tc w now shift (some ⟨b,0,none⟩) n c (some ⟨r,0,none⟩) d C v u L I _ A xs Wq:=by
      refine⟨_,rfl,?_,R.grow ?_⟩
      .have:=heap_setCell_same w4 wr.heap.size 5 _ _ (ay .i64<|t k) Sk;simpa[fy]using this
      exact((bm.trans<|lu.mono ab).trans<|H0.mono ab).setCell (afK _) _
     obtain⟨m',qr⟩:∃m',m'=({f k with prom:=t k}:Mv):=⟨_,rfl⟩;have Uo:Hid (m'=bT (f k) (t k) (now+1)):=by show m'=_;rw[qr];unfold bT;rw[if_pos pQ]
     rw[<-qr]at bs;clear qr Sk bq
    rotate_left;focus
     refine nl ?_;intro Wq H0;have Z':=T6.grow H0;have bs:=TZ.keep<|H0.block _ ab;obtain⟨m',qr⟩:∃m',m'=f k:=⟨_,rfl⟩;have Uo:Hid (m'=bT (f k) (t k) (now+1)):=by show m'=_;rw[qr];unfold bT;rw[if_neg pQ]
     rw[<-qr]at bs;clear qr
    all_goals
     clear x0 x3 y6 aZ s3 TZ T6 R ax hM;let⟨g0,g1,g2,g3,g4,g5⟩:=fS bs;let⟨p0,p1,p2,p3,p4⟩:=Z'.nx.cells;let⟨Wo,eo,ko,b7,zo⟩:=Iu Wq m';have Ct:=Z'.grow b7;go_wp2_with(at_builtin;refine bn _ rfl (.tmp 70) (.tmp 72) 26 rfl (C+1) 55 iM _ 6 56 aT hI bS eO fZ rfl bh v L.length (bc (jO L) L.length) bQ Ct.om Wq.heap.size 1 1 m'.cells.toList bQ rfl (vF ko) (gu m') iN ab (by have:=Ct.nx.lt;omega) ?_;intro v6 w6 ZB bL _;let⟨n6,R⟩:=Ct.moves ZB bL;obtain⟨B6,c6,rfl⟩:=lA ZB;let⟨q0,q1,q2,q3,q4⟩:=n6.cells;obtain⟨W7,e7⟩:∃W,w6.setCell ⟨C,2,none⟩ (aa B6 (L.length+1) c6)=W:=⟨_,rfl⟩;rw[e7]at R)
     clear q0 q1 q2 q3 q4 n6 ZB bL Ct Z' p0 p1 p2 p3 p4 g0 g1 g2 g3 g4 g5;have R:=R.grow (afB _ _).drew;refine wp_region_held_drew (S:=St2 w.heap.size (aa r n d) r k<|t k) aO (R.st bz aV aF) λO=>?_;revert O R;generalize W7.drew=W8;intro R O;let⟨p0,p1,p2,p3,p4⟩:=R.nx.cells;refine aj 0 (bp<|some ⟨C,3,none⟩) 75 rfl sv2 O<|aj 2 (bp<|some ⟨w.heap.size,3,none⟩) 77 rfl sv2 O<|aj 3 (aa r n d) 78 rfl sv2 O<|aj 4 (ay .i64 (k:Int)) 79 rfl sv2 O<|aj 5 (bp<|some ⟨r,k,none⟩) 80 rfl sv2 O<|aj 6 (ay .i64<|t k) 81 rfl sv2 O ?_;simp only[Act.put,List.setIfInBounds_toArray,List.set_cons_zero,List.set_cons_succ];refine Ls 1 7 rfl rfl (λK hK=>?_) λK hK=>?_;focus
      go_simp
      refine hK.out _ _ (R.st bz aV aF) λO=>f8 7 rfl λK hK=>?_;go_simp
      let⟨Wi,ei,ki,bi,zi⟩:=OP W8<|t k;rw[ei];have R:=R.grow bi;let⟨p0,p1,p2,p3,p4⟩:=R.nx.cells;refine hK.out _ _ (R.st bz aV aF) λO=>?_;clear hK K
     rotate_left;focus
      go_simp
      let⟨Wi,ei,ki,bi,zi⟩:=OP W8<|t k;rw[ei];have R:=R.grow bi;let⟨p0,p1,p2,p3,p4⟩:=R.nx.cells;refine hK.out _ _ (R.st bz aV aF) λO=>?_;clear hK K;refine f8 1 rfl λK hK=>?_;go_simp
      refine hK.out _ _ (R.st bz aV aF) λO=>?_;clear hK K
     all_goals
      refine f8 8 rfl λK hK=>dK rfl (.tmp 76) (.tmp 82) 27 rfl 3 i0 (ay .i64 0) 1 8 iH KN MD I8 I9 rfl bh (C+1) u I.length (ints I) bQ R.oi W8.heap.size 1 1 [ay .i64 (t k)] bQ rfl (fx ki) sJ iN ab (by have:=R.nx.lt;omega) ?_;intro u9 w9 bM bA;let⟨n9,bt⟩:=R.RF bM bA;obtain⟨B9,c9,rfl⟩:=row_one bM;let⟨p0,p1,p2,p3,p4⟩:=n9.cells;refine hK.out _ _ (XB R.below R bA bz aV aF) λO=>?_;clear hK K;refine f8 9 rfl λK hK=>?_;go_simp
      refine hK.out _ _ (XB R.below R bA bz aV aF) λO=>?_;clear hK K;refine f8 10 rfl λK hK=>?_;go_simp
      refine hK.out _ _ (bt.st bz aV aF) λO=>?_;clear hK K;refine wpAnyH_done aO ?_ _;revert bt;generalize w9.setCell ⟨C,3,none⟩ (aa (some ⟨B9,0,none⟩) (I.length+1) c9)=WZ;intro bt;go_wp2;go_roundw
      case rel=>exact⟨k+1,_,_,L++[m'],I++[t k],A,xs,by go_num,ab,by have:=bx.out;simp;omega,dj,ab,eF.out.stay b6.out Uo.out,bt⟩
      case measure=>exact cD
  have dV:¬(k:Int)<n:=by omega
  have U:=bx.out;obtain⟨av,cv,rfl,Sy,b8⟩:=Av R.om;obtain⟨au,cu,rfl,b9,ca⟩:=Av R.oi;have cb:pN wr au L.length cu (λj=>I.getD j 0):=by
   rw[U];refine⟨b9,λad aE=>?_⟩;let⟨bb,e,hl⟩:=ca ad aE;subst aE e;refine⟨bb,rfl,hl,λi hi=>?_⟩;rw[ai,R.oi.cellAt i ab];simp[ints,hi]
  have cc:qe wr av L.length cv (jO L):=by
   refine⟨Sy,λad aE=>?_⟩;let⟨bb,e,hl⟩:=b8 ad aE;subst aE e;exact⟨bb,rfl,hl,eh R.om⟩
  have HC:=gM (now+1) shift av L.length cv (jO L) au L.length cu (λj=>I.getD j 0) wr ab ab cc cb;rw[<-U]at p3;clear U;obtain⟨sa,sc,rfl,_⟩:=Av R.os;have FJ:=R.rs;have WT:=R.os;have bO:=R.below;have ct:=R.hN;have PN:=R.nx.lt;go_wp2_with(go_at_call 35;refine HC.mono ?_;clear HC;rintro e w3 ⟨⟨Bg,cq,Bv,bR,rfl,oQ,oV⟩,Z⟩;have FJ:=FJ.same<|Z.block _ FJ.lt;let⟨r0,r1,r2,r3,r4⟩:=FJ.cells)
  all_goals try omega
  let⟨W5,e5,k5,iZ,tN,ol⟩:=aJ FJ (bO.trans<|Z.mono bO.size) ab (now+1) shift (some ⟨Bg,0,none⟩) L.length cq (some ⟨Bv,0,none⟩) L.length bR;rw[e5];let⟨q0,q1,q2,q3,q4⟩:=k5.cells;refine ac (by simp[aL,Tryz.f43,go_sem,q0,q1,q2,q3]) rfl ⟨⟨now+1,shift,_,L.length,cq,jO L,_,L.length,bR,(λj=>I.getD j 0),sa,A,sc,gone now t n,0,rfl,?_,.inr ⟨Bg,Bv,rfl,rfl,cg (az oQ λB hB=>ol B (by have:=(oQ.lt B hB).1;omega)) ab,(fE oV).2.2,tR.of<|cg (az oV λB hB=>ol B (by have:=(oV.lt B hB).1;omega)) ab⟩,?_,?_⟩,iZ⟩;all_goals
   obtain rfl:k=n:=ab;obtain⟨rfl,rfl,rfl,rfl⟩:=eF.out
  .have:=yE.yes p7.out ug;simpa using this
  .rfl
  exact cg (az WT λB hB=>(ol B (by have:=(WT.lt B hB).1;omega)).trans<|Z.block B (WT.lt B hB).2) ab
def g_ {k:Int}(hk:ew f n name k)(h:gD f n t now k=.inr (p,T)):p<n/\(f p).ax=true/\t p=now/\dG f n t p=some T/\de (f p).name name=true:=by
 unfold gD at h;split at h
 .grind
 rcases hk with⟨rfl,_⟩|⟨j,rfl,hj,hs,_⟩
 .omega
 grind
def QW (h:dG f n t p=some T):t p+6<=(f p).late:=by
 grind [Aq]
section
variable {a0 a1:Int}{F:Nat->Mv}{o:Nat}{J:List Nat}
def U1 (x:aG f n=true)(B:fX f t n)(hk:k<n):(bT (f k) (t k) now).ok=true:=by
 unfold bT;split
 .exact VG x B hk
 exact bd x k hk
def AF {now t}:∀{k i:Nat},i∈stay now t k->i<k/\t i≠now
 |0,i,h=>by simp[stay]at h
 |k+1,i,h=>by
  simp only[stay]at h;split at h
  .have:=AF h;exact⟨ab,this.2⟩
  .rename_i a;rcases agb.1 h with h|h
   .have:=AF h;exact⟨ab,this.2⟩
   .simp at h;subst h;exact⟨ab,a⟩
end
def A_ (h:W.ownsRow N 55 6 (aa s l c) l (fR f l)):qe W s l c f:=by
 let⟨a,U,e,B,O⟩:=Av h;cases e;exact⟨B,λR x=>by obtain⟨b,rfl,hb⟩:=O R x;subst x;exact⟨b,rfl,hb,UW h⟩⟩
def A' (h:W.ownsRow N 3 1 (aa s l c) l xs)(x:∀j,j<l->xs[j]?=some (ay .i64<|t j)):pN W s l c t:=by
 let⟨a,U,e,z,B⟩:=Av h;cases e;exact⟨z,λO q=>by obtain⟨b,rfl,hb⟩:=B O q;subst q;exact⟨b,rfl,hb,λi R=>by rw[ai,h.cellAt i ab];exact x i R⟩⟩
def aex (W:a6)(y:a7)(a0 a1:Int)(l:Nat)(F:Nat->Mv)(o:Nat)(T:Nat->Int):Prop:=∃e g q x,y=a8 #[a0,a1,aa e l g,aa q o x]/\qe W e l g F/\pN W q o x T
section
variable {y:a7}
theorem pg {l}(h):nth l j=l[j]:=by simp[nth,h]
end
def ew.one {k k'}(h:ew f n name k)(x:ew f n name k'):k=k':=by
 rcases h with⟨rfl,h⟩|⟨j,rfl,O,hs,R⟩<;>rcases x with⟨rfl,x⟩|⟨U,rfl,B,Y,Z⟩<;>grind
theorem oa {m:Mv}{t}:m.ga t=true<->m.cE<=t/\t<=m.late/\(m.prom=-1\/m.prom=t):=by
 unfold Mv.ga AH;simp_all [eJ,and_assoc]
def wZ {m a t}(h:(fJ m a).ga t=true):m.ga t=true/\(m.prom=-1->a<=t):=by
 grind [fJ,oa]
def JF (a b e s t):(fJ a e).iJ (fJ b e) s t=a.iJ b s t:=by
 unfold fJ;split<;>split<;>rfl
def Nd (a b x y e g s t):(bT a x y).iJ (bT b e g) s t=a.iJ b s t:=by
 unfold bT;split<;>split<;>rfl
def JK (B:aG f n=true)(R:fX f t n)(U:p<n)(O:dG f n t p=some T):(∀j,j<(aw f t p n).length->(fJ (jO (aw f t p n) j)<|t p+4).ga (T j)=true)/\er (jO<|aw f t p n) (aw f t p n).length T (aw f t p n).length=true:=by
 have Y:=QW O;rw[JI B R U Y]at O;let⟨_,_,h1,Z⟩:=oJ<|(Pk O).fits;refine⟨λj x=>h1 j x,(fN<|tm (afN (iX _ _ _ _)<|bX B) (λi hi=>tx B R U Y hi) (λ_ _=>rfl)<|(tq B).sublist<|qT f t p n).2 ⟨λj x=>(wZ<|h1 j x).1,λj k hk x=>?_⟩⟩;have:=Z j k hk x;rw[<-JF _ _ _];exact this
def VF (x:j<(aw f t p n).length):∃i,i<n/\t p<=t i/\jO (aw f t p n) j=gR f t p i:=lG<|xW x
def JJ (hb:aY now shift f n t n=true)(R:p<n)(ht:t p=now)(U:dG f n t p=some T):aY now shift (jO<|aw f t p n) (aw f t p n).length T (aw f t p n).length=true:=by
 let⟨Y,_,B⟩:=bK hb;let⟨Z,r2,_⟩:=gd hb;let⟨h1,h2⟩:=JK Y B R U;refine qZ (eJ.2 Z) (eJ.2 r2) h2<|vN λj O=>?_;let⟨hs,jB⟩:=wZ<|h1 j O;let⟨i,hi,ad,e⟩:=VF O;rw[e]at hs jB⊢;have hs:=oa.1 hs;by_cases x:(gR f t p i).prom=-1
 .grind [fU]
 have Y4:(gR f t p i).prom=T j:=by omega
 have:now<=T j:=by
  rw[<-Y4];unfold gR at x⊢;split
  .rename_i e;rw[if_pos e]at x;exact absurd rfl x
  rename_i e;rw[if_neg e]at x;unfold bT at x⊢;split
  .grind
  rename_i h;rw[if_neg h]at x;have:=(oa.1<|B.1 i hi).2.2;omega
 grind [fU]
def qm {now t}:∀{k i:Nat},i∈gone now t k->i<k/\t i=now
 |0,i,h=>by simp[gone]at h
 |k+1,i,h=>by
  simp only[gone]at h;split at h
  .rename_i a;rcases agb.1 h with h|h
   .have:=qm h;exact⟨ab,this.2⟩
   .simp at h;subst h;exact⟨ab,a⟩
  .have:=qm h;exact⟨ab,this.2⟩
def EM (now t):∀n,stay now t n=(List.range n).filter (λk=>!decide (t k=now))
 |0=>rfl
 |n+1=>by
  simp only[stay,List.range_succ,List.filter_append,<-EM now t n];split<;>simp[*]
def Vw (b:i<j)(a:j<(stay now t n).length):nth (stay now t n) i<nth (stay now t n) j:=by
 rw[pg ab,pg a];have h:((List.range n).filter λk=>!decide (t k=now)).Pairwise _:=List.Pairwise.filter _ List.pairwise_lt_range;rw[<-EM]at h;exact List.pairwise_iff_getElem.1 h i j ab a b
def tkF (f:Nat->Mv)(t:Nat->Int)(now:Int)(n:Nat):Nat->Mv:=jO<|(stay now t n).map λi=>bT (f i) (t i)<|now+1
def tkT (t:Nat->Int)(now:Int)(n:Nat):Nat->Int:=λj=>((stay now t n).map t).getD j 0
def AJ (x:j<(stay now t n).length):tkF f t now n j=bT (f<|nth (stay now t n) j) (t<|nth (stay now t n) j) (now+1):=by
 simp_all [tkF,xV,pg]
def ER (a:j<(stay now t n).length):tkT t now n j=t (nth (stay now t n) j):=by
 grind [tkT,pg]
def qF (a:j<(stay now t n).length):nth (stay now t n) j<n/\t (nth (stay now t n) j)≠now:=by
 rw[pg a];exact AF<|List.getElem_mem a
def Vm (hb:aY now shift f n t n=true)(x:i<n):now<=t i:=by
 have h:=(gd hb).2.2;apply af8;intro hc;rw[qQ x (by grind [fU])]at h;grind
def NL (hb:aY now shift f n t n=true)(U:now≠10000):aY (now+1) shift (tkF f t now n) (stay now t n).length (tkT t now n) (stay now t n).length=true:=by
 let⟨B,_,O⟩:=bK hb;let⟨r1,Y,_⟩:=gd hb;have h6:=afN (AE now t n)<|bX B;have Z:aG (tkF f t now n) (stay now t n).length=true:=by
  have:=tm (g:=tkF f t now n) cO (λi R=>?_) (λ_ _=>rfl) ?_
  .grind
  .simp at R;rw[AJ R];exact U1 B O (qF R).1
  have e:((stay now t n).map λi=>bT (f i) (t i)<|now+1).map Mv.name=(stay now t n).map λi=>(f i).name:=by
   rw[List.map_map];apply List.map_congr_left;intro i _;simp;grind [bT]
  rw[e,EM];exact(tq B).sublist<|List.filter_sublist.map _
 refine qZ (eJ.2 ab) (eJ.2 Y) ((fN Z).2 ⟨λj x=>?_,λj k hk x=>?_⟩)<|vN λj x=>?_
 .rw[AJ x,ER x];have h:=oa.1<|O.1 _ (qF x).1;grind [bT,oa]
 .rw[AJ x,AJ ab,ER x,ER ab,Nd];exact O.2 _ _ (Vw hk x) (qF x).1
 rw[AJ x,ER x];have h1:=Vm hb (qF x).1;have h2:=(qF x).2;unfold bT;split
 .simp[fU];omega
 grind [fU]
