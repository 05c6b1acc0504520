import Derived.Test.YthppgbjejomdiaaGreatDoorj39
set_option linter.all false
set_option maxHeartbeats 8000000
set_option maxRecDepth 10000
open Go renaming Value->ay,World->aI,Addr->aL,bodyPost_ret->a8,results->a9,Calls->be,wpList_append_own->bn,heap_alloc_new->bp
open Go.Value renaming slice->aa,int->ac,agg->aj,tuple->a6,pointer->bj
open Nat renaming zero_add->a7
namespace Go.Proofs.YthppgbjejomdiaaGreatDoor
open Conc RowKit
variable {name:ByteArray}{cd now shift:Int}{L:List Mv}{xs:List ay}{N c cp d D i j A k l m n p:Nat}{T t:Nat->Int}{f:Nat->Mv}{ao bo s:Option aL}{v:ay}{W W' w:aI}
def NE (shift:Int)(v u:ay)(w:aI):be Tz.prog 261 #[aj #[],aj #[(10000:Int),shift,v,u]] w λe w'=>e=.returned (a6 #[aj #[(0:Int),(0:Int),aa none 0 0,aa none 0 0],.iface 149<|aj #[(2:Int)]])/\Below w w w':=by let⟨z,U,X,a⟩:=DY w #[] 104;let⟨B,Y,g,b⟩:=DY z #[(10000:Int),ac .i64 shift,v,u] 42;obtain⟨E,Z,h,q,-⟩:=boxed B 0 0 none 0 0 none 0 0;obtain⟨y0,-⟩:=(show aR E _ _ _ _ _ from((q.block _ (agy.1 g).1).trans g)).cells;have xx:=h.cells;let⟨W8,e8,K,M,x,o8⟩:=aJ h ((a.trans<|b.mono a.size).trans<|q.mono<|agz a.size b.size) (agz a.size b.size) 0 0 none 0 0 none 0 0;replace x:Hid _:=x;let⟨O,P,R,S,q4⟩:=K.cells;go_enter Tz.func261,Tryz.ntmps261;go_wp2;exact a8 (by simp[a9,go_sem,O,P,R,S]) rfl ⟨rfl,M⟩
def NF (now shift:Int)(ao:Option aL)(ca:Nat)(bo:Option aL)(da:Nat)(w:aI)(h0:0<=now)(h1:now<10000):be Tz.prog 261 #[aj #[],aj #[now,shift,aa ao 0 ca,aa bo 0 da]] w λe w'=>e=.returned (a6 #[aj #[ac .i64<|now+1,shift,(),()],.nilIface])/\Below w w w':=by have hq:(now==10000)=false:=cY;have CY:IntKind.i64.wrap (now+1)=now+1:=jh;let⟨E,e1,k1,g⟩:=DY w #[] 104;obtain⟨W2,e2,O,q,-⟩:=boxed E now shift ao 0 ca bo 0 da;obtain⟨x,e3,R,S,-⟩:=boxed W2 0 0 none 0 0 none 0 0;obtain⟨W4,U,k4,Y,-⟩:=boxed x (now+1) shift none 0 0 none 0 0;have Z:=(g.trans<|q.mono g.size).trans<|S.mono<|agz g.size q.size;have bW:=Z.trans<|Y.mono Z.size;have z:=O.same<|S.block _ O.lt;have yy:=z.cells;have t2:∀o,(x.alloc o).cell? ⟨E,2,none⟩=some (aa ao 0 ca):=λo=>(z.same<|ago x o _ z.lt).cells.2.2.1;have p3:=R.same<|Y.block _ R.lt;have B:Hid _:=U;clear U;go_enter Tz.func261,Tryz.ntmps261;go_wp2;rw[B.out];(go_loopw [24] (λi w'=>i=ac .i64 0/\w'=W4) (λ_ _=>0));grind;obtain⟨rfl,rfl⟩:=hrel;have xx:=p3.cells;have uu:=k4.cells;let⟨W8,e8,k8,b8,z8,o8⟩:=aJ p3 bW (agz g.size q.size) (now+1) shift none 0 0 none 0 0;replace z8:Hid _:=z8;let⟨q0,q1,q2,q3,q4⟩:=k8.cells;go_wp2;exact a8 (by simp[a9,Tryz.results261,go_sem,q0,q1,q2,q3]) rfl ⟨rfl,b8⟩
def gi (h:aY now shift f n t m=true):(0<=now/\now<=10000)/\(0<=shift/\shift<=6)/\np now f t n=true:=by unfold aY at h;simp at h;exact⟨eO.1 h.1.1.1,eO.1 h.1.1.2,h.2⟩
def MPt (now shift:Int)(f:Nat->Mv)(n:Nat)(t:Nat->Int)(N:Nat)(y e:ay)(W:aI):Prop:=now=10000/\y=aj #[(0:Int),(0:Int),aa none 0 0,aa none 0 0]/\e=.iface 149 (aj #[(2:Int)])\/now≠10000/\e=.nilIface/\∃v u,y=Xe (now+1) shift v u/\W.ownsRow N 30 6 v (stay now t n).length (sL f t now<|stay now t n)/\W.ownsRow N 3 1 u (stay now t n).length (sM t<|stay now t n)
def mpt (now shift f n t):O8 (MPt now shift f n t) where
 is:=λh=>by
  rcases h with⟨_,O,x⟩|⟨_,h,v,u,O,x,R⟩
  .exact .inr ⟨2,ab,x,O⟩
  .obtain⟨a,cc,rfl⟩:=mu x;obtain⟨a',c',rfl⟩:=mu R;exact .inl ⟨h,_,_,_,_,_,_,_,_,O⟩
 to:=λh Y e=>by
  rcases h with h|⟨Z,h,v,u,O,x,R⟩
  .exact .inl h
  .exact .inr ⟨Z,h,v,u,O,cm (aA x λB U=>e B (x.lt B U).1 (x.lt B U).2) Y,cm (aA R λB U=>e B (R.lt B U).1 (R.lt B U).2) Y⟩
def Bq.acg (h:Bq w now shift ao n cp f bo m D t)(hb:aY now shift f n t m=true):be Tz.prog 261 #[aj #[],aj #[ac .i64 now,ac .i64 shift,aa ao n cp,aa bo m D]] w λe w'=>(∃y x,e=.returned (a6 #[y,x])/\MPt now shift f n t w y x w')/\Below w w w':=by let⟨hm,Y,hf⟩:=bL hb;obtain⟨R,-⟩:=gi hb;subst Y;by_cases B:now=10000;subst B;apply(NE shift _ _ w).mono;rintro e w' ⟨rfl,hb⟩;exact⟨⟨_,_,rfl,.inl ⟨rfl,rfl,rfl⟩⟩,hb⟩;refine h.cases (λO U r1 r2=>?_) λb r O U hb Z dr gm=>?_;subst O;apply(NF now shift ao cp bo D w R.1 ab).mono;rintro e w' ⟨rfl,hb⟩;exact⟨⟨_,_,rfl,.inr ⟨B,rfl,_,_,rfl,⟨rfl,.inl ⟨rfl,rfl⟩⟩,⟨rfl,.inl ⟨rfl,rfl⟩⟩⟩⟩,hb⟩;subst O U;apply(Q3 now shift b 0 m cp f r 0 D t w h.n6 R.1 ab hb Z dr gm).mono;rintro e w' ⟨⟨v,u,rfl,o1,o2⟩,hb⟩;exact⟨⟨_,_,rfl,.inr ⟨B,rfl,v,u,rfl,o1,o2⟩⟩,hb⟩
structure InR (ok:Ctx):Prop where
 sr:ok.aP 45=true
 st:ok.aP 47=true
 ch:ok.aP 70=true
 tr:ok.aP 93=true
 mr:ok.aP 260=true
 mt:ok.aP 261=true
 su:ok.aP 52=true
 ro:ok.aP 81=true
 pl:ok.aP 107=true
 sb:ok.aP 146=true
 bt:ok.aP 173=false
 co:ok.aP 94=false
def NPt (f:Nat->Mv)(n:Nat)(t:Nat->Int)(now:Int)(N:Nat)(s:Option aL)(l k:Nat)(W:aI):Prop:=l=(gone now t n).length/\W.ownsRow N 9 1 (aa s l k) l (nX f<|gone now t n)
section
variable [Gl]{ok:Ctx}{c r0:Frame}{cs:List Frame}{V:aI}{Q:ay->aI->Prop}
def OD (E:dC Tz.prog ok c aS)(I:InR ok)(O:ok.aP r0.fn=true)(x:Bq V now shift ao n cp f bo m D t)
  (R:∀y cd W',Bl V V W'->Fp (MPr now shift f n t name) (SP now shift f n t m) (aY now shift f n t m) V y cd W'->ae Tz.prog ok c aS Q ⟨r0.finish<|a6 #[y,ac .i64 cd],cs,W'⟩):
  ae Tz.prog ok c aS Q ⟨Frame.enter Tz.prog 45 #[aj #[ac .i64 now,ac .i64 shift,aa ao n cp,aa bo m D],name] .normal,r0::cs,V⟩:=
 OE E I.sr I.ch I.tr I.co O I.mr (λW B=>(x.bl B).ib) (mpr _ _ _ _ _ _) (λh W r cs U B hk=>SH E I.mr I.ro I.pl I.sb I.bt U (x.bl B) h hk) (Xi _ _ _ _ _ _) (λW B=>(sX now shift ao n cp f bo m D t W x.n6 x.m6 (x.bl B).sm (x.bl B).si λh=>⟨(x.two h).1,(x.two h).2.1⟩).mono λe w' ⟨⟨v,u,Y,Z,h3⟩,hb⟩=>⟨⟨_,Y,v,u,rfl,Z,h3⟩,hb⟩) R
def SJ (E:dC Tz.prog ok c aS)(I:InR ok)(Z:ok.aP r0.fn=true)(O:Bq V now shift ao n cp f bo m D t) (aE:∀y s l k cd W',Bl V V W'->Fp (MPt now shift f n t) (SP now shift f n t m) (aY now shift f n t m) V y cd W'->(cd=0/\NPt f n t now V s l k W'\/cd≠0/\s=none/\l=0/\k=0)->ae Tz.prog ok c aS Q ⟨r0.finish<|a6 #[y,aa s l k,ac .i64 cd],cs,W'⟩): ae Tz.prog ok c aS Q ⟨Frame.enter Tz.prog 47 #[aj #[ac .i64 now,ac .i64 shift,aa ao n cp,aa bo m D]] .normal,r0::cs,V⟩:=by refine SK E I.st I.ch I.tr I.co Z I.mt (λW U=>(O.bl U).ib) (mpt _ _ _ _ _) (λh W r cs hr U hk=>?_) (Xi _ _ _ _ _ _) (λW U=>(sX now shift ao n cp f bo m D t W O.n6 O.m6 (O.bl U).sm (O.bl U).si λh=>⟨(O.two h).1,(O.two h).2.1⟩).mono λe w' ⟨⟨v,u,h1,h2,h3⟩,hb⟩=>⟨⟨_,h1,v,u,rfl,h2,h3⟩,hb⟩) (λh hN e=>⟨h.1,cm (aA h.2 λB O=>e B (h.2.lt B O).1 (h.2.lt B O).2) hN⟩) (λh W U=>?_) aE;refine ae.calls E hr (R:=λv w'=>(∃y x,v=a6 #[y,x]/\MPt now shift f n t W y x w')/\Bl W W w') (λτ d=>(((O.bl U).bl (W:=re W τ d) ⟨agw _,λ_ _=>rfl⟩).acg h).mono ?_) ?_;rintro e w' ⟨⟨y,x,rfl,Y⟩,hb⟩;exact⟨_,rfl,⟨y,x,rfl,Y⟩,Bl.kP hb⟩;rintro _ w' ⟨⟨y,x,rfl,Y⟩,hb⟩;exact hk y x w' hb Y;obtain⟨-,BJ,-⟩:=bL h;subst BJ;apply(GP now shift now ao m cp f bo D t W O.n6 (O.bl U).sm (O.bl U).si λh=>(O.two h).1).mono;rintro e w' ⟨⟨s,rfl,ho⟩,hb⟩;obtain⟨a,k,rfl⟩:=mu ho;exact⟨⟨a,_,k,rfl,rfl,ho⟩,hb⟩
end
inductive Cs (f:Nat->Mv)(n:Nat)(t:Nat->Int)(m:Nat)(now shift:Int)(name:ByteArray):Int->Int->Nat->(Nat->Mv)->Nat->(Nat->Int)->Int->Prop
 |bad:aY now shift f n t m=false->Cs f n t m now shift name 0 0 0 f 0 t 1
 |no {k cd:Int}:aY now shift f n t m=true->eD f n name k->gH f n t now k=.inl cd->Cs f n t m now shift name now shift n f m t cd
 |yes {k:Int} {p:Nat} {T:Nat->Int}:aY now shift f n t m=true->eD f n name k->gH f n t now k=.inr (p,T)->Cs f n t m now shift name now shift (aw f t p n).length (jT<|aw f t p n) (aw f t p n).length T 0
def IP (w':aI)(e:Nat)(g:Option aL)(l q:Nat)(F:Nat->Mv)(x:Option aL)(o z:Nat)(T:Nat->Int):Prop:=(g=none/\x=none/\l=0/\q=0/\o=0/\z=0)\/∃b r,g=some ⟨b,0,none⟩/\x=some ⟨r,0,none⟩/\w'.ownsRow e 30 6 (aa (some ⟨b,0,none⟩) l q) l (bd F l)/\o<=z/\uc w' e r o T
def Ad.out {R X Bx U x Y}(h:Ad w now shift ao n c bo d R X Bx U x Y f t W)(e:∀k,k≠R->W'.heap[k]?=W.heap[k]?):IP W' w Bx n U f x n Y t:=by have Z:=h.hR;exact .inr ⟨Bx,x,rfl,rfl,cm (aA h.om λB O=>e B (by have:=(h.om.lt B O).1;omega)) ab,(fJ h.oi).2.2,uc.of<|cm (aA h.oi λB O=>e B (by have:=(h.oi.lt B O).1;omega)) ab⟩
def VM (now shift:Int)(ao:Option Addr)(n c:Nat)(f:Nat->Mv)(bo:Option Addr)(m d:Nat)(t:Nat->Int)(name:ByteArray)(w:World)(hB:Bq w now shift ao n c f bo m d t):
  Calls Tz.prog 36 #[.agg #[now,shift,.slice ao n c,.slice bo m d],name] w λe w'=>(∃a0 a1 s2 l c2 F s3 o c3 T cd,e=.returned (.tuple #[.agg #[.int .i64 a0,.int .i64 a1,.slice s2 l c2,.slice s3 o c3],.int .i64 cd])/\Cs f n t m now shift name a0 a1 l F o T cd/\IP w' w.heap.size s2 l c2 F s3 o c3 T)/\Below w w w':=by
 obtain⟨W0,pQ⟩:∃W,W=(w.alloc (.cells #[.int .i64 now,.int .i64 shift,.slice ao n c,.slice bo m d] 42)).alloc (.cells #[.int .i64 0,.int .i64 0,.slice none 0 0,.slice none 0 0] 42):=⟨_,rfl⟩;have b0:Below w w W0:=by rw[pQ];exact((agn _ w).alloc (agw _) _).alloc aN _
 have DX:aR W0 w.heap.size now shift (.slice ao n c) (.slice bo m d):=by rw[pQ];exact(ago _ _ _ aN).trans (heap_alloc_new _ _)
 have vf:aR W0 (w.heap.size+1) 0 0 () ():=by rw[pQ];exact d8 _ _ _
 have gE:W0.heap.size=w.heap.size+2:=by rw[pQ];simp
 have HB:=(hB.bl (Bl.of b0)).sk;have h6:=hB.n6;cases hb:aY now shift f n t m with
 |false=>
  rw[hb,pQ]at HB;go_enter Tz.func36,Tryz.ntmps36
  go_wp2_with(go_at_call 55;refine HB.mono ?_;clear HB;rintro e w1 ⟨rfl,b1⟩;rw[<-pQ]at b1;have r1:=vf.same (b1.block _ vf.lt);obtain⟨y0,y1,y2,y3,y4⟩:=r1.cells)
  obtain⟨W5,e5,k5,jd,tY,oB⟩:=aJ r1 (b0.trans (b1.mono b0.size)) ab 0 0 none 0 0 none 0 0;rw[e5];obtain⟨q0,q1,q2,q3,q4⟩:=k5.cells;refine bodyPost_ret (v:=.tuple #[.agg #[.int .i64 0,.int .i64 0,(),()],.int .i64 1]) ?_ rfl ⟨⟨0,0,none,0,0,_,none,0,0,_,1,rfl,.bad hb,.inl ⟨rfl,rfl,rfl,rfl,rfl,rfl⟩⟩,jd⟩;simp[results,Tryz.f36,go_sem,q0,q1,q2,q3]
 |true=>
  obtain⟨hm,BJ,jC⟩:=bL hb;obtain rfl:n=m:=BJ.symm;obtain⟨Ly,m8,-⟩:=gi hb;have qd:Hid _:=hb;rw[hb,pQ]at HB;have K2:=λW (hW:Below w w W)=>gO now shift ao n c f bo n d t W ab ab (hB.bl (Bl.of hW)).sm (hB.bl (Bl.of hW)).si
  have HA:=λW (hW:Below w w W)=>Ag now shift ao n c f bo n d name W h6 (hB.bl (Bl.of hW)).sm
  have hgo:∀(P:Prop),(∀kc:Int,kc=3->(∀k,io f n name k->k=-1)->Hid (gH f n t now (-1)=.inl kc)->(∀W,Below w.heap.size w W->True)->P)->(∀(kc:Int) (J b:Nat),kc=3->J<n->(∀k,io f n name k->k=J)->Hid (gH f n t now J=.inl kc)->ao=some ⟨b,0,none⟩->(∀W,Below w.heap.size w W->W.cell? ⟨b,J*6+1,none⟩=some (.bool false))->P)->(∀(J b r:Nat),J<n->(∀k,io f n name k->k=J)->Hid ((f J).ax=true)->ao=some ⟨b,0,none⟩->bo=some ⟨r,0,none⟩->(∀W,Below w.heap.size w W->W.cell? ⟨b,J*6+1,none⟩=some (.bool true))->(∀W,Below w.heap.size w W->W.cell? ⟨r,J,none⟩=some (.int .i64 (t J)))->(∀W,Below w.heap.size w W->Calls Tz.prog 63 #[.agg #[.int .i64 now,.int .i64 shift,.slice (some ⟨b,0,none⟩) n c,.slice (some ⟨r,0,none⟩) n d],.int .i64 J] W λe w'=>rj f n t J shift (dI f n t J) W e w'/\Below W.heap.size W w')->P)->P:=λP a1 a2 a3=>by
   rcases Lb f n name with⟨J,hJ,iq,UB⟩|iq
   .obtain⟨b,e1,bN,az⟩:=hB.sm.pos ab;obtain⟨r,e2,bz,aV⟩:=hB.si.pos ab;have HL:∀W,Below w w W->W.cell? ⟨b,J*6+1,none⟩=some (.bool (f J).ax):=λW hW=>by
     have:=(az.below hW bN J hJ).c1;rw[Nat.zero_add]at this;exact this
    cases hl:(f J).ax with
    |false=>rw[hl]at HL;exact a2 3 J b rfl hJ (λk hk=>hk.yes hJ iq UB) (by show gH f n t now J=_;simp[gH,hl]) e1 HL
    |true=>
     rw[hl]at HL;refine a3 J b r hJ (λk hk=>hk.yes hJ iq UB) hl e1 e2 HL (λW hW=>?_) (λW hW=>uJ b n c r d J f t now shift W hm jC hJ (agx bN hW.size) (az.below hW bN) (agx bz hW.size) (aV.below hW bz));have:=aV.below hW bz J hJ;rw[Nat.zero_add]at this;exact this
   .exact a1 3 rfl (λk hk=>hk.no iq) (by show gH f n t now (-1)=_;simp[gH]) (λ_ _=>trivial)
  clear hb;refine hgo _ (λkc hc AT A' HL=>?_) (λkc J b hc hJ AT A' e1 HL=>?_) (λJ b r hJ AT hl e1 e2 HL HT HR=>?_);all_goals clear hgo
  rotate_left;focus
   subst e1
  rotate_left;focus
   subst e1 e2
  all_goals
   go_enter Tz.func36,Tryz.ntmps36
   go_wp2_with(first
    |(go_at_call 55;refine HB.mono ?_;clear HB;rintro e w1 ⟨rfl,b1⟩;rw[<-pQ]at b1;have B1:=b0.trans (b1.mono b0.size);have bk:=DX.same (b1.block _ DX.lt);have rs:=vf.same (b1.block _ vf.lt);obtain⟨y0,y1,y2,y3,y4⟩:=bk.cells)
    |(go_at_call 56;refine(K2 _ B1).mono ?_;clear K2;rintro e w2 ⟨⟨Bx,cx,Bi,ci,rfl,oM,oI⟩,b2⟩;have z2:=b2.size;have z1:=b1.size;have bk:=bk.same (b2.block _ ab);have rs:=rs.same (b2.block _ ab);obtain⟨W3,e3,k3,b3,z3⟩:=boxed w2 now shift (some ⟨Bx,0,none⟩) n cx (some ⟨Bi,0,none⟩) n ci;have hA:Ad w now shift _ n c _ d (w.heap.size+1) w2.heap.size Bx cx Bi ci f t W3:=⟨(B1.trans (b2.mono B1.size)).trans (b3.mono ab),bk.same (b3.block _ ab),rs.same (b3.block _ ab),ab,k3,ab,cm (aA oM (λB hB=>b3.block B (oM.lt B hB).2)) ab,cm (aA oI (λB hB=>b3.block B (oI.lt B hB).2)) ab⟩;obtain⟨y0,y1,y2,y3,y4⟩:=hA.bk.cells;clear oM oI bk rs)
    |(go_at_call 58;refine(HA _ hA.below).mono ?_;clear HA;rintro e w5 ⟨⟨kk,rfl,Nh⟩,b5⟩;have z5:=b5.size;have hA:=hA.grow b5;obtain⟨y0,y1,y2,y3,y4⟩:=hA.bk.cells;obtain⟨x0,x1,x2,x3,x4⟩:=hA.x.cells;obtain⟨r0,r1,r2,r3,r4⟩:=hA.rs.cells;obtain rfl:=AT kk Nh;have c1:=HL _ hA.below))
   all_goals try(exfalso;omega)
   all_goals first
    |(obtain⟨W5,e5,k5,jd,tY,oB⟩:=aJ hA.rs hA.below ab now shift (some ⟨Bx,0,none⟩) n cx (some ⟨Bi,0,none⟩) n ci;rw[e5];obtain⟨q0,q1,q2,q3,q4⟩:=k5.cells;exact bodyPost_ret (v:=.tuple #[.agg #[.int .i64 now,.int .i64 shift,.slice (some ⟨Bx,0,none⟩) n cx,.slice (some ⟨Bi,0,none⟩) n ci],.int .i64 kc]) (by simp[results,Tryz.f36,go_sem,q0,q1,q2,q3,hc]) rfl ⟨⟨now,shift,_,n,cx,f,_,n,ci,t,kc,rfl,.no qd.out Nh A'.out,hA.out oB⟩,jd⟩)
    |skip
  have hJ':(J:Int)<n:=ab;have tJ:=HT _ hA.below;have hne:=aK w5;have u0:=λx:am w5=>x.cell y0
  have u3:=λx:am w5=>x.cell y3
  have u5:=λx:am w5=>x.cell tJ
  refine nh ?_;intro w6 b6;clear hne u0 u3 u5 tJ y0 y1 y2 y3 y4 x0 x1 x2 x3 x4 r0 r1 r2 r3 r4 c1;have hA:=hA.grow b6;obtain⟨y0,y1,y2,y3,y4⟩:=hA.bk.cells;obtain⟨x0,x1,x2,x3,x4⟩:=hA.x.cells;obtain⟨r0,r1,r2,r3,r4⟩:=hA.rs.cells;have z6:=b6.size;have HR:=HR _ hA.below;by_cases ht:t J=now;focus
   have hq:(t J !=now)=false:=by simp[ht]
   have htE:Hid _:=ht;clear ht;rcases hR:dI f n t J with _|T;focus
    rw[hR]at HR;have HN:=HR;clear HR;obtain⟨kc,hc⟩:∃kc:Int,kc=5:=⟨_,rfl⟩;have A':Hid (gH f n t now J=.inl kc):=by show gH f n t now J=_;simp[gH,hl.out,htE.out,hR,hc]
    clear hR
   rotate_left;focus
    have hle:t J+6<=(f J).late:=by
     by_cases h:t J+6<=(f J).late
     .exact h
     .rw[AH h]at hR;cases hR
    have hlen:=jc f t J n;have A':Hid (gH f n t now J=.inr (J,T)):=by show gH f n t now J=_;simp[gH,hl.out,htE.out,hR]
    rw[hR]at HR;have HS:=HR;clear HR;have WV:=λB c r c' W (h2:B<W.heap.size) (h3:aM W B 0 (aw f t J n).length (jT (aw f t J n))) (h4:r<W.heap.size) (h5:aD W r 0 (aw f t J n).length T)=>gO (t J) shift (some ⟨B,0,none⟩) (aw f t J n).length c (jT (aw f t J n)) (some ⟨r,0,none⟩) (aw f t J n).length c' T W ab ab ⟨(λh=>nomatch h),λad had=>by cases had;exact⟨B,rfl,h2,h3⟩⟩ ⟨(λh=>nomatch h),λad had=>by cases had;exact⟨r,rfl,h4,h5⟩⟩
  rotate_right;focus
   have hq:(t J !=now)=true:=by simp[ht]
   obtain⟨kc,hc⟩:∃kc:Int,kc=6:=⟨_,rfl⟩;have A':Hid (gH f n t now J=.inl kc):=by show gH f n t now J=_;simp[gH,hl.out,ht,hc]
  all_goals
   go_wp2_with(first
    |(go_at_call 63;refine HN.mono ?_;clear HN;rintro e w7 ⟨rfl,b7⟩;obtain⟨W8,e8,k8,b8,z8⟩:=boxed w7 0 0 none 0 0 none 0 0;have e8h:Hid (w7.alloc (.cells #[.int .i64 0,.int .i64 0,.slice none 0 0,.slice none 0 0] 42)=W8):=e8;clear e8;have hA7:=hA.grow b7;have Uw:=λo=>hA7.grow ((agn _ w7).alloc (agw _) o);have x0:=λo=>(Uw o).x.cells.1;have x1:=λo=>(Uw o).x.cells.2.1;have x2:=λo=>(Uw o).x.cells.2.2.1;have x3:=λo=>(Uw o).x.cells.2.2.2.1;have r0:=λo=>(Uw o).rs.cells.1;have r1:=λo=>(Uw o).rs.cells.2.1;have r2:=λo=>(Uw o).rs.cells.2.2.1;have r3:=λo=>(Uw o).rs.cells.2.2.2.1;have r4:=λo=>(Uw o).rs.cells.2.2.2.2;have hA:=hA7.grow b8)
    |(go_at_call 63;refine HS.mono ?_;clear HS;rintro e w7 ⟨⟨BN,cN,BT,cT,rfl,SY,rN,oT⟩,b7⟩;obtain⟨W8,e8,k8,b8,z8⟩:=boxed w7 (t J) shift (some ⟨BN,0,none⟩) (aw f t J n).length cN (some ⟨BT,0,none⟩) (aw f t J n).length cT;have hA:=(hA.grow b7).grow b8;have rN:=rN.below b8 SY;have oT:=ia oT (b8.block _ oT.lt);have pp:=k8.cells)
    |(go_at_call 56;refine(WV BN cN BT cT W8 ab rN oT.lt oT.2).mono ?_;clear WV;rintro e w9 ⟨⟨Bg,cq,Bv,cv,rfl,oQ,oV⟩,b9⟩;have z9:=hA.x.lt;have hA:=hA.grow b9;obtain⟨r0,r1,r2,r3,r4⟩:=hA.rs.cells))
   all_goals try(exfalso;omega)
   all_goals first
    |(obtain⟨W5,e5,k5,jd,tY,oB⟩:=aJ hA.rs hA.below ab (t J) shift (some ⟨Bg,0,none⟩) (aw f t J n).length cq (some ⟨Bv,0,none⟩) (aw f t J n).length cv;rw[e5];obtain⟨q0,q1,q2,q3,q4⟩:=k5.cells;have hhR:=hA.hX;exact bodyPost_ret (v:=.tuple #[.agg #[.int .i64 (t J),.int .i64 shift,.slice (some ⟨Bg,0,none⟩) (aw f t J n).length cq,.slice (some ⟨Bv,0,none⟩) (aw f t J n).length cv],.int .i64 0]) (by simp[results,Tryz.f36,go_sem,q0,q1,q2,q3]) rfl ⟨⟨t J,shift,_,_,cq,_,_,_,cv,T,0,rfl,by rw[htE.out];exact .yes qd.out Nh A'.out,.inr ⟨Bg,Bv,rfl,rfl,cm (aA oQ (λB hB=>oB B (by have:=(oQ.lt B hB).1;omega))) ab,(fJ oV).2.2,uc.of (cm (aA oV (λB hB=>oB B (by have:=(oV.lt B hB).1;omega))) ab)⟩⟩,jd⟩)
    |(try rw[e8h.out]
      obtain⟨W5,e5,k5,jd,tY,oB⟩:=aJ hA.rs hA.below ab now shift (some ⟨Bx,0,none⟩) n cx (some ⟨Bi,0,none⟩) n ci;rw[e5];obtain⟨q0,q1,q2,q3,q4⟩:=k5.cells;exact bodyPost_ret (v:=.tuple #[.agg #[.int .i64 now,.int .i64 shift,.slice (some ⟨Bx,0,none⟩) n cx,.slice (some ⟨Bi,0,none⟩) n ci],.int .i64 kc]) (by simp[results,Tryz.f36,go_sem,q0,q1,q2,q3,hc]) rfl ⟨⟨now,shift,_,n,cx,f,_,n,ci,t,kc,rfl,.no qd.out Nh A'.out,hA.out oB⟩,jd⟩)
    |(trace_state;skip)
def kC (f:Nat->Mv)(t:Nat->Int)(now:Int)(k:Nat)(L:List Mv)(I:List Int)(A:Nat)(xs:List ay):Prop:=L=(stay now t k).map (λi=>bT (f i) (t i)<|now+1)/\I=(stay now t k).map t/\A=(gone now t k).length/\xs=nX f (gone now t k)
def kC.gone {I}(h:kC f t now k L I A xs)(e:t k=now):kC f t now (k+1) L I (A+1) (xs++[.string (f k).name]):=by obtain⟨rfl,rfl,rfl,rfl⟩:=h;simp[kC,Proofs.YthppgbjejomdiaaGreatDoor.stay,Proofs.YthppgbjejomdiaaGreatDoor.gone,e,nX]
def kC.stay {I}(h:kC f t now k L I A xs)(e:¬t k=now){m}(x:m=bT (f k) (t k) (now+1)):kC f t now (k+1) (L++[m]) (I++[t k]) A xs:=by obtain⟨rfl,rfl,rfl,rfl⟩:=h;simp[kC,Proofs.YthppgbjejomdiaaGreatDoor.stay,Proofs.YthppgbjejomdiaaGreatDoor.gone,e,x]
inductive yS (f:Nat->Mv)(n:Nat)(t:Nat->Int)(m:Nat)(now shift:Int):Int->Int->Nat->(Nat->Mv)->Nat->(Nat->Int)->List Nat->Int->Prop
 |bad:aY now shift f n t m=false->yS f n t m now shift 0 0 0 f 0 t [] 1
 |last:aY now shift f n t m=true->now=10000->yS f n t m now shift now shift n f m t [] 2
 |yes:aY now shift f n t m=true->now≠10000->yS f n t m now shift (now+1) shift (stay now t n).length (jT<|(stay now t n).map λi=>bT (f i) (t i)<|now+1) (stay now t n).length (λj=>((stay now t n).map t).getD j 0) (gone now t n) 0
def Du {a b}(e:a<=b)(h:W.heap[b]?=some (.cells #[] 9 (0,0))):W.ownsRow a 9 1 (aa b 0 0) 0 []:=⟨rfl,.inr ⟨b,0,#[],rfl,e,h,agw _,agB _,rfl,rfl⟩⟩
def Ps (w:aI)(x:Int):∃W,w.alloc (.cells #[x] 3)=W/\W.heap[(w:Nat)]?=some (.cells #[x] 3 (0,0))/\Below w w W/\(W:Nat)=(w:Nat)+1:=
 ⟨_,rfl,bp w _,(agn _ w).alloc (agw _) _,aN⟩
def Pt (w:aI)(x:ByteArray):∃W,w.alloc (.cells #[x] 9)=W/\W.heap[(w:Nat)]?=some (.cells #[x] 9 (0,0))/\Below w w W/\(W:Nat)=(w:Nat)+1:=
 ⟨_,rfl,bp w _,(agn _ w).alloc (agw _) _,aN⟩
def row_one {base T e}(h:w.ownsRow base T e v (n+1) xs):∃B c,v=aa (some ⟨B,0,none⟩) (n+1) c:=by obtain⟨O,q|⟨g,x,z,q,R,U⟩⟩:=h;omega;grind
structure St2 (N:Nat)(sl:ay)(r k:Nat)(x:Int)(W:aI):Prop where
 c3:W.cell? ⟨N,3,none⟩=some sl
 tk:W.cell? ⟨r,k,none⟩=some (ac .i64 x)
section
variable {C:Nat}{u:ay}{I:List Int}{s:ay}{r:Nat}
def Tc.st (h:Tc w now shift ao n c r d C v u L I s A xs W)(e:r<w)(q:aD w r 0 n t)(hk:k<n):St2 w (aa r n d) r k (t k) W:=
 ⟨h.bk.cells.2.2.2.1,by have:=q.below h.below e k hk;rw[a7]at this;exact this⟩
def Ys (hb:Below w w W)(h:Tc w now shift ao n c r d C v u L I s A xs W)(g:W.grownBy W' u.ownBlock)(x:r<w)(z:aD w r 0 n t)(hk:k<n):St2 w (aa r n d) r k (t k) W':=by have O:=h.hN;exact⟨(h.bk.same<|g.block _ h.bk.lt (λe=>by have:=(h.oi.lt _ e.symm).1;omega)).cells.2.2.2.1,by have:=z.below (hb.grown g hb.size (λq B=>by have:=(h.oi.lt q B).1;omega)) x k hk;rw[a7]at this;exact this⟩
end
def aax (now shift:Int)(ao:Option aL)(n c:Nat)(f:Nat->Mv)(bo:Option aL)(m d:Nat)(t:Nat->Int)(w:aI)(hB:Bq w now shift ao n c f bo m d t):
  be Tz.prog 64 #[aj #[now,shift,aa ao n c,aa bo m d]] w λe w'=>(∃a0 a1 s2 l c2 F s3 o c3 T sa A sc J cd,e=.returned (a6 #[aj #[ac .i64 a0,ac .i64 a1,aa s2 l c2,aa s3 o c3],aa sa A sc,ac .i64 cd])/\yS f n t m now shift a0 a1 l F o T J cd/\IP w' w s2 l c2 F s3 o c3 T/\A=J.length/\w'.ownsRow w 9 1 (aa sa A sc) A (nX f J))/\Below w w w':=by
 obtain⟨W0,pQ⟩:∃W,W=((w.alloc<|.cells #[ac .i64 now,ac .i64 shift,aa ao n c,aa bo m d] 42).alloc<|.cells #[(0:Int),(0:Int),aa none 0 0,aa none 0 0] 42).alloc (.cells #[] 9):=⟨_,rfl⟩;have b0:Below w w W0:=by rw[pQ];exact(((agn _ w).alloc ab _).alloc aN _).alloc cY _
 have DX:aR W0 w now shift (aa ao n c) (aa bo m d):=by rw[pQ];exact(ago _ _ _ cY).trans<|(ago _ _ _ aN).trans<|heap_alloc_new _ _
 have vf:aR W0 ((w:Nat)+1) 0 0 () ():=by rw[pQ];exact(ago _ _ _ aN).trans<|d8 _ _ _
 have bv:W0.heap[(w:Nat)+2]?=some (.cells #[] 9 (0,0)):=by
  rw[pQ];have:=d8 (w.alloc<|.cells #[now,shift,aa ao n c,aa bo m d] 42) (.cells #[(0:Int),(0:Int),(),()] 42)<|.cells #[] 9;exact Sr
 have gE:(W0:Nat)=(w:Nat)+3:=by rw[pQ];simp
 have HB:=(hB.bl<|Bl.of b0).sk;have h6:=hB.n6;cases hb:aY now shift f n t m with
 |false=>
  rw[hb,pQ]at HB;go_enter Tz.func64,Tryz.ntmps64
  go_wp2_with(go_at_call 55;refine HB.mono ?_;clear HB;rintro e w1 ⟨rfl,Y⟩;rw[<-pQ]at Y;have r1:=vf.same<|Y.block _ vf.lt;let⟨y0,y1,y2,y3,y4⟩:=r1.cells)
  let⟨W5,e5,k5,jd,tY,oB⟩:=aJ r1 (b0.trans<|Y.mono b0.size) ab 0 0 none 0 0 none 0 0;rw[e5];let⟨q0,q1,q2,q3,q4⟩:=k5.cells;refine a8 ?_ rfl ⟨⟨0,0,none,0,0,_,none,0,0,_,_,0,0,[],1,rfl,.bad hb,.inl ⟨rfl,rfl,rfl,rfl,rfl,rfl⟩,rfl,Du ab<|(oB _ ab).trans<|(Y.block _ ab).trans bv⟩,jd⟩;simp[a9,Tryz.f64,go_sem,q0,q1,q2,q3]
 |true=>
  let⟨hm,BJ,jC⟩:=bL hb;obtain rfl:n=m:=BJ.symm;obtain⟨Ly,m8,-⟩:=gi hb;have qd:Hid _:=hb;rw[hb,pQ]at HB;clear hb;have K2:=λW (hW:Below w w W)=>gO now shift ao n c f bo n d t W ab ab (hB.bl<|Bl.of hW).sm (hB.bl<|Bl.of hW).si
  let⟨iM,hI,bS,eI,f8⟩:=fh;let⟨i0,Ln,Nm,IE,JH⟩:=uH;let⟨iS,bV,Th,uC,yq⟩:=Gp;by_cases uy:now=10000
  .have j_:10000<=now:=by omega
   have bW:Hid (now=10000):=uy;clear uy;go_enter Tz.func64,Tryz.ntmps64
   go_wp2_with(first
    |(go_at_call 55;refine HB.mono ?_;clear HB;rintro e w1 ⟨rfl,Y⟩;rw[<-pQ]at Y;have B1:=b0.trans<|Y.mono b0.size;have bk:=DX.same<|Y.block _ DX.lt;have rs:=vf.same<|Y.block _ vf.lt;have dn:=(Y.block _ ab).trans bv;let⟨y0,y1,y2,y3,y4⟩:=bk.cells)
    |(go_at_call 56;refine(K2 _ B1).mono ?_;clear K2;rintro e w2 ⟨⟨Bx,cx,Bi,ci,rfl,oM,oI⟩,b2⟩;have z2:=b2.size;have z1:=Y.size;have bk:=bk.same<|b2.block _ ab;have rs:=rs.same<|b2.block _ ab;let⟨W3,e3,k3,Z,z3⟩:=boxed w2 now shift (some ⟨Bx,0,none⟩) n cx (some ⟨Bi,0,none⟩) n ci;have dn:=(Z.block _ ab).trans<|(b2.block _ ab).trans dn;have hA:Ad w now shift ao n c bo d ((w:Nat)+1) w2 Bx cx Bi ci f t W3:=⟨(B1.trans<|b2.mono B1.size).trans<|Z.mono ab,bk.same<|Z.block _ ab,rs.same<|Z.block _ ab,ab,k3,ab,cm (aA oM λB hB=>Z.block B (oM.lt B hB).2) ab,cm (aA oI λB hB=>Z.block B (oI.lt B hB).2) ab⟩;let⟨y0,y1,y2,y3,y4⟩:=hA.bk.cells;let⟨x0,x1,x2,x3,x4⟩:=hA.x.cells;let⟨r0,r1,r2,r3,r4⟩:=hA.rs.cells;clear oM oI bk rs))
   all_goals try omega
   let⟨W5,e5,k5,jd,tY,oB⟩:=aJ hA.rs hA.below ab now shift (some ⟨Bx,0,none⟩) n cx (some ⟨Bi,0,none⟩) n ci;rw[e5];let⟨q0,q1,q2,q3,q4⟩:=k5.cells;have cc:=hA.hR;exact a8 (by simp[a9,Tryz.f64,go_sem,q0,q1,q2,q3]) rfl ⟨⟨_,_,_,_,_,_,_,_,_,_,_,0,0,[],2,rfl,.last qd.out bW.out,hA.out oB,rfl,Du ab<|(oB _ ab).trans dn⟩,jd⟩
  have j_:¬10000<=now:=by omega
  have CY:IntKind.i64.wrap (now+1)=now+1:=jh;have ce:IntKind.i64.wrap (now+1+4)=now+1+4:=jh;go_enter Tz.func64,Tryz.ntmps64
  go_wp2_with(first
   |(go_at_call 55;refine HB.mono ?_;clear HB;rintro e w1 ⟨rfl,Y⟩;rw[<-pQ]at Y;have B1:=b0.trans<|Y.mono b0.size;have bk:=DX.same<|Y.block _ DX.lt;have rs:=vf.same<|Y.block _ vf.lt;have dn:=(Y.block _ ab).trans bv;let⟨y0,y1,y2,y3,y4⟩:=bk.cells)
   |(go_at_call 56;refine(K2 _ B1).mono ?_;clear K2;rintro e w2 ⟨⟨Bx,cx,Bi,ci,rfl,oM,oI⟩,b2⟩;have z2:=b2.size;have z1:=Y.size;let⟨W3,e3,k3,Z,z3⟩:=boxed w2 now shift (some ⟨Bx,0,none⟩) n cx (some ⟨Bi,0,none⟩) n ci;have bk:=(bk.same<|b2.block _ ab).same<|Z.block _ ab;have rs:=(rs.same<|b2.block _ ab).same<|Z.block _ ab;have dn:=(Z.block _ ab).trans<|(b2.block _ ab).trans dn;have B3:=(B1.trans<|b2.mono B1.size).trans<|Z.mono ab;let⟨y0,y1,y2,y3,y4⟩:=bk.cells;let⟨W4,e4,k4,b4,z4⟩:=boxed W3 (now+1) shift none 0 0 none 0 0;have bB:Hid ((W3:Nat)=(w2:Nat)+1):=z3;clear z3;have bE:Hid ((W4:Nat)=(W3:Nat)+1):=z4;clear z4;have bF:Hid (W3.alloc (.cells #[ac .i64<|now+1,ac .i64 shift,aa none 0 0,aa none 0 0] 42)=W4):=e4;clear e4))
  rw[bF.out];have z3:=bB.out;have z4:=bE.out;obtain⟨C,bH⟩:∃C,C=(W3:Nat):=⟨_,rfl⟩;rw[<-bH]at k4⊢;have bJ:Tc w now shift ao n c bo d C () () [] [] (aa (some ⟨(w:Nat)+1+1,0,none⟩) 0 0) 0 [] W4:=⟨B3.trans<|b4.mono ab,bk.same<|b4.block _ ab,rs.same<|b4.block _ ab,k4,ab,⟨rfl,.inl ⟨rfl,rfl⟩⟩,⟨rfl,.inl ⟨rfl,rfl⟩⟩,⟨rfl,.inr ⟨(w:Nat)+2,0,#[],rfl,agw _,(b4.block _ ab).trans dn,agw _,agB _,rfl,rfl⟩⟩⟩;clear bk rs dn b4 k4 B3 oM oI k3 Z b2 Y bH z3 z4 bB bE e3 bF;go_loopw [5,8] (λs x W=>∃(k:Nat) (v u:ay) (L:List Mv) (I:List Int) (A:Nat) (xs:List ay),x=ac .i64 k/\k<=n/\L.length=I.length/\L.length<=k/\A<=k/\Hid (kC f t now k L I A xs)/\Tc w now shift ao n c bo d C v u L I s A xs W) (λ_ x _=>n-(intOf x).toNat)
  case atStart=>exact⟨0,_,_,[],[],0,[],rfl,agB _,rfl,agw _,agw _,(by show kC _ _ _ _ _ _ _ _;exact⟨rfl,rfl,rfl,rfl⟩),bJ⟩
  clear bJ;obtain⟨k,v,u,L,I,A,xs,rfl,hk,U,cf,ch,eK,R⟩:=hrel;have bx:Hid (L.length=I.length):=U;have cj:I.length<=k:=ab;clear U;let⟨y0,y1,y2,y3,y4⟩:=R.bk.cells;let⟨p0,p1,p2,p3,p4⟩:=R.nx.cells;by_cases aG:k<n
  .have dQ:(k:Int)<n:=by omega
   obtain⟨b,rfl,bN,az⟩:=hB.sm.pos ab;obtain⟨r,rfl,bz,aV⟩:=hB.si.pos ab;let⟨c0,c1,c2,c3,c4,c5⟩:=az.below R.below bN k aG;simp only[a7]at c0 c1 c2 c3 c4 c5;let⟨Wm,em,hM,bm,zm⟩:=I2 wr<|f k;have lb:=agx bN R.below.size;have aE:=R.grow bm;have bq:=aK Wm;have sm:=aE.st bz aV aG;have x0:=λx:am Wm=>x.cell aE.bk.cells.1
   have x3:=λx:am Wm=>x.cell sm.c3
   have y6:=λx:am Wm=>x.cell sm.tk
   by_cases vC:t k=now
   .have d0:(t k==now)=true:=by simpa using vC
    have eK:Hid _:=eK.out.gone vC;clear vC;go_wp2;refine nh ?_;intro w3 kO;have UK:=aE.grow kO;have UE:=hM.keep<|kO.block _ ab;have m0:=(fW UE).c0;clear x0 x3 y6 bq sm;let⟨Wo,eo,ko,bX,zo⟩:=Pt w3 (f k).name;have CQ:=UK.grow bX;go_wp2_with(at_builtin;refine bn _ rfl (.tmp 49) (.tmp 52) 33 rfl ((w:Nat)+2) 9 iS _ 1 16 tq bV Th uC yq rfl bc _ A xs bQ CQ.os w3 1 1 [.string (f k).name] bQ rfl (fC ko) sU iR ab (by have:=CQ.rs.lt;have:=CQ.nx.lt;have:=CQ.hN;omega) ?_;intro s5 w5 xZ CV _)
    have ax:=CQ.names xZ CV;go_roundw
    case rel=>exact⟨k+1,v,u,L,I,A+1,_,by go_num,ab,bx.out,ab,ab,eK,ax⟩
    exact cD
   have d0:(t k==now)=false:=by simpa using vC
   have b5:Hid _:=vC;clear vC;go_wp2;refine nh ?_;intro w3 kO;have UK:=aE.grow kO;have UE:=hM.keep<|kO.block _ ab;have ck:=kO.size;clear x0 x3 y6 bq sm d0;have s3:=UK.st bz aV aG;have bq:=aK w3;have x3:=λx:am w3=>x.cell s3.c3
   have y6:=λx:am w3=>x.cell s3.tk
   have x0:=λx:am w3=>x.cell UK.nx.cells.1
   go_wp2;by_cases pZ:t k<now+1+4;focus
    refine nh ?_;intro w4 IA;have br:=UK.grow IA;have S4:=UE.keep<|IA.block _ ab;let⟨a0,a1,a2,a3,a4,a5⟩:=fW S4;have uf:=S4.frozen 5;let⟨y0,y1,y2,y3,y4⟩:=br.bk.cells;have t4:=(br.st bz aV aG).tk;have cl:r<w4:=agx bz br.below.size;obtain⟨Wq,eq,bs,ax⟩:∃Wq,w4.setCell ⟨wr,5,none⟩ (ac .i64<|t k)=Wq/\dU Wq wr {f k with prom:=t k}/\Tc w now shift (some ⟨b,0,none⟩) n c (some ⟨r,0,none⟩) d C v u L I _ A xs Wq:=by
     refine⟨_,rfl,?_,R.grow ?_⟩
     .have:=heap_setCell_same w4 wr 5 _ _ (ac .i64<|t k) S4;simpa[dU]using this
     exact((bm.trans<|kO.mono ab).trans<|IA.mono ab).setCell (agw _) _
    obtain⟨m',qy⟩:∃m',m'=({f k with prom:=t k}:Mv):=⟨_,rfl⟩;have U1:Hid (m'=bT (f k) (t k) (now+1)):=by show m'=_;rw[qy];unfold bT;rw[if_pos pZ]
    rw[<-qy]at bs;clear qy S4 br
   rotate_left;focus
    refine nh ?_;intro Wq IA;have ax:=UK.grow IA;have bs:=UE.keep<|IA.block _ ab;obtain⟨m',qy⟩:∃m',m'=f k:=⟨_,rfl⟩;have U1:Hid (m'=bT (f k) (t k) (now+1)):=by show m'=_;rw[qy];unfold bT;rw[if_neg pZ]
    rw[<-qy]at bs;clear qy
   all_goals
    clear x0 x3 y6 bq s3 UE UK R aE hM;let⟨g0,g1,g2,g3,g4,g5⟩:=fW bs;let⟨p0,p1,p2,p3,p4⟩:=ax.nx.cells;let⟨Wo,eo,ko,b6,zo⟩:=I2 Wq m';have CQ:=ax.grow b6;go_wp2_with(at_builtin;refine bn _ rfl (.tmp 70) (.tmp 72) 39 rfl (C+1) 30 iM _ 6 56 aT hI bS eI f8 rfl bc v L.length (bd (jT L) L.length) bQ CQ.om Wq 1 1 m'.cells.toList bQ rfl (we ko) (gF m') iR ab (by have:=CQ.nx.lt;omega) ?_;intro v6 w6 x_ bK _;let⟨n6,R⟩:=CQ.moves x_ bK;obtain⟨B6,c6,rfl⟩:=lJ x_;let⟨q0,q1,q2,q3,q4⟩:=n6.cells;obtain⟨W7,e7⟩:∃W,w6.setCell ⟨C,2,none⟩ (aa B6 (L.length+1) c6)=W:=⟨_,rfl⟩;rw[e7]at R)
    clear q0 q1 q2 q3 q4 n6 x_ bK CQ ax p0 p1 p2 p3 p4 g0 g1 g2 g3 g4 g5;have R:=R.grow (agn _ _).drew;refine wp_region_held_drew (S:=St2 w (aa r n d) r k<|t k) aO (R.st bz aV aG) λO=>?_;revert O R;generalize W7.drew=W8;intro R O;let⟨p0,p1,p2,p3,p4⟩:=R.nx.cells;refine ai 0 (bj<|some ⟨C,3,none⟩) 75 rfl sv2 O<|ai 2 (bj<|some ⟨w,3,none⟩) 77 rfl sv2 O<|ai 3 (aa r n d) 78 rfl sv2 O<|ai 4 (ac .i64 (k:Int)) 79 rfl sv2 O<|ai 5 (bj<|some ⟨r,k,none⟩) 80 rfl sv2 O<|ai 6 (ac .i64<|t k) 81 rfl sv2 O ?_;simp only[Act.put,List.setIfInBounds_toArray,List.set_cons_zero,List.set_cons_succ];refine L9 1 7 rfl rfl (λK hK=>?_) λK hK=>?_;focus
     go_simp
     refine hK.out _ _ (R.st bz aV aG) λO=>fH 7 rfl λK hK=>?_;go_simp
     let⟨Wi,ei,ki,bi,zi⟩:=Ps W8<|t k;rw[ei];have R:=R.grow bi;let⟨p0,p1,p2,p3,p4⟩:=R.nx.cells;refine hK.out _ _ (R.st bz aV aG) λO=>?_;clear hK K
    rotate_left;focus
     go_simp
     let⟨Wi,ei,ki,bi,zi⟩:=Ps W8<|t k;rw[ei];have R:=R.grow bi;let⟨p0,p1,p2,p3,p4⟩:=R.nx.cells;refine hK.out _ _ (R.st bz aV aG) λO=>?_;clear hK K;refine fH 1 rfl λK hK=>?_;go_simp
     refine hK.out _ _ (R.st bz aV aG) λO=>?_;clear hK K
    all_goals
     refine fH 8 rfl λK hK=>dM rfl (.tmp 76) (.tmp 82) 40 rfl 3 i0 (ac .i64 0) 1 8 iL Ln Nm IE JH rfl bc (C+1) u I.length (ints I) bQ R.oi W8 1 1 [ac .i64 (t k)] bQ rfl (fC ki) sU iR ab (by have:=R.nx.lt;omega) ?_;intro u9 w9 bM bA;let⟨n9,bt⟩:=R.So bM bA;obtain⟨B9,c9,rfl⟩:=row_one bM;let⟨p0,p1,p2,p3,p4⟩:=n9.cells;refine hK.out _ _ (Ys R.below R bA bz aV aG) λO=>?_;clear hK K;refine fH 9 rfl λK hK=>?_;go_simp
     refine hK.out _ _ (Ys R.below R bA bz aV aG) λO=>?_;clear hK K;refine fH 10 rfl λK hK=>?_;go_simp
     refine hK.out _ _ (bt.st bz aV aG) λO=>?_;clear hK K;refine wpAnyH_done aO ?_ _;revert bt;generalize w9.setCell ⟨C,3,none⟩ (aa (some ⟨B9,0,none⟩) (I.length+1) c9)=WZ;intro bt;go_wp2;go_roundw
     case rel=>exact⟨k+1,_,_,L++[m'],I++[t k],A,xs,by go_num,ab,by have:=bx.out;simp;omega,cY,ab,eK.out.stay b5.out U1.out,bt⟩
     case measure=>exact cD
  have dQ:¬(k:Int)<n:=by omega
  have U:=bx.out;obtain⟨av,cv,rfl,Tj,b7⟩:=AM R.om;obtain⟨au,cu,rfl,b8,b9⟩:=AM R.oi;have ca:pX wr au L.length cu (λj=>I.getD j 0):=by
   rw[U];refine⟨b8,λad aZ=>?_⟩;let⟨bb,e,hl⟩:=b9 ad aZ;subst aZ e;refine⟨bb,rfl,hl,λi hi=>?_⟩;rw[a7,R.oi.cellAt i ab];simp[ints,hi]
  have cb:ql wr av L.length cv (jT L):=by
   refine⟨Tj,λad aZ=>?_⟩;let⟨bb,e,hl⟩:=b7 ad aZ;subst aZ e;exact⟨bb,rfl,hl,eu R.om⟩
  have HC:=gO (now+1) shift av L.length cv (jT L) au L.length cu (λj=>I.getD j 0) wr ab ab cb ca;rw[<-U]at p3;clear U;obtain⟨sa,sc,rfl,_⟩:=AM R.os;have Ga:=R.rs;have XT:=R.os;have bO:=R.below;have cn:=R.hN;have Qr:=R.nx.lt;go_wp2_with(go_at_call 56;refine HC.mono ?_;clear HC;rintro e w3 ⟨⟨Bg,cq,Bv,bR,rfl,oQ,oV⟩,Z⟩;have Ga:=Ga.same<|Z.block _ Ga.lt;let⟨r0,r1,r2,r3,r4⟩:=Ga.cells)
  all_goals try omega
  let⟨W5,e5,k5,jd,tY,oB⟩:=aJ Ga (bO.trans<|Z.mono bO.size) ab (now+1) shift (some ⟨Bg,0,none⟩) L.length cq (some ⟨Bv,0,none⟩) L.length bR;rw[e5];let⟨q0,q1,q2,q3,q4⟩:=k5.cells;refine a8 (by simp[a9,Tryz.f64,go_sem,q0,q1,q2,q3]) rfl ⟨⟨now+1,shift,_,L.length,cq,jT L,_,L.length,bR,(λj=>I.getD j 0),sa,A,sc,gone now t n,0,rfl,?_,.inr ⟨Bg,Bv,rfl,rfl,cm (aA oQ λB hB=>oB B (by have:=(oQ.lt B hB).1;omega)) ab,(fJ oV).2.2,uc.of<|cm (aA oV λB hB=>oB B (by have:=(oV.lt B hB).1;omega)) ab⟩,?_,?_⟩,jd⟩;all_goals
   obtain rfl:k=n:=ab;obtain⟨rfl,rfl,rfl,rfl⟩:=eK.out
  .have:=yS.yes qd.out uy;simpa using this
  .rfl
  exact cm (aA XT λB hB=>(oB B (by have:=(XT.lt B hB).1;omega)).trans<|Z.block B (XT.lt B hB).2) ab
def aab {k}(hk:eD f n name k)(h:gH f n t now k=.inr (p,T)):p<n/\(f p).ax=true/\t p=now/\dI f n t p=some T/\di (f p).name name=true:=by unfold gH at h;split at h;grind;rcases hk with⟨rfl,_⟩|⟨j,rfl,x,hs,_⟩;omega;grind
def RF (h:dI f n t p=some T):t p+6<=(f p).late:=by grind [AH]
section
variable {a0 a1:Int}{F:Nat->Mv}{o:Nat}{J:List Nat}
def VG (x:aH f n=true)(B:ga f t n)(hk:k<n):(bT (f k) (t k) now).ok=true:=by unfold bT;split;exact WB x B hk;exact bf x k hk
def AY {now t}:∀{k i:Nat},i∈stay now t k->i<k/\t i≠now
 |0,i,h=>by simp[stay]at h
 |k+1,i,h=>by
  simp only[stay]at h;split at h
  .have:=AY h;exact⟨ab,this.2⟩
  .rename_i a;rcases agX.1 h with h|h
   .have:=AY h;exact⟨ab,this.2⟩
   .simp at h;subst h;exact⟨ab,a⟩
end
def aav (h:W.ownsRow N 30 6 (aa s l c) l (fI f l)):ql W s l c f:=by let⟨a,U,e,B,O⟩:=AM h;cases e;exact⟨B,λR x=>by obtain⟨b,rfl,hb⟩:=O R x;subst x;exact⟨b,rfl,hb,VB h⟩⟩
def aau (h:W.ownsRow N 3 1 (aa s l c) l xs)(x:∀j,j<l->xs[j]?=some (ac .i64<|t j)):pX W s l c t:=by let⟨a,U,e,z,B⟩:=AM h;cases e;exact⟨z,λO q=>by obtain⟨b,rfl,hb⟩:=B O q;subst q;exact⟨b,rfl,hb,λi R=>by rw[a7,h.cellAt i ab];exact x i R⟩⟩
def aff (W:aI)(y:ay)(a0 a1:Int)(l:Nat)(F:Nat->Mv)(o:Nat)(T:Nat->Int):Prop:=∃e g q x,y=aj #[a0,a1,aa e l g,aa q o x]/\ql W e l g F/\pX W q o x T
section
variable {y:ay}
theorem pw {l}(h):nth l j=l[j]:=by simp[nth,h]
end
def eD.one {k k'}(h:eD f n name k)(x:eD f n name k'):k=k':=by rcases h with⟨rfl,h⟩|⟨j,rfl,O,hs,R⟩<;>rcases x with⟨rfl,x⟩|⟨U,rfl,B,Y,Z⟩<;>grind
theorem ot {m:Mv}{t}:m.ge t=true<->m.cj<=t/\t<=m.late/\(m.prom=-1\/m.prom=t):=by unfold Mv.ge A0;simp_all [eO,and_assoc]
def xD {m a t}(h:(fO m a).ge t=true):m.ge t=true/\(m.prom=-1->a<=t):=by grind [fO,ot]
def Ke (a b e s t):(fO a e).iO (fO b e) s t=a.iO b s t:=by unfold fO;split<;>split<;>rfl
def NS (a b x y e g s t):(bT a x y).iO (bT b e g) s t=a.iO b s t:=by unfold bT;split<;>split<;>rfl
def Kj (B:aH f n=true)(R:ga f t n)(U:p<n)(O:dI f n t p=some T):(∀j,j<(aw f t p n).length->(fO (jT (aw f t p n) j)<|t p+4).ge (T j)=true)/\eB (jT<|aw f t p n) (aw f t p n).length T (aw f t p n).length=true:=by have Y:=RF O;rw[Kh B R U Y]at O;let⟨_,_,h1,Z⟩:=oU<|(PZ O).fits;refine⟨λj x=>h1 j x,(fS<|tF (agz (jc _ _ _ _)<|bY B) (λi hi=>tL B R U Y hi) (λ_ _=>rfl)<|(tG B).sublist<|q8 f t p n).2 ⟨λj x=>(xD<|h1 j x).1,λj k hk x=>?_⟩⟩;have:=Z j k hk x;rw[<-Ke _ _ _];exact this
def Wz (x:j<(aw f t p n).length):∃i,i<n/\t p<=t i/\jT (aw f t p n) j=gT f t p i:=lQ<|yu x
def Ki (hb:aY now shift f n t n=true)(R:p<n)(ht:t p=now)(U:dI f n t p=some T):aY now shift (jT<|aw f t p n) (aw f t p n).length T (aw f t p n).length=true:=by
 let⟨Y,_,B⟩:=bL hb;let⟨Z,r2,_⟩:=gi hb;let⟨h1,h2⟩:=Kj Y B R U;refine ru (eO.2 Z) (eO.2 r2) h2<|wq λj O=>?_;let⟨hs,jo⟩:=xD<|h1 j O;let⟨i,hi,ad,e⟩:=Wz O;rw[e]at hs jo⊢;have hs:=ot.1 hs;by_cases x:(gT f t p i).prom=-1;grind [fY];have ZZ:(gT f t p i).prom=T j:=by omega
 have:now<=T j:=by rw[<-ZZ];unfold gT at x⊢;split;rename_i e;rw[if_pos e]at x;exact absurd rfl x;rename_i e;rw[if_neg e]at x;unfold bT at x⊢;split;grind;rename_i h;rw[if_neg h]at x;have:=(ot.1<|B.1 i hi).2.2;omega
 grind [fY]
def qt {now t}:∀{k i:Nat},i∈gone now t k->i<k/\t i=now
 |0,i,h=>by simp[gone]at h
 |k+1,i,h=>by
  simp only[gone]at h;split at h
  .rename_i a;rcases agX.1 h with h|h
   .have:=qt h;exact⟨ab,this.2⟩
   .simp at h;subst h;exact⟨ab,a⟩
  .have:=qt h;exact⟨ab,this.2⟩
def Fd (now t):∀n,stay now t n=(List.range n).filter (λk=>!decide (t k=now))
 |0=>rfl
 |n+1=>by
  simp only[stay,List.range_succ,List.filter_append,<-Fd now t n];split<;>simp[*]
def Wp (b:i<j)(a:j<(stay now t n).length):nth (stay now t n) i<nth (stay now t n) j:=by rw[pw ab,pw a];have h:((List.range n).filter λk=>!decide (t k=now)).Pairwise _:=List.Pairwise.filter _ List.pairwise_lt_range;rw[<-Fd]at h;exact List.pairwise_iff_getElem.1 h i j ab a b
def tkF (f:Nat->Mv)(t:Nat->Int)(now:Int)(n:Nat):Nat->Mv:=jT<|(stay now t n).map λi=>bT (f i) (t i)<|now+1
def tkT (t:Nat->Int)(now:Int)(n:Nat):Nat->Int:=λj=>((stay now t n).map t).getD j 0
def A2 (x:j<(stay now t n).length):tkF f t now n j=bT (f<|nth (stay now t n) j) (t<|nth (stay now t n) j) (now+1):=by simp_all [tkF,yt,pw]
def Fh (a:j<(stay now t n).length):tkT t now n j=t (nth (stay now t n) j):=by grind [tkT,pw]
def qM (a:j<(stay now t n).length):nth (stay now t n) j<n/\t (nth (stay now t n) j)≠now:=by rw[pw a];exact AY<|List.getElem_mem a
def V8 (hb:aY now shift f n t n=true)(x:i<n):now<=t i:=by have h:=(gi hb).2.2;apply agU;intro hc;rw[qX x (by grind [fY])]at h;grind
def Ov (hb:aY now shift f n t n=true)(U:now≠10000):aY (now+1) shift (tkF f t now n) (stay now t n).length (tkT t now n) (stay now t n).length=true:=by let⟨B,_,O⟩:=bL hb;let⟨r1,Y,_⟩:=gi hb;have h6:=agz (AX now t n)<|bY B;(have Z:aH (tkF f t now n) (stay now t n).length=true:=by have:=tF (g:=tkF f t now n) cQ (λi R=>?_) (λ_ _=>rfl) ?_;grind;simp at R;rw[A2 R];exact VG B O (qM R).1;(have e:((stay now t n).map λi=>bT (f i) (t i)<|now+1).map Mv.name=(stay now t n).map λi=>(f i).name:=by rw[List.map_map];apply List.map_congr_left;intro i _;simp;grind [bT]);rw[e,Fd];exact(tG B).sublist<|List.filter_sublist.map _);refine ru (eO.2 ab) (eO.2 Y) ((fS Z).2 ⟨λj x=>?_,λj k hk x=>?_⟩)<|wq λj x=>?_;rw[A2 x,Fh x];have h:=ot.1<|O.1 _ (qM x).1;grind [bT,ot];rw[A2 x,A2 ab,Fh x,Fh ab,NS];exact O.2 _ _ (Wp hk x) (qM x).1;rw[A2 x,Fh x];have h1:=V8 hb (qM x).1;have h2:=(qM x).2;unfold bT;split;simp[fY];omega;grind [fY]
