import Derived.Test.YtlmcblcijndipaaGreatDoorj43
set_option linter.defProp false
set_option linter.unusedVariables false
set_option linter.unusedSectionVars false
set_option maxHeartbeats 4000000
set_option maxRecDepth 10000
namespace Go.Proofs.YtlmcblcijndipaaGreatDoor
open Conc RowKit
variable {name:ByteArray}{a0 a1 cd now shift:Int}{L:List Mv}{GL:List Nat}{xs:List Value}{N c cp d dp i j js k l m n o p:Nat}{T t:Nat->Int}{F f:Nat->Mv}{ao bo s:Option Addr}{v y:Value}{W W' w:World}
def K2 (shift:Int)(v u:Value)(w:World):Calls Tz.prog 291 #[.agg #[],.agg #[(10000:Int),shift,v,u]] w λe w'=>e=.returned (.tuple #[.agg #[(0:Int),(0:Int),.slice none 0 0,.slice none 0 0],.iface 131<|.agg #[(2:Int)]])/\Below w w w':=by
 let⟨W1,e1,k1,b1⟩:=DS w #[] 71;let⟨W2,e2,k2,b2⟩:=DS W1 #[(10000:Int),.int .i64 shift,v,u] 29;obtain⟨W3,e3,k3,b3,-⟩:=cI W2 0 0 none 0 0 none 0 0;have bW:=(b1.trans<|b2.mono b1.size).trans<|b3.mono<|ac6 b1.size b2.size;have p2:=(b3.block _ (ac5.1 k2).1).trans k2;obtain⟨y0,-⟩:=(show aT W3 _ _ _ _ _ from p2).cells;have xx:=k3.cells;let⟨W8,e8,k8,b8,z8,o8⟩:=aV k3 bW (ac6 b1.size b2.size) 0 0 none 0 0 none 0 0;replace z8:Hid _:=z8;let⟨q0,q1,q2,q3,q4⟩:=k8.cells;go_enter Tz.func291,Tryz.ntmps291
 go_wp2;exact bodyPost_ret (v:=.tuple #[.agg #[(0:Int),(0:Int),.slice none 0 0,.slice none 0 0],.iface 131<|.agg #[(2:Int)]]) (by simp[results,Tryz.results291,go_sem,q0,q1,q2,q3]) rfl ⟨rfl,b8⟩
def K3 (now shift:Int)(ao:Option Addr)(ca:Nat)(bo:Option Addr)(da:Nat)(w:World)(h0:0<=now)(h1:now<10000):Calls Tz.prog 291 #[.agg #[],.agg #[now,shift,.slice ao 0 ca,.slice bo 0 da]] w λe w'=>e=.returned (.tuple #[.agg #[.int .i64<|now+1,shift,(),()],.nilIface])/\Below w w w':=by
 have hq:(now==10000)=false:=cH;have xP:IntKind.i64.wrap (now+1)=now+1:=ia;let⟨W1,e1,k1,b1⟩:=DS w #[] 71;obtain⟨W2,e2,k2,b2,-⟩:=cI W1 now shift ao 0 ca bo 0 da;obtain⟨W3,e3,k3,b3,-⟩:=cI W2 0 0 none 0 0 none 0 0;obtain⟨W4,e4,k4,b4,-⟩:=cI W3 (now+1) shift none 0 0 none 0 0;have B3:=(b1.trans<|b2.mono b1.size).trans<|b3.mono<|ac6 b1.size b2.size;have bW:=B3.trans<|b4.mono B3.size;have p2:=k2.same<|b3.block _ k2.lt;have yy:=p2.cells;have t2:∀o,(W3.alloc o).cell? ⟨W1.heap.size,2,none⟩=some (.slice ao 0 ca):=λo=>(p2.same<|acV W3 o _ p2.lt).cells.2.2.1
 have p3:=k3.same<|b4.block _ k3.lt;have e4h:Hid _:=e4;clear e4;go_enter Tz.func291,Tryz.ntmps291
 go_wp2;rw[e4h.out];go_loopw [24] (λi w'=>i=.int .i64 0/\w'=W4) (λ_ _=>0)
 case atStart=>exact⟨rfl,rfl⟩
 case round=>
  obtain⟨rfl,rfl⟩:=hrel;have xx:=p3.cells;have uu:=k4.cells;let⟨W8,e8,k8,b8,z8,o8⟩:=aV p3 bW (ac6 b1.size b2.size) (now+1) shift none 0 0 none 0 0;replace z8:Hid _:=z8;let⟨q0,q1,q2,q3,q4⟩:=k8.cells;go_wp2;exact bodyPost_ret (v:=.tuple #[.agg #[.int .i64<|now+1,shift,(),()],.nilIface]) (by simp[results,Tryz.results291,go_sem,q0,q1,q2,q3]) rfl ⟨rfl,b8⟩
def nU (h:aM now shift f n t m=true):(0<=now/\now<=10000)/\(0<=shift/\shift<=6)/\lE now f t n=true:=by
 unfold aM at h;simp only[Bool.and_eq_true]at h;exact⟨d6.1 h.1.1.1,d6.1 h.1.1.2,h.2⟩
def Xk (now shift:Int)(f:Nat->Mv)(n:Nat)(t:Nat->Int)(N:Nat)(y e:Value)(W:World):Prop:=now=10000/\y=.agg #[(0:Int),(0:Int),.slice none 0 0,.slice none 0 0]/\e=.iface 131 (.agg #[(2:Int)])\/now≠10000/\e=.nilIface/\∃v u,y=QD (now+1) shift v u/\W.ownsRow N 31 6 v (stay now t n).length (rj f t now<|stay now t n)/\W.ownsRow N 3 1 u (stay now t n).length (rk t<|stay now t n)
def mpt (now shift:Int)(f:Nat->Mv)(n:Nat)(t:Nat->Int):Mw (Xk now shift f n t) where
 is:=λh=>by
  rcases h with⟨_,h1,h2⟩|⟨_,h,v,u,h1,h2,h3⟩
  .exact .inr ⟨2,ab,h2,h1⟩
  .obtain⟨a,cc,rfl⟩:=gr h2;obtain⟨a',c',rfl⟩:=gr h3;exact .inl ⟨h,_,_,_,_,_,_,_,_,h1⟩
 to:=λh hN e=>by
  rcases h with h|⟨h0,h,v,u,h1,h2,h3⟩
  .exact .inl h
  .exact .inr ⟨h0,h,v,u,h1,cJ (aB h2 λB hB=>e B (h2.lt B hB).1 (h2.lt B hB).2) hN,cJ (aB h3 λB hB=>e B (h3.lt B hB).1 (h3.lt B hB).2) hN⟩
def Bq.w_ (h:Bq w now shift ao n cp f bo m dp t)(hb:aM now shift f n t m=true):Calls Tz.prog 291 #[.agg #[],.agg #[.int .i64 now,.int .i64 shift,.slice ao n cp,.slice bo m dp]] w λe w'=>(∃y x,e=.returned (.tuple #[y,x])/\Xk now shift f n t w.heap.size y x w')/\Below w w w':=by
 let⟨hm,uU,hf⟩:=bG hb;obtain⟨Ji,-⟩:=nU hb;subst uU;have h6:=h.n6;by_cases h1:now=10000
 .subst h1;refine(K2 shift _ _ w).mono ?_;rintro e w' ⟨rfl,hb⟩;exact⟨⟨_,_,rfl,.inl ⟨rfl,rfl,rfl⟩⟩,hb⟩
 .refine h.cases (λe1 e2 r1 r2=>?_) (λb b' e1 e2 hb hr dt fH=>?_)
  .subst e1;refine(K3 now shift ao cp bo dp w Ji.1 ab).mono ?_;rintro e w' ⟨rfl,hb⟩;exact⟨⟨_,_,rfl,.inr ⟨h1,rfl,_,_,rfl,⟨rfl,.inl ⟨rfl,rfl⟩⟩,⟨rfl,.inl ⟨rfl,rfl⟩⟩⟩⟩,hb⟩
  .subst e1 e2;refine(Oo now shift b 0 m cp f b' 0 dp t w h6 Ji.1 ab hb hr dt fH).mono ?_;rintro e w' ⟨⟨v,u,rfl,o1,o2⟩,hb⟩;exact⟨⟨_,_,rfl,.inr ⟨h1,rfl,v,u,rfl,o1,o2⟩⟩,hb⟩
structure InR (ok:Ctx):Prop where
 sr:ok.aX 20=true
 st:ok.aX 13=true
 ch:ok.aX 38=true
 tr:ok.aX 67=true
 mr:ok.aX 292=true
 mt:ok.aX 291=true
 su:ok.aX 18=true
 ro:ok.aX 52=true
 pl:ok.aX 80=true
 sb:ok.aX 111=true
 bt:ok.aX 139=false
 co:ok.aX 68=false
def Yg (f:Nat->Mv)(n:Nat)(t:Nat->Int)(now:Int)(N:Nat)(s:Option Addr)(l k:Nat)(W:World):Prop:=l=(gone now t n).length/\W.ownsRow N 9 1 (.slice s l k) l (ng f<|gone now t n)
section
variable [Gl]{ok:Ctx}{c r0:Frame}{cs:List Frame}{V:World}{Q:Value->World->Prop}
def Bw (E:dM Tz.prog ok c bY)(I:InR ok)(f7:ok.aX r0.fn=true)(hB:Bq V now shift ao n cp f bo m dp t)
  (aH:∀y cd W',Bl V V W'->zZ (Up now shift f n t name) (IN now shift f n t m) (aM now shift f n t m) V.heap.size y cd W'->aj Tz.prog ok c bY Q ⟨r0.finish<|.tuple #[y,.int .i64 cd],cs,W'⟩):
  aj Tz.prog ok c bY Q ⟨Frame.enter Tz.prog 20 #[.agg #[.int .i64 now,.int .i64 shift,.slice ao n cp,.slice bo m dp],name] .normal,r0::cs,V⟩:=
 LT E I.sr I.ch I.tr I.co f7 I.mr (λW hW=>(hB.bl hW).ib) (mpr _ _ _ _ _ _) (λh W r cs hr hW hk=>PG E I.mr I.ro I.pl I.sb I.bt hr (hB.bl hW) h hk) (zc _ _ _ _ _ _) (λW hW=>(rB now shift ao n cp f bo m dp t W hB.n6 hB.m6 (hB.bl hW).sm (hB.bl hW).si λh=>⟨(hB.two h).1,(hB.two h).2.1⟩).mono λe w' ⟨⟨v,u,h1,h2,h3⟩,hb⟩=>⟨⟨_,h1,v,u,rfl,h2,h3⟩,hb⟩) aH
def PI (E:dM Tz.prog ok c bY)(I:InR ok)(f7:ok.aX r0.fn=true)(hB:Bq V now shift ao n cp f bo m dp t)
  (aH:∀y s l k cd W',Bl V V W'->zZ (Xk now shift f n t) (IN now shift f n t m) (aM now shift f n t m) V.heap.size y cd W'->(cd=0/\Yg f n t now V.heap.size s l k W'\/cd≠0/\s=none/\l=0/\k=0)->aj Tz.prog ok c bY Q ⟨r0.finish<|.tuple #[y,.slice s l k,.int .i64 cd],cs,W'⟩):
  aj Tz.prog ok c bY Q ⟨Frame.enter Tz.prog 13 #[.agg #[.int .i64 now,.int .i64 shift,.slice ao n cp,.slice bo m dp]] .normal,r0::cs,V⟩:=by
 refine PJ (NP:=Yg f n t now) E I.st I.ch I.tr I.co f7 I.mt (λW hW=>(hB.bl hW).ib) (mpt _ _ _ _ _) (λh W r cs hr hW hk=>?_) (zc _ _ _ _ _ _) (λW hW=>(rB now shift ao n cp f bo m dp t W hB.n6 hB.m6 (hB.bl hW).sm (hB.bl hW).si λh=>⟨(hB.two h).1,(hB.two h).2.1⟩).mono λe w' ⟨⟨v,u,h1,h2,h3⟩,hb⟩=>⟨⟨_,h1,v,u,rfl,h2,h3⟩,hb⟩) (λh hN e=>⟨h.1,cJ (aB h.2 λB hB=>e B (h.2.lt B hB).1 (h.2.lt B hB).2) hN⟩) (λh W hW=>?_) aH
 .refine aj.calls E hr (R:=λv w'=>(∃y x,v=.tuple #[y,x]/\Xk now shift f n t W.heap.size y x w')/\Bl W W w') (λτ d=>(((hB.bl hW).bl (W:=re W τ d) ⟨ac3 _,λ_ _=>rfl⟩).w_ h).mono ?_) ?_
  .rintro e w' ⟨⟨y,x,rfl,hy⟩,hb⟩;exact⟨_,rfl,⟨y,x,rfl,hy⟩,Bl.nP hb⟩
  .rintro _ w' ⟨⟨y,x,rfl,hy⟩,hb⟩;exact hk y x w' hb hy
 .obtain⟨-,uU,-⟩:=bG h;subst uU;refine(EJ now shift now ao m cp f bo dp t W hB.n6 (hB.bl hW).sm (hB.bl hW).si λh=>(hB.two h).1).mono ?_;rintro e w' ⟨⟨s,rfl,ho⟩,hb⟩;obtain⟨a,k,rfl⟩:=gr ho;exact⟨⟨a,_,k,rfl,rfl,ho⟩,hb⟩
end
inductive uJ (f:Nat->Mv)(n:Nat)(t:Nat->Int)(m:Nat)(now shift:Int)(name:ByteArray):Int->Int->Nat->(Nat->Mv)->Nat->(Nat->Int)->Int->Prop
 |bad:aM now shift f n t m=false->uJ f n t m now shift name 0 0 0 f 0 t 1
 |no {k cd:Int}:aM now shift f n t m=true->eI f n name k->mE f n t now k=.inl cd->uJ f n t m now shift name now shift n f m t cd
 |yes {k:Int} {p:Nat} {T:Nat->Int}:aM now shift f n t m=true->eI f n name k->mE f n t now k=.inr (p,T)->uJ f n t m now shift name now shift (al f t p n).length (im<|al f t p n) (al f t p n).length T 0
def J7 (w':World)(lo:Nat)(s2:Option Addr)(l c2:Nat)(F:Nat->Mv)(s3:Option Addr)(o c3:Nat)(T:Nat->Int):Prop:=(s2=none/\s3=none/\l=0/\c2=0/\o=0/\c3=0)\/∃b b',s2=some ⟨b,0,none⟩/\s3=some ⟨b',0,none⟩/\w'.ownsRow lo 31 6 (.slice (some ⟨b,0,none⟩) l c2) l (aU F l)/\o<=c3/\qH w' lo b' o T
def Ad.out {R X Bx cx Bi ci:Nat}(h:Ad w now shift ao n c bo d R X Bx cx Bi ci f t W)(e:∀k,k≠R->W'.heap[k]?=W.heap[k]?):J7 W' w.heap.size Bx n cx f Bi n ci t:=by
 have h1:=h.hR;exact .inr ⟨Bx,Bi,rfl,rfl,cJ (aB h.om λB hB=>e B (by have:=(h.om.lt B hB).1;omega)) ab,(fB h.oi).2.2,qH.of<|cJ (aB h.oi λB hB=>e B (by have:=(h.oi.lt B hB).1;omega)) ab⟩
def jD (f:Nat->Mv)(t:Nat->Int)(now:Int)(k:Nat)(L:List Mv)(I:List Int)(js:Nat)(xs:List Value):Prop:=L=(stay now t k).map (λi=>bf (f i) (t i)<|now+1)/\I=(stay now t k).map t/\js=(gone now t k).length/\xs=ng f (gone now t k)
def jD.gone {I:List Int}(h:jD f t now k L I js xs)(e:t k=now):jD f t now (k+1) L I (js+1) (xs++[.string (f k).name]):=by
 obtain⟨rfl,rfl,rfl,rfl⟩:=h;simp[jD,Proofs.YtlmcblcijndipaaGreatDoor.stay,Proofs.YtlmcblcijndipaaGreatDoor.gone,e,ng]
def jD.stay {I:List Int}(h:jD f t now k L I js xs)(e:¬t k=now){m:Mv}(hm:m=bf (f k) (t k) (now+1)):jD f t now (k+1) (L++[m]) (I++[t k]) js xs:=by
 obtain⟨rfl,rfl,rfl,rfl⟩:=h;simp[jD,Proofs.YtlmcblcijndipaaGreatDoor.stay,Proofs.YtlmcblcijndipaaGreatDoor.gone,e,hm]
inductive kP (f:Nat->Mv)(n:Nat)(t:Nat->Int)(m:Nat)(now shift:Int):Int->Int->Nat->(Nat->Mv)->Nat->(Nat->Int)->List Nat->Int->Prop
 |bad:aM now shift f n t m=false->kP f n t m now shift 0 0 0 f 0 t [] 1
 |last:aM now shift f n t m=true->now=10000->kP f n t m now shift now shift n f m t [] 2
 |yes:aM now shift f n t m=true->now≠10000->kP f n t m now shift (now+1) shift (stay now t n).length (im<|(stay now t n).map λi=>bf (f i) (t i)<|now+1) (stay now t n).length (λj=>((stay now t n).map t).getD j 0) (gone now t n) 0
def A2 {lo b:Nat}(hb:lo<=b)(h:W.heap[b]?=some (.cells #[] 9 (0,0))):W.ownsRow lo 9 1 (.slice b 0 0) 0 []:=⟨rfl,.inr ⟨b,0,#[],rfl,hb,h,ac3 _,ac8 _,rfl,rfl⟩⟩
def MO (w:World)(x:Int):∃W,w.alloc (.cells #[x] 3)=W/\W.heap[w.heap.size]?=some (.cells #[x] 3 (0,0))/\Below w w W/\W.heap.size=w.heap.size+1:=
 ⟨_,rfl,heap_alloc_new w _,(acU _ w).alloc (ac3 _) _,aG⟩
def UA (w:World)(x:ByteArray):∃W,w.alloc (.cells #[x] 9)=W/\W.heap[w.heap.size]?=some (.cells #[x] 9 (0,0))/\Below w w W/\W.heap.size=w.heap.size+1:=
 ⟨_,rfl,heap_alloc_new w _,(acU _ w).alloc (ac3 _) _,aG⟩
def Qn {base:Nat}{T:TypeId}{size:Nat}(h:w.ownsRow base T size v (n+1) xs):∃B c,v=.slice (some ⟨B,0,none⟩) (n+1) c:=by
 obtain⟨h1,h2|⟨g,cap,cur,h2,h3,h4⟩⟩:=h
 .omega
 .exact⟨g,cap,h2⟩
structure St2 (N:Nat)(sl:Value)(b' k:Nat)(x:Int)(W:World):Prop where
 c3:W.cell? ⟨N,3,none⟩=some sl
 tk:W.cell? ⟨b',k,none⟩=some (.int .i64 x)
section
variable {NX:Nat}{u:Value}{I:List Int}{s:Value}{b':Nat}
def Tc.st (h:Tc w now shift ao n c b' d NX v u L I s js xs W)(bz:b'<w)(hr:aA w b' 0 n t)(hk:k<n):St2 w.heap.size (.slice b' n d) b' k (t k) W:=
 ⟨h.bk.cells.2.2.2.1,by have:=hr.below h.below bz k hk;rw[Nat.zero_add]at this;exact this⟩
def T6 (hb:Below w w W)(h:Tc w now shift ao n c b' d NX v u L I s js xs W)(g:W.grownBy W' u.ownBlock)(bz:b'<w)(hr:aA w b' 0 n t)(hk:k<n):St2 w.heap.size (.slice b' n d) b' k (t k) W':=by
 have hN:=h.hN;have b1:Below w w W':=hb.grown g hb.size (λq hq=>by have:=(h.oi.lt q hq).1;omega);exact⟨(h.bk.same<|g.block _ h.bk.lt (λe=>by have:=(h.oi.lt _ e.symm).1;omega)).cells.2.2.2.1,by have:=hr.below b1 bz k hk;rw[Nat.zero_add]at this;exact this⟩
end
def Xc (now shift:Int)(ao:Option Addr)(n c:Nat)(f:Nat->Mv)(bo:Option Addr)(m d:Nat)(t:Nat->Int)(w:World)(hB:Bq w now shift ao n c f bo m d t):
  Calls Tz.prog 14 #[.agg #[now,shift,.slice ao n c,.slice bo m d]] w λe w'=>(∃a0 a1 s2 l c2 F s3 o c3 T sa js sc GL cd,e=.returned (.tuple #[.agg #[.int .i64 a0,.int .i64 a1,.slice s2 l c2,.slice s3 o c3],.slice sa js sc,.int .i64 cd])/\kP f n t m now shift a0 a1 l F o T GL cd/\J7 w' w.heap.size s2 l c2 F s3 o c3 T/\js=GL.length/\w'.ownsRow w.heap.size 9 1 (.slice sa js sc) js (ng f GL))/\Below w w w':=by
 obtain⟨W0,sX⟩:∃W,W=((w.alloc<|.cells #[.int .i64 now,.int .i64 shift,.slice ao n c,.slice bo m d] 29).alloc<|.cells #[(0:Int),(0:Int),.slice none 0 0,.slice none 0 0] 29).alloc (.cells #[] 9):=⟨_,rfl⟩;have b0:Below w w W0:=by rw[sX];exact(((acU _ w).alloc (ac3 _) _).alloc aG _).alloc cH _
 have FY:aT W0 w.heap.size now shift (.slice ao n c) (.slice bo m d):=by rw[sX];exact(acV _ _ _ cH).trans<|(acV _ _ _ aG).trans<|heap_alloc_new _ _
 have wz:aT W0 (w.heap.size+1) 0 0 () ():=by rw[sX];exact(acV _ _ _ aG).trans<|dX _ _ _
 have dn0:W0.heap[w.heap.size+2]?=some (.cells #[] 9 (0,0)):=by
  rw[sX];have:=dX (w.alloc<|.cells #[now,shift,.slice ao n c,.slice bo m d] 29) (.cells #[(0:Int),(0:Int),(),()] 29)<|.cells #[] 9;rw[acZ]at this;exact this
 have gE:W0.heap.size=w.heap.size+3:=by rw[sX];simp
 have HB:=(hB.bl<|Bl.of b0).sk;have h6:=hB.n6;cases hb:aM now shift f n t m with
 |false=>
  rw[hb,sX]at HB;go_enter Tz.func14,Tryz.ntmps14
  go_wp2_with(go_at_call 39;refine HB.mono ?_;clear HB;rintro e w1 ⟨rfl,b1⟩;rw[<-sX]at b1;have r1:=wz.same<|b1.block _ wz.lt;let⟨y0,y1,y2,y3,y4⟩:=r1.cells)
  let⟨W5,e5,k5,jQ,vV,qT⟩:=aV r1 (b0.trans<|b1.mono b0.size) ab 0 0 none 0 0 none 0 0;rw[e5];let⟨q0,q1,q2,q3,q4⟩:=k5.cells;refine bodyPost_ret (v:=.tuple #[.agg #[(0:Int),(0:Int),(),()],.slice (some ⟨w.heap.size+1+1,0,none⟩) 0 0,.int .i64 1]) ?_ rfl ⟨⟨0,0,none,0,0,_,none,0,0,_,_,0,0,[],1,rfl,.bad hb,.inl ⟨rfl,rfl,rfl,rfl,rfl,rfl⟩,rfl,A2 ab<|(qT _ ab).trans<|(b1.block _ ab).trans dn0⟩,jQ⟩;simp[results,Tryz.f14,go_sem,q0,q1,q2,q3]
 |true=>
  let⟨hm,uU,gG⟩:=bG hb;obtain rfl:n=m:=uU.symm;obtain⟨Ji,lh,-⟩:=nU hb;have nI:Hid _:=hb;rw[hb,sX]at HB;clear hb;have Mt:=λW (hW:Below w w W)=>jp now shift ao n c f bo n d t W ab ab (hB.bl<|Bl.of hW).sm (hB.bl<|Bl.of hW).si
  let⟨iM,hI,abo,eG,ga⟩:=eP;let⟨i0,I4,KP,F8,G8⟩:=xS;let⟨iS,hIS,NY,vR,ze⟩:=Oe;by_cases tR:now=10000
  .have VB:10000<=now:=by omega
   have HNW:Hid (now=10000):=tR;clear tR;go_enter Tz.func14,Tryz.ntmps14
   go_wp2_with(first
    |(go_at_call 39;refine HB.mono ?_;clear HB;rintro e w1 ⟨rfl,b1⟩;rw[<-sX]at b1;have B1:=b0.trans<|b1.mono b0.size;have bk:=FY.same<|b1.block _ FY.lt;have rs:=wz.same<|b1.block _ wz.lt;have dn:=(b1.block _ ab).trans dn0;let⟨y0,y1,y2,y3,y4⟩:=bk.cells)
    |(go_at_call 40;refine(Mt _ B1).mono ?_;clear Mt;rintro e w2 ⟨⟨Bx,cx,Bi,ci,rfl,oM,oI⟩,b2⟩;have z2:=b2.size;have z1:=b1.size;have bk:=bk.same<|b2.block _ ab;have rs:=rs.same<|b2.block _ ab;let⟨W3,e3,k3,b3,z3⟩:=cI w2 now shift (some ⟨Bx,0,none⟩) n cx (some ⟨Bi,0,none⟩) n ci;have dn:=(b3.block _ ab).trans<|(b2.block _ ab).trans dn;have hA:Ad w now shift ao n c bo d (w.heap.size+1) w2.heap.size Bx cx Bi ci f t W3:=⟨(B1.trans<|b2.mono B1.size).trans<|b3.mono ab,bk.same<|b3.block _ ab,rs.same<|b3.block _ ab,ab,k3,ab,cJ (aB oM λB hB=>b3.block B (oM.lt B hB).2) ab,cJ (aB oI λB hB=>b3.block B (oI.lt B hB).2) ab⟩;let⟨y0,y1,y2,y3,y4⟩:=hA.bk.cells;let⟨x0,x1,x2,x3,x4⟩:=hA.x.cells;let⟨r0,r1,r2,r3,r4⟩:=hA.rs.cells;clear oM oI bk rs))
   all_goals try omega
   let⟨W5,e5,k5,jQ,vV,qT⟩:=aV hA.rs hA.below ab now shift (some ⟨Bx,0,none⟩) n cx (some ⟨Bi,0,none⟩) n ci;rw[e5];let⟨q0,q1,q2,q3,q4⟩:=k5.cells;have hdn:=hA.hR;exact bodyPost_ret (v:=.tuple #[.agg #[now,shift,.slice Bx n cx,.slice Bi n ci],.slice (some ⟨w.heap.size+1+1,0,none⟩) 0 0,.int .i64 2]) (by simp[results,Tryz.f14,go_sem,q0,q1,q2,q3]) rfl ⟨⟨_,_,_,_,_,_,_,_,_,_,_,0,0,[],2,rfl,.last nI.out HNW.out,hA.out qT,rfl,A2 ab<|(qT _ ab).trans dn⟩,jQ⟩
  .have VB:¬10000<=now:=by omega
   have xP:IntKind.i64.wrap (now+1)=now+1:=ia;have acz:IntKind.i64.wrap (now+1+4)=now+1+4:=ia;go_enter Tz.func14,Tryz.ntmps14
   go_wp2_with(first
    |(go_at_call 39;refine HB.mono ?_;clear HB;rintro e w1 ⟨rfl,b1⟩;rw[<-sX]at b1;have B1:=b0.trans<|b1.mono b0.size;have bk:=FY.same<|b1.block _ FY.lt;have rs:=wz.same<|b1.block _ wz.lt;have dn:=(b1.block _ ab).trans dn0;let⟨y0,y1,y2,y3,y4⟩:=bk.cells)
    |(go_at_call 40;refine(Mt _ B1).mono ?_;clear Mt;rintro e w2 ⟨⟨Bx,cx,Bi,ci,rfl,oM,oI⟩,b2⟩;have z2:=b2.size;have z1:=b1.size;let⟨W3,e3,k3,b3,z3⟩:=cI w2 now shift (some ⟨Bx,0,none⟩) n cx (some ⟨Bi,0,none⟩) n ci;have bk:=(bk.same<|b2.block _ ab).same<|b3.block _ ab;have rs:=(rs.same<|b2.block _ ab).same<|b3.block _ ab;have dn:=(b3.block _ ab).trans<|(b2.block _ ab).trans dn;have B3:=(B1.trans<|b2.mono B1.size).trans<|b3.mono ab;let⟨y0,y1,y2,y3,y4⟩:=bk.cells;let⟨W4,e4,k4,b4,z4⟩:=cI W3 (now+1) shift none 0 0 none 0 0;have z3h:Hid (W3.heap.size=w2.heap.size+1):=z3;clear z3;have z4h:Hid (W4.heap.size=W3.heap.size+1):=z4;clear z4;have e4h:Hid (W3.alloc (.cells #[.int .i64<|now+1,.int .i64 shift,.slice none 0 0,.slice none 0 0] 29)=W4):=e4;clear e4))
   rw[e4h.out];have z3:=z3h.out;have z4:=z4h.out;obtain⟨NX,hNX⟩:∃NX,NX=W3.heap.size:=⟨_,rfl⟩;rw[<-hNX]at k4⊢;have hT0:Tc w now shift ao n c bo d NX () () [] [] (.slice (some ⟨w.heap.size+1+1,0,none⟩) 0 0) 0 [] W4:=⟨B3.trans<|b4.mono ab,bk.same<|b4.block _ ab,rs.same<|b4.block _ ab,k4,ab,⟨rfl,.inl ⟨rfl,rfl⟩⟩,⟨rfl,.inl ⟨rfl,rfl⟩⟩,⟨rfl,.inr ⟨w.heap.size+2,0,#[],rfl,ac3 _,(b4.block _ ab).trans dn,ac3 _,ac8 _,rfl,rfl⟩⟩⟩;clear bk rs dn b4 k4 B3 oM oI k3 b3 b2 b1 hNX z3 z4 z3h z4h e3 e4h;go_loopw [5,8] (λs x W=>∃(k:Nat) (v u:Value) (L:List Mv) (I:List Int) (js:Nat) (xs:List Value),x=.int .i64 k/\k<=n/\L.length=I.length/\L.length<=k/\js<=k/\Hid (jD f t now k L I js xs)/\Tc w now shift ao n c bo d NX v u L I s js xs W) (λ_ x _=>n-(intOf x).toNat)
   case atStart=>exact⟨0,_,_,[],[],0,[],rfl,ac8 _,rfl,ac3 _,ac3 _,(by show jD _ _ _ _ _ _ _ _;exact⟨rfl,rfl,rfl,rfl⟩),hT0⟩
   case round=>
    clear hT0;obtain⟨k,v,u,L,I,js,xs,rfl,hk,hlen,hLk,hjk,eO,hT⟩:=hrel;have HLN:Hid (L.length=I.length):=hlen;have hIk:I.length<=k:=ab;clear hlen;let⟨y0,y1,y2,y3,y4⟩:=hT.bk.cells;let⟨p0,p1,p2,p3,p4⟩:=hT.nx.cells;by_cases ay:k<n
    .have dq:(k:Int)<n:=by omega
     obtain⟨b,rfl,bz,am⟩:=hB.sm.pos ab;obtain⟨b',rfl,bu,aP⟩:=hB.si.pos ab;let⟨c0,c1,c2,c3,c4,c5⟩:=am.below hT.below bz k ay;simp only[Nat.zero_add]at c0 c1 c2 c3 c4 c5;let⟨Wm,em,hM,bm,zm⟩:=BJ wr<|f k;have lb:=ac4 bz hT.below.size;have YV:=hT.grow bm;have hne:=aF Wm;have sm:=YV.st bu aP ay;have x0:=λx:ai Wm=>x.cell YV.bk.cells.1
     have x3:=λx:ai Wm=>x.cell sm.c3
     have y6:=λx:ai Wm=>x.cell sm.tk
     by_cases qU:t k=now
     .have d0:(t k==now)=true:=by simpa using qU
      have eO:Hid _:=eO.out.gone qU;clear qU;go_wp2;refine jR ?_;intro w3 iC;have Rl:=YV.grow iC;have S3:=hM.keep<|iC.block _ ab;have m0:=(eD S3).c0;clear x0 x3 y6 hne sm;let⟨Wo,eo,ko,bo3,zo⟩:=UA w3 (f k).name;have AA:=Rl.grow bo3;go_wp2_with(at_builtin;refine wpList_append_own _ rfl (.tmp 49) (.tmp 52) 24 rfl (w.heap.size+2) 9 iS _ 1 16 Ha hIS NY vR ze rfl bd _ js xs bD AA.os w3.heap.size 1 1 [.string (f k).name] bD rfl (fN ko) t9 ie ab (by have:=AA.rs.lt;have:=AA.nx.lt;have:=AA.hN;omega) ?_;intro s5 w5 F7 Ja _)
      have Xw:=AA.names F7 Ja;go_roundw
      case rel=>exact⟨k+1,v,u,L,I,js+1,_,by go_num,ab,HLN.out,ab,ab,eO,Xw⟩
      case measure=>exact bZ
     .have d0:(t k==now)=false:=by simpa using qU
      have HTK:Hid _:=qU;clear qU;go_wp2;refine jR ?_;intro w3 iC;have Rl:=YV.grow iC;have S3:=hM.keep<|iC.block _ ab;have z3w:=iC.size;clear x0 x3 y6 hne sm d0;have s3:=Rl.st bu aP ay;have hne:=aF w3;have x3:=λx:ai w3=>x.cell s3.c3
      have y6:=λx:ai w3=>x.cell s3.tk
      have x0:=λx:ai w3=>x.cell Rl.nx.cells.1
      go_wp2;by_cases s9:t k<now+1+4;focus
       refine jR ?_;intro w4 FZ;have hT4:=Rl.grow FZ;have S4:=S3.keep<|FZ.block _ ab;let⟨a0,a1,a2,a3,a4,a5⟩:=eD S4;have uf:=S4.frozen 5;let⟨y0,y1,y2,y3,y4⟩:=hT4.bk.cells;have t4:=(hT4.st bu aP ay).tk;have aci:b'<w4:=ac4 bu hT4.below.size;obtain⟨Wq,eq,S5,Xw⟩:∃Wq,w4.setCell ⟨wr.heap.size,5,none⟩ (.int .i64<|t k)=Wq/\dw Wq wr.heap.size {f k with prom:=t k}/\Tc w now shift (some ⟨b,0,none⟩) n c (some ⟨b',0,none⟩) d NX v u L I _ js xs Wq:=by
        refine⟨_,rfl,?_,hT.grow ?_⟩
        .have:=heap_setCell_same w4 wr.heap.size 5 _ _ (.int .i64<|t k) S4;simpa[dw]using this
        .exact((bm.trans<|iC.mono ab).trans<|FZ.mono ab).setCell (ac3 _) _
       obtain⟨m',rJ⟩:∃m',m'=({f k with prom:=t k}:Mv):=⟨_,rfl⟩;have KL:Hid (m'=bf (f k) (t k) (now+1)):=by show m'=_;rw[rJ];unfold bf;rw[if_pos s9]
       rw[<-rJ]at S5;clear rJ S4 hT4
      rotate_left;focus
       refine jR ?_;intro Wq FZ;have Xw:=Rl.grow FZ;have S5:=S3.keep<|FZ.block _ ab;obtain⟨m',rJ⟩:∃m',m'=f k:=⟨_,rfl⟩;have KL:Hid (m'=bf (f k) (t k) (now+1)):=by show m'=_;rw[rJ];unfold bf;rw[if_neg s9]
       rw[<-rJ]at S5;clear rJ
      all_goals
       clear x0 x3 y6 hne s3 S3 Rl hT YV hM;let⟨g0,g1,g2,g3,g4,g5⟩:=eD S5;let⟨p0,p1,p2,p3,p4⟩:=Xw.nx.cells;let⟨Wo,eo,ko,bo5,zo⟩:=BJ Wq m';have AA:=Xw.grow bo5;go_wp2_with(at_builtin;refine wpList_append_own _ rfl (.tmp 70) (.tmp 72) 23 rfl (NX+1) 31 iM _ 6 56 aR hI abo eG ga rfl bd v L.length (aU (im L) L.length) bD AA.om Wq.heap.size 1 1 m'.cells.toList bD rfl (uq ko) (gb m') ie ab (by have:=AA.nx.lt;omega) ?_;intro v6 w6 VO hg6 _;let⟨n6,hT⟩:=AA.moves VO hg6;obtain⟨B6,c6,rfl⟩:=kH VO;let⟨q0,q1,q2,q3,q4⟩:=n6.cells;obtain⟨W7,e7⟩:∃W,w6.setCell ⟨NX,2,none⟩ (.slice B6 (L.length+1) c6)=W:=⟨_,rfl⟩;rw[e7]at hT)
       clear q0 q1 q2 q3 q4 n6 VO hg6 AA Xw p0 p1 p2 p3 p4 g0 g1 g2 g3 g4 g5;have hT:=hT.grow (acU _ _).drew;refine wp_region_held_drew (S:=St2 w.heap.size (.slice b' n d) b' k<|t k) bj (hT.st bu aP ay) λhHeld=>?_;revert hHeld hT;generalize W7.drew=W8;intro hT hHeld;let⟨p0,p1,p2,p3,p4⟩:=hT.nx.cells;refine aq 0 (.pointer<|some ⟨NX,3,none⟩) 75 rfl X0 hHeld ?_;refine aq 2 (.pointer<|some ⟨w.heap.size,3,none⟩) 77 rfl X0 hHeld ?_;refine aq 3 (.slice b' n d) 78 rfl X0 hHeld ?_;refine aq 4 (.int .i64 (k:Int)) 79 rfl X0 hHeld ?_;refine aq 5 (.pointer<|some ⟨b',k,none⟩) 80 rfl X0 hHeld ?_;refine aq 6 (.int .i64<|t k) 81 rfl X0 hHeld ?_;simp only[Act.put,List.setIfInBounds_toArray,List.set_cons_zero,List.set_cons_succ];refine Qb 1 7 rfl rfl (λK hK=>?_) λK hK=>?_;focus
        go_simp
        refine hK.out _ _ (hT.st bu aP ay) λhHeld=>?_;clear hK K;refine iT 7 rfl λK hK=>?_;go_simp
        let⟨Wi,ei,ki,bi,zi⟩:=MO W8<|t k;rw[ei];have hT:=hT.grow bi;let⟨p0,p1,p2,p3,p4⟩:=hT.nx.cells;refine hK.out _ _ (hT.st bu aP ay) λhHeld=>?_;clear hK K
       rotate_left;focus
        go_simp
        let⟨Wi,ei,ki,bi,zi⟩:=MO W8<|t k;rw[ei];have hT:=hT.grow bi;let⟨p0,p1,p2,p3,p4⟩:=hT.nx.cells;refine hK.out _ _ (hT.st bu aP ay) λhHeld=>?_;clear hK K;refine iT 1 rfl λK hK=>?_;go_simp
        refine hK.out _ _ (hT.st bu aP ay) λhHeld=>?_;clear hK K
       all_goals
        refine iT 8 rfl λK hK=>?_;refine dB rfl (.tmp 76) (.tmp 82) 27 rfl 3 i0 (.int .i64 0) 1 8 jm I4 KP F8 G8 rfl bd (NX+1) u I.length (Gb I) bD hT.oi W8.heap.size 1 1 [.int .i64 (t k)] bD rfl (fN ki) t9 ie ab (by have:=hT.nx.lt;omega) ?_;intro u9 w9 XH Zm;let⟨n9,hT9⟩:=hT.Pt XH Zm;obtain⟨B9,c9,rfl⟩:=Qn XH;let⟨p0,p1,p2,p3,p4⟩:=n9.cells;refine hK.out _ _ (T6 hT.below hT Zm bu aP ay) λhHeld=>?_;clear hK K;refine iT 9 rfl λK hK=>?_;go_simp
        refine hK.out _ _ (T6 hT.below hT Zm bu aP ay) λhHeld=>?_;clear hK K;refine iT 10 rfl λK hK=>?_;go_simp
        refine hK.out _ _ (hT9.st bu aP ay) λhHeld=>?_;clear hK K;refine wpAnyH_done bj ?_ _;clear hHeld;revert hT9;generalize w9.setCell ⟨NX,3,none⟩ (.slice (some ⟨B9,0,none⟩) (I.length+1) c9)=WZ;intro hT9;go_wp2;go_roundw
        case rel=>exact⟨k+1,_,_,L++[m'],I++[t k],js,xs,by go_num,ab,by have:=HLN.out;simp;omega,cH,ab,eO.out.stay HTK.out KL.out,hT9⟩
        case measure=>exact bZ
    .have dq:¬(k:Int)<n:=by omega
     have hlen:=HLN.out;obtain⟨av,cv,rfl,P5,f_⟩:=uw hT.om;obtain⟨au,cu,rfl,hu1,hu2⟩:=uw hT.oi;have hsI:gF wr au L.length cu (λj=>I.getD j 0):=by
      rw[hlen];refine⟨hu1,λad had=>?_⟩;let⟨bb,e,hl⟩:=hu2 ad had;subst had e;refine⟨bb,rfl,hl,λi hi=>?_⟩;rw[Nat.zero_add,hT.oi.cellAt i ab];simp[Gb,hi]
     have hsM:fL wr av L.length cv (im L):=by
      refine⟨P5,λad had=>?_⟩;let⟨bb,e,hl⟩:=f_ ad had;subst had e;exact⟨bb,rfl,hl,dW hT.om⟩
     have HC:=jp (now+1) shift av L.length cv (im L) au L.length cu (λj=>I.getD j 0) wr ab ab hsM hsI;rw[<-hlen]at p3;clear hlen;obtain⟨sa,sc,rfl,_⟩:=uw hT.os;have Ek:=hT.rs;have hos:=hT.os;have uQ:=hT.below;have hNN:=hT.hN;have KI:=hT.nx.lt;clear hT hsM hsI;go_wp2_with(go_at_call 40;refine HC.mono ?_;clear HC;rintro e w3 ⟨⟨Bg,cq,Bv,cv',rfl,oQ,oV⟩,b3⟩;have Ek:=Ek.same<|b3.block _ Ek.lt;let⟨r0,r1,r2,r3,r4⟩:=Ek.cells)
     all_goals try omega
     let⟨W5,e5,k5,jQ,vV,qT⟩:=aV Ek (uQ.trans<|b3.mono uQ.size) ab (now+1) shift (some ⟨Bg,0,none⟩) L.length cq (some ⟨Bv,0,none⟩) L.length cv';rw[e5];let⟨q0,q1,q2,q3,q4⟩:=k5.cells;refine bodyPost_ret (v:=.tuple #[.agg #[.int .i64<|now+1,shift,.slice Bg L.length cq,.slice Bv L.length cv'],.slice sa js sc,.int .i64 0]) (by simp[results,Tryz.f14,go_sem,q0,q1,q2,q3]) rfl ⟨⟨now+1,shift,_,L.length,cq,im L,_,L.length,cv',(λj=>I.getD j 0),sa,js,sc,gone now t n,0,rfl,?_,.inr ⟨Bg,Bv,rfl,rfl,cJ (aB oQ λB hB=>qT B (by have:=(oQ.lt B hB).1;omega)) ab,(fB oV).2.2,qH.of<|cJ (aB oV λB hB=>qT B (by have:=(oV.lt B hB).1;omega)) ab⟩,?_,?_⟩,jQ⟩;all_goals
      obtain rfl:k=n:=ab;obtain⟨rfl,rfl,rfl,rfl⟩:=eO.out
     .have:=kP.yes (shift:=shift) nI.out tR;simpa using this
     .rfl
     .exact cJ (aB hos λB hB=>(qT B (by have:=(hos.lt B hB).1;omega)).trans<|b3.block B (hos.lt B hB).2) ab
def OP {k:Int}(hk:eI f n name k)(h:mE f n t now k=.inr (p,T)):p<n/\(f p).ak=true/\t p=now/\cY f n t p=some T/\bJ (f p).name name=true:=by
 unfold mE at h;split at h
 .cases h
 .rename_i h0;rcases hk with⟨rfl,_⟩|⟨j,rfl,hj,hs,_⟩
  .omega
  .simp only[Int.toNat_natCast]at h;split at h
   .cases h
   .rename_i hl;split at h
    .rename_i ht;split at h
     .cases h
     .rename_i T' hT;cases h;exact⟨hj,by simpa using hl,ht,hT,hs⟩
    .cases h
def OT (h:cY f n t p=some T):t p+6<=(f p).late:=by
 by_cases hh:t p+6<=(f p).late
 .exact hh
 .rw[Ia hh]at h;cases h
def R5 (hm:az f n=true)(hf:dU f t n)(hk:k<n):(bf (f k) (t k) now).ok=true:=by
 unfold bf;split
 .exact SC hm hf hk
 .exact aW hm k hk
def yR:∀{k i:Nat},i∈stay now t k->i<k/\t i≠now
 |0,i,h=>by simp[stay]at h
 |k+1,i,h=>by
  simp only[stay]at h;split at h
  .have:=yR h;exact⟨ab,this.2⟩
  .rename_i hne;rcases adv.1 h with h|h
   .have:=yR h;exact⟨ab,this.2⟩
   .simp at h;subst h;exact⟨ab,hne⟩
def Da (h:W.ownsRow N 31 6 (.slice s l c) l (eh f l)):fL W s l c f:=by
 let⟨a,c',e,h1,h2⟩:=uw h;cases e;exact⟨h1,λad had=>by obtain⟨b,rfl,hb⟩:=h2 ad had;subst had;exact⟨b,rfl,hb,RZ h⟩⟩
def Ip (h:W.ownsRow N 3 1 (.slice s l c) l xs)(hx:∀j,j<l->xs[j]?=some (.int .i64<|t j)):gF W s l c t:=by
 let⟨a,c',e,h1,h2⟩:=uw h;cases e;exact⟨h1,λad had=>by obtain⟨b,rfl,hb⟩:=h2 ad had;subst had;exact⟨b,rfl,hb,λi hi=>by rw[Nat.zero_add,h.cellAt i ab];exact hx i hi⟩⟩
def Qs (W:World)(y:Value)(a0 a1:Int)(l:Nat)(F:Nat->Mv)(o:Nat)(T:Nat->Int):Prop:=∃s2 c2 s3 c3,y=.agg #[a0,a1,.slice s2 l c2,.slice s3 o c3]/\fL W s2 l c2 F/\gF W s3 o c3 T
def Ju (W:World)(f:Nat->Mv)(t:Nat->Int):Qs W (.agg #[(0:Int),(0:Int),(),()]) 0 0 0 f 0 t:=⟨_,_,_,_,rfl,⟨λ_=>⟨rfl,rfl⟩,(λ_ h=>nomatch h)⟩,⟨λ_=>⟨rfl,rfl⟩,(λ_ h=>nomatch h)⟩⟩
def Jt (h:IN now shift f n t m N y W):Qs W y now shift n f m t:=by
 obtain⟨v,u,rfl,h1,h2⟩:=h;obtain⟨a,c,rfl⟩:=gr h1;obtain⟨a',c',rfl⟩:=gr h2;exact⟨_,_,_,_,rfl,Da h1,Ip h2 λj hj=>dY hj⟩
def P_ (h:zZ (Up now shift f n t name) (IN now shift f n t m) (aM now shift f n t m) N y cd W):∃a0 a1 l F o T,uJ f n t m now shift name a0 a1 l F o T cd/\Qs W y a0 a1 l F o T:=by
 rcases h with⟨h0,rfl,rfl⟩|⟨h0,⟨⟨k,hk,h⟩,rfl⟩|⟨h1,⟨W',N',k,hk,h⟩,hc⟩⟩
 .exact⟨_,_,_,_,_,_,.bad h0,Ju W f t⟩
 .cases hr:mE f n t now k with
  |inl cd=>rw[hr]at h;cases h.2
  |inr x=>
   let⟨p,T⟩:=x;rw[hr]at h;obtain⟨_,BN,c2,BT,c3,rfl,_,_,h3,h4⟩:=h;exact⟨_,_,_,_,_,_,.yes h0 hk hr,_,_,_,_,rfl,⟨(λh=>nomatch h),λad had=>by cases had;exact⟨BN,rfl,h3.lt,h3.1⟩⟩,⟨(λh=>nomatch h),λad had=>by cases had;exact⟨BT,rfl,h4.lt,h4.2⟩⟩⟩
 .cases hr:mE f n t now k with
  |inl za=>
   rw[hr]at h;have:=h.2;simp at this;subst this;exact⟨_,_,_,_,_,_,.no h0 hk hr,Jt hc⟩
  |inr x=>rw[hr]at h;cases h.1
def oC {l:List Nat}(h:j<l.length):qj l j=l[j]:=by simp[qj,h]
def aae (h:zZ (Xk now shift f n t) (IN now shift f n t m) (aM now shift f n t m) N y cd W)(hs:cd=0/\Yg f n t now N s l k W\/cd≠0/\s=none/\l=0/\k=0):∃a0 a1 l' F o T GL,kP f n t m now shift a0 a1 l' F o T GL cd/\Qs W y a0 a1 l' F o T/\l=GL.length/\W.ownsRow N 9 1 (.slice s l k) l (ng f GL):=by
 have hn:cd≠0->l=([]:List Nat).length/\W.ownsRow N 9 1 (.slice s l k) l (ng f []):=λh0=>by
  rcases hs with⟨h,_⟩|⟨_,rfl,rfl,rfl⟩
  .exact absurd h h0
  .exact⟨rfl,rfl,.inl ⟨rfl,rfl⟩⟩
 rcases h with⟨h0,rfl,rfl⟩|⟨h0,⟨h,rfl⟩|⟨h1,⟨W',N',h⟩,hc⟩⟩
 .exact⟨_,_,_,_,_,_,_,.bad h0,Ju W f t,hn ab⟩
 .rcases h with⟨_,_,h⟩|⟨h,_,v,u,rfl,h2,h3⟩
  .cases h
  .obtain⟨a,c,rfl⟩:=gr h2;obtain⟨a',c',rfl⟩:=gr h3;rw[FF,oz (g:=im<|(stay now t n).map λi=>bf (f i) (t i)<|now+1) (λj hj=>by rw[qs (by simpa using hj),oC hj];simp)]at h2;refine⟨_,_,_,_,_,_,_,.yes h0 h,⟨_,_,_,_,rfl,Da h2,Ip h3 λj hj=>?_⟩,?_⟩
   .rw[LE t _ j hj,oC hj];simp[hj]
   .rcases hs with⟨_,h⟩|⟨h,_⟩
    .exact h
    .exact absurd rfl h
 .rcases h with⟨h,_,h2⟩|⟨_,h,_⟩
  .simp at h2;subst h2;exact⟨_,_,_,_,_,_,_,.last h0 h,Jt hc,hn ab⟩
  .cases h
def Pn:Tz.prog.stoodInHeld 31=false:=bj
def Nr:Tz.prog.eqGuardType Tz.prog.depth 31=false:=bj
def MJ (a:ByteArray):(a==a)=true:=by
 show(a.data==a.data)=true;simp
def U0 (a:ByteArray)(d:Nat)(w:World):(Op.equalIn (d+1) 9 a a).run Tz.prog w=.ok true w:=by
 rw[Op.equalIn,Sem.run_bind,run_underlying (Tz.aE Tryz.underlying9)];simp[go_sem];exact MJ a
def UZ (a:Bool)(d:Nat)(w:World):(Op.equalIn (d+1) 4 a a).run Tz.prog w=.ok true w:=by
 rw[Op.equalIn,Sem.run_bind,run_underlying (Tz.aE Tryz.underlying4)];simp[go_sem]
def Uh (a:Int)(d:Nat)(w:World):(Op.equalIn (d+1) 3 a a).run Tz.prog w=.ok true w:=by
 rw[Op.equalIn,Sem.run_bind,run_underlying (Tz.aE Tryz.underlying3)];simp[go_sem]
def YA (m:Mv)(d:Nat)(w:World):(Op.equalIn (d+1+1) 31 (.agg #[m.name,m.ak,m.ap,m.bF,m.late,m.prom])<|.agg #[m.name,m.ak,m.ap,m.bF,m.late,m.prom]).run Tz.prog w=.ok true w:=by
 rw[Op.equalIn,Sem.run_bind,run_underlying (Tz.aE Tryz.underlying31)];simp only[Result.andThen];simp[Pn,part,go_sem,U0,UZ,Uh]
def Nd (m:Mv)(w:World):(Op.equal 31 (.agg #[m.name,m.ak,m.ap,m.bF,m.late,m.prom])<|.agg #[m.name,m.ak,m.ap,m.bF,m.late,m.prom]).run Tz.prog w=.ok true w:=YA m 9998 w
def Nq (m:Mv)(x y:Operand)(w:World):(eqGuard .neq 31 x y (.agg #[m.name,m.ak,m.ap,m.bF,m.late,m.prom])<|.agg #[m.name,m.ak,m.ap,m.bF,m.late,m.prom]).run Tz.prog w=.ok () w:=by
 simp[eqGuard,Nr,go_sem]
def Wd {ev:Operand->Value}{o:Oper}{x y:Operand}{u:TypeId}(ho:o.op=.binOp .neq 31 x y u){m:Mv}(hx:ev x=(.agg #[m.name,m.ak,m.ap,m.bF,m.late,m.prom]))(hy:ev y=(.agg #[m.name,m.ak,m.ap,m.bF,m.late,m.prom]))(w:World):(execOp ev o).run Tz.prog w=.ok (.value false) w:=by
 unfold execOp;rw[ho];have e:binOp .neq 31 (.agg #[m.name,m.ak,m.ap,m.bF,m.late,m.prom]) (.agg #[m.name,m.ak,m.ap,m.bF,m.late,m.prom])=(do pure (.bool<|!(<-Op.equal 31 (.agg #[m.name,m.ak,m.ap,m.bF,m.late,m.prom]) (.agg #[m.name,m.ak,m.ap,m.bF,m.late,m.prom])))):=rfl;simp[hx,hy,Nq,e,Nd,go_sem]
def FL (ao:Option Addr)(cap:Nat)(bo:Option Addr)(cap' n:Nat)(f:Nat->Mv)(w:World)(hn:n<=6)(h1:fL w ao n cap f)(h2:fL w bo n cap' f):
  Calls Tz.prog 48 #[.slice ao n cap,.slice bo n cap'] w λe w'=>e=.returned true/\Below w w w':=by
 go_enter Tz.func48,Tryz.ntmps48
 go_wp2;go_loopw [5] (λi w'=>∃k:Nat,k<=n/\i=.int .i64 k/\Below w w w') (λi _=>n-(intOf i).toNat)
 case atStart=>exact⟨0,ac8 _,rfl,acU _ _⟩
 case round=>
  obtain⟨k,hk,rfl,hB⟩:=hrel;by_cases ay:k<n
  .obtain⟨b,rfl,bz,am⟩:=h1.pos ab;obtain⟨b',rfl,bu,aP⟩:=h2.pos ab;let⟨c0,c1,c2,c3,c4,c5⟩:=am.below hB bz k ay;let⟨d0,d1,d2,d3,d4,d5⟩:=aP.below hB bu k ay;simp only[Nat.zero_add]at c0 c1 c2 c3 c4 c5 d0 d1 d2 d3 d4 d5;have dq:(k:Int)<n:=ab;have hne:=aF wr;have x0:=λx:ai wr=>x.cell c0
   have x1:=λx:ai wr=>x.cell c1
   have x2:=λx:ai wr=>x.cell c2
   have x3:=λx:ai wr=>x.cell c3
   have x4:=λx:ai wr=>x.cell c4
   have x5:=λx:ai wr=>x.cell c5
   have y0:=λx:ai wr=>x.cell d0
   have y1:=λx:ai wr=>x.cell d1
   have y2:=λx:ai wr=>x.cell d2
   have y3:=λx:ai wr=>x.cell d3
   have y4:=λx:ai wr=>x.cell d4
   have y5:=λx:ai wr=>x.cell d5
   go_wp2;refine aI ?_;repeat(go_big_quiet_step (fail))
   refine BigFrame.wpQuiet_want rfl λK hK=>⟨.bool false,λw' _=>?_,hK _<|wpQuiet_nil<|bL ?_⟩
   .unfold Oper.quietAt;rw[Wd rfl (m:=f k) rfl rfl];exact⟨rfl,rfl⟩
   .intro w1 bI;go_wp2;go_roundw
    case rel=>exact⟨k+1,ab,by go_num,hB.trans<|bI.mono hB.size⟩
    case measure=>exact bZ
  .go_wp2;go_ret;exact⟨rfl,hB⟩
def LR (ao:Option Addr)(cap:Nat)(bo:Option Addr)(cap' n:Nat)(t:Nat->Int)(w:World)(hn:n<=6)(h1:gF w ao n cap t)(h2:gF w bo n cap' t):
  Calls Tz.prog 49 #[.slice ao n cap,.slice bo n cap'] w λe w'=>e=.returned true/\Below w w w':=by
 by_cases h0:n=0
 .subst h0;exact IC ao bo cap cap' w
 .obtain⟨b,rfl,bz,am⟩:=h1.pos ab;obtain⟨b',rfl,bu,aP⟩:=h2.pos ab;exact ID b 0 cap b' 0 cap' n t w ab bz am bu aP
def aax (w:World)(ao:Option Addr)(n:Nat)(g:Nat->ByteArray):Prop:=0<n->∃b,ao=some ⟨b,0,none⟩/\b<w.heap.size/\∀i,i<n->w.cell? ⟨b,i,none⟩=some (.string<|g i)
def yV (now shift:Int)(ao:Option Addr)(n c:Nat)(f:Nat->Mv)(bo:Option Addr)(m d:Nat)(t:Nat->Int)(Du:Option Addr)(c':Nat)(Dv:Option Addr)(d':Nat)(w:World)(hn:n<=6)(hm:m<=6)(h1:fL w ao n c f)(h2:gF w bo m d t)(h3:fL w Du n c' f)(h4:gF w Dv m d' t):
  Calls Tz.prog 15 #[.agg #[now,shift,.slice ao n c,.slice bo m d],.agg #[now,shift,.slice Du n c',.slice Dv m d']] w λe w'=>e=.returned true/\Below w w w':=by
 obtain⟨W1,e1,k1,b1,-⟩:=cI w now shift ao n c bo m d;obtain⟨W2,e2,k2,b2,-⟩:=cI W1 now shift Du n c' Dv m d';have bW:=b1.trans<|b2.mono b1.size;have p1:=k1.same<|b2.block _ k1.lt;have yy:=p1.cells;have xx:=k2.cells;have H1:=FL ao c Du c' n f W2 hn (h1.below bW)<|h3.below bW;have H2:=λW (hW:Below w w W)=>LR bo d Dv d' m t W hm (h2.below hW)<|h4.below hW
 go_enter Tz.func15,Tryz.ntmps15
 go_wp2_with(first
  |(go_at_call 48;refine H1.mono ?_;clear H1;rintro e w3 ⟨rfl,b3⟩;have yy:=(p1.same<|b3.block _ p1.lt).cells;have xx:=(k2.same<|b3.block _ k2.lt).cells;have B3:=bW.trans<|b3.mono bW.size)
  |(go_at_call 49;refine(H2 _ B3).mono ?_;clear H2;rintro e w4 ⟨rfl,b4⟩))
 go_ret;exact⟨rfl,B3.trans<|b4.mono B3.size⟩
def gL (F:Nat->Mv)(l:Nat)(T:Nat->Int)(name:ByteArray)(k:Int):Prop:=k=-1/\(∀i,i<l->bJ (F i).name name=false)\/∃j,j<l/\k=T j/\bJ (F j).name name=true/\∀i,i<j->bJ (F i).name name=false
def Bt (now shift:Int)(ao:Option Addr)(n c:Nat)(f:Nat->Mv)(bo:Option Addr)(d:Nat)(t:Nat->Int)(name:ByteArray)(w:World)(hn:n<=6)(h1:fL w ao n c f)(h2:gF w bo n d t):
  Calls Tz.prog 27 #[.agg #[now,shift,.slice ao n c,.slice bo n d],name] w λe w'=>(∃k,e=.returned (.int .i64 k)/\gL f n t name k)/\Below w w w':=by
 obtain⟨W1,e1,k1,b1,-⟩:=cI w now shift ao n c bo n d;go_enter Tz.func27,Tryz.ntmps27
 go_wp2;go_loopw [5] (λx W=>∃k:Nat,x=.int .i64 k/\k<=n/\Below W1 W1 W/\∀i,i<k->bJ (f i).name name=false) (λx _=>n-(intOf x).toNat)
 case atStart=>exact⟨0,rfl,ac8 _,acU _ _,λi hi=>absurd hi<|ac7 _⟩
 case round=>
  obtain⟨k,rfl,hk,hb,cD⟩:=hrel;have uQ:=b1.trans<|hb.mono b1.size;have yy:=(k1.same<|hb.block _ k1.lt).cells;by_cases ay:k<n
  .have dq:(k:Int)<n:=by omega
   obtain⟨b,rfl,bz,am⟩:=h1.pos ab;obtain⟨b',rfl,bu,aP⟩:=h2.pos ab;have c0:=(am.below uQ bz k ay).c0;have d0:=aP.below uQ bu k ay;simp only[Nat.zero_add]at c0 d0;cases he:bJ (f k).name name with
   |true=>
    have Rr:((f k).name.toList==name.toList)=true:=he;go_wp2;all_goals try omega
    go_ret;exact⟨⟨_,rfl,.inr ⟨k,ay,rfl,he,cD⟩⟩,uQ⟩
   |false=>
    have Rr:((f k).name.toList==name.toList)=false:=he;go_wp2;all_goals try omega
    go_roundw
    case rel=>exact⟨k+1,by go_num,ab,hb,λi hi=>by
     by_cases e:i=k
     .subst e;exact he
     .exact cD i ab⟩
    case measure=>exact bZ
  .have dq:¬(k:Int)<n:=by omega
   go_wp2;all_goals try omega
   go_ret;exact⟨⟨-1,rfl,.inl ⟨rfl,λi hi=>cD i ab⟩⟩,uQ⟩
def nF (now shift:Int)(ao:Option Addr)(n c:Nat)(f:Nat->Mv)(bo:Option Addr)(m d:Nat)(zJ mG:Int)(Du:Option Addr)(l c':Nat)(F:Nat->Mv)(Dv:Option Addr)(d':Nat)(T:Nat->Int)(name:ByteArray)(w:World)(hn:n<=6)(hl:l<=6)(h1:fL w ao n c f)(h3:fL w Du l c' F)(h4:gF w Dv l d' T)
  (hP:∀i,i<n->∀k,gL F l T (f i).name k->bJ (f i).name name=false->0<=(f i).prom->0<=k->k=(f i).prom):
  Calls Tz.prog 21 #[.agg #[now,shift,.slice ao n c,.slice bo m d],.agg #[zJ,mG,.slice Du l c',.slice Dv l d'],name] w λe w'=>e=.returned true/\Below w w w':=by
 obtain⟨W1,e1,k1,b1,-⟩:=cI w now shift ao n c bo m d;obtain⟨W2,e2,k2,b2,-⟩:=cI W1 zJ mG Du l c' Dv l d';have bW:=b1.trans<|b2.mono b1.size;have p1:=k1.same<|b2.block _ k1.lt;replace hP:Hid _:=hP;go_enter Tz.func21,Tryz.ntmps21
 go_wp2;go_loopw [7] (λx W=>∃k:Nat,x=.int .i64 k/\k<=n/\Below W2 W2 W) (λx _=>n-(intOf x).toNat)
 case atStart=>exact⟨0,rfl,ac8 _,acU _ _⟩
 case round=>
  obtain⟨k,rfl,hk,hb⟩:=hrel;have uQ:=bW.trans<|hb.mono bW.size;have q1:=p1.same<|hb.block _ p1.lt;have q2:=k2.same<|hb.block _ k2.lt;let⟨y0,y1,y2,y3,y4⟩:=q1.cells;by_cases ay:k<n
  .have dq:(k:Int)<n:=by omega
   obtain⟨b,rfl,bz,am⟩:=h1.pos ab;let⟨c0,c1,c2,c3,c4,c5⟩:=am.below uQ bz k ay;simp only[Nat.zero_add]at c0 c1 c2 c3 c4 c5;let⟨Wm,em,hM,bm,zm⟩:=BJ wr<|f k;clear zm;let⟨m0,m1,m2,m3,m4,m5⟩:=eD hM;let⟨x0,x1,x2,x3,x4⟩:=(q2.same<|bm.block _ q2.lt).cells;have HT:=Bt zJ mG Du l c' F Dv d' T (f k).name Wm hl (h3.below<|uQ.trans<|bm.mono uQ.size)<|h4.below<|uQ.trans<|bm.mono uQ.size;have lM:=(ac5.1 hM).1;have gN:∀w3,Below Wm Wm w3->(∃m_:Nat,Value.int .i64 ((k:Int)+1)=.int .i64 (m_:Int)/\m_<=n/\Below W2 W2 w3)/\n-(intOf<|.int .i64<|(k:Int)+1).toNat<n-(intOf<|.int .i64 (k:Int)).toNat:=λw3 b3=>⟨⟨k+1,by go_num,ab,(hb.trans<|bm.mono hb.size).trans<|b3.mono<|ac6 hb.size bm.size⟩,bZ⟩
   replace gN:Hid _:=gN;cases he:bJ (f k).name name;all_goals
    replace he:((f k).name.toList==name.toList)=_:=he;go_wp2_with(go_at_call 27;refine HT.mono ?_;clear HT;rintro e w3 ⟨⟨kk,rfl,F4⟩,b3⟩;have F4:Hid (bJ (f k).name name=false->0<=(f k).prom->0<=kk->kk=(f k).prom):=hP.out k ay kk F4;let⟨m0,m1,m2,m3,m4,m5⟩:=eD<|hM.keep<|b3.block _ lM)
    all_goals first
     |exact gN.out w3 b3
     |(exfalso;omega)
     |(exfalso;have e:=F4.out he ab ab;rename_i h;simp[e]at h)
  .have dq:¬(k:Int)<n:=by omega
   go_wp2;all_goals try omega
   go_ret;exact⟨rfl,uQ⟩
def zW (now shift:Int)(ao:Option Addr)(n c:Nat)(f:Nat->Mv)(bo:Option Addr)(m d:Nat)(zJ mG:Int)(Du:Option Addr)(l c':Nat)(F:Nat->Mv)(Dv:Option Addr)(d':Nat)(T:Nat->Int)(w:World)(hn:n<=6)(hl:l<=6)(h1:fL w ao n c f)(h3:fL w Du l c' F)(h4:gF w Dv l d' T)
  (hP:∀i,i<n->∀k,gL F l T (f i).name k->0<=(f i).prom->0<=k->k=(f i).prom):
  Calls Tz.prog 19 #[.agg #[now,shift,.slice ao n c,.slice bo m d],.agg #[zJ,mG,.slice Du l c',.slice Dv l d']] w λe w'=>e=.returned true/\Below w w w':=by
 obtain⟨W1,e1,k1,b1,-⟩:=cI w now shift ao n c bo m d;obtain⟨W2,e2,k2,b2,-⟩:=cI W1 zJ mG Du l c' Dv l d';have bW:=b1.trans<|b2.mono b1.size;have yy:=(k1.same<|b2.block _ k1.lt).cells;have xx:=k2.cells;have H1:=nF now shift ao n c f bo m d zJ mG Du l c' F Dv d' T ⟨#[]⟩ W2 hn hl (h1.below bW) (h3.below bW) (h4.below bW) λi hi k hk _=>hP i hi k hk;clear hP;go_enter Tz.func19,Tryz.ntmps19
 go_wp2_with(go_at_call 21;refine H1.mono ?_;clear H1;rintro e w3 ⟨rfl,b3⟩)
 go_ret;exact⟨rfl,bW.trans<|b3.mono bW.size⟩
def eI.one {k k':Int}(h:eI f n name k)(h':eI f n name k'):k=k':=by
 rcases h with⟨rfl,h⟩|⟨j,rfl,hj,hs,hf⟩<;>rcases h' with⟨rfl,h'⟩|⟨j',rfl,hj',mL,NH⟩
 .rfl
 .rw[h j' hj']at mL;cases mL
 .rw[h' j hj]at hs;cases hs
 .rcases Nat.lt_trichotomy j j' with h|h|h
  .rw[NH j h]at hs;cases hs
  .rw[h]
  .rw[hf j' h]at mL;cases mL
def kP.one {Ag Ah c c':Int}{l' o':Nat}{F':Nat->Mv}{T':Nat->Int}{GL':List Nat}(h:kP f n t m now shift a0 a1 l F o T GL c)(h':kP f n t m now shift Ag Ah l' F' o' T' GL' c'):a0=Ag/\a1=Ah/\l=l'/\F=F'/\o=o'/\T=T'/\GL=GL'/\c=c':=by
 cases h with
 |bad h=>cases h' with
  |bad _=>exact⟨rfl,rfl,rfl,rfl,rfl,rfl,rfl,rfl⟩
  |last h'=>rw[h]at h';cases h'
  |yes h'=>rw[h]at h';cases h'
 |last h hn=>cases h' with
  |bad h'=>rw[h]at h';cases h'
  |last _ _=>exact⟨rfl,rfl,rfl,rfl,rfl,rfl,rfl,rfl⟩
  |yes _ P2=>exact absurd hn P2
 |yes h hn=>cases h' with
  |bad h'=>rw[h]at h';cases h'
  |last _ P2=>exact absurd P2 hn
  |yes _ _=>exact⟨rfl,rfl,rfl,rfl,rfl,rfl,rfl,rfl⟩
def lD (hm:az f n=true)(hi:i<n)(hj:j<n)(h:bJ (f i).name (f j).name=true):i=j:=by
 rcases Nat.lt_trichotomy i j with hl|hl|hl
 .have:=jN hm j hj i hl;rw[(qx h).1,pR]at this;cases this
 .exact hl
 .have:=jN hm i hi j hl;rw[(qx h).2,pR]at this;cases this
def iy {m:Mv}{t:Int}:m.eM t=true<->m.bF<=t/\t<=m.late/\(m.prom=-1\/m.prom=t):=by
 unfold Mv.eM qe;simp only[Bool.and_eq_true,Bool.or_eq_true,beq_iff_eq,d6,and_assoc]
def mh {m:Mv}{gZ t:Int}(h:(ft m gZ).eM t=true):m.eM t=true/\(m.prom=-1->gZ<=t):=by
 rw[iy]at h⊢;unfold ft at h;split at h
 .rename_i hp;simp only at h;exact⟨⟨ab,h.2.1,.inl hp⟩,λ_=>ab⟩
 .rename_i hp;exact⟨h,λe=>absurd e hp⟩
def HH (a b:Mv)(gZ s t:Int):(ft a gZ).fF (ft b gZ) s t=a.fF b s t:=by
 unfold ft;split<;>split<;>rfl
def Ld (a b:Mv)(x y x' y' s t:Int):(bf a x y).fF (bf b x' y') s t=a.fF b s t:=by
 unfold bf;split<;>split<;>rfl
def FI {f:Nat->Mv}{t:Nat->Int}{p:Nat}:∀{k i:Nat},i<k->t p<=t i->eT f t p i∈al f t p k
 |0,i,h,_=>absurd h (ac7 _)
 |k+1,i,h,ht=>by
  simp only[al];by_cases e:i=k
  .subst e;rw[if_neg ab];simp
  .have:=FI (f:=f) (k:=k) (i:=i) ab ht;split
   .exact this
   .exact List.mem_append_left _ this
def sw (hm:az f n=true)(hf:dU f t n)(hp:p<n)(hT:cY f n t p=some T):(∀j,j<(al f t p n).length->(ft (im (al f t p n) j)<|t p+4).eM (T j)=true)/\eC (im<|al f t p n) (al f t p n).length T (al f t p n).length=true:=by
 have hl:=OT hT;rw[HU hm hf hp hl]at hT;have hF:=(D7 hT).fits;let⟨_,_,h1,h2⟩:=nY hF;have h6:(al f t p n).length<=6:=ac6 (jv _ _ _ _)<|bP hm;have pb:az (im<|al f t p n) (al f t p n).length=true:=sj h6 (λi hi=>sx hm hf hp hl hi) (λ_ _=>rfl)<|(so hm).sublist<|qf f t p n;refine⟨λj hj=>h1 j hj,(fV pb).2 ⟨λj hj=>(mh<|h1 j hj).1,λj k hk hj=>?_⟩⟩;have:=h2 j k hk hj;rw[<-HH _ _ (t p+4)];exact this
def Dg (hj:j<(al f t p n).length):∃i,i<n/\t p<=t i/\im (al f t p n) j=eT f t p i:=kL<|wl hj
def CX (hf:dU f t n)(hi:i<n)(h0:0<=(f i).prom)(now:Int):(bf (f i) (t i) now).prom=(f i).prom/\(f i).prom=t i:=by
 have:=(iy.1<|hf.1 i hi).2.2;have e:(f i).prom=t i:=ab;unfold bf;split
 .exact⟨e.symm,e⟩
 .exact⟨rfl,e⟩
def H0 (hb:aM now shift f n t n=true)(hp:p<n)(ht:t p=now)(hT:cY f n t p=some T):aM now shift (im<|al f t p n) (al f t p n).length T (al f t p n).length=true:=by
 let⟨hm,_,hf⟩:=bG hb;let⟨r1,r2,_⟩:=nU hb;let⟨h1,h2⟩:=sw hm hf hp hT;refine mY (d6.2 r1) (d6.2 r2) h2<|qz λj hj=>?_;let⟨hs,fM⟩:=mh<|h1 j hj;let⟨i,hi,XO,e⟩:=Dg hj;rw[e]at hs fM⊢;have hs:=iy.1 hs;by_cases TC:(eT f t p i).prom=-1
 .have:=fM TC;simp[fD];omega
 .have Ri:(eT f t p i).prom=T j:=by omega
  have:now<=T j:=by
   rw[<-Ri];unfold eT at TC⊢;split
   .rename_i e;rw[if_pos e]at TC;exact absurd rfl TC
   .rename_i e;rw[if_neg e]at TC;unfold bf at TC⊢;split
    .show now<=t i;omega
    .rename_i h;rw[if_neg h]at TC;have:=(iy.1<|hf.1 i hi).2.2;omega
  simp[fD,TC];omega
def H6 (hm:az f n=true)(hf:dU f t n)(hp:p<n)(hT:cY f n t p=some T)(hs:bJ (f p).name name=true):∀i,i<n->∀k,gL (im<|al f t p n) (al f t p n).length T (f i).name k->bJ (f i).name name=false->0<=(f i).prom->0<=k->k=(f i).prom:=by
 intro i hi k hk hne h0 uS;rcases hk with⟨rfl,_⟩|⟨j,hj,rfl,lg,_⟩
 .omega
 .let⟨i0,F1,XO,e⟩:=Dg hj;rw[e,mi]at lg;obtain rfl:=lD hm F1 hi lg;have Rw:i0≠p:=λe=>by subst e;rw[hs]at hne;cases hne
  have h:=(mh<|(sw hm hf hp hT).1 j hj).1;rw[e,qE Rw]at h;have hq:=CX hf hi h0<|t p;have:=(iy.1 h).2.2;omega
def H9 (hm:az f n=true)(hf:dU f t n)(hp:p<n)(hT:cY f n t p=some T)(hs:bJ (f p).name name=true){k:Int}(hk:gL (im<|al f t p n) (al f t p n).length T name k):t p+6<=k:=by
 rcases hk with⟨_,lQ⟩|⟨j,hj,rfl,lg,_⟩
 .let⟨j,hj,e⟩:=List.getElem_of_mem<|FI (f:=f) hp<|Int.le_refl<|t p;have:=lQ j hj;rw[qs hj,e,mi,hs]at this;cases this
 .let⟨i0,F1,XO,e⟩:=Dg hj;rw[e,mi]at lg;obtain rfl:=lD hm F1 hp<|sz lg<|nv hs;have h:=(mh<|(sw hm hf hp hT).1 j hj).1;rw[e,tT]at h;exact(iy.1 h).1
def Bc (now:Int)(t:Nat->Int):∀n,(stay now t n).length+(gone now t n).length=n
 |0=>rfl
 |n+1=>by
  have:=Bc now t n;simp only[stay,gone];split<;>simp<;>omega
def xr:∀{k i:Nat},i∈gone now t k->i<k/\t i=now
 |0,i,h=>by simp[gone]at h
 |k+1,i,h=>by
  simp only[gone]at h;split at h
  .rename_i he;rcases adv.1 h with h|h
   .have:=xr h;exact⟨ab,this.2⟩
   .simp at h;subst h;exact⟨ab,he⟩
  .have:=xr h;exact⟨ab,this.2⟩
def K6 (a b:Mv)(s:Int):a.fF b s s=true:=by
 unfold Mv.fF yi;have:=fO a.ak a.ap b.ap;simp;omega
def Ea {f:Nat->Mv}{t:Nat->Int}{now:Int}:∀{n:Nat},dU f t n->(gone now t n).length<=1
 |0,_=>by simp[gone]
 |n+1,h=>by
  have h':dU f t n:=⟨λj hj=>h.1 j ab,λj k hk hj=>h.2 j k hk ab⟩;have:=Ea (now:=now) h';simp only[gone];split
  .rename_i e;cases hg:gone now t n with
   |nil=>simp
   |cons i l=>
    obtain⟨h1,h2⟩:=xr (i:=i) (by rw[hg];simp);have h3:=h.2 n i h1 ab;rw[h2,e,K6]at h3;cases h3
  .exact this
def qB (now:Int)(t:Nat->Int):∀n,stay now t n=(List.range n).filter (λk=>!decide (t k=now))
 |0=>rfl
 |n+1=>by
  simp only[stay,List.range_succ,List.filter_append,<-qB now t n];split<;>simp[*]
def BA (f:Nat->Mv)(t:Nat->Int)(p:Nat):∀n,al f t p n=((List.range n).filter λk=>!decide (t k<t p)).map (eT f t p)
 |0=>rfl
 |n+1=>by
  simp only[al,List.range_succ,List.filter_append,List.map_append,<-BA f t p n];split<;>simp[*]
def Db (kq:i<j)(hj:j<(stay now t n).length):qj (stay now t n) i<qj (stay now t n) j:=by
 rw[oC ab,oC hj];have h:((List.range n).filter λk=>!decide (t k=now)).Pairwise (·<·):=List.Pairwise.filter _ List.pairwise_lt_range;rw[<-qB]at h;exact List.pairwise_iff_getElem.1 h i j ab hj kq
def T7 (f:Nat->Mv)(t:Nat->Int)(now:Int)(n:Nat):Nat->Mv:=im<|(stay now t n).map λi=>bf (f i) (t i)<|now+1
def T8 (t:Nat->Int)(now:Int)(n:Nat):Nat->Int:=λj=>((stay now t n).map t).getD j 0
def mI (hj:j<(stay now t n).length):T7 f t now n j=bf (f<|qj (stay now t n) j) (t<|qj (stay now t n) j) (now+1):=by
 unfold T7;rw[qs (by simpa using hj),oC hj];simp
def mJ (hj:j<(stay now t n).length):T8 t now n j=t (qj (stay now t n) j):=by
 unfold T8;rw[oC hj];simp[hj]
def iO (hj:j<(stay now t n).length):qj (stay now t n) j<n/\t (qj (stay now t n) j)≠now:=by
 rw[oC hj];exact yR<|List.getElem_mem hj
def JQ (hb:aM now shift f n t n=true)(hi:i<n):now<=t i:=by
 have h:=(nU hb).2.2;apply ads;intro hc;rw[qb hi (by simp[fD];omega)]at h;cases h
def Bo (hb:aM now shift f n t n=true)(hne:now≠10000):aM (now+1) shift (T7 f t now n) (stay now t n).length (T8 t now n) (stay now t n).length=true:=by
 let⟨hm,_,hf⟩:=bG hb;let⟨r1,r2,_⟩:=nU hb;have h6:(stay now t n).length<=6:=ac6 (yQ now t n)<|bP hm;have pb:az (T7 f t now n) (stay now t n).length=true:=by
  have:=sj (g:=T7 f t now n) (l:=(stay now t n).map λi=>bf (f i) (t i)<|now+1) (by simpa using h6) (λi hi=>?_) (λ_ _=>rfl) ?_
  .simpa using this
  .simp only[List.length_map]at hi;rw[mI hi];exact R5 hm hf (iO hi).1
  .have e:((stay now t n).map λi=>bf (f i) (t i)<|now+1).map Mv.name=(stay now t n).map λi=>(f i).name:=by
    rw[List.map_map];apply List.map_congr_left;intro i _;simp only[Function.comp];unfold bf;split<;>rfl
   rw[e,qB];exact(so hm).sublist<|List.filter_sublist.map _
 refine mY (d6.2 ab) (d6.2 r2) ((fV pb).2 ⟨λj hj=>?_,λj k hk hj=>?_⟩)<|qz λj hj=>?_
 .rw[mI hj,mJ hj];have h:=iy.1<|hf.1 _ (iO hj).1;rw[iy];unfold bf;split
  .exact⟨h.1,h.2.1,.inr rfl⟩
  .exact h
 .rw[mI hj,mI ab,mJ hj,mJ ab,Ld];exact hf.2 _ _ (Db hk hj) (iO hj).1
 .rw[mI hj,mJ hj];have h1:=JQ hb (iO hj).1;have h2:=(iO hj).2;unfold bf;split
  .simp[fD];omega
  .simp[fD];omega
def LI (hb:aM now shift f n t n=true):∀i,i<n->∀k,gL (T7 f t now n) (stay now t n).length (T8 t now n) (f i).name k->0<=(f i).prom->0<=k->k=(f i).prom:=by
 let⟨hm,_,hf⟩:=bG hb;intro i hi k hk h0 uS;rcases hk with⟨rfl,_⟩|⟨j,hj,rfl,lg,_⟩
 .omega
 .rw[mI hj]at lg;have e:(bf (f<|qj (stay now t n) j) (t<|qj (stay now t n) j)<|now+1).name=(f<|qj (stay now t n) j).name:=by unfold bf;split<;>rfl
  rw[e]at lg;have:=lD hm (iO hj).1 hi lg;rw[mJ hj,this];exact(CX hf hi h0 0).2.symm
def LK (hb:aM now shift f n t n=true){q:Nat}(hq:q<(stay now t n).length):al (T7 f t now n) (T8 t now n) q (stay now t n).length=al f t (qj (stay now t n) q) n:=by
 have KJ:now+1<=t (qj (stay now t n) q):=by
  have:=JQ hb (iO hq).1;have:=(iO hq).2;omega
 have e1:(List.range n).filter (λk=>!decide (t k<t (qj (stay now t n) q)))=(stay now t n).filter (λk=>!decide (t k<t (qj (stay now t n) q))):=by
  rw[qB,List.filter_filter];apply List.filter_congr;intro k _;by_cases h:t k<t (qj (stay now t n) q)
  .rw[<-qB];simp[h]
  .rw[<-qB];have:t k≠now:=ab;simp[h,this]
 rw[BA,BA,e1];have e2:=AX<|stay now t n;generalize hS:stay now t n=S at*;rw[show S.filter (λk=>!decide (t k<t (qj S q)))=((List.range S.length).map<|qj S).filter (λk=>!decide (t k<t (qj S q))) from by rw[e2]];rw[List.filter_map,List.map_map];have e3:(List.range S.length).filter (λk=>!decide (T8 t now n k<T8 t now n q))=(List.range S.length).filter ((λk=>!decide (t k<t (qj S q)))∘qj S):=by
  apply List.filter_congr;intro k hk;have hk:k<S.length:=List.mem_range.1 hk;simp only[Function.comp];rw[mJ (by rw[hS];exact hk),mJ (by rw[hS];exact hq),hS]
 rw[e3];apply List.map_congr_left;intro k hk;have hk:k<S.length:=List.mem_range.1 (List.mem_filter.1 hk).1;simp only[Function.comp];unfold eT;have od:=hk;have Jk:=hq;rw[<-hS]at od Jk;rw[mI od,mI Jk,mJ od,mJ Jk,hS];by_cases e:k=q
 .subst e;rw[if_pos rfl,if_pos rfl];unfold rE bf;split<;>rfl
 .have hne:qj S k≠qj S q:=by
   rcases Nat.lt_or_gt_of_ne e with h|h
   .have:=Db (now:=now) (t:=t) (n:=n) h (by rw[hS];exact hq);rw[hS]at this;omega
   .have:=Db (now:=now) (t:=t) (n:=n) h (by rw[hS];exact hk);rw[hS]at this;omega
  rw[if_neg e,if_neg hne];unfold bf;split<;>split<;>first|rfl|(exfalso;omega)|simp_all
def LJ (hb:aM now shift f n t n=true)(hs:tO f n t):tO (T7 f t now n) (stay now t n).length (T8 t now n):=by
 intro q hq hl;have h1:=(iO (t:=t) (now:=now) (n:=n) hq).1;rw[mI hq]at hl;have lZ:(f<|qj (stay now t n) q).ak=true:=by unfold bf at hl;split at hl<;>exact hl
 have h:=hs _ h1 lZ;unfold cY at h⊢;rw[LK hb hq,mJ hq,mI hq];have e:(bf (f<|qj (stay now t n) q) (t<|qj (stay now t n) q)<|now+1).late=(f<|qj (stay now t n) q).late:=by unfold bf;split<;>rfl
 rw[e];exact h
def LG {k:Int}(hs:dG now shift f n t m=true)(hk:eI f n name k):mE f n t now k≠.inl 5:=by
 intro h;have DD:tO f n t:=by
  unfold dG at hs;simp only[Bool.and_eq_true,decide_eq_true_eq]at hs;exact hs.2
 unfold mE at h;split at h
 .cases h
 .rename_i h0;rcases hk with⟨rfl,_⟩|⟨j,rfl,hj,_,_⟩
  .omega
  .simp only[Int.toNat_natCast]at h;split at h
   .cases h
   .rename_i hl;split at h
    .have:=DD j hj (by simpa using hl);split at h
     .rename_i hr;rw[hr]at this;cases this
     .cases h
    .cases h
def uJ.law (h:uJ f n t m now shift name a0 a1 l F o T cd):(dG now shift f n t m=true->cd≠5)/\(1<cd->a0=now/\a1=shift/\l=n/\F=f/\o=m/\T=t)/\(cd=0->a0=now/\aM a0 a1 F l T l=true/\(∀i,i<n->∀k,gL F l T (f i).name k->bJ (f i).name name=false->0<=(f i).prom->0<=k->k=(f i).prom)/\∀k,gL F l T name k->now+6<=k):=by
 cases h with
 |bad hb=>exact⟨λ_=>ab,λh=>ab,λh=>ab⟩
 |no hb hk hr=>exact⟨λhs e=>LG hs hk<|e▸hr,λ_=>⟨rfl,rfl,rfl,rfl,rfl,rfl⟩,λh=>absurd (OO hr) ab⟩
 |yes hb hk hr=>
  let⟨hp,hl,ht,hT,hs⟩:=OP hk hr;let⟨hm,uU,hf⟩:=bG hb;subst uU;refine⟨λ_=>ab,λh=>ab,λ_=>⟨rfl,H0 hb hp ht hT,H6 hm hf hp hT hs,λk hk=>?_⟩⟩;have:=H9 hm hf hp hT hs hk;omega
def kP.law (h:kP f n t m now shift a0 a1 l F o T GL cd):GL.length<=1/\(cd=0->aM a0 a1 F l T l=true/\(∀i,i<n->∀k,gL F l T (f i).name k->0<=(f i).prom->0<=k->k=(f i).prom)/\l+GL.length=n/\(dG now shift f n t m=true->dG a0 a1 F l T l=true)):=by
 cases h with
 |bad hb=>exact⟨aG,λh=>ab⟩
 |last hb=>exact⟨aG,λh=>ab⟩
 |yes hb hne=>
  let⟨hm,uU,hf⟩:=bG hb;subst uU;refine⟨Ea hf,λ_=>⟨Bo hb hne,LI hb,Bc now t m,λhs=>nE (Bo hb hne)<|LJ hb ?_⟩⟩;unfold dG at hs;simp only[Bool.and_eq_true,decide_eq_true_eq]at hs;exact hs.2
