import Derived.Test.YtlmcblcijndipaaGreatDoorj47
set_option linter.defProp false
set_option linter.unusedVariables false
set_option linter.unusedSectionVars false
set_option linter.unusedSimpArgs false
set_option maxHeartbeats 8000000
set_option maxRecDepth 100000
namespace Go.Proofs.YtlmcblcijndipaaGreatDoor
open Conc RowKit
variable {a:Act}{ops:Array Oper}{Q:Exit->Act->World->Prop}{N c2 c3 fuel l:Nat}{T:Nat->Int}{F:Nat->Mv}{oi:Oper}{s2 s3:Option Addr}{P:Program}{p:Prop}{md:Region.Mode}{W w:World}{S:World->Prop}
section
variable {a0 a1:Int}
def IZ (h1:fL W s2 l c2 F)(h2:gF W s3 l c3 T)(hs:aM a0 a1 F l T l=true):Bq W a0 a1 s2 l c2 F s3 l c3 T:=by
 let⟨hm,_,hf⟩:=bG hs;let⟨r1,r2,_⟩:=nU hs;have h6:=bP hm;refine⟨h6,h6,h1,h2,λh=>?_,λi hi=>CN<|aW hm i hi⟩;have:l=0:=h.elim (λh=>(h1.1 h).1) λh=>(h2.1 h).1;exact⟨this,this,r1,r2⟩
def wF (h1:fL W s2 l c2 F)(h2:gF W s3 l c3 T)(hs:dG a0 a1 F l T l=true):Bq W a0 a1 s2 l c2 F s3 l c3 T:=IZ h1 h2 (ez hs).1
def IB (ao bo:Option Addr)(c d:Nat)(w:World):Calls Tz.prog 17 #[.slice ao 0 c,.slice bo 0 d] w λe w'=>e=.returned true/\Below w w w':=by
 go_enter Tz.func17,Tryz.ntmps17
 go_wp2;go_loopw [5] (λi w'=>i=.int .i64 0/\w'=w) (λ_ _=>0)
 case atStart=>exact⟨rfl,rfl⟩
 case round=>
  obtain⟨rfl,rfl⟩:=hrel;go_wp2;go_ret;exact⟨rfl,acU _ _⟩
def LQ (h1:fL W s2 l c2 F)(h2:gF W s3 l c3 T)(hs:dG a0 a1 F l T l=true):Calls Tz.prog 17 #[.slice s2 l c2,.slice s3 l c3] W λe w'=>e=.returned true/\Below W W w':=by
 by_cases h0:l=0
 .subst h0;exact IB _ _ _ _ W
 .obtain⟨b,rfl,hb,hr⟩:=h1.pos ab;obtain⟨b',rfl,dt,fH⟩:=h2.pos ab;let⟨hm,_,hf⟩:=bG (ez hs).1;exact LP b 0 l c2 F b' 0 c3 T W hb hr dt fH hm hf
end
def ii {listed:Array Bool}(i:Nat)(v:Value)(d:Nat)(ev:Operand->Value)(hi:ops[i]?=some oi)(hy:∀w',S w'->(execOp ev oi).run P w'=.ok (.value v) w')(hS:S w)
  (h:wpAnyH P md ops Q S fuel (listed.setIfInBounds i true) (a.put (some d) v) w)(he:execOp a.eval oi=execOp ev oi:=by kernel_rfl)(hd:oi.dst=some d:=by rfl)(hs:Region.noSelect ops=true:=by kernel_rfl)(hf:Region.free md ops listed i=true:=by kernel_rfl)(hr:(Region.ready md ops listed).contains i=true:=by kernel_rfl)(hw:Region.wanted oi (yielded ops a.tmps)=true:=by kernel_rfl)
  (hQ:∀c a w,Q (.panic c) (a.put (some d) v) w->Q (.panic c) a w:=by first|exact λ_ _ _ h=>h|exact λ_ _ _ h=>nomatch h.1):wpAnyH P md ops Q S (fuel+1) listed a w:=
 aq i v d hi (λw' hw=>by rw[he];exact hy w' hw) hS h hd hs hf hr hw hQ
def lI {listed:Array Bool}(i:Nat)(v:Value)(d:Nat)(hi:ops[i]?=some oi)(hS:S w)
  (h:wpAnyH P md ops Q S fuel (listed.setIfInBounds i true) (a.put (some d) v) w)(hy:∀w',(execOp a.eval oi).run P w'=.ok (.value v) w':=by intro;kernel_rfl)(hd:oi.dst=some d:=by rfl)(hs:Region.noSelect ops=true:=by kernel_rfl)(hf:Region.free md ops listed i=true:=by kernel_rfl)(hr:(Region.ready md ops listed).contains i=true:=by kernel_rfl)(hw:Region.wanted oi (yielded ops a.tmps)=true:=by kernel_rfl)
  (hQ:∀c a w,Q (.panic c) (a.put (some d) v) w->Q (.panic c) a w:=by first|exact λ_ _ _ h=>h|exact λ_ _ _ h=>nomatch h.1):wpAnyH P md ops Q S (fuel+1) listed a w:=
 aq i v d hi (λw' _=>hy w') hS h hd hs hf hr hw hQ
def Bh (h:p:=by intro w' hSw;let⟨y0,y1,y2,y3,y4⟩:=(b5.out _ hSw).cells;let⟨c0,c1,c2,c3,c4,c5⟩:=cM.out _ hSw i ay;have cT:=cT.out _ hSw;simp only[Nat.zero_add]at c0 c1 c2 c3 c4 c5;go_simp):p:=h
def Xa (h:p:=by intro w' hSw;let⟨y0,y1,y2,y3,y4⟩:=(o7.out _ hSw).cells;have c0:=(cX.out _ hSw m ZE).c0;simp only[Nat.zero_add]at c0;go_simp):p:=h
def Iw (h:p:=by intro w' hSw;let⟨y0,y1,y2,y3,y4⟩:=(o7.out _<|l8.out _ hSw).cells;let⟨x0,x1,x2,x3,x4⟩:=(XZ.out _ hSw).cells;have c0:=(cX.out _ (l8.out _ hSw) m ZE).c0;simp only[Nat.zero_add]at c0;go_simp):p:=h
def vZ (h:p:=by intro w' hSw;go_simp):p:=h
def X' {s:Option Addr}{c:Nat}{g:Nat->ByteArray}(h:W.ownsRow N 9 1 (.slice s l c) l (zU g l)):aax W s l g:=by
 intro h0;let⟨a,c',e,h1,h2⟩:=uw h;cases e;cases s with
 |none=>exact absurd (h1 rfl).1 ab
 |some ad=>
  obtain⟨b,rfl,hb⟩:=h2 ad rfl;exact⟨b,rfl,hb,λi hi=>by rw[h.cellAt i ab];simp[zU,hi]⟩
def J7.sr {w':World}{lo:Nat}{o:Nat}(h:J7 w lo s2 l c2 F s3 o c3 T)(z:w.heap.size<=w'.heap.size)(e:∀k,lo<=k->w'.heap[k]?=w.heap[k]?):fL w' s2 l c2 F/\gF w' s3 o c3 T:=by
 rcases h with⟨rfl,rfl,rfl,rfl,rfl,rfl⟩|⟨b,b',rfl,rfl,h1,h2,h3⟩
 .exact⟨⟨λ_=>⟨rfl,rfl⟩,(λ_ h=>nomatch h)⟩,⟨λ_=>⟨rfl,rfl⟩,(λ_ h=>nomatch h)⟩⟩
 .exact⟨⟨(λh=>nomatch h),λad had=>by cases had;exact⟨b,rfl,ac4 (fB h1).2.1 z,dA (dW h1)<|e b (fB h1).1⟩⟩,⟨(λh=>nomatch h),λad had=>by cases had;exact⟨b',rfl,ac4 h3.lt z,(h3.same<|e b' h3.1).2.2⟩⟩⟩
def GB {b0 b1:Int}{l2:Nat}{l3:Nat}(Out:Int->Int->Nat->(Nat->Mv)->Nat->(Nat->Int)->Prop)
  (of_:∀W',(∀k,N<=k->k<W.heap.size->W'.heap[k]?=W.heap[k]?)->∃a0 a1 l F o T,Out a0 a1 l F o T/\J6 W' (.agg #[.int .i64 b0,.int .i64 b1,.slice s2 l2 c2,.slice s3 l3 c3]) a0 a1 l F o T)
  (one:∀a0 a1 l F o T Ag Ah l' F' o' T',Out a0 a1 l F o T->Out Ag Ah l' F' o' T'->F=F'/\T=T'):∃F T,Out b0 b1 l2 F l3 T/\l3<=c3/\∀W',(∀k,N<=k->k<W.heap.size->W'.heap[k]?=W.heap[k]?)->fL W' s2 l2 c2 F/\gF W' s3 l3 c3 T:=by
 have h:∀W',(∀k,N<=k->k<W.heap.size->W'.heap[k]?=W.heap[k]?)->∃F T,Out b0 b1 l2 F l3 T/\l3<=c3/\fL W' s2 l2 c2 F/\gF W' s3 l3 c3 T:=λW' hW=>by
  let⟨a0,a1,l,F,o,T,h1,_,_,_,_,e,h2,h3,h4⟩:=of_ W' hW;simp only[Value.agg.injEq,Array.mk.injEq,List.cons.injEq,Value.int.injEq,Value.slice.injEq,true_and,and_true]at e;obtain⟨rfl,rfl,⟨rfl,rfl,rfl⟩,rfl,rfl,rfl⟩:=e;exact⟨F,T,h1,h4,h2,h3⟩
 let⟨F,T,h1,h2,_⟩:=h W λ_ _ _=>rfl
 refine⟨F,T,h1,h2,λW' hW=>?_⟩;let⟨F',T',h3,_,h4⟩:=h W' hW;obtain⟨rfl,rfl⟩:=one _ _ _ _ _ _ _ _ _ _ _ _ h1 h3;exact h4
structure Tp (U:World)(B:Nat)(now shift:Int)(ao:Option Addr)(n cp:Nat)(f:Nat->Mv)(bo:Option Addr)(dp:Nat)(t:Nat->Int)(W:World):Prop where
 bl:Bl U.heap.size U W
 bk:aT W B now shift (.slice ao n cp) (.slice bo n dp)
 sm:fL W ao n cp f
 si:gF W bo n dp t
 room:n<=dp
 sure:dG now shift f n t n=true
def Tp.to {U W':World}{B:Nat}{now shift:Int}{ao:Option Addr}{n cp:Nat}{f:Nat->Mv}{bo:Option Addr}{dp:Nat}{t:Nat->Int}(h:Tp U B now shift ao n cp f bo dp t W)(b:Bl W.heap.size W W'):Tp U B now shift ao n cp f bo dp t W':=⟨h.bl.trans b h.bl.size,h.bk.same<|b.block _ h.bk.lt,h.sm.bl b,h.si.bl b,h.room,h.sure⟩
def HJ (n:Nat):Code->Array Oper
 |.region id ops _=>if id=n then ops else#[]
 |.seq x y=>HJ n x++HJ n y
 |.cond _ x y=>HJ n x++HJ n y
 |.block _ x=>HJ n x
 |.loop x=>HJ n x
 |_=>#[]
def I':Kg (HJ 28<|Tryz.f3.body.getD .skip) 7 (λx=>(Array.range 14).map λj=>decide (7<=j)&&!(x&&j==11)) (λx=>(Array.range 14).map λj=>decide (j<=7)||(x&&j==11)) 15 (Array.replicate 14 false) []=true:=bj
structure InT (ok:Ctx):Prop where
 sa:ok.aX 8=true
 sd:ok.aX 10=true
 gm:ok.aX 287=true
section
variable [g:Gl]{ok:Ctx}{c:Frame}
def PD (E:dM Tz.prog ok c bY)(hL:ok.aX 3=true)(I:InR ok)(J:InC ok)(Z:InT ok)(vP:g.ov=283){V:World}{a:Option Addr}{cap:Nat}{cd:Nat->Int}(h:tV V a l cd)(xE:l<=cap):
  aj Tz.prog ok c bY (λv V'=>v=.bool true/\Bl V.heap.size V V') ⟨Frame.enter Tz.prog 3 #[.slice a l cap] .normal,[],V⟩:=by
 have G6:Hid (∀(x:Act) (w':World) (todo:List Item),Bl V.heap.size V w'->x.defers=[]->x.tmps[2]?=some (.bool true)->aj Tz.prog ok c bY (λv V'=>v=.bool true/\Bl V.heap.size V V') ⟨{(base 3).at x todo with mode:=.returning},[],w'⟩):=by
  rintro x w' todo h1 h2 h3;refine aj.ends (λτ d=>⟨rfl,.bool true,⟨rfl,h2,rfl,_,Tz.func3,?_⟩,rfl,⟨h1.size,h1.block⟩⟩) ⟨_,2,Tz.func3,rfl⟩;have:=results_tmp (fn:=Tryz.f3) rfl x.tmps Tz.prog (re w' τ d);rw[kg h3]at this;exact this
 refine aj.en Tz.func3 rfl Tryz.ntmps3 vH ?_;refine aj.ck E hL [_,_,_,_] _ λK R τ d hK hR=>?_
 have H1:=GH a l cap cd (re V τ d) h xE;have hn:=h.1;unfold maxLen at hn;clear h;have abd:0<=(l:Int)%3/\(l:Int)%3<3:=by omega
 simp only[aD];go_wp2_with(go_at_call 7;refine H1.mono ?_;clear H1;rintro e U ⟨⟨v,u,k,F,G,rfl,hk,hv,hu,hF⟩,b1⟩;obtain⟨va,vc,rfl⟩:=gr hv;obtain⟨ua,uc,rfl⟩:=gr hu)
 .exact hR.out _ _ λtodo=>G6.out _ _ _ ⟨ac3 _,λ_ _=>rfl⟩ rfl rfl
 refine hK.out _ _ ?_;clear hK hR K R;obtain⟨W2,e2,k5,b2,-⟩:=cI U 0 (1+(l:Int)%3) none 0 0 none 0 0;rw[e2];clear e2;have bV:Bl V.heap.size V U:=Bl.nP b1;have pb:=Da hv;have htx:=X' hu;clear hv hu b1;obtain⟨B5,h5⟩:∃B,B=U.heap.size:=⟨_,rfl⟩;rw[<-h5]at k5⊢;replace h5:Hid _:=h5;have hT:Tp U B5 0 (1+(l:Int)%3) none 0 0 (λ_=>⟨⟨#[]⟩,false,0,0,0,0⟩) none 0 (λ_=>0) W2:=⟨Bl.of b2,k5,⟨λ_=>⟨rfl,rfl⟩,(λ_ h=>nomatch h)⟩,⟨λ_=>⟨rfl,rfl⟩,(λ_ h=>nomatch h)⟩,ac3 _,LH ab ab⟩;clear b2 k5 abd hn xE τ d;refine aj.seq E hL ?_;refine aj.ck E hL [_] _ λK R τ d hK hR=>?_
 simp only[aD];go_wp2;refine hK.out _ _ ?_;clear hK hR K R;refine aj.block E hL (aj.loop E hL ?_);refine aj.CJ E hL (λj a' w'=>∃(i:Nat) (now shift:Int) (ao:Option Addr) (n cp:Nat) (f:Nat->Mv) (bo:Option Addr) (dp:Nat) (t:Nat->Int),i+j=k/\Tp U B5 now shift ao n cp f bo dp t w'/\iz a' (rW 209 [(3,.slice va k vc),(4,.slice ua k uc),(5,.pointer (some ⟨B5,0,none⟩)),(6,.int .i64 i)])) ?_ k _ _ ⟨0,_,_,_,_,_,_,_,_,_,ab,hT.to (gu _ τ d),?_⟩;rotate_left
 .exact⟨rfl,rfl⟩
 clear hT W2 τ d;rintro j a' W ⟨i,now,shift,ao,n,cp,f,bo,dp,t,kq,hT,fM⟩ Jg;replace Jg:Hid _:=Jg;obtain⟨u',rfl⟩:=fM.open;clear fM;refine aj.seq E hL ?_;refine aj.ck E hL [_] _ λK R τ d hK hR=>?_
 simp only[aD];go_wp2;refine hK.out _ _ ?_;clear hK hR K R;replace hT:=hT.to (gu _ τ d);revert hT;generalize re W τ d=W1;intro hT;refine aj.cond E hL (t:=decide (i<k)) rfl ?_;by_cases ay:i<k
 .rw[if_pos (by simp;omega)];have dq:(i:Int)<k:=by omega
  have hQ:=hF i ay;obtain⟨mb,rfl,hmb,ZF⟩:=pb.pos ab;obtain⟨ub,rfl,hub,d_⟩:=htx ab;refine aj.skip E hL (aj.seq E hL (aj.block E hL ?_));refine aj.ck E hL [_,_,_,_] _ λK R τ d hK hR=>?_
  replace hT:=hT.to (gu _ τ d);obtain⟨y0,y1,y2,y3,y4⟩:=hT.bk.cells;have l57:=hT.bk.lt;simp only[aD];go_wp2;refine hK.out _ _ ?_;clear hK hR K R y0 y1 y2 y3 y4;obtain⟨W2,e2,k7,b2,z2⟩:=cI (re W1 τ d) now shift ao n cp bo n dp;obtain⟨W3,e3,k8,b3,-⟩:=cI W2 now shift ao n cp bo n dp;rw[e2,e3,<-z2];clear e2 e3;replace k7:=k7.same (b3.block _ k7.lt);have n78:(re W1 τ d).heap.size<W2.heap.size:=by omega
  have bW:=(Bl.of b2).trans (Bl.of b3) b2.size;clear b2 b3 z2;revert hT l57 k7 n78 bW;generalize re W1 τ d=W0;intro hT l57 k7 n78 bW;obtain⟨B7,h7⟩:∃B,B=W0.heap.size:=⟨_,rfl⟩;obtain⟨B8,h8⟩:∃B,B=W2.heap.size:=⟨_,rfl⟩;rw[<-h7]at k7 l57 n78 bW⊢;rw[<-h8]at k8 n78⊢;clear h8;replace h7:Hid _:=h7;clear τ d W1 W2 W;have BQ:∀W,Bl B7 W0 W->Bq W now shift ao n cp f bo n dp t:=λW hW=>(wF hT.sm hT.si hT.sure).bl (h7.out▸hW)
  replace BQ:Hid _:=BQ;have b5:∀W,Bl B7 W0 W->aT W B5 now shift (.slice ao n cp) (.slice bo n dp):=λW hW=>hT.bk.same (hW.block _ l57)
  replace b5:Hid _:=b5;have bU:∀W,Bl B7 W0 W->Bl U.heap.size U W:=λW hW=>hT.bl.trans hW (by have:=h7.out;have:=hT.bl.size;omega)
  replace bU:Hid _:=bU;have cM:∀W,Bl B7 W0 W->aJ W mb 0 k F:=λW hW=>dA ZF ((bU.out W hW).block _ hmb)
  replace cM:Hid _:=cM;have cT:∀W,Bl B7 W0 W->W.cell? ⟨ub,i,none⟩=some (.string (G i)):=λW hW=>(bU.out W hW).cell hub (d_ i ay)
  replace cT:Hid _:=cT;refine aj.seq E hL ?_;refine aj.cut (λa' W'=>∃(a0 a1:Int) (s2:Option Addr) (lx c2:Nat) (Fx:Nat->Mv) (s3:Option Addr) (c3:Nat) (Tx:Nat->Int) (WN:Option Addr) (QH:Nat) (s3':Option Addr) (UC:Nat) (cd:Int),Bl B7 W0 W'/\aT W' B7 a0 a1 (.slice s2 lx c2) (.slice s3 lx c3)/\aT W' B8 a0 a1 (.slice WN lx QH) (.slice s3' lx UC)/\(∀Qw,(∀q,B8<q->q<W'.heap.size->Qw.heap[q]?=W'.heap[q]?)->fL Qw s2 lx c2 Fx/\gF Qw s3 lx c3 Tx)/\lx<=c3/\fL W' WN lx QH Fx/\gF W' s3' lx UC Tx/\Yh f n t now shift a0 a1 lx Fx lx Tx cd/\iz a' (rW 209 [(3,.slice (some ⟨mb,0,none⟩) k vc),(4,.slice (some ⟨ub,0,none⟩) k uc),(5,.pointer (some ⟨B5,0,none⟩)),(6,.int .i64 i),(7,.pointer (some ⟨B7,0,none⟩)),(8,.pointer (some ⟨B8,0,none⟩)),(9,.int .i64 cd),(10,.int .i64 cd)])) ?_ λxM=>?_
  .rintro a' W' ⟨a0,a1,s2,lx,c2,Fx,s3,c3,Tx,WN,QH,s3',UC,cd,bW,k7,k8,x1,x3,x4,x5,hS,fM⟩;obtain⟨u',rfl⟩:=fM.open;clear fM;have Ce:∀W,Bl W'.heap.size W' W->Bq W a0 a1 s2 lx c2 Fx s3 lx c3 Tx:=λW hW=>(wF (x1 W' λ_ _ _=>rfl).1 (x1 W' λ_ _ _=>rfl).2 hS.sure).bl hW
   replace Ce:Hid _:=Ce;have h6:=(Ce.out _ (Bl.refl _ _)).n6;have l7:=k7.lt;have hO:∀W,Bl W'.heap.size W' W->Bl B7 W0 W:=λW hW=>bW.trans hW (h7.out▸bW.size)
   replace hO:Hid _:=hO;have o7:∀W,Bl W'.heap.size W' W->aT W B7 a0 a1 (.slice s2 lx c2) (.slice s3 lx c3):=λW hW=>k7.same (hW.block _ l7)
   replace o7:Hid _:=o7;refine aj.seq E hL ?_;refine aj.cut (λa' w'=>Bl W'.heap.size W' w'/\iz a' (rW 209 [(3,.slice (some ⟨mb,0,none⟩) k vc),(4,.slice (some ⟨ub,0,none⟩) k uc),(5,.pointer (some ⟨B5,0,none⟩)),(6,.int .i64 i),(7,.pointer (some ⟨B7,0,none⟩))])) ?_ λxM=>?_
   .rintro a' w4 ⟨l4,fM⟩;obtain⟨u',rfl⟩:=fM.open;clear fM k8 x4 x5;refine aj.seq E hL (aj.ck E hL [_] _ λK R τ d hK hR=>?_);simp only[aD];go_wp2;refine hK.out _ _ ?_;clear hK hR K R;refine aj.block E hL (aj.loop E hL ?_);refine aj.CJ E hL (λj a' w'=>∃m:Nat,m+j=lx/\Bl W'.heap.size W' w'/\iz a' (rW 209 [(3,.slice (some ⟨mb,0,none⟩) k vc),(4,.slice (some ⟨ub,0,none⟩) k uc),(5,.pointer (some ⟨B5,0,none⟩)),(6,.int .i64 i),(7,.pointer (some ⟨B7,0,none⟩)),(11,.int .i64 m)])) ?_ lx _ _ ⟨0,ab,l4.trans (gu _ τ d) l4.size,?_⟩;rotate_left
    .exact⟨rfl,rfl⟩
    clear l4 w4 τ d;rintro j' a' W5 ⟨m,hm,l5,fM⟩ hlp;replace hlp:Hid _:=hlp;obtain⟨u',rfl⟩:=fM.open;clear fM;refine aj.seq E hL (aj.ck E hL [_] _ λK R τ d hK hR=>?_);replace l5:=l5.trans (gu _ τ d) l5.size;obtain⟨y0,y1,y2,y3,y4⟩:=(o7.out _ l5).cells;simp only[aD];go_wp2;refine hK.out _ _ ?_;clear hK hR K R y0 y1 y2 y3 y4;revert l5;generalize re W5 τ d=W6;intro l5;clear τ d W5;refine aj.cond E hL (t:=decide (m<lx)) rfl ?_;by_cases ZE:m<lx
    .rw[if_pos (by simp;omega)];have acm:(m:Int)<lx:=by omega
     obtain⟨sb,rfl,sK,hsr⟩:=(Ce.out _ (Bl.refl _ _)).sm.pos ab;obtain⟨tb,rfl,XN,XP⟩:=(Ce.out _ (Bl.refl _ _)).si.pos ab;have cX:∀W,Bl W'.heap.size W' W->aJ W sb 0 lx Fx:=λW hW=>dA hsr (hW.block _ sK)
     replace cX:Hid _:=cX;refine aj.skip E hL (aj.seq E hL ?_);refine aj.cut (λa' w'=>Bl W'.heap.size W' w'/\iz a' (rW 209 [(3,.slice (some ⟨mb,0,none⟩) k vc),(4,.slice (some ⟨ub,0,none⟩) k uc),(5,.pointer (some ⟨B5,0,none⟩)),(6,.int .i64 i),(7,.pointer (some ⟨B7,0,none⟩)),(11,.int .i64 m)])) ?_ λpK=>?_
     .rintro a' w' ⟨l6,fM⟩;obtain⟨u',rfl⟩:=fM.open;clear fM;refine aj.rg E hL (aj.oc E hL 0 3 λK τ d hK=>?_);have xP:IntKind.i64.wrap ((m:Int)+1)=(m:Int)+1:=ia;simp only[aK,Act.put];go_wp2;exact hK.out _ _ (aj.regionEnd E hL (hlp.out (j'-1) ab _ _ ⟨m+1,ab,l6.trans (gu _ τ d) l6.size,rfl,by simp;rfl⟩))
     refine aj.block E hL (aj.seq E hL ?_);refine aj.cut (λa' w'=>Bl W'.heap.size W' w'/\(Tx m=a0/\(Fx m).ak=true)/\iz a' (rW 209 [(3,.slice (some ⟨mb,0,none⟩) k vc),(4,.slice (some ⟨ub,0,none⟩) k uc),(5,.pointer (some ⟨B5,0,none⟩)),(6,.int .i64 i),(7,.pointer (some ⟨B7,0,none⟩)),(11,.int .i64 m)])) ?_ λhgo=>?_
     .rintro a' w2 ⟨l6,⟨ht,hl⟩,fM⟩;obtain⟨u',rfl⟩:=fM.open;clear fM;refine aj.seq E hL ?_;refine aj.cut (λa' w'=>∃(N Qo:Nat) (b0 b1:Int) (s4:Option Addr) (l4 c4:Nat) (s5:Option Addr) (o5 c5:Nat) (cd:Int),Bl W'.heap.size W' w'/\aT w' Qo b0 b1 (.slice s4 l4 c4) (.slice s5 o5 c5)/\zZ (Up a0 a1 Fx lx Tx (Fx m).name) (IN a0 a1 Fx lx Tx lx) (aM a0 a1 Fx lx Tx lx) N (.agg #[.int .i64 b0,.int .i64 b1,.slice s4 l4 c4,.slice s5 o5 c5]) cd w'/\iz a' (rW 209 [(3,.slice (some ⟨mb,0,none⟩) k vc),(4,.slice (some ⟨ub,0,none⟩) k uc),(5,.pointer (some ⟨B5,0,none⟩)),(6,.int .i64 i),(7,.pointer (some ⟨B7,0,none⟩)),(11,.int .i64 m),(12,.pointer (some ⟨Qo,0,none⟩)),(13,.int .i64 cd)])) ?_ λhc=>?_
      .rintro a' w7 ⟨N,Qo,b0,b1,s4,l4,c4,s5,o5,c5,za,l7,k12,hy,fM⟩;obtain⟨u',rfl⟩:=fM.open;clear fM;simp only[N_,aag,aah,s_,t_,Nat.reduceAdd,Nat.reduceEqDiff,if_false,if_true];obtain⟨_,_,ly,Fy,_,Ty,hD,_,_,_,_,e,r1,r2⟩:=P_ hy;simp only[Value.agg.injEq,Array.mk.injEq,List.cons.injEq,Value.int.injEq,Value.slice.injEq,true_and,and_true]at e;obtain⟨rfl,rfl,⟨rfl,rfl,rfl⟩,rfl,rfl,rfl⟩:=e;obtain⟨rfl,rfl,rfl⟩:=hD.sure hS.sure ZE hl ht (beq_self_eq_true _);obtain⟨-,bI,hp1,-⟩:=hD.law.2.2 rfl;have U8:=IZ r1 r2 bI;clear hy hD r1 r2;have XZ:∀W,Bl w7.heap.size w7 W->aT W Qo b0 b1 (.slice s4 o5 c4) (.slice s5 o5 c5):=λW hW=>k12.same (hW.block _ k12.lt)
       replace XZ:Hid _:=XZ;have l8:∀W,Bl w7.heap.size w7 W->Bl W'.heap.size W' W:=λW hW=>l7.trans hW l7.size
       replace l8:Hid _:=l8;have HK:Hid (∀W,Bl w7.heap.size w7 W->_):=λW hW=>(U8.bl hW).ib
       rw[bI]at HK;have HP:Hid (∀W,Bl w7.heap.size w7 W->_):=λW hW=>nF a0 a1 (some ⟨sb,0,none⟩) o5 c2 Fx (some ⟨tb,0,none⟩) o5 c3 b0 b1 s4 o5 c4 Fy s5 c5 Ty (Fx m).name W h6 U8.n6 (Ce.out W (l8.out W hW)).sm (U8.bl hW).sm (U8.bl hW).si hp1
       clear hp1 bI;replace U8:Hid _:=U8;refine aj.seq E hL (aj.dl E hL λK τ d hK=>?_);replace hK:Hid (∀x w',Bl W'.heap.size W' w'->iz x (rW 209 [(3,.slice (some ⟨mb,0,none⟩) k vc),(4,.slice (some ⟨ub,0,none⟩) k uc),(5,.pointer (some ⟨B5,0,none⟩)),(6,.int .i64 i),(7,.pointer (some ⟨B7,0,none⟩)),(11,.int .i64 m),(205,.bool false)])->K x w'):=by
        rintro x w' h1 hf;obtain⟨u',rfl⟩:=hf.open;refine hK.out _ _ (aj.cond E hL (t:=false) rfl ?_);rw[if_neg Bool.false_ne_true];exact aj.skip E hL (aj.inBlock E hL (pK.out _ _ ⟨h1,rfl,rfl⟩))
       have iR:=gu w7 τ d;clear pK hlp Jg G6 Ce U8 BQ b5 bU cM cT hT hO hS x1;have H4:=HK.out _ iR;refine wpAny_of_held (S:=Bl w7.heap.size w7) _ _ _ _ ?_;refine lI 0 (.int .i64 0) 178 rfl iR ?_;refine lI 1 (.bool false) 179 rfl iR ?_;refine lI 2 (.bool false) 180 rfl iR ?_;refine ii 3 (.agg #[.int .i64 b0,.int .i64 b1,.slice s4 o5 c4,.slice s5 o5 c5]) 181 (λ_=>.pointer (some ⟨Qo,0,none⟩)) rfl Iw iR ?_;refine iT 4 rfl (λK hK=>?_);go_simp
       go_at_call 16
       refine H4.mono ?_;clear H4;rintro e w4 ⟨rfl,b4⟩;have i4:=iR.trans (Bl.of b4) iR.size;have H5:=HP.out w4 i4;go_wp2_with fail
       refine hK.out _ _ i4 λiR=>?_
       clear hK K;refine lI 5 (.bool false) 183 rfl iR ?_;refine lI 6 (.bool false) 184 rfl iR ?_;refine lI 7 (.bool false) 185 rfl iR ?_;refine ii 8 (.agg #[.int .i64 a0,.int .i64 a1,.slice (some ⟨sb,0,none⟩) o5 c2,.slice (some ⟨tb,0,none⟩) o5 c3]) 186 (λ_=>.pointer (some ⟨B7,0,none⟩)) rfl Iw iR ?_;refine ii 9 (.agg #[.int .i64 b0,.int .i64 b1,.slice s4 o5 c4,.slice s5 o5 c5]) 187 (λ_=>.pointer (some ⟨Qo,0,none⟩)) rfl Iw iR ?_;refine ii 10 (.pointer (some ⟨B7,2,none⟩)) 188 (λ_=>.pointer (some ⟨B7,0,none⟩)) rfl Iw iR ?_;refine ii 11 (.slice (some ⟨sb,0,none⟩) o5 c2) 189 (λ_=>.pointer (some ⟨B7,2,none⟩)) rfl Iw iR ?_;refine lI 12 (.int .i64 m) 190 rfl iR ?_;refine ii 13 (.pointer (some ⟨sb,m*6,none⟩)) 191 (λx=>match x with|.tmp 190=>.int .i64 m|_=>.slice (some ⟨sb,0,none⟩) o5 c2) rfl Iw iR ?_;refine ii 14 (.pointer (some ⟨sb,m*6,none⟩)) 192 (λ_=>.pointer (some ⟨sb,m*6,none⟩)) rfl Iw iR ?_;refine ii 15 (.string (Fx m).name) 193 (λ_=>.pointer (some ⟨sb,m*6,none⟩)) rfl Iw iR ?_;refine iT 16 rfl (λK hK=>?_);go_simp
       go_at_call 21
       refine H5.mono ?_;clear H5;rintro e w5 ⟨rfl,Yq⟩;have i5:=i4.trans (Bl.of Yq) i4.size;go_wp2_with fail
       refine hK.out _ _ i5 λiR=>?_
       clear hK K;refine lI 17 (.bool false) 195 rfl iR ?_;refine lI 18 (.bool false) 196 rfl iR ?_;refine lI 19 (.bool false) 197 rfl iR ?_;refine ii 20 (.pointer (some ⟨Qo,2,none⟩)) 198 (λ_=>.pointer (some ⟨Qo,0,none⟩)) rfl Iw iR ?_;refine ii 21 (.slice s4 o5 c4) 199 (λ_=>.pointer (some ⟨Qo,2,none⟩)) rfl Iw iR ?_;refine ii 22 (.int .i64 o5) 200 (λ_=>.slice s4 o5 c4) rfl Iw iR ?_;refine ii 23 (.pointer (some ⟨B7,2,none⟩)) 201 (λ_=>.pointer (some ⟨B7,0,none⟩)) rfl Iw iR ?_;refine ii 24 (.slice (some ⟨sb,0,none⟩) o5 c2) 202 (λ_=>.pointer (some ⟨B7,2,none⟩)) rfl Iw iR ?_;refine ii 25 (.int .i64 o5) 203 (λ_=>.slice (some ⟨sb,0,none⟩) o5 c2) rfl Iw iR ?_;refine ii 26 (.bool false) 204 (λ_=>.int .i64 o5) rfl Iw iR ?_;refine lI 27 (.bool false) 205 rfl iR ?_;exact wpAnyH_done bj ⟨rfl,hK.out _ _ (l8.out _ i5) ⟨bj,bj⟩⟩ _
      refine aj.dm E hL 7 (λx=>(Array.range 14).map λj=>decide (7<=j)&&!(x&&j==11)) (λx=>(Array.range 14).map λj=>decide (j<=7)||(x&&j==11)) (λx K τ d hK=>?_) (hk:=Eq.trans bj I');have iR:=l6.trans (gu _ τ d) l6.size;obtain⟨W9,e9,k9,b9,-⟩:=cI (re w2 τ d) 0 0 none 0 0 none 0 0;have l9:=iR.trans (Bl.of b9) iR.size;refine wpAny_of_held (S:=Bl W'.heap.size W') _ _ _ _ ?_;cases x;all_goals
       refine aq 0 (.agg #[.int .i64 a0,.int .i64 a1,.slice (some ⟨sb,0,none⟩) lx c2,.slice (some ⟨tb,0,none⟩) lx c3]) 168 rfl Xa iR ?_;refine aq 1 (.pointer (some ⟨B7,2,none⟩)) 169 rfl Xa iR ?_;refine aq 2 (.slice (some ⟨sb,0,none⟩) lx c2) 170 rfl Xa iR ?_;refine aq 3 (.int .i64 m) 171 rfl Xa iR ?_;refine aq 4 (.pointer (some ⟨sb,m*6,none⟩)) 172 rfl Xa iR ?_;refine aq 5 (.pointer (some ⟨sb,m*6,none⟩)) 173 rfl Xa iR ?_;refine aq 6 (.string (Fx m).name) 174 rfl Xa iR ?_
      .clear e9 k9 b9 l9 W9;refine wpAnyH_done bj ⟨rfl,hK.out _ _ λpost hp=>aj.un ?_⟩ _;clear hK K iR;refine aj.dO E (i:=7) rfl rfl I.sr (λw=>y7) (Bw (name:=(Fx m).name) E I hL (Ce.out _ l6) ?_);rintro y za W8 b8 hy;rw[bT rfl];obtain⟨b0,b1,s4,l4,c4,s5,o5,c5,rfl⟩:=hy.is (mpr a0 a1 Fx lx Tx (Fx m).name) (zc a0 a1 Fx lx Tx lx);refine aj.ta E hL hp λK τ d hK=>?_
       obtain⟨W9,e9,k9,b9,-⟩:=cI (re W8 τ d) 0 0 none 0 0 none 0 0;obtain⟨x0,x1,x2,x3,x4⟩:=k9.cells;obtain⟨W10,UT,k10,-,Me,Mc⟩:=aV k9 (acU 0 _) (ac8 _) b0 b1 s4 l4 c4 s5 o5 c5;replace Me:Hid _:=Me;simp only[Act.put,List.setIfInBounds_toArray,List.set_cons_zero,List.set_cons_succ];refine wpAny_of_held (S:=λ_=>True) _ _ _ _ ?_;refine aq 8 (.tuple #[.agg #[.int .i64 b0,.int .i64 b1,.slice s4 l4 c4,.slice s5 o5 c5],.int .i64 za]) 167 rfl vZ trivial ?_;refine aq 9 (.agg #[.int .i64 b0,.int .i64 b1,.slice s4 l4 c4,.slice s5 o5 c5]) 176 rfl vZ trivial ?_;refine aq 10 (.int .i64 za) 177 rfl vZ trivial ?_;refine iT 11 rfl (λK hK=>?_);go_simp
       refine hK.out _ _ trivial λ_=>?_
       clear hK K;refine iT 12 rfl (λK hK=>?_);go_simp
       refine hK.out _ _ trivial λ_=>?_
       clear hK K;refine aq 13 (.int .i64 za) 13 rfl vZ trivial ?_;replace Me:=Me.out;have bb:=(l6.trans b8 l6.size).trans (Bl.nP b9) (ac6 l6.size b8.size);have l9:=k9.lt;exact wpAnyH_done bj ⟨rfl,hK.out _ _ (hc.out _ _ ⟨_,_,b0,b1,s4,l4,c4,s5,o5,c5,za,⟨Me▸bb.size,λq hq=>(Mc q (by have:=l6.size;have:=b8.size;show q≠W8.heap.size;omega)).trans (bb.block q hq)⟩,k10,hy.to (mpr a0 a1 Fx lx Tx (Fx m).name) (zc a0 a1 Fx lx Tx lx) (ac3 _) (λq g1 g2=>(Mc q (by show q≠W8.heap.size;omega)).trans (b9.block q g2)),rfl,rfl⟩)⟩ _
      .refine iT 11 rfl (λK hK=>?_);go_simp
       refine hK.out _ _ l9 λ_=>?_
       clear hK K;refine wpAnyH_done bj ⟨rfl,hK.out _ _ λpost hp=>?_⟩ _;clear hK K iR e9;refine aj.dO E (i:=7) rfl rfl I.sr (λw=>y7) (Bw (name:=(Fx m).name) E I hL (Ce.out _ l9) ?_);rintro y za W8 b8 hy;rw[bT rfl];obtain⟨b0,b1,s4,l4,c4,s5,o5,c5,rfl⟩:=hy.is (mpr a0 a1 Fx lx Tx (Fx m).name) (zc a0 a1 Fx lx Tx lx);have l12:=k9.lt;replace k9:=k9.same (b8.block _ l12);refine aj.ta E hL hp λK τ d hK=>?_
       obtain⟨x0,x1,x2,x3,x4⟩:=k9.rc τ d;obtain⟨W10,UT,k10,-,Me,Mc⟩:=aV (k9.r τ d) (acU 0 _) (ac8 _) b0 b1 s4 l4 c4 s5 o5 c5;replace Me:Hid _:=Me;simp only[Act.put,List.setIfInBounds_toArray,List.set_cons_zero,List.set_cons_succ];refine wpAny_of_held (S:=λ_=>True) _ _ _ _ ?_;refine aq 8 (.tuple #[.agg #[.int .i64 b0,.int .i64 b1,.slice s4 l4 c4,.slice s5 o5 c5],.int .i64 za]) 167 rfl vZ trivial ?_;refine aq 9 (.agg #[.int .i64 b0,.int .i64 b1,.slice s4 l4 c4,.slice s5 o5 c5]) 176 rfl vZ trivial ?_;refine aq 10 (.int .i64 za) 177 rfl vZ trivial ?_;refine iT 12 rfl (λK hK=>?_);go_simp
       refine hK.out _ _ trivial λ_=>?_
       clear hK K;refine aq 13 (.int .i64 za) 13 rfl vZ trivial ?_;replace Me:=Me.out;have bb:=l9.trans b8 l9.size;exact wpAnyH_done bj ⟨rfl,hK.out _ _ (hc.out _ _ ⟨_,_,b0,b1,s4,l4,c4,s5,o5,c5,za,⟨Me▸bb.size,λq hq=>(Mc q (by have:=l6.size;show q≠w2.heap.size;omega)).trans (bb.block q hq)⟩,k10,hy.to (mpr a0 a1 Fx lx Tx (Fx m).name) (zc a0 a1 Fx lx Tx lx) (ac3 _) (λq g1 g2=>Mc q (adk (ac4 l12 g1))),rfl,rfl⟩)⟩ _
     refine aj.ck E hL [_] _ λK R τ d hK hR=>?_
     replace l5:=l5.trans (gu _ τ d) l5.size;obtain⟨y0,y1,y2,y3,y4⟩:=(o7.out _ l5).cells;have c1:=(cX.out _ l5 m ZE).c1;have t0:=l5.cell XN (XP m ZE);simp only[Nat.zero_add]at c1 t0;simp only[aD];revert y0 y1 y2 y3 y4 c1 t0 l5;generalize re W6 τ d=W7;intro l5 y0 y1 y2 y3 y4 c1 t0;have TK:Hid (∀x w',Bl W7.heap.size W7 w'->iz x (rW 209 [(3,.slice (some ⟨mb,0,none⟩) k vc),(4,.slice (some ⟨ub,0,none⟩) k uc),(5,.pointer (some ⟨B5,0,none⟩)),(6,.int .i64 i),(7,.pointer (some ⟨B7,0,none⟩)),(11,.int .i64 m),(166,.bool true)])->K x w'):=by
      rintro x w' h1 hf;obtain⟨u',rfl⟩:=hf.open;clear hf;refine hK.out _ _ ?_;refine aj.cond E hL (t:=true) rfl ?_;rw[if_pos rfl];exact aj.exit E hL (k':=_) rfl (pK.out _ _ ⟨l5.trans h1 l5.size,rfl,rfl⟩)
     have hne:=aF W7;have e0:=λx:ai W7=>x.cell y0
     have e2:=λx:ai W7=>x.cell y2
     have e3:=λx:ai W7=>x.cell y3
     by_cases ht:Tx m=a0
     .rw[ht]at t0;have et:=λx:ai W7=>x.cell t0
      cases hl:(Fx m).ak with
      |false=>
       rw[hl]at c1;have ec:=λx:ai W7=>x.cell c1
       refine jR ?_;intro w2 cj;go_wp2;exact TK.out _ _ (Bl.of cj) ⟨rfl,rfl⟩
      |true=>
       rw[hl]at c1;have ec:=λx:ai W7=>x.cell c1
       refine jR ?_;intro w2 cj;go_wp2;refine hK.out _ _ ?_;refine aj.cond E hL (t:=false) rfl ?_;rw[if_neg Bool.false_ne_true];exact aj.skip E hL (hgo.out _ _ ⟨l5.trans (Bl.of cj) l5.size,⟨ht,hl⟩,rfl,rfl⟩)
     .have TN:(Tx m !=a0)=true:=bne_iff_ne.2 ht;have et:=λx:ai W7=>x.cell t0
      have ec:=λx:ai W7=>x.cell c1
      refine jR ?_;intro w2 cj;go_wp2;exact TK.out _ _ (Bl.of cj) ⟨rfl,rfl⟩
    .rw[if_neg (by simp;omega)];refine aj.exit E hL (k':=_) rfl ?_;refine aj.rg E hL (aj.oc E hL 0 2 λK τ d hK=>?_);replace l5:=l5.trans (gu _ τ d) l5.size;obtain⟨y0,y1,y2,y3,y4⟩:=(o7.out _ l5).cells;have q5:=b5.out _ (hO.out _ l5);obtain⟨z0,z1,z2,z3,z4⟩:=q5.cells;obtain⟨W9,e9,k9,-,z9,o9⟩:=aV q5 (acU 0 _) (ac8 _) a0 a1 s2 lx c2 s3 lx c3;replace z9:Hid _:=z9;simp only[aK,Act.put];go_wp2;refine hK.out _ _ (aj.regionEnd E hL (aj.inBlock E hL ?_));clear hK K y0 y1 y2 y3 y4 z0 z1 z2 z3 z4 e9;have hw:=x1 W9 λq g1 g2=>(o9 q ab).trans (l5.block q g2)
     have hu:=bU.out _ (hO.out _ l5);have Ri:Tp U B5 a0 a1 s2 lx c2 Fx s3 c3 Tx W9:=⟨⟨z9.out▸hu.size,λq hq=>(o9 q (by have:=h5.out;omega)).trans (hu.block q hq)⟩,k9,hw.1,hw.2,x3,hS.sure⟩;refine aj.rg E hL (aj.oc E hL 0 3 λK τ d hK=>?_);have xP:IntKind.i64.wrap ((i:Int)+1)=(i:Int)+1:=ia;simp only[aK,Act.put];go_wp2;exact hK.out _ _ (aj.regionEnd E hL (Jg.out (j-1) ab _ _ ⟨i+1,a0,a1,s2,lx,c2,Fx,s3,c3,Tx,ab,Ri.to (gu _ τ d),rfl,by simp;rfl⟩))
   refine aj.seq E hL (aj.rg E hL (aj.oc E hL 0 24 λK τ d hK=>?_));have iR:=gu W' τ d;obtain⟨y0,y1,y2,y3,y4⟩:=(o7.out _ iR).cells;obtain⟨z0,z1,z2,z3,z4⟩:=k8.rc τ d;have H1:=yV a0 a1 s2 lx c2 Fx s3 lx c3 Tx WN QH s3' UC (re W' τ d) h6 h6 (Ce.out _ iR).sm (Ce.out _ iR).si (x4.bl iR) (x5.bl iR);have H2:Hid (∀W,Bl W'.heap.size W' W->_):=λW hW=>(Ce.out W hW).ib
   rw[(ez hS.sure).1]at H2;have H3:Hid (∀W,Bl W'.heap.size W' W->_):=λW hW=>LQ (Ce.out W hW).sm (Ce.out W hW).si hS.sure
   clear x4 x5 k8 iR;simp only[aK,Act.put];go_wp2_with(first
    |(go_at_call 15;refine H1.mono ?_;clear H1;rintro e w1 ⟨rfl,b1⟩;have l1:=Bl.nP b1;obtain⟨y0,y1,y2,y3,y4⟩:=(o7.out _ l1).cells;have H4:=H2.out w1 l1)
    |(go_at_call 16;refine H4.mono ?_;clear H4;rintro e w2 ⟨rfl,b2⟩;have l2:=l1.trans (Bl.of b2) l1.size;obtain⟨y0,y1,y2,y3,y4⟩:=(o7.out _ l2).cells;have H5:=H3.out w2 l2)
    |(go_at_call 17;refine H5.mono ?_;clear H5;rintro e w3 ⟨rfl,b3⟩;have l3:=l2.trans (Bl.of b3) l2.size;obtain⟨y0,y1,y2,y3,y4⟩:=(o7.out _ l3).cells))
   refine hK.out _ _ ?_;clear hK K H2 H3 y0 y1 y2 y3 y4 z0 z1 z2 z3 z4 b1 b2 b3 l1 l2;refine aj.dO E (i:=24) rfl rfl I.su (λw=>y7) (yX E I.su I.ro I.pl I.sb I.bt hL (Ce.out _ l3) ?_);rintro W4 b4;rw[bT rfl,hS.sure];have l4:=l3.trans b4 l3.size;clear b4 l3;refine aj.oc E hL 25 18 λK τ d hK=>?_
   have kh:Hid (∀x w',Bl W'.heap.size W' w'->iz x (rW 209 [(3,.slice (some ⟨mb,0,none⟩) k vc),(4,.slice (some ⟨ub,0,none⟩) k uc),(5,.pointer (some ⟨B5,0,none⟩)),(6,.int .i64 i),(7,.pointer (some ⟨B7,0,none⟩)),(142,.bool false)])->K x w'):=by
    rintro x w' h1 hf;obtain⟨u',rfl⟩:=hf.open;refine hK.out _ _ (aj.regionEnd E hL (aj.cond E hL (t:=false) rfl ?_));rw[if_neg Bool.false_ne_true];exact aj.skip E hL (xM.out _ _ ⟨h1,rfl,rfl⟩)
   have iR:=l4.trans (gu W4 τ d) l4.size;obtain⟨y0,y1,y2,y3,y4⟩:=(o7.out _ iR).cells;obtain⟨z0,z1,z2,z3,z4⟩:=(b5.out _ (hO.out _ iR)).cells;have hb:=BQ.out _ (hO.out _ iR);have H1:=zW now shift ao n cp f bo n dp a0 a1 s2 lx c2 Fx s3 c3 Tx (re W4 τ d) hb.n6 h6 hb.sm (Ce.out _ iR).sm (Ce.out _ iR).si hS.kept;clear hb;simp only[aK,Act.put];by_cases YJ:1<cd
   .obtain⟨rfl,rfl,rfl,rfl,-,rfl⟩:=hS.same YJ;have H2:Hid (∀W,Bl W'.heap.size W' W->_):=λW hW=>yV a0 a1 s2 lx c2 Fx s3 lx c3 Tx ao cp bo dp W h6 h6 (Ce.out W hW).sm (Ce.out W hW).si (BQ.out _ (hO.out _ hW)).sm (BQ.out _ (hO.out _ hW)).si
    go_wp2_with(first
     |(go_at_call 19;refine H1.mono ?_;clear H1;rintro e w5 ⟨rfl,Yq⟩;have l5:=iR.trans (Bl.of Yq) iR.size;obtain⟨y0,y1,y2,y3,y4⟩:=(o7.out _ l5).cells;obtain⟨z0,z1,z2,z3,z4⟩:=(b5.out _ (hO.out _ l5)).cells;have H3:=H2.out w5 l5)
     |(go_at_call 15;refine H3.mono ?_;clear H3;rintro e w6 ⟨rfl,b6⟩))
    exact kh.out _ _ (l5.trans (Bl.of b6) l5.size) ⟨rfl,rfl⟩
   .go_wp2_with(go_at_call 19;refine H1.mono ?_;clear H1;rintro e w5 ⟨rfl,Yq⟩)
    exact kh.out _ _ (iR.trans (Bl.of Yq) iR.size) ⟨rfl,rfl⟩
  .refine aj.block E hL ?_;refine aj.ck E hL [_] _ λK R τ d hK hR=>?_
   have bR:=bW.trans (gu _ τ d) (ac6 (Nat.le_of_eq h7.out) bW.size);have c0:=(cM.out _ bR i ay).c0;simp only[Nat.zero_add]at c0;simp only[aD];go_wp2;refine hK.out _ _ (aj.un ?_);refine aj.cond E hL rfl ?_;clear hK hR K R c0 bR;split
   .refine aj.seq E hL ?_;refine aj.dm E hL 5 (λ_=>(Array.range 11).map λj=>decide (5<=j)) (λ_=>(Array.range 11).map λj=>decide (j<=5)) λ_ K τ d hK=>?_
    have bR:=bW.trans (gu _ τ d) (h7.out▸bW.size);refine wpAny_of_held (S:=Bl B7 W0) _ _ _ _ ?_;refine aq 0 (.agg #[.int .i64 now,.int .i64 shift,.slice ao n cp,.slice bo n dp]) 55 rfl Bh bR ?_;refine aq 1 (.slice (some ⟨mb,0,none⟩) k vc) 56 rfl Bh bR ?_;refine aq 2 (.int .i64 i) 57 rfl Bh bR ?_;refine aq 3 (.pointer (some ⟨mb,i*6,none⟩)) 58 rfl Bh bR ?_;refine aq 4 (.agg #[.string (F i).name,.bool (F i).ak,.int .i64 (F i).ap,.int .i64 (F i).bF,.int .i64 (F i).late,.int .i64 (F i).prom]) 59 rfl Bh bR ?_;refine wpAnyH_done bj ⟨rfl,hK.out _ _ λpost hp=>?_⟩ _;clear hK K bR;refine aj.un ?_;refine aj.dO E (i:=5) rfl rfl Z.sa (λw=>y7) (SI (q:=F i) E Z.sa I.ch I.tr I.co J I.su I.ro vP hL (BQ.out _ bW) hQ ?_);rintro y cd W4 b4 hy;rw[bT rfl];obtain⟨a0,a1,s2,lx,c2,s3,ox,c3,rfl⟩:=hy.is (V8 now shift f n (F i)) (zc now shift f n t n);have l8:=k8.lt;replace k7:=k7.same (b4.block _ k7.lt);replace k8:=k8.same (b4.block _ l8);replace bW:=bW.trans b4 (h7.out▸bW.size);clear b4;refine aj.ta E hL hp λK τ d hK=>?_
    obtain⟨x0,x1,x2,x3,x4⟩:=k7.rc τ d;obtain⟨W8,e8,k9,-,z8,o8⟩:=aV (k7.r τ d) (acU 0 _) (ac8 _) a0 a1 s2 lx c2 s3 ox c3;replace z8:Hid _:=z8;simp only[Act.put,List.setIfInBounds_toArray,List.set_cons_zero,List.set_cons_succ];refine wpAny_of_held (S:=λ_=>True) _ _ _ _ ?_;refine aq 6 (.tuple #[.agg #[.int .i64 a0,.int .i64 a1,.slice s2 lx c2,.slice s3 ox c3],.int .i64 cd]) 54 rfl vZ trivial ?_;refine aq 7 (.agg #[.int .i64 a0,.int .i64 a1,.slice s2 lx c2,.slice s3 ox c3]) 61 rfl vZ trivial ?_;refine aq 8 (.int .i64 cd) 62 rfl vZ trivial ?_;refine iT 9 rfl (λK hK=>?_);go_simp
    refine hK.out _ _ trivial λ_=>?_
    clear hK K;refine aq 10 (.int .i64 cd) 9 rfl vZ trivial ?_;refine wpAnyH_done bj ⟨rfl,hK.out _ _ ?_⟩ _;replace k7:=k9;clear hK K x0 x1 x2 x3 x4 e8 k9;replace z8:W8.heap.size=W4.heap.size:=z8.out;replace hy:=hy.to (V8 now shift f n (F i)) (zc now shift f n t n) (ac3 _) λq g1 g2=>o8 q ab
    replace k8:=k8.same (o8 _ ab);replace bW:Bl B7 W0 W8:=⟨z8▸bW.size,λq hq=>(o8 q ab).trans (bW.block q hq)⟩;have l8:B8<W3.heap.size:=l8;revert hy l8;generalize W3.heap.size=N;intro hy l8;clear o8 z8 hp post τ d W4;simp only[Act.put,List.setIfInBounds_toArray,List.set_cons_zero,List.set_cons_succ];refine aj.dl E hL λK τ d hK=>?_
    have bR:=bW.trans (gu _ τ d) (h7.out▸bW.size);have H1:=Ym now shift ao n cp f bo n dp t (F i) _ (BQ.out _ bR) hQ;refine wpAny_of_held (S:=Bl B7 W0) _ _ _ _ ?_;refine aq 0 (.agg #[.int .i64 now,.int .i64 shift,.slice ao n cp,.slice bo n dp]) 64 rfl Bh bR ?_;refine aq 1 (.slice (some ⟨mb,0,none⟩) k vc) 65 rfl Bh bR ?_;refine aq 2 (.int .i64 i) 66 rfl Bh bR ?_;refine aq 3 (.pointer (some ⟨mb,i*6,none⟩)) 67 rfl Bh bR ?_;refine aq 4 (.agg #[.string (F i).name,.bool (F i).ak,.int .i64 (F i).ap,.int .i64 (F i).bF,.int .i64 (F i).late,.int .i64 (F i).prom]) 68 rfl Bh bR ?_;refine iT 5 rfl (λK hK=>?_);go_simp
    go_at_call 9
    refine H1.mono ?_;clear H1;rintro e w5 ⟨⟨Ag,Ah,s4,l4,c4,F',s5,o',c5,T',za,rfl,YS,hQ'⟩,b6⟩;replace b6:Bl W8.heap.size W8 w5:=Bl.nP b6;replace bW:=bW.trans b6 (h7.out▸bW.size);have n_:=k8.lt;replace k8:=k8.same (b6.block _ n_);obtain⟨x0,x1,x2,x3,x4⟩:=k8.cells;obtain⟨W9,e9,k9,-,z9,o9⟩:=aV k8 (acU 0 _) (ac8 _) Ag Ah s4 l4 c4 s5 o' c5;replace z9:Hid _:=z9;go_wp2_with fail
    refine hK.out _ _ bW λbR=>?_
    clear hK K;refine aq 6 (.tuple #[.agg #[.int .i64 Ag,.int .i64 Ah,.slice s4 l4 c4,.slice s5 o' c5],.int .i64 za]) 63 rfl vZ bR ?_;refine aq 7 (.agg #[.int .i64 Ag,.int .i64 Ah,.slice s4 l4 c4,.slice s5 o' c5]) 70 rfl vZ bR ?_;refine aq 8 (.int .i64 za) 71 rfl vZ bR ?_;refine iT 9 rfl (λK hK=>?_);go_simp
    replace z9:=z9.out;replace k8:=k9;replace bW:Bl B7 W0 W9:=⟨z9▸bW.size,λq hq=>(o9 q ab).trans (bW.block q hq)⟩;refine hK.out _ _ bW λbR=>?_
    clear hK K;refine aq 10 (.int .i64 za) 10 rfl vZ bR ?_;refine wpAnyH_done bj ⟨rfl,hK.out _ _ (aj.inBlock E hL ?_)⟩ _;replace k7:=(k7.same (b6.block _ k7.lt)).same (o9 _ ab);replace hy:=hy.to (V8 now shift f n (F i)) (zc now shift f n t n) (ac3 _) λq g1 g2=>(o9 q ab).trans (b6.block q g2)
    obtain⟨Fx,Tx,hO,hr,hX⟩:=GB (λa0 a1 l F' o T=>mN f n t n now shift (F i) a0 a1 l F' o T cd) (λW' h=>Yl (hy.to (V8 now shift f n (F i)) (zc now shift f n t n) (ac3 _) h)) λ_ _ _ _ _ _ _ _ _ _ _ _ h h'=>⟨(h.one h').2.2.2.1,(h.one h').2.2.2.2.2.1⟩
    obtain⟨rfl,rfl,rfl,rfl,rfl,rfl,rfl⟩:=hO.one YS;have hs:=hQ'.sr (w':=W9) (Nat.le_of_eq z9.symm) λq hq=>o9 q (by have:W8.heap.size<=q:=hq;omega)
    have de:=hO.Y_ hT.sure;obtain rfl:=de.I3;exact xM.out _ _ ⟨_,_,_,_,_,_,_,_,_,_,_,_,_,_,bW,k7,k8,λQw hW=>hX Qw λq g1 g2=>hW q ab g2,hr,hs.1,hs.2,de,rfl,rfl⟩
   .refine aj.ck E hL [_] _ λK R τ d hK hR=>?_
    have bR:=bW.trans (gu _ τ d) (h7.out▸bW.size);have c0:=cT.out _ bR;simp only[aD];go_wp2;refine hK.out _ _ (aj.un ?_);refine aj.cond E hL rfl ?_;clear hK hR K R c0 bR;split
    .refine aj.seq E hL ?_;refine aj.dm E hL 5 (λ_=>(Array.range 11).map λj=>decide (5<=j)) (λ_=>(Array.range 11).map λj=>decide (j<=5)) λ_ K τ d hK=>?_
     have bR:=bW.trans (gu _ τ d) (h7.out▸bW.size);refine wpAny_of_held (S:=Bl B7 W0) _ _ _ _ ?_;refine aq 0 (.agg #[.int .i64 now,.int .i64 shift,.slice ao n cp,.slice bo n dp]) 79 rfl Bh bR ?_;refine aq 1 (.slice (some ⟨ub,0,none⟩) k uc) 80 rfl Bh bR ?_;refine aq 2 (.int .i64 i) 81 rfl Bh bR ?_;refine aq 3 (.pointer (some ⟨ub,i,none⟩)) 82 rfl Bh bR ?_;refine aq 4 (.string (G i)) 83 rfl Bh bR ?_;refine wpAnyH_done bj ⟨rfl,hK.out _ _ λpost hp=>?_⟩ _;clear hK K bR;refine aj.un ?_;refine aj.dO E (i:=5) rfl rfl Z.sd (λw=>y7) (PC (name:=G i) E Z.sd I.ch I.tr I.co Z.gm I.su I.ro I.pl I.sb I.bt hL (BQ.out _ bW) ?_);rintro y cd W4 b4 hy;rw[bT rfl];obtain⟨a0,a1,s2,lx,c2,s3,ox,c3,rfl⟩:=hy.is (V9 now shift f n t (G i)) (zc now shift f n t n);have l8:=k8.lt;replace k7:=k7.same (b4.block _ k7.lt);replace k8:=k8.same (b4.block _ l8);replace bW:=bW.trans b4 (h7.out▸bW.size);clear b4;refine aj.ta E hL hp λK τ d hK=>?_
     obtain⟨x0,x1,x2,x3,x4⟩:=k7.rc τ d;obtain⟨W8,e8,k9,-,z8,o8⟩:=aV (k7.r τ d) (acU 0 _) (ac8 _) a0 a1 s2 lx c2 s3 ox c3;replace z8:Hid _:=z8;simp only[Act.put,List.setIfInBounds_toArray,List.set_cons_zero,List.set_cons_succ];refine wpAny_of_held (S:=λ_=>True) _ _ _ _ ?_;refine aq 6 (.tuple #[.agg #[.int .i64 a0,.int .i64 a1,.slice s2 lx c2,.slice s3 ox c3],.int .i64 cd]) 78 rfl vZ trivial ?_;refine aq 7 (.agg #[.int .i64 a0,.int .i64 a1,.slice s2 lx c2,.slice s3 ox c3]) 85 rfl vZ trivial ?_;refine aq 8 (.int .i64 cd) 86 rfl vZ trivial ?_;refine iT 9 rfl (λK hK=>?_);go_simp
     refine hK.out _ _ trivial λ_=>?_
     clear hK K;refine aq 10 (.int .i64 cd) 9 rfl vZ trivial ?_;refine wpAnyH_done bj ⟨rfl,hK.out _ _ ?_⟩ _;replace k7:=k9;clear hK K x0 x1 x2 x3 x4 e8 k9;replace z8:W8.heap.size=W4.heap.size:=z8.out;replace hy:=hy.to (V9 now shift f n t (G i)) (zc now shift f n t n) (ac3 _) λq g1 g2=>o8 q ab
     replace k8:=k8.same (o8 _ ab);replace bW:Bl B7 W0 W8:=⟨z8▸bW.size,λq hq=>(o8 q ab).trans (bW.block q hq)⟩;have l8:B8<W3.heap.size:=l8;revert hy l8;generalize W3.heap.size=N;intro hy l8;clear o8 z8 hp post τ d W4;simp only[Act.put,List.setIfInBounds_toArray,List.set_cons_zero,List.set_cons_succ];refine aj.seq E hL ?_;refine aj.dl E hL λK τ d hK=>?_
     have bR:=bW.trans (gu _ τ d) (h7.out▸bW.size);have H1:=UQ now shift ao n cp f bo n dp t (G i) _ (BQ.out _ bR) hT.room;refine wpAny_of_held (S:=Bl B7 W0) _ _ _ _ ?_;refine aq 0 (.agg #[.int .i64 now,.int .i64 shift,.slice ao n cp,.slice bo n dp]) 88 rfl Bh bR ?_;refine aq 1 (.slice (some ⟨ub,0,none⟩) k uc) 89 rfl Bh bR ?_;refine aq 2 (.int .i64 i) 90 rfl Bh bR ?_;refine aq 3 (.pointer (some ⟨ub,i,none⟩)) 91 rfl Bh bR ?_;refine aq 4 (.string (G i)) 92 rfl Bh bR ?_;refine iT 5 rfl (λK hK=>?_);go_simp
     go_at_call 11
     refine H1.mono ?_;clear H1;rintro e w5 ⟨⟨Ag,Ah,s4,l4,c4,F',s5,o',c5,T',za,rfl,YS,hQ'⟩,b6⟩;replace b6:Bl W8.heap.size W8 w5:=Bl.nP b6;replace bW:=bW.trans b6 (h7.out▸bW.size);have n_:=k8.lt;replace k8:=k8.same (b6.block _ n_);obtain⟨x0,x1,x2,x3,x4⟩:=k8.cells;obtain⟨W9,e9,k9,-,z9,o9⟩:=aV k8 (acU 0 _) (ac8 _) Ag Ah s4 l4 c4 s5 o' c5;replace z9:Hid _:=z9;go_wp2_with fail
     refine hK.out _ _ bW λbR=>?_
     clear hK K;refine aq 6 (.tuple #[.agg #[.int .i64 Ag,.int .i64 Ah,.slice s4 l4 c4,.slice s5 o' c5],.int .i64 za]) 87 rfl vZ bR ?_;refine aq 7 (.agg #[.int .i64 Ag,.int .i64 Ah,.slice s4 l4 c4,.slice s5 o' c5]) 94 rfl vZ bR ?_;refine aq 8 (.int .i64 za) 95 rfl vZ bR ?_;refine iT 9 rfl (λK hK=>?_);go_simp
     replace z9:=z9.out;replace k8:=k9;replace bW:Bl B7 W0 W9:=⟨z9▸bW.size,λq hq=>(o9 q ab).trans (bW.block q hq)⟩;refine hK.out _ _ bW λbR=>?_
     clear hK K;refine aq 10 (.int .i64 za) 10 rfl vZ bR ?_;refine wpAnyH_done bj ⟨rfl,hK.out _ _ ?_⟩ _;replace k7:=(k7.same (b6.block _ k7.lt)).same (o9 _ ab);replace hy:=hy.to (V9 now shift f n t (G i)) (zc now shift f n t n) (ac3 _) λq g1 g2=>(o9 q ab).trans (b6.block q g2)
     obtain⟨Fx,Tx,hO,hr,hX⟩:=GB (λa0 a1 l F' o T=>kO f n t n now shift (G i) a0 a1 l F' o T cd) (λW' h=>Yx (hy.to (V9 now shift f n t (G i)) (zc now shift f n t n) (ac3 _) h)) λ_ _ _ _ _ _ _ _ _ _ _ _ h h'=>⟨(h.one h').2.2.2.1,(h.one h').2.2.2.2.2.1⟩
     obtain⟨rfl,rfl,rfl,rfl,rfl,rfl,rfl⟩:=hO.one YS;have hs:=hQ'.sr (w':=W9) (Nat.le_of_eq z9.symm) λq hq=>o9 q (by have:W8.heap.size<=q:=hq;omega)
     have de:=hO.Y_ hT.sure;have KI:Hid _:=de.2;replace de:=de.1;obtain rfl:=de.I3;clear hK K;refine aj.ck E hL [_] _ λK R τ d hK hR=>?_
     have bR:=bW.trans (gu _ τ d) (h7.out▸bW.size);have hx:=hX (re W9 τ d) λ_ _ _=>rfl
     have H1:=Dn now shift ao n cp f bo dp t a0 a1 s2 ox c2 Fx s3 c3 Tx (re W9 τ d) (BQ.out _ bR).n6 (wF hx.1 hx.2 de.sure).n6 (BQ.out _ bR).sm (BQ.out _ bR).si hx.1 hx.2 KI.out;obtain⟨y0,y1,y2,y3,y4⟩:=(b5.out _ bR).cells;obtain⟨x0,x1,x2,x3,x4⟩:=k7.rc τ d;simp only[aD];go_wp2_with(go_at_call 12;refine H1.mono ?_;clear H1;rintro e w6 ⟨rfl,b6⟩)
     refine hK.out _ _ (aj.cond E hL (t:=false) rfl ?_);rw[if_neg Bool.false_ne_true];refine aj.skip E hL (aj.inBlock E hL ?_);have b9:=Bl.nP b6;exact xM.out _ _ ⟨_,_,_,_,_,_,_,_,_,_,_,_,_,_,bW.trans b9 (h7.out▸bW.size),k7.same (b9.block _ k7.lt),k8.same (b9.block _ k8.lt),λQw hW=>hX Qw λq g1 g2=>(hW q ab (ac4 g2 b9.size)).trans (b9.block q g2),hr,hs.1.bl b9,hs.2.bl b9,de,rfl,rfl⟩
    .refine aj.seq E hL (aj.rg E hL (aj.oc E hL 0 1 λK τ d hK=>?_));have bR:=bW.trans (gu _ τ d) (h7.out▸bW.size);obtain⟨y0,y1,y2,y3,y4⟩:=(b5.out _ bR).cells;simp only[aK,Act.put];go_wp2;refine hK.out _ _ (aj.un ?_);clear hK K y0 y1 y2 y3 y4 bR;refine aj.dO E (i:=1) rfl rfl I.st (λw=>y7) (PI E I hL (BQ.out _ bW) ?_);rintro y sa la ka cd W4 b4 hy hN;rw[bT rfl];obtain⟨a0,a1,s2,lx,c2,s3,ox,c3,rfl⟩:=hy.is (mpt now shift f n t) (zc now shift f n t n);have l8:=k8.lt;replace k7:=k7.same (b4.block _ k7.lt);replace k8:=k8.same (b4.block _ l8);replace bW:=bW.trans b4 (h7.out▸bW.size);clear b4;refine aj.oc E hL 2 6 λK τ d hK=>?_
     obtain⟨x0,x1,x2,x3,x4⟩:=k7.rc τ d;obtain⟨W8,e8,k9,-,z8,o8⟩:=aV (k7.r τ d) (acU 0 _) (ac8 _) a0 a1 s2 lx c2 s3 ox c3;replace z8:Hid _:=z8;replace hN:Hid _:=hN;simp only[aK,Act.put];go_wp2;refine hK.out _ _ (aj.regionEnd E hL ?_);replace k7:=k9;clear hK K x0 x1 x2 x3 x4 e8 k9;replace z8:W8.heap.size=W4.heap.size:=z8.out;have hNT:∀W,(∀q,W3.heap.size<=q->q<W4.heap.size->W.heap[q]?=W4.heap[q]?)->cd=0/\Yg f n t now W3.heap.size sa la ka W\/cd≠0/\sa=none/\la=0/\ka=0:=λW e=>hN.out.imp (λ⟨h,h1,h2⟩=>⟨h,h1,aB h2 λB hB=>e B (h2.lt B hB).1 (h2.lt B hB).2⟩) id
     obtain⟨Fx,Tx,hO,hr,hX⟩:=GB (λa0 a1 l F o T=>∃GL,kP f n t n now shift a0 a1 l F o T GL cd) (λW' h=>by obtain⟨_,_,_,_,_,_,GL,h1,h2⟩:=aac (hy.to (mpt now shift f n t) (zc now shift f n t n) (ac3 _) h) (hNT W' h);exact⟨_,_,_,_,_,_,⟨GL,h1⟩,h2⟩) λ_ _ _ _ _ _ _ _ _ _ _ _ ⟨_,h⟩ ⟨_,h'⟩=>⟨(h.one h').2.2.2.1,(h.one h').2.2.2.2.2.1⟩
     obtain⟨GL,hO⟩:=hO;replace hX:∀W':World,(∀q,B8<q->q<W8.heap.size->W'.heap[q]?=W8.heap[q]?)->_:=λW' h=>hX W' λq g1 g2=>(h q ab ab).trans (o8 q ab)
     replace k8:=k8.same (o8 _ ab);replace bW:Bl B7 W0 W8:=⟨z8▸bW.size,λq hq=>(o8 q ab).trans (bW.block q hq)⟩;clear o8 z8 hy hN hNT τ d W4;refine aj.rg E hL (aj.oc E hL 0 8 λK τ d hK=>?_);have bR:=bW.trans (gu _ τ d) (h7.out▸bW.size);have H1:=Xc now shift ao n cp f bo n dp t _ (BQ.out _ bR);obtain⟨y0,y1,y2,y3,y4⟩:=(b5.out _ bR).cells;have q8:aT (re W8 τ d) _ _ _ _ _:=k8;simp only[aK,Act.put];go_wp2_with(go_at_call 14;refine H1.mono ?_;clear H1;rintro e w5 ⟨⟨Ag,Ah,s4,l4,c4,F',s5,o',c5,T',sb,js,sc,GL',za,rfl,YS,hQ',hjs,aP⟩,b6⟩;clear hjs aP;have j8:=q8.same (b6.block _ q8.lt);obtain⟨x0,x1,x2,x3,x4⟩:=j8.cells;obtain⟨W9,e9,k9,-,z9,o9⟩:=aV j8 (acU 0 _) (ac8 _) Ag Ah s4 l4 c4 s5 o' c5;replace z9:Hid _:=z9)
     refine hK.out _ _ (aj.regionEnd E hL (aj.inBlock E hL ?_));replace z9:=z9.out;have n_:=q8.lt;replace b6:Bl W8.heap.size W8 w5:=Bl.nP b6;obtain⟨rfl,rfl,rfl,rfl,rfl,rfl,rfl,rfl⟩:=hO.one YS;have hs:=hQ'.sr (w':=W9) (Nat.le_of_eq z9.symm) λq hq=>o9 q (by have:W8.heap.size<=q:=hq;have:B8<W8.heap.size:=n_;omega)
     have de:=hO.Y_ hT.sure;obtain rfl:=de.I3;replace bW:=bW.trans b6 (h7.out▸bW.size);exact xM.out _ _ ⟨_,_,_,_,_,_,_,_,_,_,_,_,_,_,⟨z9▸bW.size,λq hq=>(o9 q ab).trans (bW.block q hq)⟩,(k7.same (b6.block _ k7.lt)).same (o9 _ ab),k9,λQw hW=>hX Qw λq g1 g2=>(hW q g1 (by have:=b6.size;omega)).trans ((o9 q ab).trans (b6.block q g2)),hr,hs.1,hs.2,de,rfl,rfl⟩
 .rw[if_neg (by simp;omega)];refine aj.exit E hL (k':=[.code _]) rfl ?_;refine aj.ck E hL [_] _ λK R τ d hK hR=>?_
  replace hT:=hT.to (gu _ τ d);have HB:=(wF hT.sm hT.si hT.sure).ib;rw[(ez hT.sure).1]at HB;obtain⟨y0,y1,y2,y3,y4⟩:=hT.bk.cells;simp only[aD];go_wp2_with(go_at_call 16;refine HB.mono ?_;clear HB;rintro e w9 ⟨rfl,b9⟩)
  have b9:=(bV.trans hT.bl bV.size).trans (Bl.of b9) (ac6 bV.size hT.bl.size);exact hK.out _ _ (aj.ret E hL (G6.out _ _ _ ⟨b9.size,b9.block⟩ rfl rfl))
end
