import Derived.Test.YtlmcblcijndipaaGreatDoora47
set_option linter.defProp false
set_option linter.unusedVariables false
set_option linter.unusedSectionVars false
set_option linter.unusedSimpArgs false
set_option maxHeartbeats 8000000
set_option maxRecDepth 100000
namespace Go.Proofs.YtlmcblcijndipaaGreatDoor
open Conc RowKit
variable {name:ByteArray}{ok:Ctx}{c:Frame}{a0 a1 cd now shift:Int}{q:Mv}{N l m n:Nat}{T t:Nat->Int}{F f:Nat->Mv}{a:Option Addr}{V W:World}
def C1 (now shift:Int)(ao:Option Addr)(n c:Nat)(f:Nat->Mv)(bo:Option Addr)(d:Nat)(t:Nat->Int)(rQ ie:Int)(ws:Option Addr)(l c':Nat)(F:Nat->Mv)(wx:Option Addr)(d':Nat)(T:Nat->Int)(w:World)(hn:n<=6)(hl:l<=6)(h1:gw w ao n c f)(h2:ja w bo n d t)(h3:gw w ws l c' F)(h4:ja w wx l d' T)
  (hP:∀i,i<l->∀k,nG f n t (F i).name k->0<=k->T i<=k):
  Calls Tz.prog 12 #[.agg #[now,shift,.slice ao n c,.slice bo n d],.agg #[rQ,ie,.slice ws l c',.slice wx l d']] w λe w'=>e=.returned true/\Below w w w':=by
 obtain⟨W1,e1,k1,b1,-⟩:=cr w now shift ao n c bo n d;obtain⟨W2,e2,k2,b2,-⟩:=cr W1 rQ ie ws l c' wx l d';have bW:=b1.trans<|b2.mono b1.size;have p1:=k1.same<|b2.block _ k1.lt;replace hP:Hid _:=hP;go_enter Tz.func12,Tryz.ntmps12
 go_wp2;go_loopw [5] (λx W=>∃k:Nat,x=.int .i64 k/\k<=l/\Below W2 W2 W) (λx _=>l-(intOf x).toNat)
 case atStart=>exact⟨0,rfl,ada _,acW _ _⟩
 case round=>
  obtain⟨k,rfl,hk,hb⟩:=hrel;have uD:=bW.trans<|hb.mono bW.size;have q1:=p1.same<|hb.block _ p1.lt;have q2:=k2.same<|hb.block _ k2.lt;let⟨y0,y1,y2,y3,y4⟩:=q1.cells;let⟨x0,x1,x2,x3,x4⟩:=q2.cells;by_cases aB:k<l
  .have dr:(k:Int)<l:=by omega
   obtain⟨b,rfl,bH,aq⟩:=h3.pos aa;obtain⟨b',rfl,bI,aU⟩:=h4.pos aa;have c0:=(aq.below uD bH k aB).c0;simp only[Nat.zero_add]at c0;have d0:=aU.below uD bI k aB;simp only[Nat.zero_add]at d0;have gD:∀w3,Below wr wr w3->(∃Zx:Nat,Value.int .i64 ((k:Int)+1)=.int .i64 (Zx:Int)/\Zx<=l/\Below W2 W2 w3)/\l-(intOf<|.int .i64<|(k:Int)+1).toNat<l-(intOf<|.int .i64 (k:Int)).toNat:=λw3 b3=>⟨⟨k+1,by go_num,aa,hb.trans<|b3.mono hb.size⟩,cI⟩
   replace gD:Hid _:=gD;go_wp2;have Bd:Below wr wr wr.drew:=(acW _ _).drew;refine wp_region_held_drew (S:=λw'=>w'.cell? w.heap.size=some (.int .i64 now)/\w'.cell? ⟨w.heap.size,1,none⟩=some (.int .i64 shift)/\w'.cell? ⟨w.heap.size,2,none⟩=some (.slice ao n c)/\w'.cell? ⟨w.heap.size,3,none⟩=some (.slice bo n d)/\w'.cell? ⟨W1.heap.size,2,none⟩=some (.slice b l c')/\w'.cell? ⟨b,k*6,none⟩=some (.string (F k).name)) bD ⟨y0,y1,y2,y3,x2,c0⟩ λhHeld=>?_;have HT:=A9 now shift ao n c f bo d t (F k).name wr.drew hn (h1.below<|uD.trans<|Bd.mono uD.size)<|h2.below<|uD.trans<|Bd.mono uD.size;refine aO 0 (.agg #[now,shift,.slice ao n c,.slice bo n d]) 14 rfl A7 hHeld ?_;refine aO 1 (.pointer<|some ⟨W1.heap.size,2,none⟩) 15 rfl A7 hHeld ?_;refine aO 2 (.slice b l c') 16 rfl A7 hHeld ?_;refine aO 3 (.int .i64 k) 17 rfl A7 hHeld ?_;refine aO 4 (.pointer<|some ⟨b,k*6,none⟩) 18 rfl A7 hHeld ?_;refine aO 5 (.pointer<|some ⟨b,k*6,none⟩) 19 rfl A7 hHeld ?_;refine aO 6 (.string (F k).name) 20 rfl A7 hHeld ?_;refine iX 7 rfl λK hK=>?_;go_simp
   go_at_call 27
   refine HT.mono ?_;clear HT;rintro e w4 ⟨⟨kk,rfl,zd⟩,b4⟩;have zd:Hid (0<=kk->T k<=kk):=hP.out k aB kk zd;have B4:=Bd.trans<|b4.mono Bd.size;let⟨z0,z1,z2,z3,z4⟩:=(q1.same<|B4.block _ q1.lt).cells;let⟨x0,x1,x2,x3,x4⟩:=(q2.same<|B4.block _ q2.lt).cells;have c0':=(aq.below (uD.trans<|B4.mono uD.size) bH k aB).c0;have d0:=aU.below (uD.trans<|B4.mono uD.size) bI k aB;simp only[Nat.zero_add]at c0' d0;go_wp2_with fail
   refine hK.out _ _ ⟨z0,z1,z2,z3,x2,c0'⟩ λhHeld=>?_;clear hK K;refine iX 8 rfl λK hK=>?_;go_simp
   refine hK.out _ _ hHeld λ_=>?_;clear hK K;refine wpAnyH_done bD ?_ _;go_wp2;all_goals first
    |exact gD.out w4 B4
    |(exfalso;omega)
    |(exfalso;have e:=zd.out aa;omega)
  .have dr:¬(k:Int)<l:=by omega
   go_wp2;all_goals try omega
   go_ret;exact⟨rfl,uD⟩
section
variable [g:Gl]{r0:Frame}{cs:List Frame}{Q:Value->World->Prop}{ao:Option Addr}{cp:Nat}{bo:Option Addr}{dp:Nat}
def OP (E:ee Tz.prog ok c cX)(Sd:ok.bh 10=true)(wW:ok.bh 38=true)(jU:ok.bh 67=true)(Ub:ok.bh 68=false)(jO:ok.bh 287=true)(kG:ok.bh 18=true)(tS:ok.bh 52=true)(yZ:ok.bh 80=true)(sx:ok.bh 111=true)(Fu:ok.bh 139=false)(ig:ok.bh r0.fn=true)(hB:Bq V now shift ao n cp f bo m dp t)
  (aT:∀y cd W',Bl V V W'->K6 (Xp now shift f n t name) (Ti now shift f n t m) (aX now shift f n t m) V.heap.size y cd W'->ak Tz.prog ok c cX Q ⟨r0.finish<|.tuple #[y,.int .i64 cd],cs,W'⟩):
  ak Tz.prog ok c cX Q ⟨Frame.enter Tz.prog 10 #[.agg #[now,shift,.slice ao n cp,.slice bo m dp],name] .normal,r0::cs,V⟩:=by
 replace aT:Hid _:=aT;refine ak.en Tz.func10 rfl Tryz.ntmps10 BA ?_;refine ak.ck E Sd [_] _ λK R τ0 yW hK hR=>?_
 obtain⟨W1,e1,k2,b1,-⟩:=cr (re V τ0 yW) now shift ao n cp bo m dp;obtain⟨W2,e2,k4,b2,-⟩:=cr W1 0 0 none 0 0 none 0 0;have bW:=Bl.lZ<|b1.trans<|b2.mono b1.size;simp only[aD];go_wp2;refine hK.out _ _ ?_;have p2:=k2.same<|b2.block _ k2.lt;have o4:V.heap.size<W1:=k2.lt;clear hK hR K R k2 b1 b2 e1 e2;refine ak.seq E Sd<|ak.rg E Sd<|ak.oc E Sd 0 4 λK τ d hK=>?_;let⟨y0,y1,y2,y3,y4⟩:=p2.rc τ d;simp only[aN];go_wp2;refine hK.out _ _<|ak.un ?_;clear hK K y0 y1 y2 y3 y4;refine ak.ey E (i:=4) rfl rfl wW (λw=>C8)<|Fj E wW jU Ub Sd (.inr<|.inr ⟨name,rfl,rfl,rfl⟩) jO (λW hW=>((hB.bl bW).bl hW).ib) (mpd now shift f n t name) (λh W r cs hr hW hk=>OS E jO kG tS yZ sx Fu hr ((hB.bl bW).bl hW) h hk) (V0 now shift f n t m) (λW hW=>(hB.bl bW).cy W hW) ?_;rintro y cd W4 b4 hy;rw[cO rfl];obtain⟨a0,a1,s2,l2,c2,s3,l3,c3,rfl⟩:=hy.is (mpd now shift f n t name)<|V0 now shift f n t m;have l2':=k4.lt;have k4:=k4.same<|b4.block _ l2';have z0:=bW.size;have z4:=b4.size;have bV:=bW.trans b4 z0;refine ak.oc E Sd 5 4 λK τ d hK=>?_
 let⟨x0,x1,x2,x3,x4⟩:=k4.rc τ d;obtain⟨W8,e8,k8,-,z8,o8⟩:=bJ (k4.r τ d) (acW 0 _) (ada _) a0 a1 s2 l2 c2 s3 l3 c3;replace z8:Hid _:=z8;simp only[aN,Act.put];go_wp2;have z8:W8.heap.size=W4.heap.size:=z8.out;exact hK.out _ _<|ak.regionEnd E Sd<|ak.ret E Sd<|ak.lv E ig Tz.func10 (λτ d=>dm rfl rfl rfl<|k8.r τ d)<|aT.out _ _ _ ⟨aa,λk hk=>(o8 k aa).trans<|bV.block k hk⟩<|hy.to (mpd now shift f n t name) (V0 now shift f n t m) z0 λk g1 g2=>o8 k aa
end
def Px (W:World)(y:Value)(a0 a1:Int)(l:Nat)(F:Nat->Mv)(o:Nat)(T:Nat->Int):Prop:=∃s2 c2 s3 c3,y=.agg #[a0,a1,.slice s2 l c2,.slice s3 o c3]/\gw W s2 l c2 F/\ja W s3 o c3 T/\o<=c3
def NS {s:Nat}{T:TypeId}{k c:Nat}{xs:List Value}(h:W.ownsRow N T s (.slice a n c) k xs):n<=c:=by
 rcases h.2 with⟨e,rfl⟩|⟨g,cap,cur,e,_,_,O7,_⟩
 .cases e;exact ada _
 .cases e;exact O7
def IX (W:World)(f:Nat->Mv)(t:Nat->Int):Px W (.agg #[(0:Int),(0:Int),(),()]) 0 0 0 f 0 t:=⟨_,_,_,_,rfl,⟨λ_=>⟨rfl,rfl⟩,(λ_ h=>nomatch h)⟩,⟨λ_=>⟨rfl,rfl⟩,(λ_ h=>nomatch h)⟩,ac5 _⟩
section
variable {y:Value}
def IW (h:Ti now shift f n t m N y W):Px W y now shift n f m t:=by
 obtain⟨v,u,rfl,h1,h2⟩:=h;obtain⟨a,c,rfl⟩:=ua h1;obtain⟨a',c',rfl⟩:=ua h2;exact⟨_,_,_,_,rfl,VM h1,VL h2 λj hj=>d9 hj,NS h2⟩
def Xs (h:K6 (Lz now shift f n q) (Ti now shift f n t m) (aX now shift f n t m) N y cd W):∃a0 a1 l F o T,qG f n t m now shift q a0 a1 l F o T cd/\Px W y a0 a1 l F o T:=by
 rcases h with⟨h0,rfl,rfl⟩|⟨h0,⟨h,rfl⟩|⟨h1,⟨W',N',h⟩,hc⟩⟩
 .exact⟨_,_,_,_,_,_,.bad h0,IX W f t⟩
 .unfold Lz at h;cases hr:vF f n now shift q with
  |no cd=>rw[hr]at h;cases h.2
  |yes p T=>
   rw[hr]at h;obtain⟨_,BN,c2,BT,c3,rfl,_,_,h3,h4,h5⟩:=h;exact⟨_,_,_,_,_,_,.yes h0 hr,_,_,_,_,rfl,⟨(λh=>nomatch h),λad had=>by cases had;exact⟨BN,rfl,h3.lt,h3.1⟩⟩,⟨(λh=>nomatch h),λad had=>by cases had;exact⟨BT,rfl,h4.lt,h4.2⟩⟩,h5⟩
 .unfold Lz at h;cases hr:vF f n now shift q with
  |no E'=>
   rw[hr]at h;have:=h.2;simp at this;subst this;exact⟨_,_,_,_,_,_,.no h0 hr,IW hc⟩
  |yes p T=>rw[hr]at h;cases h.1
def XE (h:K6 (Xp now shift f n t name) (Ti now shift f n t m) (aX now shift f n t m) N y cd W):∃a0 a1 l F o T,oC f n t m now shift name a0 a1 l F o T cd/\Px W y a0 a1 l F o T:=by
 rcases h with⟨h0,rfl,rfl⟩|⟨h0,⟨⟨k,hk,h⟩,rfl⟩|⟨h1,⟨W',N',k,hk,h⟩,hc⟩⟩
 .exact⟨_,_,_,_,_,_,.bad h0,IX W f t⟩
 .cases hr:pA f n t now shift k with
  |no cd=>rw[hr]at h;cases h.2
  |yes p T=>
   rw[hr]at h;obtain⟨_,BN,c2,BT,c3,rfl,_,_,h3,h4,h5⟩:=h;exact⟨_,_,_,_,_,_,.yes h0 hk hr,_,_,_,_,rfl,⟨(λh=>nomatch h),λad had=>by cases had;exact⟨BN,rfl,h3.lt,h3.1⟩⟩,⟨(λh=>nomatch h),λad had=>by cases had;exact⟨BT,rfl,h4.lt,h4.2⟩⟩,h5⟩
 .cases hr:pA f n t now shift k with
  |no E'=>
   rw[hr]at h;have:=h.2;simp at this;subst this;exact⟨_,_,_,_,_,_,.no h0 hk hr,IW hc⟩
  |yes p T=>rw[hr]at h;cases h.1
end
section
variable {o:Nat}{GL:List Nat}
structure Stp (f:Nat->Mv)(n:Nat)(t:Nat->Int)(now shift a0 a1:Int)(l:Nat)(F:Nat->Mv)(o:Nat)(T:Nat->Int)(cd:Int):Prop where
 Mf:o=l
 sure:fi a0 a1 F l T l=true
 kept:∀i,i<n->∀k,nG F l T (f i).name k->0<=(f i).prom->0<=k->k=(f i).prom
 same:1<cd->a0=now/\a1=shift/\l=n/\F=f/\o=n/\T=t
end
section
variable {s2 s3:Option Addr}{c2 c3:Nat}
def Iu (h1:gw W s2 l c2 F)(h2:ja W s3 l c3 T)(hs:aX a0 a1 F l T l=true):Bq W a0 a1 s2 l c2 F s3 l c3 T:=by
 let⟨hm,_,hf⟩:=cK hs;let⟨r1,r2,_⟩:=iF hs;have h6:=bZ hm;refine⟨h6,h6,h1,h2,λh=>?_,λi hi=>qn<|bg hm i hi⟩;have:l=0:=h.elim (λh=>(h1.1 h).1) λh=>(h2.1 h).1;exact⟨this,this,r1,r2⟩
def Rt (h1:gw W s2 l c2 F)(h2:ja W s3 l c3 T)(hs:fi a0 a1 F l T l=true):Bq W a0 a1 s2 l c2 F s3 l c3 T:=Iu h1 h2 (lA hs).1
end
structure InX (ok:Ctx):Prop where
 sa:ok.bh 8=true
 sd:ok.bh 10=true
 ch:ok.bh 38=true
 tr:ok.bh 67=true
 gm:ok.bh 287=true
 su:ok.bh 18=true
 ro:ok.bh 52=true
 pl:ok.bh 80=true
 sb:ok.bh 111=true
 bt:ok.bh 139=false
 co:ok.bh 68=false
section
variable [g:Gl]
def iB.to {cd:Nat->Int}(h:iB V a l cd){τ:Nat->Question->Nat}{d:Nat}(b:Bl V.heap.size V W):iB (re W τ d) a l cd:=by
 let⟨h1,h2,h3⟩:=h;refine⟨h1,h2.imp id λ⟨b',off,e,hl,hr⟩=>⟨b',off,e,ac6 hl b.size,λi hi=>?_⟩,h3⟩;have:=hr i hi;have e:=b.block b' hl;simp only[World.cell?]at this⊢;rw[show(re W τ d).heap[b']?=V.heap[b']? from e];exact this
def OQ (E:ee Tz.prog ok c cX)(hL:ok.bh 4=true)(I:InX ok)(J:v_ ok)(ze:g.ov=283){cap:Nat}{cd:Nat->Int}(h:iB V a l cd)(vy:l<=cap){a':Option Addr}{l' cap':Nat}{E':Nat->Int}(h':iB V a' l' E')(Yl:l'<=cap'):
  ak Tz.prog ok c cX (λv V'=>v=.bool true/\Bl V.heap.size V V') ⟨Frame.enter Tz.prog 4 #[.slice a l cap,.slice a' l' cap'] .normal,[],V⟩:=by
 have zg:Hid (∀(x:Act) (w':World) (todo:List Item),Bl V.heap.size V w'->x.defers=[]->x.tmps[4]?=some (.bool true)->ak Tz.prog ok c cX (λv V'=>v=.bool true/\Bl V.heap.size V V') ⟨{(base 4).at x todo with mode:=.returning},[],w'⟩):=by
  rintro x w' todo h1 h2 h3;refine ak.ends (λτ d=>⟨rfl,.bool true,⟨rfl,h2,rfl,_,Tz.func4,?_⟩,rfl,⟨h1.size,h1.block⟩⟩) ⟨_,4,Tz.func4,rfl⟩;have:=results_tmp (fn:=Tryz.f4) rfl x.tmps Tz.prog<|re w' τ d;rw[kh h3]at this;exact this
 refine ak.en Tz.func4 rfl Tryz.ntmps4 BA ?_;refine ak.ck E hL [_,_,_] _ λK R τ d hK hR=>?_
 have H1:=LF a l cap cd (re V τ d) h vy;have hn:=h.1;have Ln:=h'.1;replace h':Hid _:=h';unfold maxLen at hn Ln;clear h;simp only[aD];go_wp2_with(go_at_call 22;refine H1.mono ?_;clear H1;rintro e w1 ⟨⟨now,shift,ao,n,cp,f,bo,m,dp,t,q,rfl,hB,hq⟩,b1⟩)
 .exact hR.out _ _ λtodo=>zg.out _ _ _ ⟨ac5 _,λ_ _=>rfl⟩ rfl rfl
 rotate_left
 .exact hR.out _ _ λtodo=>zg.out _ _ _ ⟨ac5 _,λ_ _=>rfl⟩ rfl rfl
 refine hK.out _ _ ?_;clear hK hR K R;let⟨W2,e2,k5,b2,z2⟩:=cr w1 now shift ao n cp bo m dp;let⟨W3,e3,k6,b3,z3⟩:=nJ W2 q;rw[e2,e3];have A_:=b2.trans<|b3.mono b2.size;have bV:=(Bl.lZ b1).trans (Bl.of A_) b1.size;replace hB:=hB.bl<|Bl.of A_;replace k5:=k5.same<|b3.block _ k5.lt;clear e2 e3 b1 b2 b3 A_ z3;rw[z2]at k6;generalize hB5:w1.heap.size=B5 at*;clear hB5 w1 W2 τ d z2;refine ak.seq E hL<|ak.rg E hL<|ak.oc E hL 0 2 λK τ d hK=>?_;have yy:=k5.rc τ d;let⟨d0,d1,d2,d3,d4,d5⟩:=dN (show bf (re W3 τ d) _ _ from k6);simp only[aN,Act.put];go_wp2;refine hK.out _ _<|ak.un ?_;clear hK K yy d0 d1 d2 d3 d4 d5 τ d;refine ak.ey E (i:=2) rfl rfl I.sa (λw=>C8)<|RG (q:=q) E I.sa I.ch I.tr I.co J I.su I.ro ze hL hB hq ?_;rintro y c8 W4 b4 hy;rw[cO rfl];obtain⟨a0,a1,l3,F,o,T,hO,s2,c2,s3,c3,rfl,mZ,vJ,-⟩:=Xs hy;clear hy;replace k5:=k5.same<|b4.block _ k5.lt;replace k6:=k6.keep<|b4.block _ k6.lt;replace hB:=hB.bl b4;replace bV:=bV.trans b4 bV.size;clear b4 W3;refine ak.oc E hL 3 6 λK τ d hK=>?_
 obtain⟨W5,e5,k7,b5,-⟩:=cr (re W4 τ d) a0 a1 s2 l3 c2 s3 o c3;simp only[aN,Act.put];go_wp2;refine hK.out _ _<|ak.regionEnd E hL ?_;clear hK K e5;have Iq:Bl W4.heap.size W4 W5:=Bl.lZ b5;replace k5:=k5.same<|Iq.block _ k5.lt;replace k6:=k6.keep<|Iq.block _ k6.lt;replace hB:=hB.bl Iq;replace mZ:=mZ.bl Iq;replace vJ:=vJ.bl Iq;replace bV:=bV.trans Iq bV.size;clear b5 Iq;generalize T9:(re W4 τ d).heap.size=B7 at*;clear T9 τ d W4;refine ak.ck E hL [_] _ λK R τ d hK hR=>?_
 have yy:=k5.rc τ d;let⟨d0,d1,d2,d3,d4,d5⟩:=dN (show bf (re W5 τ d) _ _ from k6);have H1:=RV now shift ao n cp f bo m dp t q (re W5 τ d) (hB.bl ⟨ac5 _,λ_ _=>rfl⟩) hq;replace hB:Hid _:=hB;simp only[aD];go_wp2_with(go_at_call 9;refine H1.mono ?_;clear H1;rintro e w5 ⟨⟨PB,PC,s4,l4,c4,F',s5,o',c5,T',cd9,rfl,X1,hQ⟩,b5⟩;obtain⟨W6,e6,k9,b6,-⟩:=cr w5 PB PC s4 l4 c4 s5 o' c5)
 refine hK.out _ _ ?_;clear hK hR K R e6 yy d0 d1 d2 d3 d4 d5 k6;obtain⟨DS,qj,-⟩:=hQ.src;obtain⟨rfl,rfl,rfl,rfl,rfl,rfl,rfl⟩:=hO.one X1;clear hQ X1 hq;have FW:=(Bl.lZ b5).trans (Bl.of b6) b5.size;replace DS:=DS.bl<|Bl.of b6;replace qj:=qj.bl<|Bl.of b6;replace k5:=k5.same<|FW.block _ k5.lt;replace k7:=k7.same<|FW.block _ k7.lt;replace hB:=hB.out.bl FW;replace mZ:=mZ.bl FW;replace vJ:=vJ.bl FW;replace bV:=bV.trans FW bV.size;clear b5 b6 FW;generalize O0:w5.heap.size=B9 at*;clear O0 τ d w5 W5;let⟨hC,hA⟩:=hO.law;refine ak.seq E hL ?_;refine ak.cut (λx w'=>Bl V.heap.size V w'/\gZ x (rW 156 [(1,.slice a' l' cap')])) ?_ λDU=>?_
 .clear k5 k7 k9 mZ vJ DS qj hB hA hC hO bV hn W6;rintro x w' ⟨hb,hf⟩;obtain⟨u,rfl⟩:=hf.open;clear hf;clear now shift ao n cp f bo m dp t q B5 B7 B9 c8 a0 a1 l3 F o T s2 c2 s3 c3 s4 c4 s5 c5;refine ak.ck E hL [_] _ λK R τ d hK hR=>?_
  have H1:=JO a' l' cap' E' (re w' τ d) (iB.to h'.out hb) Yl;simp only[aD];go_wp2_with(go_at_call 23;refine H1.mono ?_;clear H1;rintro e w1 ⟨⟨now,shift,ao,n,cp,f,bo,m,dp,t,name,rfl,hB,II⟩,b1⟩;obtain⟨W2,e2,k5,b2,-⟩:=cr w1 now shift ao n cp bo m dp)
  refine hK.out _ _ ?_;clear hK hR K R e2;have bV:=(hb.trans (Bl.lZ b1) hb.size).trans (Bl.of b2)<|ac8 hb.size b1.size;replace hB:=hB.bl<|Bl.of b2;clear b1 b2 hb;generalize hB5:w1.heap.size=B5 at*;clear hB5 w1 τ d w';refine ak.seq E hL<|ak.rg E hL<|ak.oc E hL 0 2 λK τ d hK=>?_;have yy:=k5.rc τ d;simp only[aN,Act.put];go_wp2;refine hK.out _ _<|ak.un ?_;clear hK K yy τ d;refine ak.ey E (i:=2) rfl rfl I.sd (λw=>C8)<|OP (name:=name) E I.sd I.ch I.tr I.co I.gm I.su I.ro I.pl I.sb I.bt hL hB ?_;rintro y c8 W4 b4 hy;rw[cO rfl];obtain⟨a0,a1,l3,F,o,T,hO,s2,c2,s3,c3,rfl,mZ,vJ,-⟩:=XE hy;clear hy;replace k5:=k5.same<|b4.block _ k5.lt;replace hB:=hB.bl b4;replace bV:=bV.trans b4 bV.size;clear b4 W2;refine ak.oc E hL 3 6 λK τ d hK=>?_
  obtain⟨W5,e5,k7,b5,-⟩:=cr (re W4 τ d) a0 a1 s2 l3 c2 s3 o c3;simp only[aN,Act.put];go_wp2;refine hK.out _ _<|ak.regionEnd E hL ?_;clear hK K e5;have Iq:Bl W4.heap.size W4 W5:=Bl.lZ b5;replace k5:=k5.same<|Iq.block _ k5.lt;replace hB:=hB.bl Iq;replace mZ:=mZ.bl Iq;replace vJ:=vJ.bl Iq;replace bV:=bV.trans Iq bV.size;clear b5 Iq;generalize T9:(re W4 τ d).heap.size=B7 at*;clear T9 τ d W4;refine ak.ck E hL [_] _ λK R τ d hK hR=>?_
  have yy:=k5.rc τ d;have H1:=Me now shift ao n cp f bo m dp t name (re W5 τ d) (hB.bl<|uX _ τ d) II;replace hB:Hid _:=hB;replace II:Hid _:=II;simp only[aD];go_wp2_with(go_at_call 11;refine H1.mono ?_;clear H1;rintro e w5 ⟨⟨PB,PC,s4,l4,c4,F',s5,o',c5,T',cd9,rfl,X1,hQ⟩,b5⟩;obtain⟨W6,e6,k9,b6,-⟩:=cr w5 PB PC s4 l4 c4 s5 o' c5)
  refine hK.out _ _ ?_;clear hK hR K R e6 yy;obtain⟨DS,qj,-⟩:=hQ.src;obtain⟨rfl,rfl,rfl,rfl,rfl,rfl,rfl⟩:=hO.one X1;clear hQ X1 II;have FW:=(Bl.lZ b5).trans (Bl.of b6) b5.size;replace DS:=DS.bl<|Bl.of b6;replace qj:=qj.bl<|Bl.of b6;replace k5:=k5.same<|FW.block _ k5.lt;replace k7:=k7.same<|FW.block _ k7.lt;replace hB:=hB.out.bl FW;replace mZ:=mZ.bl FW;replace vJ:=vJ.bl FW;replace bV:=bV.trans FW bV.size;clear b5 b6 FW;generalize O0:w5.heap.size=B9 at*;clear O0 τ d w5 W5;let⟨hC,hA⟩:=hO.law;by_cases hc:c8=0
  .subst hc;have hbm:aX now shift f n t m=true:=by cases hO<;>assumption
   let⟨_,Av,_⟩:=cK hbm;subst Av;obtain⟨rfl,rfl,rfl,rfl,mG,zf,IJ,-⟩:=hA rfl;have hX:=Iu mZ vJ mG;have g2:=hX.n6;clear hA hC hO hbm;refine ak.seq E hL<|ak.rg E hL<|ak.oc E hL 0 45 λK τ d hK=>?_;have i6:=uX W6 τ d;have H1:=gi a0 a1 s2 o c2 F s3 o c3 T s4 c4 s5 c5 (re W6 τ d) g2 g2 (mZ.bl i6) (vJ.bl i6) (DS.bl i6)<|qj.bl i6;have H2:Hid (∀W,Bl W6.heap.size W6 W->_):=λW hW=>(hX.bl hW).ib
   rw[mG]at H2;have H4:Hid (∀W,Bl W6.heap.size W6 W->_):=λW hW=>C1 a0 a1 ao (o+1) cp f bo dp t a0 a1 s2 o c2 F s3 c3 T W hB.n6 g2 (hB.sm.bl hW) (hB.si.bl hW) (hX.sm.bl hW) (hX.si.bl hW) IJ
   have FE:IntKind.i64.wrap (((o+1:Nat):Int)-1)=(o:Int):=by rw[IntKind.wrap_i64];omega
   have q5:=k5.r τ d;have q7:=k7.r τ d;have yy:=q5.cells;have xx:=q7.cells;have zz:=k9.rc τ d;replace hB:Hid _:=hB;replace hX:Hid _:=hX;replace zf:Hid _:=zf;clear IJ mG;simp only[aN,Act.put];go_wp2_with(first
    |(go_at_call 15;refine H1.mono ?_;clear H1;rintro e w7 ⟨rfl,b7⟩;have j5:=q5.same<|b7.block _ q5.lt;have j7:=q7.same<|b7.block _ q7.lt;have yz:=j5.cells;have xy:=j7.cells;have l7:Bl W6.heap.size W6 w7:=Bl.lZ b7;have H3:=H2.out w7 l7)
    |(go_at_call 16;refine H3.mono ?_;clear H3;rintro e w8 ⟨rfl,b8⟩;have o5:=j5.same<|b8.block _ j5.lt;have o7:=j7.same<|b8.block _ j7.lt;have yu:=o5.cells;have xu:=o7.cells;have l8:=l7.trans (Bl.of b8) l7.size;have H5:=H4.out w8 l8)
    |(go_at_call 12;refine H5.mono ?_;clear H5;rintro e w9 ⟨rfl,b9⟩;have p5:=o5.same<|b9.block _ o5.lt;have p7:=o7.same<|b9.block _ o7.lt;have yv:=p5.cells;have xv:=p7.cells;have l9:=l8.trans (Bl.of b9) l8.size))
   refine hK.out _ _ ?_;clear hK K yy yz yu yv xx xy xu xv zz H2 H4 FE j5 j7 o5 o7 q5 q7 b7 b8 b9 l7 l8 k5 k7 k9;replace hB:=hB.out.bl l9;replace hX:=hX.out.bl l9;replace bV:=bV.trans l9 bV.size;refine ak.ey E (i:=45) rfl rfl I.su (λw=>C8)<|qd E I.su I.ro I.pl I.sb I.bt hL hB ?_;rintro W10 Aa;rw[cO rfl];replace p7:=p7.same<|Aa.block _ p7.lt;replace hX:=hX.bl Aa;replace bV:=bV.trans Aa bV.size;clear Aa hB p5;replace zf:=zf.out;generalize fi a0 a1 f (o+1) t (o+1)=sd at*;rcases Bool.eq_false_or_eq_true sd with rfl|rfl
   .replace zf:Hid _:=zf rfl;refine ak.oc E hL 46 4 λK τ d hK=>?_
    have xx:=p7.rc τ d;replace hX:Hid _:=hX;simp only[aN,Act.put];go_wp2;refine hK.out _ _<|ak.un ?_;clear hK K xx;refine ak.ey E (i:=50) rfl rfl I.su (λw=>C8)<|qd E I.su I.ro I.pl I.sb I.bt hL hX.out ?_;rintro W12 K7;rw[cO rfl,zf.out];refine ak.oc E hL 51 3 λK τ d hK=>?_
    simp only[aN,Act.put];go_wp2;exact hK.out _ _<|ak.regionEnd E hL<|ak.ret E hL<|zg.out _ _ _ ⟨(bV.trans K7 bV.size).size,(bV.trans K7 bV.size).block⟩ rfl rfl
   .refine ak.oc E hL 46 8 λK τ d hK=>?_
    clear zf;replace hX:Hid _:=hX;simp only[aN,Act.put];go_wp2;exact hK.out _ _<|ak.regionEnd E hL<|ak.ret E hL<|zg.out _ _ _ ⟨bV.size,bV.block⟩ rfl rfl
  have hl:l3<=6/\o<=6:=by
   cases hO
   .exact⟨by omega,by omega⟩
   .exact⟨hB.n6,hB.m6⟩
   .exact absurd rfl hc
  by_cases h1:1<c8
  .obtain⟨rfl,rfl,rfl,rfl,rfl,rfl⟩:=hC h1;clear hA hC hO;refine ak.ck E hL [_] _ λK R τ d hK hR=>?_
   have i6:=uX W6 τ d;have H1:=gi a0 a1 s2 l3 c2 F s3 o c3 T s4 c4 s5 c5 (re W6 τ d) hl.1 hl.2 (mZ.bl i6) (vJ.bl i6) (DS.bl i6)<|qj.bl i6;have H2:Hid (∀W,Bl W6.heap.size W6 W->_):=λW hW=>gi a0 a1 s2 l3 c2 F s3 o c3 T ao cp bo dp W hl.1 hl.2 (mZ.bl hW) (vJ.bl hW) (hB.sm.bl hW)<|hB.si.bl hW
   have q5:=k5.r τ d;have q7:=k7.r τ d;have yy:=q5.cells;have xx:=q7.cells;have zz:=k9.rc τ d;replace hB:Hid _:=hB;replace hl:Hid _:=hl;simp only[aD];go_wp2_with(first
    |(go_at_call 15;refine H1.mono ?_;clear H1;rintro e w7 ⟨rfl,b7⟩;have j5:=q5.same<|b7.block _ q5.lt;have j7:=q7.same<|b7.block _ q7.lt;have yz:=j5.cells;have xy:=j7.cells;have H3:=H2.out w7<|Bl.lZ b7)
    |(go_at_call 15;refine H3.mono ?_;clear H3;rintro e w8 ⟨rfl,b8⟩))
   all_goals try omega
   exact hK.out _ _<|ak.ret E hL<|zg.out _ _ _ (bV.trans ((Bl.lZ b7).trans (Bl.of b8) b7.size) bV.size) rfl rfl
  .clear hA hC hO;refine ak.ck E hL [_] _ λK R τ d hK hR=>?_
   have i6:=uX W6 τ d;have H1:=gi a0 a1 s2 l3 c2 F s3 o c3 T s4 c4 s5 c5 (re W6 τ d) hl.1 hl.2 (mZ.bl i6) (vJ.bl i6) (DS.bl i6)<|qj.bl i6;have xx:=k7.rc τ d;have zz:=k9.rc τ d;replace hB:Hid _:=hB;replace hl:Hid _:=hl;simp only[aD];go_wp2_with(go_at_call 15;refine H1.mono ?_;clear H1;rintro e w7 ⟨rfl,b7⟩)
   all_goals try omega
   exact hK.out _ _<|ak.ret E hL<|zg.out _ _ _ (bV.trans (Bl.lZ b7) bV.size) rfl rfl
 by_cases hc:c8=0
 .subst hc;obtain⟨rfl,rfl,rfl,rfl,zf,qM⟩:=hA rfl;have hX:=Rt mZ vJ zf;have g2:=hX.n6;clear hA hC hO;refine ak.seq E hL<|ak.rg E hL<|ak.oc E hL 0 24 λK τ d hK=>?_;have i6:=uX W6 τ d;have H1:=gi a0 a1 s2 (n+1) c2 F s3 (n+1) c3 T s4 c4 s5 c5 (re W6 τ d) g2 g2 (mZ.bl i6) (vJ.bl i6) (DS.bl i6)<|qj.bl i6;have q7:=k7.r τ d;have xx:=q7.cells;have zz:=k9.rc τ d;replace hB:Hid _:=hB;replace hX:Hid _:=hX;simp only[aN,Act.put];go_wp2_with(go_at_call 15;refine H1.mono ?_;clear H1;rintro e w7 ⟨rfl,b7⟩;have j7:=q7.same<|b7.block _ q7.lt;have xy:=j7.cells)
  refine hK.out _ _ ?_;clear hK K xx xy zz q7;replace b7:Bl W6.heap.size W6 w7:=Bl.lZ b7;replace k5:=k5.same<|b7.block _ k5.lt;replace k7:=k7.same<|b7.block _ k7.lt;replace hB:=hB.out.bl b7;replace hX:=hX.out.bl b7;replace bV:=bV.trans b7 bV.size;clear b7 i6 j7 k9 DS qj mZ vJ W6;refine ak.ey E (i:=24) rfl rfl I.su (λw=>C8)<|qd E I.su I.ro I.pl I.sb I.bt hL hX ?_;rintro W8 b8;rw[cO rfl,zf];replace k5:=k5.same<|b8.block _ k5.lt;replace k7:=k7.same<|b8.block _ k7.lt;replace hB:=hB.bl b8;replace hX:=hX.bl b8;replace bV:=bV.trans b8 bV.size;clear b8;refine ak.oc E hL 25 19 λK τ d hK=>?_
  have i8:=uX W8 τ d;have H1:=zJ a0 a1 ao n cp f bo m dp a0 a1 s2 (n+1) c2 F s3 c3 T (re W8 τ d) hB.n6 g2 (hB.sm.bl i8) (hX.sm.bl i8) (hX.si.bl i8) qM;have FE:IntKind.i64.wrap ((n:Int)+1)=((n+1:Nat):Int):=by rw[IntKind.wrap_i64];omega
  have yy:=k5.rc τ d;have xx:=k7.rc τ d;replace hB:Hid _:=hB;replace hX:Hid _:=hX;clear qM zf;simp only[aN,Act.put];go_wp2_with(go_at_call 19;refine H1.mono ?_;clear H1;rintro e w9 ⟨rfl,b9⟩)
  refine hK.out _ _<|ak.regionEnd E hL<|ak.cond E hL (t:=false) rfl<|ak.skip E hL<|DU.out _ _ ⟨?_,rfl,rfl⟩;exact bV.trans (Bl.lZ b9) bV.size
 have hl:l3<=6/\o<=6:=by
  cases hO
  .exact⟨by omega,by omega⟩
  .exact⟨hB.n6,hB.m6⟩
  .exact absurd rfl hc
 by_cases h1:1<c8
 .obtain⟨rfl,rfl,rfl,rfl,rfl,rfl⟩:=hC h1;clear hA hC hO;refine ak.ck E hL [_] _ λK R τ d hK hR=>?_
  have i6:=uX W6 τ d;have H1:=gi a0 a1 s2 l3 c2 F s3 o c3 T s4 c4 s5 c5 (re W6 τ d) hl.1 hl.2 (mZ.bl i6) (vJ.bl i6) (DS.bl i6)<|qj.bl i6;have H2:Hid (∀W,Bl W6.heap.size W6 W->_):=λW hW=>gi a0 a1 s2 l3 c2 F s3 o c3 T ao cp bo dp W hl.1 hl.2 (mZ.bl hW) (vJ.bl hW) (hB.sm.bl hW)<|hB.si.bl hW
  have q5:=k5.r τ d;have q7:=k7.r τ d;have yy:=q5.cells;have xx:=q7.cells;have zz:=k9.rc τ d;replace hB:Hid _:=hB;replace hl:Hid _:=hl;simp only[aD];go_wp2_with(first
   |(go_at_call 15;refine H1.mono ?_;clear H1;rintro e w7 ⟨rfl,b7⟩;have j5:=q5.same<|b7.block _ q5.lt;have j7:=q7.same<|b7.block _ q7.lt;have yz:=j5.cells;have xy:=j7.cells;have H3:=H2.out w7<|Bl.lZ b7)
   |(go_at_call 15;refine H3.mono ?_;clear H3;rintro e w8 ⟨rfl,b8⟩))
  all_goals try omega
  refine hK.out _ _<|ak.cond E hL (t:=false) rfl<|ak.skip E hL<|DU.out _ _ ⟨?_,rfl,rfl⟩;exact bV.trans ((Bl.lZ b7).trans (Bl.of b8) b7.size) bV.size
 .clear hA hC hO;refine ak.ck E hL [_] _ λK R τ d hK hR=>?_
  have i6:=uX W6 τ d;have H1:=gi a0 a1 s2 l3 c2 F s3 o c3 T s4 c4 s5 c5 (re W6 τ d) hl.1 hl.2 (mZ.bl i6) (vJ.bl i6) (DS.bl i6)<|qj.bl i6;have xx:=k7.rc τ d;have zz:=k9.rc τ d;replace hB:Hid _:=hB;replace hl:Hid _:=hl;simp only[aD];go_wp2_with(go_at_call 15;refine H1.mono ?_;clear H1;rintro e w7 ⟨rfl,b7⟩)
  all_goals try omega
  refine hK.out _ _<|ak.cond E hL (t:=false) rfl<|ak.skip E hL<|DU.out _ _ ⟨?_,rfl,rfl⟩;exact bV.trans (Bl.lZ b7) bV.size
end
