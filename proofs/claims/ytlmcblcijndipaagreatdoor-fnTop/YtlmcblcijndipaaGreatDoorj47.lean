import Derived.Test.YtlmcblcijndipaaGreatDoorj46
import Derived.Test.YtlmcblcijndipaaGreatDoorj45
set_option linter.defProp false
set_option linter.unusedVariables false
set_option linter.unusedSectionVars false
set_option maxHeartbeats 4000000
set_option maxRecDepth 100000
namespace Go.Proofs.YtlmcblcijndipaaGreatDoor
section
variable {f:Nat->Mv}{n:Nat}{t:Nat->Int}{m:Nat}{now shift:Int}{q:Mv}{name:ByteArray}{a0 a1:Int}{l:Nat}{F:Nat->Mv}{o:Nat}{T:Nat->Int}{cd:Int}
def ez (h:dG now shift f n t m=true):aM now shift f n t m=true/\tO f n t:=by
 unfold dG at h;simpa only[Bool.and_eq_true,decide_eq_true_eq]using h
def CD (hm:az f n=true)(hf:dU F T l)(hF:∀j,j<l->(∃i,i<n/\F j=f i)\/∀i,i<n->bJ (F j).name (f i).name=false):∀i,i<n->∀k,gL F l T (f i).name k->0<=(f i).prom->0<=k->k=(f i).prom:=by
 rintro i hi k (⟨rfl,_⟩|⟨j,hj,rfl,hs,_⟩) h0 hk
 .omega
 .rcases hF j hj with⟨i',nJ,e⟩|h
  .rw[e]at hs;obtain rfl:=lD hm nJ hi hs;have:=(CX hf hj (by rw[e];exact h0) 0).2;rw[e]at this;exact this.symm
  .rw[h i hi]at hs;cases hs
def FN {p:Nat}(hb:aM now shift f n t n=true)(hp:p<n):aM now shift (cQ f p) (n-1) (cQ t p) (n-1)=true:=by
 let⟨hm,_,hf⟩:=bG hb;unfold aM at hb⊢;simp only[Bool.and_eq_true]at hb⊢;refine⟨⟨hb.1.1,(fV<|qF hm hp).2<|JZ hf hp⟩,?_⟩;have h:=hb.2;unfold lE at h⊢;simp only[List.all_eq_true,List.mem_range]at h⊢;intro i hi;rw[fj,fj];exact h _<|Bp hp hi
def mN.one {Ag Ah c':Int}{l' o':Nat}{F':Nat->Mv}{T':Nat->Int}(h:mN f n t m now shift q a0 a1 l F o T cd)(h':mN f n t m now shift q Ag Ah l' F' o' T' c'):a0=Ag/\a1=Ah/\l=l'/\F=F'/\o=o'/\T=T'/\cd=c':=by
 cases h with
 |bad hb=>cases h' with
  |bad _=>exact⟨rfl,rfl,rfl,rfl,rfl,rfl,rfl⟩
  |no h _=>rw[hb]at h;cases h
  |yes h _=>rw[hb]at h;cases h
 |no hb hr=>cases h' with
  |bad h=>rw[hb]at h;cases h
  |no _ h=>rw[hr]at h;cases h;exact⟨rfl,rfl,rfl,rfl,rfl,rfl,rfl⟩
  |yes _ h=>rw[hr]at h;cases h
 |yes hb hr=>cases h' with
  |bad h=>rw[hb]at h;cases h
  |no _ h=>rw[hr]at h;cases h
  |yes _ h=>rw[hr]at h;cases h;exact⟨rfl,rfl,rfl,rfl,rfl,rfl,rfl⟩
def kO.one {Ag Ah c':Int}{l' o':Nat}{F':Nat->Mv}{T':Nat->Int}(h:kO f n t m now shift name a0 a1 l F o T cd)(h':kO f n t m now shift name Ag Ah l' F' o' T' c'):a0=Ag/\a1=Ah/\l=l'/\F=F'/\o=o'/\T=T'/\cd=c':=by
 cases h with
 |bad hb=>cases h' with
  |bad _=>exact⟨rfl,rfl,rfl,rfl,rfl,rfl,rfl⟩
  |no h _ _=>rw[hb]at h;cases h
  |yes h _ _=>rw[hb]at h;cases h
 |no hb hk hr=>cases h' with
  |bad h=>rw[hb]at h;cases h
  |no _ po h=>obtain rfl:=hk.one po;rw[hr]at h;cases h;exact⟨rfl,rfl,rfl,rfl,rfl,rfl,rfl⟩
  |yes _ po h=>obtain rfl:=hk.one po;rw[hr]at h;cases h
 |yes hb hk hr=>cases h' with
  |bad h=>rw[hb]at h;cases h
  |no _ po h=>obtain rfl:=hk.one po;rw[hr]at h;cases h
  |yes _ po h=>obtain rfl:=hk.one po;rw[hr]at h;cases h;exact⟨rfl,rfl,rfl,rfl,rfl,rfl,rfl⟩
def Qy {p:Nat}{T:Nat->Int}(h:wc f n now shift q=.yes p T):Aj f n now shift q=.yes p T/\dG now shift (dR f p q) (n+1) T (n+1)=true:=by
 unfold wc at h;split at h
 .cases h
 .rename_i p' T' e;split at h
  .rename_i hs;cases h;exact⟨e,hs⟩
  .cases h
def mN.law [Gl](h:mN f n t m now shift q a0 a1 l F o T cd):(1<cd->a0=now/\a1=shift/\l=n/\F=f/\o=m/\T=t)/\(cd=0->a0=now/\a1=shift/\l=n+1/\o=n+1/\dG now shift F l T l=true/\∀i,i<n->∀k,gL F l T (f i).name k->0<=(f i).prom->0<=k->k=(f i).prom):=by
 cases h with
 |bad hb=>exact⟨λh=>ab,λh=>ab⟩
 |no hb hr=>exact⟨λ_=>⟨rfl,rfl,rfl,rfl,rfl,rfl⟩,λh=>absurd (IS hr) ab⟩
 |@yes p T hb hr=>
  let⟨qS,hs⟩:=Qy hr;let⟨a1,a2,a3,a4,a5,a6⟩:=IV qS;let⟨hm,uU,hf⟩:=bG hb;let⟨_,_,gG⟩:=bG (ez hs).1;refine⟨λh=>ab,λ_=>⟨rfl,rfl,rfl,rfl,hs,CD hm gG λj hj=>?_⟩⟩;have hp:p<=n:=by rw[a5];exact(Classical.choose_spec<|p7 (λj=>bX (f j).name q.name) n).1
  unfold dR;split
  .exact .inl ⟨j,ab,rfl⟩
  .split
   .exact .inr λi hi=>by
     cases e:bJ q.name (f i).name with
     |false=>rfl
     |true=>exact(Bool.false_ne_true<|(a3 i hi).symm.trans<|nv e).elim
   .exact .inl ⟨j-1,ab,rfl⟩
def UP {k:Int}{p:Nat}{T:Nat->Int}(hk:eI f n name k)(h:pF f n t now shift k=.yes p T):p<n/\T=jd f n t now shift p:=by
 unfold pF at h;rcases hk with⟨rfl,_⟩|⟨j,rfl,hj,_⟩
 .simp at h
 .rw[if_neg ab]at h;simp at h;obtain⟨rfl,rfl⟩:=h;exact⟨hj,rfl⟩
def BR (f:Nat->Mv)(n:Nat)(t:Nat->Int)(now shift:Int)(p:Nat):jd f n t now shift p=cQ t p\/dG now shift (cQ f p) (n-1) (jd f n t now shift p) (n-1)=true/\∀j,j<n-1->jd f n t now shift p j<=cQ t p j:=by
 generalize hd:jd f n t now shift p=D;unfold jd at hd;split at hd
 .exact .inl hd.symm
 .split at hd
  .exact .inl hd.symm
  .rename_i hl;split at hd
   .rename_i hs;subst hd;refine .inr ⟨hs,λj hj=>?_⟩;rcases Int.lt_or_le (cQ t p j) _ with h|h
    .exact absurd (rX hj h) hl
    .exact h
   .exact .inl hd.symm
def kO.law (h:kO f n t m now shift name a0 a1 l F o T cd):(1<cd->a0=now/\a1=shift/\l=n/\F=f/\o=m/\T=t)/\(cd=0->a0=now/\a1=shift/\l+1=n/\o=l/\aM now shift F l T l=true/\(dG now shift f n t m=true->dG now shift F l T l=true)/\(∀j,j<l->∀k,gL f n t (F j).name k->0<=k->T j<=k)/\∀i,i<n->∀k,gL F l T (f i).name k->0<=(f i).prom->0<=k->k=(f i).prom):=by
 cases h with
 |bad hb=>exact⟨λh=>ab,λh=>ab⟩
 |no hb hk hr=>exact⟨λ_=>⟨rfl,rfl,rfl,rfl,rfl,rfl⟩,λh=>by unfold pF at hr;split at hr<;>cases hr;omega⟩
 |@yes k p T hb hk hr=>
  obtain⟨hp,rfl⟩:=UP hk hr;obtain⟨hm,uU,hf⟩:=bG hb;subst uU;have nI:aM now shift (cQ f p) (m-1) (jd f m t now shift p) (m-1)=true:=by
   rcases BR f m t now shift p with e|⟨h,_⟩
   .rw[e];exact FN hb hp
   .exact(ez h).1
  obtain⟨_,_,gG⟩:=bG nI;refine⟨λh=>ab,λ_=>⟨rfl,rfl,ab,rfl,nI,λhs=>?_,?_,CD hm gG λj hj=>.inl ⟨lK p j,Bp hp hj,fj f p j⟩⟩⟩
  .rcases BR f m t now shift p with e|⟨h,_⟩
   .rw[e];exact nE (FN hb hp) (Kn hm hf hp (ez hs).2)
   .exact h
  .rintro j hj k (⟨rfl,_⟩|⟨i,hi,rfl,hs,_⟩) h0
   .omega
   .rw[fj]at hs;obtain rfl:=lD hm hi (Bp hp hj) hs;rcases BR f m t now shift p with e|⟨_,h⟩
    .rw[e,fj];exact Int.le_refl _
    .have:=h j hj;rw[fj]at this;exact this
end
section
variable {f:Nat->Mv}{n:Nat}{t:Nat->Int}{m:Nat}{now shift:Int}{q:Mv}{name:ByteArray}{a0 a1:Int}{l:Nat}{F:Nat->Mv}{o:Nat}{T:Nat->Int}{cd:Int}{GL:List Nat}
structure Yh (f:Nat->Mv)(n:Nat)(t:Nat->Int)(now shift a0 a1:Int)(l:Nat)(F:Nat->Mv)(o:Nat)(T:Nat->Int)(cd:Int):Prop where
 I3:o=l
 sure:dG a0 a1 F l T l=true
 kept:∀i,i<n->∀k,gL F l T (f i).name k->0<=(f i).prom->0<=k->k=(f i).prom
 same:1<cd->a0=now/\a1=shift/\l=n/\F=f/\o=n/\T=t
def It (h:dG now shift f n t n=true):Yh f n t now shift now shift n f n t cd:=by
 let⟨hm,_,hf⟩:=bG (ez h).1;exact⟨rfl,h,CD hm hf λj hj=>.inl ⟨j,hj,rfl⟩,λ_=>⟨rfl,rfl,rfl,rfl,rfl,rfl⟩⟩
def mN.Y_ [Gl](h:mN f n t n now shift q a0 a1 l F o T cd)(hs:dG now shift f n t n=true):Yh f n t now shift a0 a1 l F o T cd:=by
 have hl:=h.law;cases h with
 |bad hb=>rw[(ez hs).1]at hb;cases hb
 |no hb hr=>exact It hs
 |yes hb hr=>
  let⟨_,_,h3,h4,h5,h6⟩:=hl.2 rfl;exact⟨rfl,h5,h6,λh=>ab⟩
def kO.Y_ (h:kO f n t n now shift name a0 a1 l F o T cd)(hs:dG now shift f n t n=true):Yh f n t now shift a0 a1 l F o T cd/\∀j,j<l->∀k,gL f n t (F j).name k->0<=k->T j<=k:=by
 have hl:=h.law;cases h with
 |bad hb=>rw[(ez hs).1]at hb;cases hb
 |no hb hk hr=>
  refine⟨It hs,?_⟩;let⟨hm,_,hf⟩:=bG hb;rintro j hj k (⟨rfl,_⟩|⟨i,hi,rfl,h1,_⟩) h0
  .omega
  .obtain rfl:=lD hm hi hj h1;exact Int.le_refl _
 |yes hb hk hr=>
  let⟨_,_,h3,h4,h5,h6,h7,h8⟩:=hl.2 rfl;exact⟨⟨rfl,h6 hs,h8,λh=>ab⟩,h7⟩
def kP.Y_ (h:kP f n t n now shift a0 a1 l F o T GL cd)(hs:dG now shift f n t n=true):Yh f n t now shift a0 a1 l F o T cd:=by
 have hl:=h.law;cases h with
 |bad hb=>rw[(ez hs).1]at hb;cases hb
 |last hb hr=>exact It hs
 |yes hb hr=>
  let⟨h3,h4,h5,h6⟩:=hl.2 rfl;exact⟨rfl,h6 hs,h4,λh=>ab⟩
def Bj {p:Nat}:∀k,(∀i,i<k->t p<=t i)->(al f t p k).length=k
 |0,_=>rfl
 |k+1,h=>by
  simp only[al];rw[if_neg (by have:=h k ab;omega),List.length_append,Bj k λi hi=>h i ab];rfl
def uJ.sure (h:uJ f n t n now shift name a0 a1 l F o T cd)(hs:dG now shift f n t n=true){p:Nat}(hp:p<n)(hl:(f p).ak=true)(ht:t p=now)(hn:bJ (f p).name name=true):cd=0/\l=n/\o=n:=by
 obtain⟨nI,DD⟩:=ez hs;obtain⟨hm,_,hf⟩:=bG nI;have oh:∀{k:Int},eI f n name k->k=p:=by
  rintro k (⟨_,h⟩|⟨j,rfl,hj,h,_⟩)
  .rw[h p hp]at hn;cases hn
  .rw[lD hm hj hp (sz h (nv hn))]
 cases h with
 |bad hb=>rw[nI]at hb;cases hb
 |no hb hk hr=>
  obtain rfl:=oh hk;unfold mE at hr;rw[if_neg ab,Int.toNat_natCast,hl,if_neg aG,if_pos ht]at hr;have:=DD p hp hl;cases e:cY f n t p with
  |none=>rw[e]at this;cases this
  |some T=>rw[e]at hr;cases hr
 |@yes k p' T hb hk hr=>
  obtain⟨_,_,ht',_,_⟩:=OP hk hr;have hlen:=Bj (f:=f) (t:=t) (p:=p') n λi hi=>(by
   have h:=(nU hb).2.2;unfold lE at h;simp only[List.all_eq_true,List.mem_range]at h;have:=h i hi;simp only[fD,Bool.not_eq_true',Bool.or_eq_false_iff,decide_eq_false_iff_not]at this;rw[ht'];exact Int.not_lt.1 this.1)
  exact⟨rfl,hlen,hlen⟩
end
section
open Conc RowKit
section
variable [g:Gl]{ok:Ctx}{c r0:Frame}{cs:List Frame}{V:World}{Q:Value->World->Prop}{now shift:Int}{ao:Option Addr}{n cp:Nat}{f:Nat->Mv}{bo:Option Addr}{m dp:Nat}{t:Nat->Int}{name:ByteArray}
def PC (E:dM Tz.prog ok c bY)(Td:ok.aX 10=true)(sW:ok.aX 38=true)(jf:ok.aX 67=true)(Ns:ok.aX 68=false)(fZ:ok.aX 287=true)(kB:ok.aX 18=true)(sI:ok.aX 52=true)(xw:ok.aX 80=true)(uO:ok.aX 111=true)(Dz:ok.aX 139=false)(f7:ok.aX r0.fn=true)(hB:Bq V now shift ao n cp f bo m dp t)
  (aH:∀y cd W',Bl V V W'->zZ (Yf now shift f n t name) (IN now shift f n t m) (aM now shift f n t m) V.heap.size y cd W'->aj Tz.prog ok c bY Q ⟨r0.finish<|.tuple #[y,.int .i64 cd],cs,W'⟩):
  aj Tz.prog ok c bY Q ⟨Frame.enter Tz.prog 10 #[.agg #[now,shift,.slice ao n cp,.slice bo m dp],name] .normal,r0::cs,V⟩:=by
 replace aH:Hid _:=aH;refine aj.en Tz.func10 rfl Tryz.ntmps10 vH ?_;refine aj.ck E Td [_] _ λK R τ0 kW hK hR=>?_
 obtain⟨W1,e1,k2,b1,-⟩:=cI (re V τ0 kW) now shift ao n cp bo m dp;obtain⟨W2,e2,k4,b2,-⟩:=cI W1 0 0 none 0 0 none 0 0;have bW:=Bl.nP<|b1.trans<|b2.mono b1.size;simp only[aD];go_wp2;refine hK.out _ _ ?_;have p2:=k2.same<|b2.block _ k2.lt;have o4:V.heap.size<W1:=k2.lt;clear hK hR K R k2 b1 b2 e1 e2;refine aj.seq E Td<|aj.rg E Td<|aj.oc E Td 0 4 λK τ d hK=>?_;let⟨y0,y1,y2,y3,y4⟩:=p2.rc τ d;simp only[aK];go_wp2;refine hK.out _ _<|aj.un ?_;clear hK K y0 y1 y2 y3 y4;refine aj.dO E (i:=4) rfl rfl sW (λw=>y7)<|qi E sW jf Ns Td (.inr<|.inr ⟨name,rfl,rfl,rfl⟩) fZ (λW hW=>((hB.bl bW).bl hW).ib) (V9 now shift f n t name) (λh W r cs hr hW hk=>PF E fZ kB sI xw uO Dz hr ((hB.bl bW).bl hW) h hk) (zc now shift f n t m) (λW hW=>(hB.bl bW).cy W hW) ?_;rintro y cd W4 b4 hy;rw[bT rfl];obtain⟨a0,a1,s2,l2,c2,s3,l3,c3,rfl⟩:=hy.is (V9 now shift f n t name)<|zc now shift f n t m;have VY:=k4.lt;have k4:=k4.same<|b4.block _ VY;have z0:=bW.size;have z4:=b4.size;have bV:=bW.trans b4 z0;refine aj.oc E Td 5 4 λK τ d hK=>?_
 let⟨x0,x1,x2,x3,x4⟩:=k4.rc τ d;obtain⟨W8,e8,k8,-,z8,o8⟩:=aV (k4.r τ d) (acU 0 _) (ac8 _) a0 a1 s2 l2 c2 s3 l3 c3;replace z8:Hid _:=z8;simp only[aK,Act.put];go_wp2;have z8:W8.heap.size=W4.heap.size:=z8.out;exact hK.out _ _<|aj.regionEnd E Td<|aj.ret E Td<|aj.lv E f7 Tz.func10 (λτ d=>cg rfl rfl rfl<|k8.r τ d)<|aH.out _ _ _ ⟨ab,λk hk=>(o8 k ab).trans<|bV.block k hk⟩<|hy.to (V9 now shift f n t name) (zc now shift f n t m) z0 λk g1 g2=>o8 k ab
end
end
section
open RowKit
def J6 (W:World)(y:Value)(a0 a1:Int)(l:Nat)(F:Nat->Mv)(o:Nat)(T:Nat->Int):Prop:=∃s2 c2 s3 c3,y=.agg #[a0,a1,.slice s2 l c2,.slice s3 o c3]/\fL W s2 l c2 F/\gF W s3 o c3 T/\o<=c3
def yt {W:World}{N s:Nat}{T:TypeId}{a:Option Addr}{n k c:Nat}{xs:List Value}(h:W.ownsRow N T s (.slice a n c) k xs):n<=c:=by
 rcases h.2 with⟨e,rfl⟩|⟨g,cap,cur,e,_,_,P3,_⟩
 .cases e;exact ac8 _
 .cases e;exact P3
def Js (W:World)(f:Nat->Mv)(t:Nat->Int):J6 W (.agg #[(0:Int),(0:Int),(),()]) 0 0 0 f 0 t:=⟨_,_,_,_,rfl,⟨λ_=>⟨rfl,rfl⟩,(λ_ h=>nomatch h)⟩,⟨λ_=>⟨rfl,rfl⟩,(λ_ h=>nomatch h)⟩,ac3 _⟩
section
variable {f:Nat->Mv}{n:Nat}{t:Nat->Int}{m:Nat}{now shift:Int}{name:ByteArray}{N:Nat}{y:Value}{cd:Int}{W:World}{q:Mv}
def Jr (h:IN now shift f n t m N y W):J6 W y now shift n f m t:=by
 obtain⟨v,u,rfl,h1,h2⟩:=h;obtain⟨a,c,rfl⟩:=gr h1;obtain⟨a',c',rfl⟩:=gr h2;exact⟨_,_,_,_,rfl,Da h1,Ip h2 λj hj=>dY hj,yt h2⟩
def Yl (h:zZ (Mu now shift f n q) (IN now shift f n t m) (aM now shift f n t m) N y cd W):∃a0 a1 l F o T,mN f n t m now shift q a0 a1 l F o T cd/\J6 W y a0 a1 l F o T:=by
 rcases h with⟨h0,rfl,rfl⟩|⟨h0,⟨h,rfl⟩|⟨h1,⟨W',N',h⟩,hc⟩⟩
 .exact⟨_,_,_,_,_,_,.bad h0,Js W f t⟩
 .unfold Mu at h;cases hr:wc f n now shift q with
  |no cd=>rw[hr]at h;cases h.2
  |yes p T=>
   rw[hr]at h;obtain⟨_,BN,c2,BT,c3,rfl,_,_,h3,h4,h5⟩:=h;exact⟨_,_,_,_,_,_,.yes h0 hr,_,_,_,_,rfl,⟨(λh=>nomatch h),λad had=>by cases had;exact⟨BN,rfl,h3.lt,h3.1⟩⟩,⟨(λh=>nomatch h),λad had=>by cases had;exact⟨BT,rfl,h4.lt,h4.2⟩⟩,h5⟩
 .unfold Mu at h;cases hr:wc f n now shift q with
  |no za=>
   rw[hr]at h;have:=h.2;simp at this;subst this;exact⟨_,_,_,_,_,_,.no h0 hr,Jr hc⟩
  |yes p T=>rw[hr]at h;cases h.1
def Yx (h:zZ (Yf now shift f n t name) (IN now shift f n t m) (aM now shift f n t m) N y cd W):∃a0 a1 l F o T,kO f n t m now shift name a0 a1 l F o T cd/\J6 W y a0 a1 l F o T:=by
 rcases h with⟨h0,rfl,rfl⟩|⟨h0,⟨⟨k,hk,h⟩,rfl⟩|⟨h1,⟨W',N',k,hk,h⟩,hc⟩⟩
 .exact⟨_,_,_,_,_,_,.bad h0,Js W f t⟩
 .cases hr:pF f n t now shift k with
  |no cd=>rw[hr]at h;cases h.2
  |yes p T=>
   rw[hr]at h;obtain⟨_,BN,c2,BT,c3,rfl,_,_,h3,h4,h5⟩:=h;exact⟨_,_,_,_,_,_,.yes h0 hk hr,_,_,_,_,rfl,⟨(λh=>nomatch h),λad had=>by cases had;exact⟨BN,rfl,h3.lt,h3.1⟩⟩,⟨(λh=>nomatch h),λad had=>by cases had;exact⟨BT,rfl,h4.lt,h4.2⟩⟩,h5⟩
 .cases hr:pF f n t now shift k with
  |no za=>
   rw[hr]at h;have:=h.2;simp at this;subst this;exact⟨_,_,_,_,_,_,.no h0 hk hr,Jr hc⟩
  |yes p T=>rw[hr]at h;cases h.1
def aac {s:Option Addr}{l k:Nat}(h:zZ (Xk now shift f n t) (IN now shift f n t m) (aM now shift f n t m) N y cd W)(hs:cd=0/\Yg f n t now N s l k W\/cd≠0/\s=none/\l=0/\k=0):∃a0 a1 l' F o T GL,kP f n t m now shift a0 a1 l' F o T GL cd/\J6 W y a0 a1 l' F o T:=by
 obtain⟨a0,a1,l',F,o,T,GL,h1,⟨s2,c2,s3,c3,rfl,h2,h3⟩,_⟩:=aae h hs;refine⟨a0,a1,l',F,o,T,GL,h1,s2,c2,s3,c3,rfl,h2,h3,?_⟩;rcases h with⟨_,e,_⟩|⟨_,⟨⟨_,_,e⟩|⟨_,_,v,u,e,_,h⟩,_⟩|⟨_,_,v,u,e,_,h⟩⟩
 .simp at e;omega
 .cases e
 .simp at e;obtain⟨_,_,_,rfl⟩:=e;exact yt h
 .simp at e;obtain⟨_,_,_,rfl⟩:=e;exact yt h
end
def Dn (now shift:Int)(ao:Option Addr)(n c:Nat)(f:Nat->Mv)(bo:Option Addr)(d:Nat)(t:Nat->Int)(zJ mG:Int)(Du:Option Addr)(l c':Nat)(F:Nat->Mv)(Dv:Option Addr)(d':Nat)(T:Nat->Int)(w:World)(hn:n<=6)(hl:l<=6)(h1:fL w ao n c f)(h2:gF w bo n d t)(h3:fL w Du l c' F)(h4:gF w Dv l d' T)
  (hP:∀i,i<l->∀k,gL f n t (F i).name k->0<=k->T i<=k):
  Calls Tz.prog 12 #[.agg #[now,shift,.slice ao n c,.slice bo n d],.agg #[zJ,mG,.slice Du l c',.slice Dv l d']] w λe w'=>e=.returned true/\Below w w w':=by
 obtain⟨W1,e1,k1,b1,-⟩:=cI w now shift ao n c bo n d;obtain⟨W2,e2,k2,b2,-⟩:=cI W1 zJ mG Du l c' Dv l d';have bW:=b1.trans<|b2.mono b1.size;have p1:=k1.same<|b2.block _ k1.lt;replace hP:Hid _:=hP;go_enter Tz.func12,Tryz.ntmps12
 go_wp2;go_loopw [5] (λx W=>∃k:Nat,x=.int .i64 k/\k<=l/\Below W2 W2 W) (λx _=>l-(intOf x).toNat)
 case atStart=>exact⟨0,rfl,ac8 _,acU _ _⟩
 case round=>
  obtain⟨k,rfl,hk,hb⟩:=hrel;have uQ:=bW.trans<|hb.mono bW.size;have q1:=p1.same<|hb.block _ p1.lt;have q2:=k2.same<|hb.block _ k2.lt;let⟨y0,y1,y2,y3,y4⟩:=q1.cells;let⟨x0,x1,x2,x3,x4⟩:=q2.cells;by_cases ay:k<l
  .have dq:(k:Int)<l:=by omega
   obtain⟨b,rfl,bz,am⟩:=h3.pos ab;obtain⟨b',rfl,bu,aP⟩:=h4.pos ab;have c0:=(am.below uQ bz k ay).c0;simp only[Nat.zero_add]at c0;have d0:=aP.below uQ bu k ay;simp only[Nat.zero_add]at d0;have gN:∀w3,Below wr wr w3->(∃m_:Nat,Value.int .i64 ((k:Int)+1)=.int .i64 (m_:Int)/\m_<=l/\Below W2 W2 w3)/\l-(intOf<|.int .i64<|(k:Int)+1).toNat<l-(intOf<|.int .i64 (k:Int)).toNat:=λw3 b3=>⟨⟨k+1,by go_num,ab,hb.trans<|b3.mono hb.size⟩,bZ⟩
   replace gN:Hid _:=gN;go_wp2;have Bd:Below wr wr wr.drew:=(acU _ _).drew;refine wp_region_held_drew (S:=λw'=>w'.cell? w.heap.size=some (.int .i64 now)/\w'.cell? ⟨w.heap.size,1,none⟩=some (.int .i64 shift)/\w'.cell? ⟨w.heap.size,2,none⟩=some (.slice ao n c)/\w'.cell? ⟨w.heap.size,3,none⟩=some (.slice bo n d)/\w'.cell? ⟨W1.heap.size,2,none⟩=some (.slice b l c')/\w'.cell? ⟨b,k*6,none⟩=some (.string (F k).name)) bj ⟨y0,y1,y2,y3,x2,c0⟩ λhHeld=>?_;have HT:=Bt now shift ao n c f bo d t (F k).name wr.drew hn (h1.below<|uQ.trans<|Bd.mono uQ.size)<|h2.below<|uQ.trans<|Bd.mono uQ.size;refine aq 0 (.agg #[now,shift,.slice ao n c,.slice bo n d]) 14 rfl Bf hHeld ?_;refine aq 1 (.pointer<|some ⟨W1.heap.size,2,none⟩) 15 rfl Bf hHeld ?_;refine aq 2 (.slice b l c') 16 rfl Bf hHeld ?_;refine aq 3 (.int .i64 k) 17 rfl Bf hHeld ?_;refine aq 4 (.pointer<|some ⟨b,k*6,none⟩) 18 rfl Bf hHeld ?_;refine aq 5 (.pointer<|some ⟨b,k*6,none⟩) 19 rfl Bf hHeld ?_;refine aq 6 (.string (F k).name) 20 rfl Bf hHeld ?_;refine iT 7 rfl λK hK=>?_;go_simp
   go_at_call 27
   refine HT.mono ?_;clear HT;rintro e w4 ⟨⟨kk,rfl,F4⟩,b4⟩;have F4:Hid (0<=kk->T k<=kk):=hP.out k ay kk F4;have B4:=Bd.trans<|b4.mono Bd.size;let⟨z0,z1,z2,z3,z4⟩:=(q1.same<|B4.block _ q1.lt).cells;let⟨x0,x1,x2,x3,x4⟩:=(q2.same<|B4.block _ q2.lt).cells;have c0':=(am.below (uQ.trans<|B4.mono uQ.size) bz k ay).c0;have d0:=aP.below (uQ.trans<|B4.mono uQ.size) bu k ay;simp only[Nat.zero_add]at c0' d0;go_wp2_with fail
   refine hK.out _ _ ⟨z0,z1,z2,z3,x2,c0'⟩ λhHeld=>?_;clear hK K;refine iT 8 rfl λK hK=>?_;go_simp
   refine hK.out _ _ hHeld λ_=>?_;clear hK K;refine wpAnyH_done bj ?_ _;go_wp2;all_goals first
    |exact gN.out w4 B4
    |(exfalso;omega)
    |(exfalso;have e:=F4.out ab;omega)
  .have dq:¬(k:Int)<l:=by omega
   go_wp2;all_goals try omega
   go_ret;exact⟨rfl,uQ⟩
def Mo.fits {m:Mv}{s:ByteArray}(h:Mo m s)(h8:s.size<=8):m.Fits:=by
 have g:=h.span;have k:=h.ap;have p:=h.prom;exact⟨by rw[h.name];unfold maxLen;omega,vB ab,vB ab,vB ab,vB ab⟩
def Ws (R:Nat)(p:Int)(b:Nat)(cs:Array Value)(w:World)(cr:Nat)(h0:cr<=R)(hr:Rd w R p)(hp:p<=1000000)(PV:b≠R)(hb:w.heap[b]?=some (.cells cs 9 (0,0)))(hn:Nms cs):
  Calls Tz.prog 36 #[.pointer R,.slice b 6 6] w λe w'=>(∃s:ByteArray,e=.returned (.string s)/\s.size<=8)/\Rd w' R (p+1)/\ja R w w'/\Below cr w w':=by
 have H1:=gt R p 6 w cr h0 hr ab ab ab;have hl:b<w:=(ac5.1 hb).1;go_enter Tz.func36,Tryz.ntmps36
 go_wp2_with(go_at_call 34;refine H1.mono ?_;clear H1;rintro e w1 ⟨⟨z,rfl,l1,u1⟩,r1,t1,b1⟩;obtain⟨k,rfl⟩:∃k:Nat,z=(k:Int):=⟨z.toNat,ab⟩;let⟨s,hs,h8⟩:=hn k ab;have hc:w1.cell? ⟨b,k,none⟩=some (.string s):=(MT t1 hl PV).trans<|(cell_of_row _ _ _ _ _ _ hb).trans hs)
 go_ret;exact⟨⟨s,rfl,h8⟩,r1,t1,b1⟩
def zU (g:Nat->ByteArray)(k:Nat):List Value:=(List.range k).map λi=>.string<|g i
def Px (g:Nat->ByteArray)(k:Nat)(s:ByteArray):zU (λj=>if j=k then s else g j) (k+1)=zU g k++[.string s]:=by
 simp only[zU,List.range_succ,List.map_append,List.map_cons,List.map_nil,if_true];congr 1;refine List.map_congr_left λi hi=>?_
 rw[if_neg (by have:=List.mem_range.1 hi;omega)]
structure uH (R cr:Nat)(w:World)(v u:Value)(k k':Nat)(f:Nat->Mv)(g:Nat->ByteArray)(q:Int)(W:World):Prop where
 own:W.ownsRow w.heap.size 31 6 v k (eh f k)
 txt:W.ownsRow w.heap.size 9 1 u k' (zU g k')
 rd:Rd W R q
 but:ja R w W
 below:Below cr w W
section
variable {R cr:Nat}{w W W':World}{v u v':Value}{k k':Nat}{f:Nat->Mv}{g:Nat->ByteArray}{q q':Int}
def qu {base:Nat}{T:TypeId}{size:Nat}{xs:List Value}(h:W.ownsRow base T size v k xs)(b:Nat)(hb:v.ownBlock=some b):base<=b/\b<W/\∃cs,W.heap[b]?=some (.cells cs T (0,0)):=by
 obtain⟨_,h2|⟨g,cap,cur,h2,h3,h4,_⟩⟩:=h
 .rw[h2.1]at hb;exact absurd hb DW
 .rw[h2]at hb;simp[Value.ownBlock]at hb;subst hb;exact⟨h3,(ac5.1 h4).1,_,h4⟩
def uH.sep (h:uH R cr w v u k k' f g q W)(b:Nat)(h1:v.ownBlock=some b)(h2:u.ownBlock=some b):False:=by
 let⟨_,_,cs,e⟩:=qu h.own b h1;let⟨_,_,cs',e'⟩:=qu h.txt b h2;rw[e]at e';cases e'
def uH.to (h:uH R cr w v u k k' f g q W)(hR:R<w)(hr:Rd W' R q')(hb:ja R W W')(hB:Below cr W W'):uH R cr w v u k k' f g q' W':=⟨JG h.own hR hb hB,JG h.txt hR hb hB,hr,h.but.trans hb,h.below.trans hB⟩
def uH.grow (h:uH R cr w v u k k' f g q W)(hR:R<w)(h0:cr<=R)(hb:Below W W W'):uH R cr w v u k k' f g q W':=h.to hR (h.rd.below hb) (ja.of hb)<|hb.mono (by have:=h.rd.lt;omega)
def uH.set (h:uH R cr w v u k k' f g q W)(hR:R<w)(h0:cr<=R)(B o:Nat)(x:Value)(h1:w.heap.size<=B)(h2:u.ownBlock≠some B)(h3:v.ownBlock≠some B):uH R cr w v u k k' f g q (W.setCell ⟨B,o,none⟩ x):=
 have hg:W.grownBy (W.setCell ⟨B,o,none⟩ x) (some B):=⟨rfl,rfl,rfl,aG,λk hk hne=>acW W _ x k λe=>hne<|by rw[e]⟩
 ⟨h.own.kept hg<|.inr h3,h.txt.kept hg<|.inr h2,h.rd.set ab _ _,⟨by have:=h.but.size;simpa using this,λk hk hne=>(acW W _ x k cH).trans<|h.but.block k hk hne⟩,h.below.setCell cH _⟩
def uH.rest (h:uH R cr w v u k k' f g q W)(hR:R<w)(h0:cr<=R){o:Option Nat}(hg:W.grownBy W' o)(ho:∀b,o=some b->w.heap.size<=b):Rd W' R q/\ja R w W'/\Below cr w W':=by
 let⟨g1,g2,g3,g4,g5⟩:=hg;have hB:Below w W W':=⟨g1,g2,g3,g4,λk hk=>g5 k (by have:=h.but.size;omega) (λe=>by have:=ho k e.symm;omega)⟩;exact⟨h.rd.Hp hR hB,⟨ac6 h.but.size g4,λk hk hne=>(hB.block k hk).trans<|h.but.block k hk hne⟩,h.below.trans<|hB.mono ab⟩
def uH.mv (h:uH R cr w v u k k' f g q W)(hR:R<w)(h0:cr<=R)(m:Mv)(ho:W'.ownsRow w.heap.size 31 6 v' (k+1) (eh f k++m.cells.toList))(hg:W.grownBy W' v.ownBlock):uH R cr w v' u (k+1) k' (λj=>if j=k then m else f j) g q W':=by
 let⟨h1,h2,h3⟩:=h.rest hR h0 hg λb hb=>(qu h.own b hb).1
 refine⟨?_,h.txt.kept hg (by
  cases e:u.ownBlock with
  |none=>exact .inl rfl
  |some b=>exact .inr λe'=>h.sep b e'.symm e),h1,h2,h3⟩
 rw[mf,oz (g:=f) (λj hj=>by rw[if_neg ab])];simpa using ho
def uH.tx (h:uH R cr w v u k k' f g q W)(hR:R<w.heap.size)(h0:cr<=R)(s:ByteArray)(ho:W'.ownsRow w.heap.size 9 1 v' (k'+1) (zU g k'++[.string s]))(hg:W.grownBy W' u.ownBlock):uH R cr w v v' k (k'+1) f (λj=>if j=k' then s else g j) q W':=by
 let⟨h1,h2,h3⟩:=h.rest hR h0 hg λb hb=>(qu h.txt b hb).1
 refine⟨h.own.kept hg (by
  cases e:v.ownBlock with
  |none=>exact .inl rfl
  |some b=>exact .inr λe'=>h.sep b e e'.symm),?_,h1,h2,h3⟩
 rw[Px];exact ho
def WF (W:World)(B:Nat)(m:Mv):World:=(((((W.setCell B m.name).setCell ⟨B,1,none⟩ m.ak).setCell ⟨B,2,none⟩ m.ap).setCell ⟨B,3,none⟩ m.bF).setCell ⟨B,4,none⟩ m.late).setCell ⟨B,5,none⟩ m.prom
def uH.put (h:uH R cr w v u k k' f g q W)(hR:R<w)(h0:cr<=R){B:Nat}{m0:Mv}(hm:dw W B m0)(h1:w.heap.size<=B)(h2:u.ownBlock≠some B)(h3:v.ownBlock≠some B)(m:Mv):uH R cr w v u k k' f g q (WF W B m)/\dw (WF W B m) B m:=by
 refine⟨(((((h.set hR h0 B 0 _ h1 h2 h3).set hR h0 B 1 _ h1 h2 h3).set hR h0 B 2 _ h1 h2 h3).set hR h0 B 3 _ h1 h2 h3).set hR h0 B 4 _ h1 h2 h3).set hR h0 B 5 _ h1 h2 h3,?_⟩;have:=heap_setCell_same _ _ 5 _ _ m.prom<|heap_setCell_same _ _ 4 _ _ m.late<|heap_setCell_same _ _ 3 _ _ m.bF<|heap_setCell_same _ _ 2 _ _ m.ap<|heap_setCell_same _ _ 1 _ _ m.ak<|heap_setCell_same W B 0 _ _ m.name hm;simpa[dw,WF]using this
end
def xp {f:Nat->Mv}{k:Nat}{m:Mv}(h:∀i,i<k->(f i).Fits)(hm:m.Fits):∀i,i<k+1->((λj=>if j=k then m else f j) i).Fits:=λi hi=>by
 by_cases e:i=k
 .simp only[if_pos e];exact hm
 .simp only[if_neg e];exact h i ab
def AM:Mv.Fits ⟨⟨#[]⟩,false,0,0,0,-1⟩:=⟨ac8 _,bd,bd,bd,bd⟩
def GH (a:Option Addr)(l cap:Nat)(cd:Nat->Int)(w:World)(h:tV w a l cd)(xE:l<=cap):
  Calls Tz.prog 7 #[.slice a l cap] w λe w'=>(∃v u k F G,e=.returned (.tuple #[v,u])/\k<=15/\w'.ownsRow w.heap.size 31 6 v k (eh F k)/\w'.ownsRow w.heap.size 9 1 u k (zU G k)/\∀j,j<k->(F j).Fits)/\Below w w w':=by
 have H1:=OF a l cap cd w h xE;have HX:∀w1,Rd w1 w.heap.size 0->Calls Tz.prog 34 #[.pointer w.heap.size,(16:Int)] ((w1.alloc<|.cells #[] 31).alloc<|.cells #[] 9) λe w2=>∃j:Nat,e=.returned (.int .i64 j)/\j<16/\uH w.heap.size w.heap.size w1 (.slice (some ⟨w1.heap.size,0,none⟩) 0 0) (.slice (some ⟨w1.heap.size+1,0,none⟩) 0 0) 0 0 (λ_=>⟨⟨#[]⟩,false,0,0,0,-1⟩) (λ_=>⟨#[]⟩) 1 w2:=λw1 r1=>by
  have hR:=r1.lt;have bA:Below w1 w1 (w1.alloc<|.cells #[] 31):=(acU _ _).alloc (ac3 _) _;have bB:Below w1 w1 ((w1.alloc<|.cells #[] 31).alloc<|.cells #[] 9):=bA.alloc bA.size _;have n1:(w1.alloc<|.cells #[] 31).heap.size=w1.heap.size+1:=aG;have c1:((w1.alloc<|.cells #[] 31).alloc<|.cells #[] 9).heap[w1.heap.size]?=some (.cells #[] 31 (0,0)):=(((acU _ _).alloc (ac3 _) _).block w1.heap.size<|by rw[n1];omega).trans<|heap_alloc_new _ _;have c2:((w1.alloc<|.cells #[] 31).alloc<|.cells #[] 9).heap[w1.heap.size+1]?=some (.cells #[] 9 (0,0)):=by rw[<-n1];exact heap_alloc_new _ _
  have E:uH w.heap.size w.heap.size w1 (.slice w1.heap.size 0 0) (.slice (some ⟨w1.heap.size+1,0,none⟩) 0 0) 0 0 (λ_=>⟨⟨#[]⟩,false,0,0,0,-1⟩) (λ_=>⟨#[]⟩) 0 ((w1.alloc<|.cells #[] 31).alloc<|.cells #[] 9):=
   ⟨⟨rfl,.inr ⟨w1.heap.size,0,#[],rfl,ac3 _,c1,ac3 _,ac8 _,rfl,rfl⟩⟩,⟨rfl,.inr ⟨w1.heap.size+1,0,#[],rfl,Nat.le_succ _,c2,ac3 _,ac8 _,rfl,rfl⟩⟩,r1.below bB,ja.of bB,bB.mono<|adm hR⟩
  refine(gt w.heap.size 0 16 _ w.heap.size (ac3 _) (r1.below bB) ab ab ab).mono ?_;rintro e w2 ⟨⟨z,rfl,l2,u2⟩,r2,t2,b2⟩;obtain⟨j,rfl⟩:∃k:Nat,z=(k:Int):=⟨z.toNat,ab⟩;exact⟨j,rfl,ab,E.to hR r2 t2 b2⟩
 let⟨iM,hI,gE,eG,ga⟩:=info_parts wj;let⟨iS,hIS,NY,vR,ze⟩:=info_parts Ep;go_enter Tz.func7,Tryz.ntmps7
 go_wp2_with(first
  |(go_at_call 33;refine H1.mono ?_;clear H1;rintro e w1 ⟨rfl,r1,b1⟩;have H2:=HX w1 r1;clear HX)
  |(go_at_call 34;refine H2.mono ?_;clear H2;rintro e w2 ⟨j0,rfl,hj0,E0⟩))
 have hR:=r1.lt;have h0:w.heap.size<=w:=ac3 _;clear r1;revert b1 E0 hR h0;generalize YT:w.heap.size=R;intro b1 E0 hR h0;replace YT:Hid _:=YT;go_loopw [5,6,7,8] (λv u x y W=>∃(k j:Nat) (now q:Int) (F:Nat->Mv) (G:Nat->ByteArray),x=.int .i64 now/\y=.int .i64 j/\k+j<=15/\0<=now/\now<=k/\0<=q/\q<=1+k*10/\uH R R w1 v u k k F G q W/\∀i,i<k->(F i).Fits) (λ_ _ _ y _=>(intOf y).toNat)
 case atStart=>exact⟨0,j0,0,1,_,_,rfl,rfl,ab,ab,ab,ab,ab,E0,λj hj=>absurd hj<|ac7 _⟩
 case round=>
  clear E0;obtain⟨k,j,now,q,F,G,rfl,rfl,hkj,XF,L9,TE,hq1,E,hF⟩:=hrel;by_cases hj:0<j
  .have hj':(0:Int)<j:=ab;let⟨Wm,em,hM,bm,zm⟩:=BJ wr ⟨⟨#[]⟩,false,0,0,0,-1⟩;have hv:u5.ownBlock≠some wr.heap.size:=λe=>absurd (qu E.own _ e).2.1 (Nat.lt_irrefl _)
   have hu:u6.ownBlock≠some wr.heap.size:=λe=>absurd (qu E.txt _ e).2.1<|Nat.lt_irrefl _
   have PZ:w1.heap.size<=wr:=E.but.size;have hne:wr.heap.size≠R:=ab;have E1:=E.grow hR h0 bm;clear bm E zm;revert hM hv hu PZ hne em;generalize hB:wr.heap.size=Bm;intro em hM hv hu PZ hne;have H2:=gt R q 8 Wm R h0 E1.rd ab ab ab;go_wp2_with(first
    |(go_at_call 34;refine H2.mono ?_;clear H2;rintro e w2 ⟨⟨z,rfl,l2,u2⟩,r2,t2,b2⟩;have E2:=E1.to hR r2 t2 b2;have KB:=hM.but t2 hne;clear r2 t2 b2 E1 hM;let⟨d0,d1,d2,d3,d4,d5⟩:=eD KB)
    |(go_at_call 37;refine(K5 w2).mono ?_;rintro e w3 ⟨rfl,⟨cs,hcs,hnm⟩,b3⟩;have E3:=E2.grow hR h0 b3;have S3:dw w3 Bm _:=KB.keep<|b3.block _ KB.lt)
    |(go_at_call 36;refine(Ws R (q+1) w2.heap.size cs w3 R h0 E3.rd ab (by have:=E2.rd.lt;omega) hcs hnm).mono ?_;rintro e w4 ⟨⟨s,rfl,hs8⟩,r4,t4,b4⟩;have E4:=E3.to hR r4 t4 b4;have S4:=S3.but t4 hne;clear r4 t4 b4 E3 S3 hcs hnm;let⟨d0,d1,d2,d3,d4,d5⟩:=eD S4)
    |(go_at_call 35;refine(Hm R (q+1+1) s now w4 R h0 E4.rd ab ab ab).mono ?_;rintro e w5 ⟨⟨m,rfl,hdr⟩,⟨q5,l5,v5,r5⟩,t5,b5⟩;have E5:=E4.to hR r5 t5 b5;have S5:=S4.but t5 hne;clear r5 t5 b5 E4 S4;let⟨k0,k1,k2,k3,k4,k5⟩:=eD S5;have fr:=S5.frozen;obtain⟨W6,e6,E6,hM6⟩:∃W6,(((((w5.setCell ⟨Bm,0,none⟩<|.string m.name).setCell ⟨Bm,1,none⟩<|.bool m.ak).setCell ⟨Bm,2,none⟩<|.int .i64 m.ap).setCell ⟨Bm,3,none⟩<|.int .i64 m.bF).setCell ⟨Bm,4,none⟩<|.int .i64 m.late).setCell ⟨Bm,5,none⟩ (.int .i64 m.prom)=W6/\uH R R w1 u5 u6 k k F G q5 W6/\dw W6 Bm m:=⟨_,rfl,E5.put hR h0 S5 PZ hu hv m⟩;let⟨d0,d1,d2,d3,d4,d5⟩:=eD hM6)
    |(at_builtin;refine wpList_append_own _ rfl (.tmp 41) (.tmp 43) 23 rfl w1.heap.size 31 iM _ 6 56 (Tz.aE Tryz.underlying23) hI gE eG ga rfl bd u5 k (eh F k) bD (E6.grow hR h0<|(acU _ _).alloc (ac3 _) _).own ⟨_,0,none⟩ 1 1 (Mv.cells m).toList bD rfl (CV<|heap_alloc_new _ _) (yl _) ie ab (ac6 E6.but.size aG) ?_;intro v7 w7 Ry NI _;have E7:=(E6.grow hR h0<|(acU _ _).alloc (ac3 _) _).mv hR h0 _ Ry NI)
    |(at_builtin;refine wpList_append_own _ rfl (.tmp 41) (.tmp 43) 23 rfl w1.heap.size 31 iM _ 6 56 (Tz.aE Tryz.underlying23) hI gE eG ga rfl bd u5 k (eh F k) bD (E4.grow hR h0<|(acU _ _).alloc (ac3 _) _).own ⟨_,0,none⟩ 1 1 (Mv.cells ⟨⟨#[]⟩,false,0,0,0,-1⟩).toList bD rfl (CV<|heap_alloc_new _ _) (yl _) ie ab (ac6 E4.but.size aG) ?_;intro v7 w7 Ry NI _;have E7:=(E4.grow hR h0<|(acU _ _).alloc (ac3 _) _).mv hR h0 _ Ry NI)
    |(at_builtin;refine wpList_append_own _ rfl (.tmp 41) (.tmp 43) 23 rfl w1.heap.size 31 iM _ 6 56 (Tz.aE Tryz.underlying23) hI gE eG ga rfl bd u5 k (eh F k) bD (E2.grow hR h0<|(acU _ _).alloc (ac3 _) _).own ⟨_,0,none⟩ 1 1 (Mv.cells ⟨⟨#[]⟩,false,0,0,0,-1⟩).toList bD rfl (CV<|heap_alloc_new _ _) (yl _) ie ab (ac6 E2.but.size aG) ?_;intro v7 w7 Ry NI _;have E7:=(E2.grow hR h0<|(acU _ _).alloc (ac3 _) _).mv hR h0 _ Ry NI)
    |(at_builtin;refine wpList_append_own _ rfl (.tmp 45) (.tmp 47) 24 rfl w1.heap.size 9 iS _ 1 16 (Tz.aE Tryz.underlying24) hIS NY vR ze rfl bd u6 k (zU G k) bD (E7.grow hR h0<|(acU _ _).alloc (ac3 _) _).txt ⟨_,0,none⟩ 1 1 [.string s] bD rfl (fN<|heap_alloc_new _ _) t9 ie ab (ac6 E7.but.size aG) ?_;intro v8 w8 wh uR _;have E8:=(E7.grow hR h0<|(acU _ _).alloc (ac3 _) _).tx hR h0 _ wh uR)
    |(at_builtin;refine wpList_append_own _ rfl (.tmp 45) (.tmp 47) 24 rfl w1.heap.size 9 iS _ 1 16 (Tz.aE Tryz.underlying24) hIS NY vR ze rfl bd u6 k (zU G k) bD (E7.grow hR h0<|(acU _ _).alloc (ac3 _) _).txt ⟨_,0,none⟩ 1 1 [.string ⟨#[]⟩] bD rfl (fN<|heap_alloc_new _ _) t9 ie ab (ac6 E7.but.size aG) ?_;intro v8 w8 wh uR _;have E8:=(E7.grow hR h0<|(acU _ _).alloc (ac3 _) _).tx hR h0 _ wh uR))
   all_goals first
    |exact⟨⟨k+1,j-1,now,q5,_,_,rfl,by congr 1;omega,ab,ab,ab,ab,ab,E8,xp hF<|hdr.fits hs8⟩,bZ⟩
    |exact⟨⟨k+1,j-1,now,q+1+1,_,_,rfl,by congr 1;omega,ab,ab,ab,ab,ab,E8,xp hF AM⟩,bZ⟩
    |exact⟨⟨k+1,j-1,now+1,q+1,_,_,rfl,by congr 1;omega,ab,ab,ab,ab,ab,E8,xp hF AM⟩,bZ⟩
  .go_wp2;all_goals try omega
   go_ret2
   exact⟨⟨u5,u6,k,F,G,rfl,ab,iQ E.own (by have:=YT.out;omega),iQ E.txt (by have:=YT.out;omega),hF⟩,by rw[YT.out];exact b1.trans E.below⟩
end
