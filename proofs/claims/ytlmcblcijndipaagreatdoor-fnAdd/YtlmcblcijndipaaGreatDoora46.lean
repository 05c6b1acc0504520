import Derived.Test.YtlmcblcijndipaaGreatDoora44
import Derived.Test.YtlmcblcijndipaaGreatDoora45
set_option linter.defProp false
set_option linter.unusedVariables false
set_option maxHeartbeats 4000000
set_option maxRecDepth 10000
namespace Go.Proofs.YtlmcblcijndipaaGreatDoor
open RowKit
variable {PB PC c' q shift:Int}{M N R ay c c2 c3 d l l' lo n o' p:Nat}{T T' t:Nat->Int}{F F' f:Nat->Mv}{ao bo s2 s3:Option Addr}{W w w':World}
section
variable {m:Nat}{now:Int}{q:Mv}{name:ByteArray}{a0 a1:Int}{o:Nat}{cd:Int}
def lA (h:fi now shift f n t m=true):aX now shift f n t m=true/\A6 f n t:=by
 unfold fi at h;simpa only[Bool.and_eq_true,decide_eq_true_eq]using h
def IZ (hm:aE f n=true)(hf:fk F T l)(hF:∀j,j<l->(∃i,i<n/\F j=f i)\/∀i,i<n->bX (F j).name (f i).name=false):∀i,i<n->∀k,nG F l T (f i).name k->0<=(f i).prom->0<=k->k=(f i).prom:=by
 rintro i hi k (⟨rfl,_⟩|⟨j,hj,rfl,hs,_⟩) h0 hk
 .omega
 .rcases hF j hj with⟨i',oH,e⟩|h
  .rw[e]at hs;obtain rfl:=ER hm oH hi hs;have:=(QZ hf hj (by rw[e];exact h0) 0).2;rw[e]at this;exact this.symm
  .rw[h i hi]at hs;cases hs
def Fi (hb:aX now shift f n t n=true)(hp:p<n):aX now shift (cW f p) (n-1) (cW t p) (n-1)=true:=by
 let⟨hm,_,hf⟩:=cK hb;unfold aX at hb⊢;simp only[Bool.and_eq_true]at hb⊢;refine⟨⟨hb.1.1,(jp<|qy hm hp).2<|Js hf hp⟩,?_⟩;have h:=hb.2;unfold mc at h⊢;simp only[List.all_eq_true,List.mem_range]at h⊢;intro i hi;rw[fj,fj];exact h _<|A8 hp hi
def qG.one (h:qG f n t m now shift q a0 a1 l F o T cd)(h':qG f n t m now shift q PB PC l' F' o' T' c'):a0=PB/\a1=PC/\l=l'/\F=F'/\o=o'/\T=T'/\cd=c':=by
 cases h with
 |bad hb=>cases h' with
  |bad _=>exact⟨rfl,rfl,rfl,rfl,rfl,rfl,rfl⟩
  |no h _=>rw[hb]at h;cases h
  |yes h _=>rw[hb]at h;cases h
 |no hb hr=>cases h' with
  |bad h=>rw[hb]at h;cases h
  |no _ h=>rw[hr]at h;cases h;exact⟨rfl,rfl,rfl,rfl,rfl,rfl,rfl⟩
  |yes _ h=>rw[hr]at h;cases h
 |yes hb hr=>cases h' with
  |bad h=>rw[hb]at h;cases h
  |no _ h=>rw[hr]at h;cases h
  |yes _ h=>rw[hr]at h;cases h;exact⟨rfl,rfl,rfl,rfl,rfl,rfl,rfl⟩
def oC.one (h:oC f n t m now shift name a0 a1 l F o T cd)(h':oC f n t m now shift name PB PC l' F' o' T' c'):a0=PB/\a1=PC/\l=l'/\F=F'/\o=o'/\T=T'/\cd=c':=by
 cases h with
 |bad hb=>cases h' with
  |bad _=>exact⟨rfl,rfl,rfl,rfl,rfl,rfl,rfl⟩
  |no h _ _=>rw[hb]at h;cases h
  |yes h _ _=>rw[hb]at h;cases h
 |no hb hk hr=>cases h' with
  |bad h=>rw[hb]at h;cases h
  |no _ pc h=>obtain rfl:=hk.one pc;rw[hr]at h;cases h;exact⟨rfl,rfl,rfl,rfl,rfl,rfl,rfl⟩
  |yes _ pc h=>obtain rfl:=hk.one pc;rw[hr]at h;cases h
 |yes hb hk hr=>cases h' with
  |bad h=>rw[hb]at h;cases h
  |no _ pc h=>obtain rfl:=hk.one pc;rw[hr]at h;cases h
  |yes _ pc h=>obtain rfl:=hk.one pc;rw[hr]at h;cases h;exact⟨rfl,rfl,rfl,rfl,rfl,rfl,rfl⟩
def Ij (h:vF f n now shift q=.yes p T):zY f n now shift q=.yes p T/\fi now shift (dR f p q) (n+1) T (n+1)=true:=by
 unfold vF at h;split at h
 .cases h
 .rename_i p' T' e;split at h
  .rename_i hs;cases h;exact⟨e,hs⟩
  .cases h
def qG.law [Gl](h:qG f n t m now shift q a0 a1 l F o T cd):(1<cd->a0=now/\a1=shift/\l=n/\F=f/\o=m/\T=t)/\(cd=0->a0=now/\a1=shift/\l=n+1/\o=n+1/\fi now shift F l T l=true/\∀i,i<n->∀k,nG F l T (f i).name k->0<=(f i).prom->0<=k->k=(f i).prom):=by
 cases h with
 |bad hb=>exact⟨λh=>aa,λh=>aa⟩
 |no hb hr=>exact⟨λ_=>⟨rfl,rfl,rfl,rfl,rfl,rfl⟩,λh=>absurd (Ii hr) aa⟩
 |@yes p T hb hr=>
  let⟨qL,hs⟩:=Ij hr;let⟨a1,a2,a3,a4,a5,a6⟩:=Im qL;let⟨hm,Av,hf⟩:=cK hb;let⟨_,_,gE⟩:=cK (lA hs).1;refine⟨λh=>aa,λ_=>⟨rfl,rfl,rfl,rfl,hs,IZ hm gE λj hj=>?_⟩⟩;have hp:p<=n:=by rw[a5];exact(Classical.choose_spec<|pX (λj=>bU (f j).name q.name) n).1
  unfold dR;split
  .exact .inl ⟨j,aa,rfl⟩
  .split
   .exact .inr λi hi=>by
     cases e:bX q.name (f i).name with
     |false=>rfl
     |true=>exact(Bool.false_ne_true<|(a3 i hi).symm.trans<|uh e).elim
   .exact .inl ⟨j-1,aa,rfl⟩
def TR {k:Int}(hk:eX f n name k)(h:pA f n t now shift k=.yes p T):p<n/\T=jf f n t now shift p:=by
 unfold pA at h;rcases hk with⟨rfl,_⟩|⟨j,rfl,hj,_⟩
 .simp at h
 .rw[if_neg aa]at h;simp at h;obtain⟨rfl,rfl⟩:=h;exact⟨hj,rfl⟩
def BG (f:Nat->Mv)(n:Nat)(t:Nat->Int)(now shift:Int)(p:Nat):jf f n t now shift p=cW t p\/fi now shift (cW f p) (n-1) (jf f n t now shift p) (n-1)=true/\∀j,j<n-1->jf f n t now shift p j<=cW t p j:=by
 generalize hd:jf f n t now shift p=D;unfold jf at hd;split at hd
 .exact .inl hd.symm
 .split at hd
  .exact .inl hd.symm
  .rename_i hl;split at hd
   .rename_i hs;subst hd;refine .inr ⟨hs,λj hj=>?_⟩;rcases Int.lt_or_le (cW t p j) _ with h|h
    .exact absurd (rJ hj h) hl
    .exact h
   .exact .inl hd.symm
def oC.law (h:oC f n t m now shift name a0 a1 l F o T cd):(1<cd->a0=now/\a1=shift/\l=n/\F=f/\o=m/\T=t)/\(cd=0->a0=now/\a1=shift/\l+1=n/\o=l/\aX now shift F l T l=true/\(fi now shift f n t m=true->fi now shift F l T l=true)/\(∀j,j<l->∀k,nG f n t (F j).name k->0<=k->T j<=k)/\∀i,i<n->∀k,nG F l T (f i).name k->0<=(f i).prom->0<=k->k=(f i).prom):=by
 cases h with
 |bad hb=>exact⟨λh=>aa,λh=>aa⟩
 |no hb hk hr=>exact⟨λ_=>⟨rfl,rfl,rfl,rfl,rfl,rfl⟩,λh=>by unfold pA at hr;split at hr<;>cases hr;omega⟩
 |@yes k p T hb hk hr=>
  obtain⟨hp,rfl⟩:=TR hk hr;let⟨hm,Av,hf⟩:=cK hb;subst Av;have mG:aX now shift (cW f p) (m-1) (jf f m t now shift p) (m-1)=true:=by
   rcases BG f m t now shift p with e|⟨h,_⟩
   .rw[e];exact Fi hb hp
   .exact(lA h).1
  let⟨_,_,gE⟩:=cK mG;refine⟨λh=>aa,λ_=>⟨rfl,rfl,aa,rfl,mG,λhs=>?_,?_,IZ hm gE λj hj=>.inl ⟨lE p j,A8 hp hj,fj f p j⟩⟩⟩
  .rcases BG f m t now shift p with e|⟨h,_⟩
   .rw[e];exact uo (Fi hb hp)<|JP hm hf hp (lA hs).2
   .exact h
  .rintro j hj k (⟨rfl,_⟩|⟨i,hi,rfl,hs,_⟩) h0
   .omega
   .rw[fj]at hs;obtain rfl:=ER hm hi (A8 hp hj) hs;rcases BG f m t now shift p with e|⟨_,h⟩
    .rw[e,fj];exact Int.le_refl _
    .have:=h j hj;rw[fj]at this;exact this
end
def nB.of {now:Int}(h:nB w lo now shift ao n c f bo d t)(hl:l<=6)(hF:∀i,i<l->(F i).ok=true)(hq:Bf w' N s2 l c2 F s3 l c3 T):nB w' N now shift s2 l c2 F s3 c3 T:=
 ⟨h.now,h.sh,hl,hF,hq.imp (λ⟨a,b,c,d,_,f⟩=>⟨a,b,c,d,f⟩) id⟩
def It (hq:Bf w' N s2 0 c2 F s3 0 c3 T):nB w' N 0 0 s2 0 c2 F s3 c3 T:=
 ⟨aa,aa,aa,λi hi=>absurd hi<|ac9 _,hq.imp (λ⟨a,b,c,d,_,f⟩=>⟨a,b,c,d,f⟩) id⟩
def DA {now:Int}(h:aX now shift f n t n=true):n<=6/\∀i,i<n->(f i).ok=true:=⟨bZ (cK h).1,bg (cK h).1⟩
def PE (now shift:Int)(ao:Option Addr)(n c:Nat)(f:Nat->Mv)(bo:Option Addr)(d:Nat)(t:Nat->Int)(m:Mv)(w:World)(hB:nB w lo now shift ao n c f bo d t)(hf:m.Fits):
  Calls Tz.prog 9 #[.agg #[now,shift,.slice ao n c,.slice bo n d],.agg #[m.name,m.aj,m.ap,m.aW,m.late,m.prom]] w λe w'=>Ev w e w'/\Below w w w':=by
 refine(RV now shift ao n c f bo n d t m w hB.bq hf).mono ?_;rintro e w' ⟨⟨a0,a1,s2,l,c2,F,s3,o,c3,T,cd,rfl,hO,hQ⟩,b⟩;cases hO with
 |bad _=>exact⟨⟨_,_,_,_,_,_,_,_,_,_,rfl,It hQ⟩,b⟩
 |no _ _=>exact⟨⟨_,_,_,_,_,_,_,_,_,_,rfl,hB.of hB.vD hB.ok hQ⟩,b⟩
 |yes _ ha=>have h6:=DA (lA (Ij ha).2).1;exact⟨⟨_,_,_,_,_,_,_,_,_,_,rfl,hB.of h6.1 h6.2 hQ⟩,b⟩
def Md (now shift:Int)(ao:Option Addr)(n c:Nat)(f:Nat->Mv)(bo:Option Addr)(d:Nat)(t:Nat->Int)(name:ByteArray)(w:World)(hB:nB w lo now shift ao n c f bo d t):
  Calls Tz.prog 11 #[.agg #[.int .i64 now,.int .i64 shift,.slice ao n c,.slice bo n d],.string name] w λe w'=>Ev w e w'/\Below w.heap.size w w':=by
 refine(Me now shift ao n c f bo n d t name w hB.bq (by rcases hB.mem with⟨_,_,rfl,_⟩|⟨_,_,_,_,_,hd,_⟩;exact ada _;exact hd)).mono ?_;rintro e w' ⟨⟨a0,a1,s2,l,c2,F,s3,o,c3,T,cd,rfl,hO,hQ⟩,b⟩;by_cases hc:cd=0
 .obtain⟨rfl,rfl,_,rfl,hb,_⟩:=hO.law.2 hc;have h6:=DA hb;exact⟨⟨_,_,_,_,_,_,_,_,_,_,rfl,hB.of h6.1 h6.2 hQ⟩,b⟩
 .cases hO with
  |bad _=>exact⟨⟨_,_,_,_,_,_,_,_,_,_,rfl,It hQ⟩,b⟩
  |no _ _=>exact⟨⟨_,_,_,_,_,_,_,_,_,_,rfl,hB.of hB.vD hB.ok hQ⟩,b⟩
  |yes _ _ _=>exact absurd rfl hc
def Dl.fits {m:Mv}{s:ByteArray}(h:Dl m s)(h8:s.size<=8):m.Fits:=by
 have g:=h.span;have k:=h.ap;have p:=h.prom;exact⟨by rw[h.name];unfold maxLen;omega,oL aa,oL aa,oL aa,oL aa⟩
def tZ (R:Nat)(p:Int)(b:Nat)(cs:Array Value)(w:World)(ay:Nat)(h0:ay<=R)(hr:Rd w R p)(hp:p<=1000000)(Gq:b≠R)(hb:w.heap[b]?=some (.cells cs 9 (0,0)))(hn:Nms cs):
  Calls Tz.prog 36 #[.pointer R,.slice b 6 6] w λe w'=>(∃s:ByteArray,e=.returned (.string s)/\s.size<=8)/\Rd w' R (p+1)/\fH R w w'/\Below ay w w':=by
 have H1:=bG R p 6 w ay h0 hr aa aa aa;have hl:b<w:=(ac7.1 hb).1;go_enter Tz.func36,Tryz.ntmps36
 go_wp2_with(go_at_call 34;refine H1.mono ?_;clear H1;rintro e w1 ⟨⟨z,rfl,l1,u1⟩,r1,t1,b1⟩;obtain⟨k,rfl⟩:∃k:Nat,z=(k:Int):=⟨z.toNat,aa⟩;let⟨s,hs,h8⟩:=hn k aa;have hc:w1.cell? ⟨b,k,none⟩=some (.string s):=(kW t1 hl Gq).trans<|(cell_of_row _ _ _ _ _ _ hb).trans hs)
 go_ret;exact⟨⟨s,rfl,h8⟩,r1,t1,b1⟩
section
variable {now:Int}
def nB.but (h:nB w lo now shift ao n c f bo d t)(hb:fH R w w')(hR:R<lo):nB w' lo now shift ao n c f bo d t:=h.same λb bP cP=>hb.block b cP aa
end
def RK (lo:Nat)(e:Ending)(w':World):Prop:=∃(now shift:Int) (ao:Option Addr) (n c:Nat) (f:Nat->Mv) (bo:Option Addr) (d:Nat) (t:Nat->Int),e=.returned (.agg #[now,shift,.slice ao n c,.slice bo n d])/\nB w' lo now shift ao n c f bo d t
structure Rs (R ay:Nat)(w:World)(N M:Nat)(q:Int)(now shift:Int)(ao:Option Addr)(n c:Nat)(f:Nat->Mv)(bo:Option Addr)(d:Nat)(t:Nat->Int)(W:World):Prop where
 rd:Rd W R q
 but:fH R w W
 below:Below ay w W
 bx:aH W N now shift (.slice ao n c) (.slice bo n d)
 rs:aH W M 0 0 () ()
 F0:nB W (R+1) now shift ao n c f bo d t
section
variable {W':World}{q':Int}{now:Int}
def Rs.to (h:Rs R ay w N M q now shift ao n c f bo d t W)(hN:R<N)(hM:R<M)(r:Rd W' R q')(b:fH R W W')(l:Below ay W W'):Rs R ay w N M q' now shift ao n c f bo d t W':=
 ⟨r,h.but.trans b,h.below.trans l,h.bx.same<|b.block _ h.bx.lt aa,h.rs.same<|b.block _ h.rs.lt aa,h.F0.but b aa⟩
def Rs.grow (h:Rs R ay w N M q now shift ao n c f bo d t W)(h0:ay<=R)(b:Below W W W'):Rs R ay w N M q now shift ao n c f bo d t W':=by
 have hr:=h.rd.lt;exact⟨h.rd.below b,h.but.trans<|fH.of b,h.below.trans<|b.mono aa,h.bx.same<|b.block _ h.bx.lt,h.rs.same<|b.block _ h.rs.lt,h.F0.below b⟩
def Rs.put (h:Rs R ay w N M q now shift ao n c f bo d t W)(h0:ay<=R)(hR:R<w)(hN:w.heap.size<=N)(hM:N≠M){rQ ie:Int}{ws:Option Addr}{n' c':Nat}{f':Nat->Mv}{wx:Option Addr}{d':Nat}{t':Nat->Int}(hb:nB W (R+1) rQ ie ws n' c' f' wx d' t'):∃W',((((W.setCell N rQ).setCell ⟨N,1,none⟩ ie).setCell ⟨N,2,none⟩<|.slice ws n' c').setCell ⟨N,3,none⟩<|.slice wx n' d')=W'/\Rs R ay w N M q rQ ie ws n' c' f' wx d' t' W':=by
 let⟨W',e,k,dw,hz,hn⟩:=bJ h.bx h.below aa rQ ie ws n' c' wx n' d';refine⟨W',e,?_,⟨by rw[hz];exact h.but.size,λi hi hne=>(hn i aa).trans<|h.but.block i hi hne⟩,dw,k,h.rs.same<|hn _ aa,?_⟩
 .rw[<-e];exact(((h.rd.set aa _ _).set aa _ _).set aa _ _).set aa _ _
 .refine⟨hb.now,hb.sh,hb.vD,hb.ok,?_⟩;rcases hb.mem with hm|⟨b,b',h1,h2,o1,hd,o2⟩
  .exact .inl hm
  .refine .inr ⟨b,b',h1,h2,az o1 λB hB=>hn B<|fM o1 h.bx bF hB,hd,o2.same<|hn b' ?_⟩;intro e';let⟨_,⟨cs,hc⟩,_⟩:=o2;have hx:=h.bx;unfold aH at hx;rw[<-e',hc]at hx;simp at hx
end
structure C2 (N:Nat)(sl:Value)(W:World):Prop where
 c2:W.cell? ⟨N,2,none⟩=some sl
def QG (K:Act->World->Prop):Exit->Act->World->Prop
 |.normal=>K
 |_=>λ_ _=>False
def lG {P:Program}{Q:Exit->Act->World->Prop}{T:Code}:∀(ss:List Code) {a:Act} {w:World} (K:Act->World->Prop),aD P (QG K) ss a w->(∀a w,K a w->T.wp P Q a w)->(chain ss T).wp P Q a w
 |[],a,w,K,h,hK=>hK a w h
 |s::ss,a,w,K,h,hK=>by
  refine wp_seq<|Code.wp_mono (λe a' w' q=>?_) h;cases e with
  |normal=>exact lG ss K q hK
  |_=>exact q.elim
def nB.off {now:Int}{Y:Nat}{x0 x1:Int}{v u:Value}(h:nB w lo now shift ao n c f bo d t)(hy:aH w Y x0 x1 v u)(e:∀k,k≠Y->w'.heap[k]?=w.heap[k]?):nB w' lo now shift ao n c f bo d t:=by
 refine⟨h.now,h.sh,h.vD,h.ok,?_⟩;rcases h.mem with hm|⟨b,b',h1,h2,o1,hd,o2⟩
 .exact .inl hm
 .refine .inr ⟨b,b',h1,h2,az o1 λB hB=>e B<|fM o1 hy bF hB,hd,o2.same<|e b' ?_⟩;intro e';let⟨_,⟨cs,hc⟩,_⟩:=o2;unfold aH at hy;rw[<-e',hc]at hy;simp at hy
def Rs.fin {now:Int}(h:Rs R ay w N M q now shift ao n c f bo d t W)(h0:ay<=R)(hR:R<w.heap.size)(hM:w.heap.size<=M):∃W',((((W.setCell ⟨M,0,none⟩<|.int .i64 now).setCell ⟨M,1,none⟩<|.int .i64 shift).setCell ⟨M,2,none⟩<|.slice ao n c).setCell ⟨M,3,none⟩<|.slice bo n d)=W'/\aH W' M now shift (.slice ao n c) (.slice bo n d)/\nB W' (R+1) now shift ao n c f bo d t/\Rd W' R q/\fH R w W'/\Below ay w W':=by
 let⟨W',e,k,dw,hz,hn⟩:=bJ h.rs h.below aa now shift ao n c bo n d;refine⟨W',e,k,h.F0.off h.rs hn,?_,⟨by rw[hz];exact h.but.size,λi hi hne=>(hn i aa).trans<|h.but.block i hi hne⟩,dw⟩;rw[<-e];exact(((h.rd.set aa _ _).set aa _ _).set aa _ _).set aa _ _
def JS (R:Nat)(p:Int)(now shift:Int)(ao:Option Addr)(n c:Nat)(f:Nat->Mv)(bo:Option Addr)(d:Nat)(t:Nat->Int)(w:World)(ay:Nat)(h0:ay<=R)(hr:Rd w R p)(hp:p<=600000)(hB:nB w (R+1) now shift ao n c f bo d t):
  Calls Tz.prog 112 #[.pointer<|some ⟨R,0,none⟩,.agg #[.int .i64 now,.int .i64 shift,.slice ao n c,.slice bo n d]] w λe w'=>RK (R+1) e w'/\Bj R p 20 ay w w':=by
 have hR:=hr.lt;have h6:=hB.vD;have IK:=hB.now;obtain⟨W0,jh⟩:∃W,W=(w.alloc<|.cells #[.int .i64 now,.int .i64 shift,.slice ao n c,.slice bo n d] 29).alloc (.cells #[(0:Int),(0:Int),.slice none 0 0,.slice none 0 0] 29):=⟨_,rfl⟩;have b0:Below w.heap.size w W0:=by rw[jh];exact((acW _ w).alloc (ac5 _) _).alloc aF _
 have hS:Rs R ay w w.heap.size (w.heap.size+1) p now shift ao n c f bo d t W0:=⟨hr.below b0,fH.of b0,b0.mono aa,by rw[jh];exact(acX _ _ _ aF).trans<|heap_alloc_new _ _,by rw[jh];exact dq _ _ _,hB.below b0⟩;have gj:W0.heap.size=w.heap.size+1+1:=by rw[jh];simp
 have Pt:=qm W0;rw[gj,jh]at Pt;go_enter Tz.func112,Tryz.ntmps112
 refine lG [_,_,_] (λa' w'=>∃(s:ByteArray) (q:Int),p<=q/\q<=p+3/\Rs R ay w w.heap.size (w.heap.size+1) q now shift ao n c f bo d t w'/\gZ a' (rW 92 [(0,.pointer<|some ⟨R,0,none⟩),(3,.pointer<|some ⟨w.heap.size,0,none⟩),(4,.pointer<|some ⟨w.heap.size+1,0,none⟩),(5,.string s)])) ?_ ?_
 .simp only[aD];by_cases hn:n=0;focus
   subst hn;go_wp2_with(first
    |(go_at_call 37;refine Pt.mono ?_;clear Pt;rintro e w1 ⟨rfl,⟨cs,hcs,O8⟩,b1⟩;have b1':Below W0.heap.size W0 w1:=(by rw[gj,jh];exact b1);have hS:=hS.grow h0 b1';have RN:=tZ R p (w.heap.size+1+1) cs w1 ay h0 hS.rd aa aa hcs O8)
    |(go_at_call 36;refine RN.mono ?_;clear RN;rintro e w2 ⟨⟨s,rfl,h8⟩,r2,t2,b2⟩;have hS:=hS.to aa aa r2 t2 b2;let⟨y0,y1,y2,y3,y4⟩:=hS.bx.cells))
   exact⟨s,_,aa,aa,hS,rfl,rfl⟩
  have Ln:(0:Int)<n:=aa;obtain⟨b,rfl,bH,aq⟩:=hB.OC.pos aa;go_wp2_with(first
   |(go_at_call 37;refine Pt.mono ?_;clear Pt;rintro e w1 ⟨rfl,⟨cs,hcs,O8⟩,b1⟩;have b1':Below W0.heap.size W0 w1:=(by rw[gj,jh];exact b1);have hS:=hS.grow h0 b1';have RN:=tZ R p (w.heap.size+1+1) cs w1 ay h0 hS.rd aa aa hcs O8)
   |(go_at_call 36;refine RN.mono ?_;clear RN;rintro e w2 ⟨⟨s,rfl,h8⟩,r2,t2,b2⟩;have hS:=hS.to aa aa r2 t2 b2;let⟨y0,y1,y2,y3,y4⟩:=hS.bx.cells;have HP3:=bG R (p+1) 3 w2 ay h0 hS.rd aa aa aa)
   |(go_at_call 34;refine HP3.mono ?_;clear HP3;rintro e w3 ⟨⟨z3,rfl,l3,u3⟩,r3,t3,b3⟩;have hS:=hS.to aa aa r3 t3 b3;let⟨y0,y1,y2,y3,y4⟩:=hS.bx.cells))
  rotate_left
  .exact⟨s,_,aa,aa,hS,rfl,rfl⟩
  have hS:=hS.grow h0 (acW _ _).drew;let⟨y0,y1,y2,y3,y4⟩:=hS.bx.cells;have HPN:=bG R (p+1+1) n w3.drew ay h0 hS.rd aa aa aa;have n1:w.heap.size≠R:=aa;refine wp_region_held_drew (S:=C2 w.heap.size<|.slice (some ⟨b,0,none⟩) n c) bD ⟨y2⟩ λhHeld=>?_;refine aO 0 (.pointer<|some ⟨w.heap.size,2,none⟩) 19 rfl Fa hHeld ?_;refine aO 1 (.slice (some ⟨b,0,none⟩) n c) 20 rfl Fa hHeld ?_;refine aO 2 (.pointer<|some ⟨R,0,none⟩) 21 rfl Fa hHeld ?_;refine aO 3 (.pointer<|some ⟨w.heap.size,2,none⟩) 22 rfl Fa hHeld ?_;refine aO 4 (.slice (some ⟨b,0,none⟩) n c) 23 rfl Fa hHeld ?_;refine aO 5 (.int .i64 n) 24 rfl Fa hHeld ?_;simp only[Act.put,List.setIfInBounds_toArray,List.set_cons_zero,List.set_cons_succ];refine iX 6 rfl λK hK=>?_;go_wp2_with(go_at_call 34;refine HPN.mono ?_;clear HPN;rintro e w4 ⟨⟨z4,rfl,l4,u4⟩,r4,t4,b4⟩;obtain⟨k,rfl⟩:∃k:Nat,z4=(k:Int):=⟨z4.toNat,aa⟩;have hS:=hS.to aa aa r4 t4 b4;let⟨y0,y1,y2,y3,y4⟩:=hS.bx.cells;let⟨bq,eq1,lq,rq⟩:=hS.F0.OC.pos aa;obtain rfl:b=bq:=(by cases eq1;rfl);have c0:=(rq k aa).c0;simp only[Nat.zero_add]at c0;have tD:(k:Int)<n:=aa)
  refine hK.out _ _ ⟨y2⟩ λhHeld=>?_;clear hK K;refine aO 7 (.pointer<|some ⟨b,k*6,none⟩) 26 rfl Fa hHeld ?_;refine aO 8 (.pointer<|some ⟨b,k*6,none⟩) 27 rfl Fa hHeld ?_;simp only[Act.put,List.setIfInBounds_toArray,List.set_cons_zero,List.set_cons_succ];refine iX 9 rfl λK hK=>?_;go_simp
  refine hK.out _ _ ⟨y2⟩ λhHeld=>?_;clear hK K;refine iX 10 rfl λK hK=>?_;go_simp
  refine hK.out _ _ ⟨y2⟩ λhHeld=>?_;clear hK K;refine wpAnyH_done bD ?_ _;clear hHeld;go_wp2;exact⟨_,_,aa,aa,hS,rfl,rfl⟩
 clear hS Pt gj b0 jh hr;rintro a' w1 ⟨s,q,Ka,DS,hS,fu⟩;obtain⟨u,rfl⟩:=fu.open;clear fu;refine lG [_] (λa' w'=>∃(nw sf:Int) (yM:Option Addr) (n2 c2:Nat) (f2:Nat->Mv) (yN:Option Addr) (d2:Nat) (t2:Nat->Int) (q:Int),p<=q/\q<=p+20/\Rs R ay w w.heap.size (w.heap.size+1) q nw sf yM n2 c2 f2 yN d2 t2 w'/\gZ a' (rW 92 [(3,.pointer<|some ⟨w.heap.size,0,none⟩),(4,.pointer<|some ⟨w.heap.size+1,0,none⟩)])) ?_ ?_
 .simp only[aD];refine lG [_] (λa' w'=>∃z:Int,Rs R ay w w.heap.size (w.heap.size+1) (q+1) now shift ao n c f bo d t w'/\gZ a' (rW 92 [(0,.pointer<|some ⟨R,0,none⟩),(3,.pointer<|some ⟨w.heap.size,0,none⟩),(4,.pointer<|some ⟨w.heap.size+1,0,none⟩),(5,.string s),(30,.int .i64 z)])) ?_ ?_
  .simp only[aD];have H9:=bG R q 9 w1 ay h0 hS.rd aa aa aa;go_wp2_with(go_at_call 34;refine H9.mono ?_;clear H9;rintro e w2 ⟨⟨z,rfl,lz,uz⟩,r2,t2,b2⟩;have hS:=hS.to aa aa r2 t2 b2)
   exact⟨z,hS,rfl,rfl⟩
  clear hS u;rintro a' w2 ⟨z,hS,fu⟩;obtain⟨u,rfl⟩:=fu.open;clear fu w1;refine wp_block ?_;refine lG [_] (λa' w'=>w'=w2/\∃bb:Bool,gZ a'<|rW 92 [(0,.pointer<|some ⟨R,0,none⟩),(3,.pointer<|some ⟨w.heap.size,0,none⟩),(4,.pointer<|some ⟨w.heap.size+1,0,none⟩),(5,.string s),(30,.int .i64 z),(37,.bool bb)]) ?_ ?_
  .simp only[aD];go_wp2;all_goals first|exact⟨rfl,_,rfl,rfl⟩|exact⟨rfl,true,rfl,rfl⟩|exact⟨rfl,false,rfl,rfl⟩
  rintro a' w' ⟨rfl,bb,fu⟩;clear u;obtain⟨u,rfl⟩:=fu.open;clear fu;cases bb with
  |true=>
   refine wp_cond_true rfl ?_;have hS:=hS.grow h0 (acW _ _).drew;let⟨y0,y1,y2,y3,y4⟩:=hS.bx.cells;have Pt:=qm w'.drew;have lz:=hS.rd.lt;go_region_with
    (first
    |(go_at_call 37;refine Pt.mono ?_;clear Pt;rintro e w3 ⟨rfl,⟨cs,hcs,O8⟩,b3⟩;have vu:=hS.grow h0 b3;let⟨y0,y1,y2,y3,y4⟩:=vu.bx.cells;have RN:=tZ R (q+1) _ cs w3 ay h0 vu.rd aa aa hcs O8)
    |(go_at_call 36;refine RN.mono ?_;clear RN;rintro e w4 ⟨⟨s4,rfl,h84⟩,r4,t4,b4⟩;have fe:=vu.to aa aa r4 t4 b4;let⟨y0,y1,y2,y3,y4⟩:=fe.bx.cells;have HMV:=lg R (q+1+1) s4 now w4 ay h0 fe.rd aa (by omega)<|by omega)
    |(go_at_call 35;refine HMV.mono ?_;clear HMV;rintro e w5 ⟨⟨mm,rfl,hdr⟩,⟨q5,hq5,hq6,r5⟩,t5,b5⟩;have gC:=fe.to aa aa r5 t5 b5;let⟨y0,y1,y2,y3,y4⟩:=gC.bx.cells;have HAD:=PE now shift ao n c f bo d t mm w5 gC.F0<|hdr.fits h84)
    |(go_at_call 9;refine HAD.mono ?_;clear HAD;rintro e w6 ⟨⟨nw,sf,yM,n2,c2,f2,yN,d2,t2,k2,rfl,rr⟩,b6⟩;have pb:=gC.grow h0 b6;let⟨y0,y1,y2,y3,y4⟩:=pb.bx.cells;let⟨W,eW,Fs⟩:=pb.put h0 hR (ac5 _) aa<|rr.mono (by have:=gC.rd.lt;omega)))
   all_goals
    go_wp2;exact⟨nw,sf,yM,n2,c2,f2,yN,d2,t2,_,aa,aa,Fs,rfl,rfl⟩
  |false=>
   refine wp_cond_false rfl ?_;let⟨y0,y1,y2,y3,y4⟩:=hS.bx.cells;go_wp2_with(first
    |(go_at_call 11;refine(Md now shift ao n c f bo d t s _ hS.F0).mono ?_;rintro e w6 ⟨⟨nw,sf,yM,n2,c2,f2,yN,d2,t2,k2,rfl,rr⟩,b6⟩;have pb:=hS.grow h0 b6;let⟨y0,y1,y2,y3,y4⟩:=pb.bx.cells;let⟨W,eW,Fs⟩:=pb.put h0 hR (ac5 _) aa<|rr.mono (by have:=hS.rd.lt;omega))
    |(go_at_call 14;refine(Fe now shift ao n c f bo d t _ hS.F0).mono ?_;rintro e w6 ⟨⟨nw,sf,yM,n2,c2,f2,yN,d2,t2,sa,sn,sc,k2,rfl,rr⟩,b6⟩;have pb:=hS.grow h0 b6;let⟨y0,y1,y2,y3,y4⟩:=pb.bx.cells;let⟨W,eW,Fs⟩:=pb.put h0 hR (ac5 _) aa<|rr.mono (by have:=hS.rd.lt;omega)))
   all_goals first
    |exact⟨nw,sf,yM,n2,c2,f2,yN,d2,t2,_,aa,aa,Fs,rfl,rfl⟩
    |skip
   go_loopw [5,6] (λsv x W=>∃(k:Nat) (s:ByteArray),sv=.string s/\x=.int .i64 k/\k<=n/\Rs R ay w w.heap.size (w.heap.size+1) (q+1) now shift ao n c f bo d t W) (λ_ x _=>n-(intOf x).toNat)
   case atStart=>exact⟨0,s,rfl,rfl,ada _,hS⟩
   case round=>
    clear hS y0 y1 y2 y3 y4;obtain⟨k,s,rfl,rfl,hk,hS⟩:=hrel;let⟨y0,y1,y2,y3,y4⟩:=hS.bx.cells;by_cases aB:k<n
    .have dr:(k:Int)<n:=by omega
     obtain⟨b,rfl,lb,rb⟩:=hS.F0.OC.pos aa;obtain⟨b',rfl,lb',rb'⟩:=hS.F0.VK.pos aa;have tk:=rb' k aB;simp only[Nat.zero_add]at tk;have hne:=aG wr;have x0:=λx:ai wr=>x.cell y0
     have x3:=λx:ai wr=>x.cell y3
     have y6:=λx:ai wr=>x.cell tk
     cases Cc:(t k==now)with
     |true=>
      go_wp2;refine kI ?_;intro w3 iw;have c0:=(rb.below iw lb k aB).c0;simp only[Nat.zero_add]at c0;have vu:=hS.grow h0 iw;have lb3:=ac6 lb iw.size;clear hne x0 x3 y6 y0 y1 y2 y3 y4;let⟨y0,y1,y2,y3,y4⟩:=vu.bx.cells;go_wp2;go_roundw
      case rel=>exact⟨k+1,_,rfl,by go_num,aa,vu⟩
      case measure=>simp[intOf];omega
     |false=>
      go_wp2;refine kI ?_;intro w3 iw;have vu:=hS.grow h0 iw;clear hne x0 x3 y6 y0 y1 y2 y3 y4;go_wp2;go_roundw
      case rel=>exact⟨k+1,s,rfl,by go_num,aa,vu⟩
      case measure=>simp[intOf];omega
    .have dr:¬(k:Int)<n:=by omega
     go_wp2_with(go_at_call 25;refine(KG now shift ao n c f bo d t s _ hS.F0).mono ?_;rintro e w6 ⟨⟨nw,sf,yM,n2,c2,f2,yN,d2,t2,k2,rfl,rr⟩,b6⟩;have pb:=hS.grow h0 b6;let⟨y0,y1,y2,y3,y4⟩:=pb.bx.cells;let⟨W,eW,Fs⟩:=pb.put h0 hR (ac5 _) aa<|rr.mono (by have:=hS.rd.lt;omega))
     all_goals try omega
     exact⟨nw,sf,yM,n2,c2,f2,yN,d2,t2,_,aa,aa,Fs,rfl,rfl⟩
 rintro a' w2 ⟨nw,sf,yM,n2,c2,f2,yN,d2,t2,q2,qj,Sz,oR,fu⟩;clear u;obtain⟨u,rfl⟩:=fu.open;clear fu hS;let⟨y0,y1,y2,y3,y4⟩:=oR.bx.cells;let⟨r0,r1,r2,r3,r4⟩:=oR.rs.cells;go_wp2;let⟨W5,e5,k5,MH,GC,Gt,Gr⟩:=oR.fin h0 hR aa;rw[e5];let⟨q0,q1,q2,q3,q4⟩:=k5.cells;exact bodyPost_ret (v:=.agg #[.int .i64 nw,.int .i64 sf,.slice yM n2 c2,.slice yN n2 d2]) (by simp[results,Tryz.f112,go_sem,q0,q1,q2,q3]) rfl ⟨⟨nw,sf,yM,n2,c2,f2,yN,d2,t2,rfl,MH⟩,⟨_,qj,Sz,GC⟩,Gt,Gr⟩
def AH (w:World)(lo:Nat){now:Int}(h0:0<=now/\now<=10000)(h1:0<=shift/\shift<=6):nB w lo now shift none 0 0 (λ_=>sw) none 0 (λ_=>0):=⟨h0,h1,aa,λi hi=>absurd hi<|ac9 _,.inl ⟨rfl,rfl,rfl,rfl,rfl⟩⟩
def Rs.now {now:Int}(h:Rs R ay w N M q now shift none 0 0 f none 0 t W)(h0:ay<=R)(hR:R<w.heap.size)(hN:w.heap.size<=N)(hM:N≠M){x:Int}(hx:0<=x/\x<=10000):∃W',W.setCell ⟨N,0,none⟩ (.int .i64 x)=W'/\Rs R ay w N M q x shift none 0 0 (λ_=>sw) none 0 (λ_=>0) W':=by
 refine⟨_,rfl,h.rd.set aa _ _,⟨by simpa using h.but.size,λi hi hne=>(acY _ _ _ _ cU).trans<|h.but.block i hi hne⟩,h.below.setCell cU _,?_,h.rs.same<|acY _ _ _ _<|by simpa usingλe=>hM e.symm,AH _ _ hx h.F0.sh⟩;have:=heap_setCell_same W N 0 _ _ (.int .i64 x) h.bx;simpa[aH]using this
def JF (R:Nat)(p:Int)(w:World)(ay:Nat)(h0:ay<=R)(hr:Rd w R p)(hp:p<=500000):
  Calls Tz.prog 81 #[.pointer<|some ⟨R,0,none⟩] w λe w'=>RK (R+1) e w'/\Bj R p 400 ay w w':=by
 have hR:=hr.lt;let⟨W0,e0,k0,b0,z0⟩:=cr w 0 0 none 0 0 none 0 0;have ig:=hr.below b0;go_enter Tz.func81,Tryz.ntmps81
 refine lG [_,_,_] (λa' w'=>∃(nw sf q:Int) (N:Nat),p<=q/\q<=p+4/\w.heap.size<N/\Rs R ay w N w.heap.size q nw sf none 0 0 (λ_=>sw) none 0 (λ_=>0) w'/\gZ a' (rW 42 [(0,.pointer<|some ⟨R,0,none⟩),(2,.pointer<|some ⟨w.heap.size,0,none⟩),(3,.pointer<|some ⟨N,0,none⟩)])) ?_ ?_
 .simp only[aD];have H1:=bG R p 3 W0 ay h0 ig aa aa aa;go_wp2_with(first
   |(go_at_call 34;refine H1.mono ?_;clear H1;rintro e w1 ⟨⟨z1,rfl,l1,u1⟩,r1,t1,b1⟩;have H2:=bG R (p+1) 4 w1 ay h0 r1 aa aa aa)
   |(go_at_call 34;refine H2.mono ?_;clear H2;rintro e w2 ⟨⟨z2,rfl,l2,u2⟩,r2,t2,b2⟩;let⟨W3,e3,k3,b3,z3⟩:=cr w2 z1 z2 none 0 0 none 0 0;have e3h:Hid (w2.alloc (.cells #[.int .i64 z1,.int .i64 z2,.slice none 0 0,.slice none 0 0] 29)=W3):=e3;clear e3;have T02:=((fH.of b0).trans t1).trans t2;have eO:=t1.size;have gM:=t2.size;have vu:Rs R ay w w2.heap.size w.heap.size (p+1+1) z1 z2 none 0 0 (λ_=>sw) none 0 (λ_=>0) W3:=⟨r2.below b3,T02.trans<|fH.of b3,(((b0.mono aa).trans b1).trans b2).trans<|b3.mono aa,k3,k0.same<|(b3.block _ aa).trans<|(t2.block _ aa aa).trans<|t1.block _ aa aa,AH _ _ aa aa⟩;have H3:=bG R (p+1+1) 30 W3 ay h0 vu.rd aa aa aa;rw[<-e3h.out]at H3)
   |(go_at_call 34;refine H3.mono ?_;clear H3;rintro e w4 ⟨⟨z4,rfl,l4,u4⟩,r4,t4,b4⟩;rw[e3h.out]at t4 b4;have fe:=vu.to aa aa r4 t4 b4;let⟨y0,y1,y2,y3,y4⟩:=fe.bx.cells;have H5:=bG R (p+1+1+1) 40 w4 ay h0 fe.rd aa aa aa)
   |(go_at_call 34;refine H5.mono ?_;clear H5;rintro e w5 ⟨⟨z5,rfl,l5,u5⟩,r5,t5,b5⟩;have gC:=fe.to aa aa r5 t5 b5;let⟨y0,y1,y2,y3,y4⟩:=gC.bx.cells;have Ce:IntKind.i64.wrap (10000-z5)=10000-z5:=hZ;let⟨W6,e6,pb⟩:=gC.now h0 hR aa aa (x:=10000-z5) aa))
  all_goals first
   |exact⟨_,_,_,_,aa,aa,aa,pb,rfl,rfl⟩
   |exact⟨_,_,_,_,aa,aa,aa,fe,rfl,rfl⟩
 rintro a' w1 ⟨nw0,sf0,q0,N,Ka,DS,hN,hS,fu⟩;obtain⟨u,rfl⟩:=fu.open;clear fu;refine lG [_] (λa' w'=>∃(nw sf:Int) (yM:Option Addr) (n2 c2:Nat) (f2:Nat->Mv) (yN:Option Addr) (d2:Nat) (t2:Nat->Int) (q:Int),p<=q/\q<=p+400/\Rs R ay w N w.heap.size q nw sf yM n2 c2 f2 yN d2 t2 w'/\gZ a' (rW 42 [(2,.pointer<|some ⟨w.heap.size,0,none⟩),(3,.pointer<|some ⟨N,0,none⟩)])) ?_ ?_
 .simp only[aD];have H1:=bG R q0 14 w1 ay h0 hS.rd aa aa aa;go_wp2_with(go_at_call 34;refine H1.mono ?_;clear H1;rintro e w2 ⟨⟨z,rfl,lz,uz⟩,r2,t2,b2⟩;obtain⟨k,rfl⟩:∃k:Nat,z=(k:Int):=⟨z.toNat,aa⟩)
  have oR:=hS.to aa aa r2 t2 b2;clear hS;go_loopw [4] (λx W=>∃(k:Nat) (nw sf:Int) (yM:Option Addr) (n2 c2:Nat) (f2:Nat->Mv) (yN:Option Addr) (d2:Nat) (t2:Nat->Int) (q:Int),x=.int .i64 k/\k<=13/\p<=q/\q+22*k<=p+300/\Rs R ay w N w.heap.size q nw sf yM n2 c2 f2 yN d2 t2 W) (λx _=>(intOf x).toNat)
  case atStart=>exact⟨k,_,_,_,_,_,_,_,_,_,_,rfl,aa,aa,aa,oR⟩
  case round=>
   clear oR;obtain⟨k,nw,sf,yM,n2,c2,f2,yN,d2,t2,q,rfl,hk,qj,Sz,hS⟩:=hrel;let⟨y0,y1,y2,y3,y4⟩:=hS.bx.cells;have h6:=hS.F0.vD;by_cases uE:0<k
   .have pc:(0:Int)<k:=by omega
    have SH:IntKind.i64.wrap ((k:Int)-1)=(k:Int)-1:=hZ;have HE:=λq' (h1:q<=q') (h2:q'<=q+1) W (hS':Rs R ay w N w.heap.size q' nw sf yM n2 c2 f2 yN d2 t2 W)=>JS R q' nw sf yM n2 c2 f2 yN d2 t2 W ay h0 hS'.rd aa hS'.F0
    by_cases h4:4<n2;focus
     have h4':(4:Int)<n2:=aa;have H6:=bG R q 6 wr ay h0 hS.rd aa aa aa;go_wp2_with(first
      |(go_at_call 34;refine H6.mono ?_;clear H6;rintro e w3 ⟨⟨z3,rfl,l3,u3⟩,r3,t3,b3⟩;have vu:=hS.to aa aa r3 t3 b3;let⟨y0,y1,y2,y3,y4⟩:=vu.bx.cells)
      |(go_at_call 14;refine(Fe nw sf yM n2 c2 f2 yN d2 t2 _ vu.F0).mono ?_;rintro e w6 ⟨⟨nw3,sf3,ao3,n3,c3,f3,D_,d3,t3',sa,sn,sc,k3,rfl,rr⟩,b6⟩;have pb:=vu.grow h0 b6;let⟨y0,y1,y2,y3,y4⟩:=pb.bx.cells;let⟨W,eW,Fs⟩:=pb.put h0 hR aa aa<|rr.mono (by have:=vu.rd.lt;omega))
      |(go_at_call 112;refine(HE (q+1) aa aa _ vu).mono ?_;rintro e w6 ⟨⟨nw3,sf3,ao3,n3,c3,f3,D_,d3,t3',rfl,rr⟩,⟨q6,hq6,hq7,r6⟩,t6,b6⟩;have pb:=vu.to aa aa r6 t6 b6;let⟨y0,y1,y2,y3,y4⟩:=pb.bx.cells;let⟨W,eW,Fs⟩:=pb.put h0 hR aa aa rr))
    rotate_right;focus
     have h4':¬(4:Int)<n2:=aa;go_wp2_with(go_at_call 112;refine(HE q aa aa _ hS).mono ?_;rintro e w6 ⟨⟨nw3,sf3,ao3,n3,c3,f3,D_,d3,t3',rfl,rr⟩,⟨q6,hq6,hq7,r6⟩,t6,b6⟩;have pb:=hS.to aa aa r6 t6 b6;let⟨y0,y1,y2,y3,y4⟩:=pb.bx.cells;let⟨W,eW,Fs⟩:=pb.put h0 hR aa aa rr)
    all_goals try omega
    all_goals
     go_roundw
     case rel=>exact⟨k-1,_,_,_,_,_,_,_,_,_,_,by first|(rw[SH];congr 1;omega)|(congr 1;omega)|(simp;omega),aa,aa,aa,Fs⟩
     case measure=>exact cI
   .have pc:¬(0:Int)<k:=by omega
    go_wp2;all_goals try omega
    exact⟨_,_,_,_,_,_,_,_,_,_,aa,aa,hS,rfl,rfl⟩
 rintro a' w2 ⟨nw,sf,yM,n2,c2,f2,yN,d2,t2,q2,qj,Sz,oR,fu⟩;clear u hS;obtain⟨u,rfl⟩:=fu.open;clear fu;let⟨y0,y1,y2,y3,y4⟩:=oR.bx.cells;let⟨r0,r1,r2,r3,r4⟩:=oR.rs.cells;go_wp2;let⟨W5,e5,k5,MH,GC,Gt,Gr⟩:=oR.fin h0 hR aa;rw[e5];let⟨q0',Vs,ZY,q3',q4'⟩:=k5.cells;exact bodyPost_ret (v:=.agg #[.int .i64 nw,.int .i64 sf,.slice yM n2 c2,.slice yN n2 d2]) (by simp[results,Tryz.f81,go_sem,q0',Vs,ZY,q3']) rfl ⟨⟨nw,sf,yM,n2,c2,f2,yN,d2,t2,rfl,MH⟩,⟨_,qj,Sz,GC⟩,Gt,Gr⟩
