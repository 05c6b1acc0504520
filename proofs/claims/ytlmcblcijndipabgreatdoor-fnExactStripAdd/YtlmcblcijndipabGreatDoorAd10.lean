import Derived.Test.YtlmcblcijndipabGreatDoorAd05
import Derived.Sort.Walk0
set_option linter.unusedVariables false
namespace Go.Proofs.YtlmcblcijndipabGreatDoor
def Mv.key (m:Mv):Int:=if 0<=m.prom then m.prom else m.est
def aX (a b:ByteArray):Bool:=a.toList==b.toList
def fg (a b:Int):Int:=if a<b then -1 else if b<a then 1 else 0
def kY (a b:ByteArray):Int:=if aO a b=true then -1 else if aX a b=true then 0 else 1
def wF (a b c:Int):Int:=if a=0 then(if b=0 then c else b)else a
theorem tD (a:ByteArray):aO a a=false:=by
 unfold aO;rw[bytesLess_eq];simp
theorem ol {a b c:ByteArray}(h:aO a b=true)(h':aO b c=true):aO a c=true:=by
 unfold aO at*;rw[bytesLess_eq]at*;simp at*;exact List.lt_trans h h'
theorem tE {a b:ByteArray}(h:aO a b=false)(h':aX a b=false):aO b a=true:=by
 unfold aO aX at*;rw[bytesLess_eq]at*;simp at*;rcases Std.lt_trichotomy a.toList b.toList with l|l|l
 .exact absurd l (by simpa using h)
 .exact absurd l h'
 .exact l
theorem qj {a b c:ByteArray}(h:aX a b=true):aO a c=aO b c/\aO c a=aO c b:=by
 unfold aX aO at*;simp at h;rw[h];exact⟨rfl,rfl⟩
def iQ (f:Nat->Mv)(x y:Nat):Prop:=(f x).key<(f y).key\/(f x).key=(f y).key/\(aO (f x).name (f y).name=true\/aX (f x).name (f y).name=true/\x<y)
theorem iQ.irrefl (f:Nat->Mv)(x:Nat):¬iQ f x x:=by
 rintro(h|⟨_,h|⟨_,h⟩⟩)
 .omega
 .rw[tD]at h;cases h
 .omega
theorem qk {a b:ByteArray}(h:aX a b=true):aX b a=true:=by unfold aX at*;simp at*;exact h.symm
theorem vg {a b c:ByteArray}(h:aX a b=true)(h':aX b c=true):aX a c=true:=by unfold aX at*;simp at*;exact h.trans h'
theorem iQ.trans {f:Nat->Mv}{x y z:Nat}(h:iQ f x y)(h':iQ f y z):iQ f x z:=by
 rcases h with h|⟨e,h⟩<;>rcases h' with h'|⟨e',h'⟩
 .exact .inl (by omega)
 .exact .inl (by omega)
 .exact .inl (by omega)
 .refine .inr ⟨by omega,?_⟩;rcases h with h|⟨s,h⟩<;>rcases h' with h'|⟨s',h'⟩
  .exact .inl (ol h h')
  .exact .inl (by rw[(qj (c:=(f x).name) (qk s')).2];exact h)
  .exact .inl (by rw[(qj (c:=(f z).name) s).1];exact h')
  .exact .inr ⟨vg s s',by omega⟩
theorem iQ.tri (f:Nat->Mv)(x y:Nat):iQ f x y\/x=y\/iQ f y x:=by
 by_cases h1:(f x).key<(f y).key
 .exact .inl (.inl h1)
 .by_cases h2:(f y).key<(f x).key
  .exact .inr (.inr (.inl h2))
  .have e:(f x).key=(f y).key:=by omega
   cases h3:aO (f x).name (f y).name with
   |true=>exact .inl (.inr ⟨e,.inl h3⟩)
   |false=>
    cases h4:aX (f x).name (f y).name with
    |false=>exact .inr (.inr (.inr ⟨e.symm,.inl (tE h3 h4)⟩))
    |true=>
     rcases Nat.lt_trichotomy x y with l|l|l
     .exact .inl (.inr ⟨e,.inr ⟨h4,l⟩⟩)
     .exact .inr (.inl l)
     .exact .inr (.inr (.inr ⟨e.symm,.inr ⟨qk h4,l⟩⟩))
theorem iQ.asymm {f:Nat->Mv}{x y:Nat}(h:iQ f x y):¬iQ f y x:=λh'=>iQ.irrefl f x (h.trans h')
def yN (f:Nat->Mv)(x y:Nat):Int:=wF (fg (f x).key (f y).key) (kY (f x).name (f y).name) (fg x y)
theorem Bj (f:Nat->Mv)(x y:Nat):yN f x y<0<->iQ f x y:=by
 unfold yN wF fg kY iQ;by_cases h1:(f x).key<(f y).key
 .simp[h1]
 .by_cases h2:(f y).key<(f x).key
  .simp[h1,h2];omega
  .have e:(f x).key=(f y).key:=by omega
   cases h3:aO (f x).name (f y).name with
   |true=>simp[e]
   |false=>
    cases h4:aX (f x).name (f y).name with
    |false=>simp[e]
    |true=>
     simp[e];by_cases l:x<y
     .simp[l]
     .simp[l];split<;>simp
structure bg (f:Nat->Mv)(n:Nat)(g:Nat->Nat):Prop where
 low:∀i,i<n->g i<n
 bef:∀i j,i<j->j<n->iQ f (g i) (g j)
theorem bg.inj {f:Nat->Mv}{n:Nat}{g:Nat->Nat}(h:bg f n g)(i j:Nat)(hij:i<j)(hj:j<n):g i≠g j:=λe=>iQ.irrefl f (g i) (by have:=h.bef i j hij hj;rwa [<-e]at this)
theorem bg.surj {f:Nat->Mv}{n:Nat}{g:Nat->Nat}(h:bg f n g)(p:Nat)(hp:p<n):∃i,i<n/\g i=p:=YtlmcblcijndipabGreatDoor.surj n g h.low h.inj p hp
theorem bg.unique {f:Nat->Mv}{n:Nat}{g h:Nat->Nat}(hg:bg f n g)(hh:bg f n h):∀i,i<n->g i=h i:=by
 intro i;induction i using Nat.strongRecOn with
 |ind i ih=>
  intro hi;obtain⟨j,hj,ej⟩:=hh.surj (g i) (hg.low i hi);obtain⟨k,hk,ek⟩:=hg.surj (h i) (hh.low i hi);rcases Nat.lt_trichotomy j i with l|l|l
  .have:=ih j l hj;rw[ej]at this;exact absurd this (hg.inj j i l hi)
  .subst l;exact ej.symm
  .rcases Nat.lt_trichotomy k i with m|m|m
   .have:=ih k m hk;rw[ek]at this;exact absurd this.symm (hh.inj k i m hi)
   .subst m;exact ek
   .have b1:=hh.bef i j l hj;have b2:=hg.bef i k m hk;rw[ej]at b1;rw[ek]at b2;exact absurd b1 b2.asymm
theorem bg.ord {f:Nat->Mv}{n:Nat}{g:Nat->Nat}(h:bg f n g):eG (λi=>((g i:Nat):Int)) n n:=
 ⟨λi hi=>by have:=h.low i hi;simp only;omega,λi j hij hj e=>h.inj i j hij hj (by simp only at e;omega)⟩
def jq (g:Nat->Nat)(k i:Nat)(j:Nat):Nat:=if j<k then g j else if j=k then i else g (j-1)
theorem jr {f:Nat->Mv}{i k:Nat}{g:Nat->Nat}(h:bg f i g)(hk:k<=i)(h1:∀j,j<k->iQ f (g j) i)(h2:k<i->¬iQ f (g k) i):bg f (i+1) (jq g k i):=by
 have hb:∀q,k<=q->q<i->iQ f i (g q):=by
  intro q hq hqi;have hk':k<i:=by omega
  have hki:iQ f i (g k):=by
   rcases iQ.tri f (g k) i with b|b|b
   .exact absurd b (h2 hk')
   .have:=h.low k hk';omega
   .exact b
  by_cases e:q=k
  .subst e;exact hki
  .exact hki.trans (h.bef k q (by omega) hqi)
 refine⟨λj hj=>?_,λa b hab hb'=>?_⟩
 .unfold jq;split
  .have:=h.low j (by omega);omega
  .split
   .omega
   .have:=h.low (j-1) (by omega);omega
 .unfold jq;by_cases ha:a<k
  .rw[if_pos ha];by_cases hb1:b<k
   .rw[if_pos hb1];exact h.bef a b hab (by omega)
   .rw[if_neg hb1];by_cases hb2:b=k
    .rw[if_pos hb2];exact h1 a ha
    .rw[if_neg hb2];exact h.bef a (b-1) (by omega) (by omega)
  .rw[if_neg ha];by_cases ha2:a=k
   .rw[if_pos ha2,if_neg (by omega),if_neg (by omega)];exact hb (b-1) (by omega) (by omega)
   .rw[if_neg ha2,if_neg (by omega),if_neg (by omega)];exact h.bef (a-1) (b-1) (by omega) (by omega)
theorem rK (f:Nat->Mv)(g:Nat->Nat):bg f 0 g:=⟨λi hi=>absurd hi (Gr _),λ_ _ _ h=>absurd h (Gr _)⟩
theorem yj {f:Nat->Mv}{x i:Nat}(h:x<i):iQ f x i<->(f x).key<(f i).key\/(f x).key=(f i).key/\(aO (f x).name (f i).name||aX (f x).name (f i).name)=true:=by
 unfold iQ;rw[GP];constructor
 .rintro(h1|⟨e,h1|⟨h1,_⟩⟩)
  .exact .inl h1
  .exact .inr ⟨e,.inl h1⟩
  .exact .inr ⟨e,.inr h1⟩
 .rintro(h1|⟨e,h1|h1⟩)
  .exact .inl h1
  .exact .inr ⟨e,.inl h1⟩
  .exact .inr ⟨e,.inr ⟨h1,h⟩⟩
def vals (g:Nat->Nat)(n:Nat):List Value:=(List.range n).map λj=>.int .i64 ((g j:Nat):Int)
theorem bI (g:Nat->Nat)(n:Nat):(vals g n).length=n:=by simp[vals]
theorem dx {g:Nat->Nat}{n j:Nat}(h:j<n):(vals g n)[j]?=some (.int .i64 ((g j:Nat):Int)):=by simp[vals,h]
theorem zZ (g:Nat->Nat)(i k:Nat)(hk:k<=i):(vals g k++[.int .i64 ((i:Nat):Int)])++vals (λj=>g (k+j)) (i-k)=vals (jq g k i) (i+1):=by
 apply List.ext_getElem?;intro j;by_cases h1:j<k
 .rw[Gy (by simp[bI];omega),Gy (by simp[bI];omega),dx h1,dx (by omega)];unfold jq;rw[if_pos h1]
 .by_cases h2:j=k
  .subst h2;rw[Gy (by simp[bI]),Gz (by simp[bI]),dx (by omega)];unfold jq;simp[bI]
  .by_cases h3:j<i+1
   .rw[Gz (by simp[bI];omega),dx (by simp[bI];omega),dx h3];unfold jq;rw[if_neg h1,if_neg h2];simp only[List.length_append,bI,List.length_cons,List.length_nil];rw[show k+(j-(k+0+1))=j-1 by omega]
   .rw[Gx (by simp[bI];omega),Gx (by simp[bI];omega)]
