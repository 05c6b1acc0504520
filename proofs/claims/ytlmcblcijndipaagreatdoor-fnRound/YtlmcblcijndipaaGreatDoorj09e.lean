import Derived.Test.YtlmcblcijndipaaGreatDoorj09
import Derived.Sort.Walk0
set_option linter.unusedVariables false
namespace Go.Proofs.YtlmcblcijndipaaGreatDoor
section
variable {a b c:ByteArray}{f:Nat->Mv}{x y n:Nat}{g:Nat->Nat}
def Mv.key (m:Mv):Int:=if 0<=m.prom then m.prom else m.ba
def bZ (a b:ByteArray):Bool:=a.toList==b.toList
def jP (a b:Int):Int:=if a<b then -1 else if b<a then 1 else 0
def tu (a b:ByteArray):Int:=if cQ a b=true then -1 else if bZ a b=true then 0 else 1
def G5 (a b c:Int):Int:=if a=0 then(if b=0 then c else b)else a
theorem pj (a:ByteArray):cQ a a=false:=by
 unfold cQ;rw[bytesLess_eq];simp
theorem wx (h:cQ a b=true)(h':cQ b c=true):cQ a c=true:=by
 unfold cQ at*;rw[bytesLess_eq]at*;simp at*;exact List.lt_trans h h'
theorem CB (h:cQ a b=false)(h':bZ a b=false):cQ b a=true:=by
 unfold cQ bZ at*;rw[bytesLess_eq]at*;simp at*;rcases Std.lt_trichotomy a.toList b.toList with l|l|l
 .exact absurd l qg
 .exact absurd l h'
 .exact l
theorem pY (h:bZ a b=true):cQ a c=cQ b c/\cQ c a=cQ c b:=by
 unfold bZ cQ at*;simp at h;rw[h];exact⟨rfl,rfl⟩
def oo (f:Nat->Mv)(x y:Nat):Prop:=(f x).key<(f y).key\/(f x).key=(f y).key/\(cQ (f x).name (f y).name=true\/bZ (f x).name (f y).name=true/\x<y)
theorem oo.irrefl (f:Nat->Mv)(x:Nat):¬oo f x x:=by
 rintro(h|⟨_,h|⟨_,h⟩⟩)
 .omega
 .rw[pj]at h;cases h
 .omega
theorem tI (h:bZ a b=true):bZ b a=true:=by unfold bZ at*;simp at*;exact h.symm
theorem xb (h:bZ a b=true)(h':bZ b c=true):bZ a c=true:=by unfold bZ at*;simp at*;exact h.trans h'
theorem oo.trans {z:Nat}(h:oo f x y)(h':oo f y z):oo f x z:=by
 rcases h with h|⟨e,h⟩<;>rcases h' with h'|⟨e',h'⟩
 .exact .inl ab
 .exact .inl ab
 .exact .inl ab
 .refine .inr ⟨ab,?_⟩;rcases h with h|⟨s,h⟩<;>rcases h' with h'|⟨s',h'⟩
  .exact .inl (wx h h')
  .exact .inl (by rw[(pY (c:=(f x).name) (tI s')).2];exact h)
  .exact .inl (by rw[(pY (c:=(f z).name) s).1];exact h')
  .exact .inr ⟨xb s s',ab⟩
theorem oo.tri (f:Nat->Mv)(x y:Nat):oo f x y\/x=y\/oo f y x:=by
 by_cases h1:(f x).key<(f y).key
 .exact .inl (.inl h1)
 .by_cases h2:(f y).key<(f x).key
  .exact .inr (.inr (.inl h2))
  .have e:(f x).key=(f y).key:=by omega
   cases h3:cQ (f x).name (f y).name with
   |true=>exact .inl (.inr ⟨e,.inl h3⟩)
   |false=>
    cases h4:bZ (f x).name (f y).name with
    |false=>exact .inr (.inr (.inr ⟨e.symm,.inl (CB h3 h4)⟩))
    |true=>
     rcases Nat.lt_trichotomy x y with l|l|l
     .exact .inl (.inr ⟨e,.inr ⟨h4,l⟩⟩)
     .exact .inr (.inl l)
     .exact .inr (.inr (.inr ⟨e.symm,.inr ⟨tI h4,l⟩⟩))
theorem oo.asymm (h:oo f x y):¬oo f y x:=λh'=>oo.irrefl f x (h.trans h')
def JI (f:Nat->Mv)(x y:Nat):Int:=G5 (jP (f x).key (f y).key) (tu (f x).name (f y).name) (jP x y)
theorem Oa (f:Nat->Mv)(x y:Nat):JI f x y<0<->oo f x y:=by
 unfold JI G5 jP tu oo;by_cases h1:(f x).key<(f y).key
 .simp[h1]
 .by_cases h2:(f y).key<(f x).key
  .simp[h1,h2];omega
  .have e:(f x).key=(f y).key:=by omega
   cases h3:cQ (f x).name (f y).name with
   |true=>simp[e]
   |false=>
    cases h4:bZ (f x).name (f y).name with
    |false=>simp[e]
    |true=>
     simp[e];by_cases l:x<y
     .simp[l]
     .simp[l];split<;>simp
structure dw (f:Nat->Mv)(n:Nat)(g:Nat->Nat):Prop where
 low:∀i,i<n->g i<n
 RF:∀i j,i<j->j<n->oo f (g i) (g j)
theorem dw.inj (h:dw f n g)(i j:Nat)(lI:i<j)(hj:j<n):g i≠g j:=λe=>oo.irrefl f (g i) (by have:=h.RF i j lI hj;rwa [<-e]at this)
theorem dw.yq (h:dw f n g)(p:Nat)(hp:p<n):∃i,i<n/\g i=p:=YtlmcblcijndipaaGreatDoor.yq n g h.low h.inj p hp
theorem dw.unique {h:Nat->Nat}(hg:dw f n g)(hh:dw f n h):∀i,i<n->g i=h i:=by
 intro i;induction i using Nat.strongRecOn with
 |ind i ih=>
  intro hi;obtain⟨j,hj,ej⟩:=hh.yq (g i) (hg.low i hi);obtain⟨k,hk,ek⟩:=hg.yq (h i) (hh.low i hi);rcases Nat.lt_trichotomy j i with l|l|l
  .have:=ih j l hj;rw[ej]at this;exact absurd this (hg.inj j i l hi)
  .subst l;exact ej.symm
  .rcases Nat.lt_trichotomy k i with m|m|m
   .have:=ih k m hk;rw[ek]at this;exact absurd this.symm (hh.inj k i m hi)
   .subst m;exact ek
   .have b1:=hh.RF i j l hj;have b2:=hg.RF i k m hk;rw[ej]at b1;rw[ek]at b2;exact absurd b1 b2.asymm
theorem dw.ord (h:dw f n g):iN (λi=>((g i:Nat):Int)) n n:=
 ⟨λi hi=>by have:=h.low i hi;simp only;omega,λi j lI hj e=>h.inj i j lI hj (by simp only at e;omega)⟩
end
section
variable {f:Nat->Mv}{i:Nat}{g:Nat->Nat}
def oz (g:Nat->Nat)(k i:Nat)(j:Nat):Nat:=if j<k then g j else if j=k then i else g (j-1)
theorem py {k:Nat}(h:dw f i g)(hk:k<=i)(h1:∀j,j<k->oo f (g j) i)(h2:k<i->¬oo f (g k) i):dw f (i+1) (oz g k i):=by
 have hb:∀q,k<=q->q<i->oo f i (g q):=by
  intro q hq Xh;have nZ:k<i:=ab;have hki:oo f i (g k):=by
   rcases oo.tri f (g k) i with b|b|b
   .exact absurd b (h2 nZ)
   .have:=h.low k nZ;omega
   .exact b
  by_cases e:q=k
  .subst e;exact hki
  .exact hki.trans (h.RF k q ab Xh)
 refine⟨λj hj=>?_,λa b JO cZ=>?_⟩
 .unfold oz;split
  .have:=h.low j ab;omega
  .split
   .omega
   .have:=h.low (j-1) ab;omega
 .unfold oz;by_cases ha:a<k
  .rw[if_pos ha];by_cases bF:b<k
   .rw[if_pos bF];exact h.RF a b JO ab
   .rw[if_neg bF];by_cases cH:b=k
    .rw[if_pos cH];exact h1 a ha
    .rw[if_neg cH];exact h.RF a (b-1) ab ab
  .rw[if_neg ha];by_cases ha2:a=k
   .rw[if_pos ha2,if_neg ab,if_neg ab];exact hb (b-1) ab ab
   .rw[if_neg ha2,if_neg ab,if_neg ab];exact h.RF (a-1) (b-1) ab ab
theorem AA (f:Nat->Mv)(g:Nat->Nat):dw f 0 g:=⟨λi hi=>absurd hi (aco _),λ_ _ _ h=>absurd h (aco _)⟩
theorem Hz {x:Nat}(h:x<i):oo f x i<->(f x).key<(f i).key\/(f x).key=(f i).key/\(cQ (f x).name (f i).name||bZ (f x).name (f i).name)=true:=by
 unfold oo;rw[acO];constructor
 .rintro(h1|⟨e,h1|⟨h1,_⟩⟩)
  .exact .inl h1
  .exact .inr ⟨e,.inl h1⟩
  .exact .inr ⟨e,.inr h1⟩
 .rintro(h1|⟨e,h1|h1⟩)
  .exact .inl h1
  .exact .inr ⟨e,.inl h1⟩
  .exact .inr ⟨e,.inr ⟨h1,h⟩⟩
def cj (g:Nat->Nat)(n:Nat):List Value:=(List.range n).map λj=>.int .i64 ((g j:Nat):Int)
theorem d8 (g:Nat->Nat)(n:Nat):(cj g n).length=n:=by simp[cj]
theorem gC {n j:Nat}(h:j<n):(cj g n)[j]?=some (.int .i64 ((g j:Nat):Int)):=by simp[cj,h]
theorem M9 (g:Nat->Nat)(i k:Nat)(hk:k<=i):(cj g k++[.int .i64 ((i:Nat):Int)])++cj (λj=>g (k+j)) (i-k)=cj (oz g k i) (i+1):=by
 apply List.ext_getElem?;intro j;by_cases h1:j<k
 .rw[acx (by simp[d8];omega),acx (by simp[d8];omega),gC h1,gC (by omega)];unfold oz;rw[if_pos h1]
 .by_cases h2:j=k
  .subst h2;rw[acx (by simp[d8]),acy (by simp[d8]),gC (by omega)];unfold oz;simp[d8]
  .by_cases h3:j<i+1
   .rw[acy (by simp[d8];omega),gC (by simp[d8];omega),gC h3];unfold oz;rw[if_neg h1,if_neg h2];simp only[List.length_append,d8,List.length_cons,List.length_nil];rw[show k+(j-(k+0+1))=j-1 by omega]
   .rw[acw (by simp[d8];omega),acw (by simp[d8];omega)]
end
