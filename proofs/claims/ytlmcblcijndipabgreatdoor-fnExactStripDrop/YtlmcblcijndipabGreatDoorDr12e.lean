import Derived.Test.YtlmcblcijndipabGreatDoorDr12
import Derived.Sort.Walk0
set_option linter.unusedVariables false
namespace Go.Proofs.YtlmcblcijndipabGreatDoor
def Mv.key (m:Mv):Int:=if 0<=m.prom then m.prom else m.est
def bd (a b:ByteArray):Bool:=a.toList==b.toList
def eN (a b:Int):Int:=if a<b then -1 else if b<a then 1 else 0
def kJ (a b:ByteArray):Int:=if bm a b=true then -1 else if bd a b=true then 0 else 1
def vd (a b c:Int):Int:=if a=0 then(if b=0 then c else b)else a
theorem so (a:ByteArray):bm a a=false:=by
 unfold bm;rw[bytesLess_eq];simp
theorem nF {a b c:ByteArray}(h:bm a b=true)(h':bm b c=true):bm a c=true:=by
 unfold bm at*;rw[bytesLess_eq]at*;simp at*;exact List.lt_trans h h'
theorem yq {a b:ByteArray}(h:bm a b=false)(h':bd a b=false):bm b a=true:=by
 unfold bm bd at*;rw[bytesLess_eq]at*;simp at*;rcases Std.lt_trichotomy a.toList b.toList with l|l|l
 .exact absurd l (by simpa using h)
 .exact absurd l h'
 .exact l
theorem pE {a b c:ByteArray}(h:bd a b=true):bm a c=bm b c/\bm c a=bm c b:=by
 unfold bd bm at*;simp at h;rw[h];exact⟨rfl,rfl⟩
def iC (f:Nat->Mv)(x y:Nat):Prop:=(f x).key<(f y).key\/(f x).key=(f y).key/\(bm (f x).name (f y).name=true\/bd (f x).name (f y).name=true/\x<y)
theorem iC.irrefl (f:Nat->Mv)(x:Nat):¬iC f x x:=by
 rintro(h|⟨_,h|⟨_,h⟩⟩)
 .omega
 .rw[so]at h;cases h
 .omega
theorem pF {a b:ByteArray}(h:bd a b=true):bd b a=true:=by unfold bd at*;simp at*;exact h.symm
theorem ud {a b c:ByteArray}(h:bd a b=true)(h':bd b c=true):bd a c=true:=by unfold bd at*;simp at*;exact h.trans h'
theorem iC.trans {f:Nat->Mv}{x y z:Nat}(h:iC f x y)(h':iC f y z):iC f x z:=by
 rcases h with h|⟨e,h⟩<;>rcases h' with h'|⟨e',h'⟩
 .exact .inl (by omega)
 .exact .inl (by omega)
 .exact .inl (by omega)
 .refine .inr ⟨by omega,?_⟩;rcases h with h|⟨s,h⟩<;>rcases h' with h'|⟨s',h'⟩
  .exact .inl (nF h h')
  .exact .inl (by rw[(pE (c:=(f x).name) (pF s')).2];exact h)
  .exact .inl (by rw[(pE (c:=(f z).name) s).1];exact h')
  .exact .inr ⟨ud s s',by omega⟩
theorem iC.tri (f:Nat->Mv)(x y:Nat):iC f x y\/x=y\/iC f y x:=by
 by_cases h1:(f x).key<(f y).key
 .exact .inl (.inl h1)
 .by_cases h2:(f y).key<(f x).key
  .exact .inr (.inr (.inl h2))
  .have e:(f x).key=(f y).key:=by omega
   cases h3:bm (f x).name (f y).name with
   |true=>exact .inl (.inr ⟨e,.inl h3⟩)
   |false=>
    cases h4:bd (f x).name (f y).name with
    |false=>exact .inr (.inr (.inr ⟨e.symm,.inl (yq h3 h4)⟩))
    |true=>
     rcases Nat.lt_trichotomy x y with l|l|l
     .exact .inl (.inr ⟨e,.inr ⟨h4,l⟩⟩)
     .exact .inr (.inl l)
     .exact .inr (.inr (.inr ⟨e.symm,.inr ⟨pF h4,l⟩⟩))
theorem iC.asymm {f:Nat->Mv}{x y:Nat}(h:iC f x y):¬iC f y x:=λh'=>iC.irrefl f x (h.trans h')
def xk (f:Nat->Mv)(x y:Nat):Int:=vd (eN (f x).key (f y).key) (kJ (f x).name (f y).name) (eN x y)
theorem zU (f:Nat->Mv)(x y:Nat):xk f x y<0<->iC f x y:=by
 unfold xk vd eN kJ iC;by_cases h1:(f x).key<(f y).key
 .simp[h1]
 .by_cases h2:(f y).key<(f x).key
  .simp[h1,h2];omega
  .have e:(f x).key=(f y).key:=by omega
   cases h3:bm (f x).name (f y).name with
   |true=>simp[e]
   |false=>
    cases h4:bd (f x).name (f y).name with
    |false=>simp[e]
    |true=>
     simp[e];by_cases l:x<y
     .simp[l]
     .simp[l];split<;>simp
structure bc (f:Nat->Mv)(n:Nat)(g:Nat->Nat):Prop where
 low:∀i,i<n->g i<n
 bef:∀i j,i<j->j<n->iC f (g i) (g j)
theorem bc.inj {f:Nat->Mv}{n:Nat}{g:Nat->Nat}(h:bc f n g)(i j:Nat)(hij:i<j)(hj:j<n):g i≠g j:=λe=>iC.irrefl f (g i) (by have:=h.bef i j hij hj;rwa [<-e]at this)
theorem bc.surj {f:Nat->Mv}{n:Nat}{g:Nat->Nat}(h:bc f n g)(p:Nat)(hp:p<n):∃i,i<n/\g i=p:=YtlmcblcijndipabGreatDoor.surj n g h.low h.inj p hp
theorem bc.unique {f:Nat->Mv}{n:Nat}{g h:Nat->Nat}(hg:bc f n g)(hh:bc f n h):∀i,i<n->g i=h i:=by
 intro i;induction i using Nat.strongRecOn with
 |ind i ih=>
  intro hi;obtain⟨j,hj,ej⟩:=hh.surj (g i) (hg.low i hi);obtain⟨k,hk,ek⟩:=hg.surj (h i) (hh.low i hi);rcases Nat.lt_trichotomy j i with l|l|l
  .have:=ih j l hj;rw[ej]at this;exact absurd this (hg.inj j i l hi)
  .subst l;exact ej.symm
  .rcases Nat.lt_trichotomy k i with m|m|m
   .have:=ih k m hk;rw[ek]at this;exact absurd this.symm (hh.inj k i m hi)
   .subst m;exact ek
   .have b1:=hh.bef i j l hj;have b2:=hg.bef i k m hk;rw[ej]at b1;rw[ek]at b2;exact absurd b1 b2.asymm
theorem bc.ord {f:Nat->Mv}{n:Nat}{g:Nat->Nat}(h:bc f n g):ep (λi=>((g i:Nat):Int)) n n:=
 ⟨λi hi=>by have:=h.low i hi;simp only;omega,λi j hij hj e=>h.inj i j hij hj (by simp only at e;omega)⟩
def iZ (g:Nat->Nat)(k i:Nat)(j:Nat):Nat:=if j<k then g j else if j=k then i else g (j-1)
theorem ja {f:Nat->Mv}{i k:Nat}{g:Nat->Nat}(h:bc f i g)(hk:k<=i)(h1:∀j,j<k->iC f (g j) i)(h2:k<i->¬iC f (g k) i):bc f (i+1) (iZ g k i):=by
 have hb:∀q,k<=q->q<i->iC f i (g q):=by
  intro q hq hqi;have hk':k<i:=by omega
  have hki:iC f i (g k):=by
   rcases iC.tri f (g k) i with b|b|b
   .exact absurd b (h2 hk')
   .have:=h.low k hk';omega
   .exact b
  by_cases e:q=k
  .subst e;exact hki
  .exact hki.trans (h.bef k q (by omega) hqi)
 refine⟨λj hj=>?_,λa b hab hb'=>?_⟩
 .unfold iZ;split
  .have:=h.low j (by omega);omega
  .split
   .omega
   .have:=h.low (j-1) (by omega);omega
 .unfold iZ;by_cases ha:a<k
  .rw[if_pos ha];by_cases hb1:b<k
   .rw[if_pos hb1];exact h.bef a b hab (by omega)
   .rw[if_neg hb1];by_cases hb2:b=k
    .rw[if_pos hb2];exact h1 a ha
    .rw[if_neg hb2];exact h.bef a (b-1) (by omega) (by omega)
  .rw[if_neg ha];by_cases ha2:a=k
   .rw[if_pos ha2,if_neg (by omega),if_neg (by omega)];exact hb (b-1) (by omega) (by omega)
   .rw[if_neg ha2,if_neg (by omega),if_neg (by omega)];exact h.bef (a-1) (b-1) (by omega) (by omega)
theorem qS (f:Nat->Mv)(g:Nat->Nat):bc f 0 g:=⟨λi hi=>absurd hi (Nat.not_lt_zero _),λ_ _ _ h=>absurd h (Nat.not_lt_zero _)⟩
theorem wH {f:Nat->Mv}{x i:Nat}(h:x<i):iC f x i<->(f x).key<(f i).key\/(f x).key=(f i).key/\(bm (f x).name (f i).name||bd (f x).name (f i).name)=true:=by
 unfold iC;rw[Bool.or_eq_true];constructor
 .rintro(h1|⟨e,h1|⟨h1,_⟩⟩)
  .exact .inl h1
  .exact .inr ⟨e,.inl h1⟩
  .exact .inr ⟨e,.inr h1⟩
 .rintro(h1|⟨e,h1|h1⟩)
  .exact .inl h1
  .exact .inr ⟨e,.inl h1⟩
  .exact .inr ⟨e,.inr ⟨h1,h⟩⟩
def vals (g:Nat->Nat)(n:Nat):List Value:=(List.range n).map λj=>.int .i64 ((g j:Nat):Int)
theorem bJ (g:Nat->Nat)(n:Nat):(vals g n).length=n:=by simp[vals]
theorem dn {g:Nat->Nat}{n j:Nat}(h:j<n):(vals g n)[j]?=some (.int .i64 ((g j:Nat):Int)):=by simp[vals,h]
theorem yM (g:Nat->Nat)(i k:Nat)(hk:k<=i):(vals g k++[.int .i64 ((i:Nat):Int)])++vals (λj=>g (k+j)) (i-k)=vals (iZ g k i) (i+1):=by
 apply List.ext_getElem?;intro j;by_cases h1:j<k
 .rw[List.getElem?_append_left (by simp[bJ];omega),List.getElem?_append_left (by simp[bJ];omega),dn h1,dn (by omega)];unfold iZ;rw[if_pos h1]
 .by_cases h2:j=k
  .subst h2;rw[List.getElem?_append_left (by simp[bJ]),List.getElem?_append_right (by simp[bJ]),dn (by omega)];unfold iZ;simp[bJ]
  .by_cases h3:j<i+1
   .rw[List.getElem?_append_right (by simp[bJ];omega),dn (by simp[bJ];omega),dn h3];unfold iZ;rw[if_neg h1,if_neg h2];simp only[List.length_append,bJ,List.length_cons,List.length_nil];rw[show k+(j-(k+0+1))=j-1 by omega]
   .rw[List.getElem?_eq_none (by simp[bJ];omega),List.getElem?_eq_none (by simp[bJ];omega)]
end Go.Proofs.YtlmcblcijndipabGreatDoor
