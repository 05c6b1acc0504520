import Derived.Test.YtlmcblcijndipabGreatDoorM12
import Derived.Sort.Walk0
set_option linter.unusedVariables false
namespace Go.Proofs.YtlmcblcijndipabGreatDoor
def Mv.key (m:Mv):Int:=if 0<=m.prom then m.prom else m.est
def aU (a b:ByteArray):Bool:=a.toList==b.toList
def eo (a b:Int):Int:=if a<b then -1 else if b<a then 1 else 0
def jR (a b:ByteArray):Int:=if aY a b=true then -1 else if aU a b=true then 0 else 1
def tX (a b c:Int):Int:=if a=0 then(if b=0 then c else b)else a
theorem qL (a:ByteArray):aY a a=false:=by
 unfold aY;rw[bytesLess_eq];simp
theorem mE {a b c:ByteArray}(h:aY a b=true)(h':aY b c=true):aY a c=true:=by
 unfold aY at*;rw[bytesLess_eq]at*;simp at*;exact List.lt_trans h h'
theorem wN {a b:ByteArray}(h:aY a b=false)(h':aU a b=false):aY b a=true:=by
 unfold aY aU at*;rw[bytesLess_eq]at*;simp at*;rcases Std.lt_trichotomy a.toList b.toList with l|l|l
 .exact absurd l (by simpa using h)
 .exact absurd l h'
 .exact l
theorem oz {a b c:ByteArray}(h:aU a b=true):aY a c=aY b c/\aY c a=aY c b:=by
 unfold aU aY at*;simp at h;rw[h];exact⟨rfl,rfl⟩
def gX (f:Nat->Mv)(x y:Nat):Prop:=(f x).key<(f y).key\/(f x).key=(f y).key/\(aY (f x).name (f y).name=true\/aU (f x).name (f y).name=true/\x<y)
theorem gX.irrefl (f:Nat->Mv)(x:Nat):¬gX f x x:=by
 rintro(h|⟨_,h|⟨_,h⟩⟩)
 .omega
 .rw[qL]at h;cases h
 .omega
theorem oA {a b:ByteArray}(h:aU a b=true):aU b a=true:=by unfold aU at*;simp at*;exact h.symm
theorem sO {a b c:ByteArray}(h:aU a b=true)(h':aU b c=true):aU a c=true:=by unfold aU at*;simp at*;exact h.trans h'
theorem gX.trans {f:Nat->Mv}{x y z:Nat}(h:gX f x y)(h':gX f y z):gX f x z:=by
 rcases h with h|⟨e,h⟩<;>rcases h' with h'|⟨e',h'⟩
 .exact .inl (by omega)
 .exact .inl (by omega)
 .exact .inl (by omega)
 .refine .inr ⟨by omega,?_⟩;rcases h with h|⟨s,h⟩<;>rcases h' with h'|⟨s',h'⟩
  .exact .inl (mE h h')
  .exact .inl (by rw[(oz (c:=(f x).name) (oA s')).2];exact h)
  .exact .inl (by rw[(oz (c:=(f z).name) s).1];exact h')
  .exact .inr ⟨sO s s',by omega⟩
theorem gX.tri (f:Nat->Mv)(x y:Nat):gX f x y\/x=y\/gX f y x:=by
 by_cases h1:(f x).key<(f y).key
 .exact .inl (.inl h1)
 .by_cases h2:(f y).key<(f x).key
  .exact .inr (.inr (.inl h2))
  .have e:(f x).key=(f y).key:=by omega
   cases h3:aY (f x).name (f y).name with
   |true=>exact .inl (.inr ⟨e,.inl h3⟩)
   |false=>
    cases h4:aU (f x).name (f y).name with
    |false=>exact .inr (.inr (.inr ⟨e.symm,.inl (wN h3 h4)⟩))
    |true=>
     rcases Nat.lt_trichotomy x y with l|l|l
     .exact .inl (.inr ⟨e,.inr ⟨h4,l⟩⟩)
     .exact .inr (.inl l)
     .exact .inr (.inr (.inr ⟨e.symm,.inr ⟨oA h4,l⟩⟩))
theorem gX.asymm {f:Nat->Mv}{x y:Nat}(h:gX f x y):¬gX f y x:=λh'=>gX.irrefl f x (h.trans h')
def vG (f:Nat->Mv)(x y:Nat):Int:=tX (eo (f x).key (f y).key) (jR (f x).name (f y).name) (eo x y)
theorem yF (f:Nat->Mv)(x y:Nat):vG f x y<0<->gX f x y:=by
 unfold vG tX eo jR gX;by_cases h1:(f x).key<(f y).key
 .simp[h1]
 .by_cases h2:(f y).key<(f x).key
  .simp[h1,h2];omega
  .have e:(f x).key=(f y).key:=by omega
   cases h3:aY (f x).name (f y).name with
   |true=>simp[e]
   |false=>
    cases h4:aU (f x).name (f y).name with
    |false=>simp[e]
    |true=>
     simp[e];by_cases l:x<y
     .simp[l]
     .simp[l];split<;>simp
structure aT (f:Nat->Mv)(n:Nat)(g:Nat->Nat):Prop where
 low:∀i,i<n->g i<n
 bef:∀i j,i<j->j<n->gX f (g i) (g j)
theorem aT.inj {f:Nat->Mv}{n:Nat}{g:Nat->Nat}(h:aT f n g)(i j:Nat)(hij:i<j)(hj:j<n):g i≠g j:=λe=>gX.irrefl f (g i) (by have:=h.bef i j hij hj;rwa [<-e]at this)
theorem aT.surj {f:Nat->Mv}{n:Nat}{g:Nat->Nat}(h:aT f n g)(p:Nat)(hp:p<n):∃i,i<n/\g i=p:=YtlmcblcijndipabGreatDoor.surj n g h.low h.inj p hp
theorem aT.unique {f:Nat->Mv}{n:Nat}{g h:Nat->Nat}(hg:aT f n g)(hh:aT f n h):∀i,i<n->g i=h i:=by
 intro i;induction i using Nat.strongRecOn with
 |ind i ih=>
  intro hi;obtain⟨j,hj,ej⟩:=hh.surj (g i) (hg.low i hi);obtain⟨k,hk,ek⟩:=hg.surj (h i) (hh.low i hi);rcases Nat.lt_trichotomy j i with l|l|l
  .have:=ih j l hj;rw[ej]at this;exact absurd this (hg.inj j i l hi)
  .subst l;exact ej.symm
  .rcases Nat.lt_trichotomy k i with m|m|m
   .have:=ih k m hk;rw[ek]at this;exact absurd this.symm (hh.inj k i m hi)
   .subst m;exact ek
   .have b1:=hh.bef i j l hj;have b2:=hg.bef i k m hk;rw[ej]at b1;rw[ek]at b2;exact absurd b1 b2.asymm
theorem aT.ord {f:Nat->Mv}{n:Nat}{g:Nat->Nat}(h:aT f n g):dQ (λi=>((g i:Nat):Int)) n n:=
 ⟨λi hi=>by have:=h.low i hi;simp only;omega,λi j hij hj e=>h.inj i j hij hj (by simp only at e;omega)⟩
def iy (g:Nat->Nat)(k i:Nat)(j:Nat):Nat:=if j<k then g j else if j=k then i else g (j-1)
theorem iz {f:Nat->Mv}{i k:Nat}{g:Nat->Nat}(h:aT f i g)(hk:k<=i)(h1:∀j,j<k->gX f (g j) i)(h2:k<i->¬gX f (g k) i):aT f (i+1) (iy g k i):=by
 have hb:∀q,k<=q->q<i->gX f i (g q):=by
  intro q hq hqi;have hk':k<i:=by omega
  have hki:gX f i (g k):=by
   rcases gX.tri f (g k) i with b|b|b
   .exact absurd b (h2 hk')
   .have:=h.low k hk';omega
   .exact b
  by_cases e:q=k
  .subst e;exact hki
  .exact hki.trans (h.bef k q (by omega) hqi)
 refine⟨λj hj=>?_,λa b hab hb'=>?_⟩
 .unfold iy;split
  .have:=h.low j (by omega);omega
  .split
   .omega
   .have:=h.low (j-1) (by omega);omega
 .unfold iy;by_cases ha:a<k
  .rw[if_pos ha];by_cases hb1:b<k
   .rw[if_pos hb1];exact h.bef a b hab (by omega)
   .rw[if_neg hb1];by_cases hb2:b=k
    .rw[if_pos hb2];exact h1 a ha
    .rw[if_neg hb2];exact h.bef a (b-1) (by omega) (by omega)
  .rw[if_neg ha];by_cases ha2:a=k
   .rw[if_pos ha2,if_neg (by omega),if_neg (by omega)];exact hb (b-1) (by omega) (by omega)
   .rw[if_neg ha2,if_neg (by omega),if_neg (by omega)];exact h.bef (a-1) (b-1) (by omega) (by omega)
theorem pR (f:Nat->Mv)(g:Nat->Nat):aT f 0 g:=⟨λi hi=>absurd hi (Nat.not_lt_zero _),λ_ _ _ h=>absurd h (Nat.not_lt_zero _)⟩
theorem vj {f:Nat->Mv}{x i:Nat}(h:x<i):gX f x i<->(f x).key<(f i).key\/(f x).key=(f i).key/\(aY (f x).name (f i).name||aU (f x).name (f i).name)=true:=by
 unfold gX;rw[Bool.or_eq_true];constructor
 .rintro(h1|⟨e,h1|⟨h1,_⟩⟩)
  .exact .inl h1
  .exact .inr ⟨e,.inl h1⟩
  .exact .inr ⟨e,.inr h1⟩
 .rintro(h1|⟨e,h1|h1⟩)
  .exact .inl h1
  .exact .inr ⟨e,.inl h1⟩
  .exact .inr ⟨e,.inr ⟨h1,h⟩⟩
def vals (g:Nat->Nat)(n:Nat):List Value:=(List.range n).map λj=>.int .i64 ((g j:Nat):Int)
theorem bp (g:Nat->Nat)(n:Nat):(vals g n).length=n:=by simp[vals]
theorem cZ {g:Nat->Nat}{n j:Nat}(h:j<n):(vals g n)[j]?=some (.int .i64 ((g j:Nat):Int)):=by simp[vals,h]
theorem xp (g:Nat->Nat)(i k:Nat)(hk:k<=i):(vals g k++[.int .i64 ((i:Nat):Int)])++vals (λj=>g (k+j)) (i-k)=vals (iy g k i) (i+1):=by
 apply List.ext_getElem?;intro j;by_cases h1:j<k
 .rw[List.getElem?_append_left (by simp[bp];omega),List.getElem?_append_left (by simp[bp];omega),cZ h1,cZ (by omega)];unfold iy;rw[if_pos h1]
 .by_cases h2:j=k
  .subst h2;rw[List.getElem?_append_left (by simp[bp]),List.getElem?_append_right (by simp[bp]),cZ (by omega)];unfold iy;simp[bp]
  .by_cases h3:j<i+1
   .rw[List.getElem?_append_right (by simp[bp];omega),cZ (by simp[bp];omega),cZ h3];unfold iy;rw[if_neg h1,if_neg h2];simp only[List.length_append,bp,List.length_cons,List.length_nil];rw[show k+(j-(k+0+1))=j-1 by omega]
   .rw[List.getElem?_eq_none (by simp[bp];omega),List.getElem?_eq_none (by simp[bp];omega)]
end Go.Proofs.YtlmcblcijndipabGreatDoor
