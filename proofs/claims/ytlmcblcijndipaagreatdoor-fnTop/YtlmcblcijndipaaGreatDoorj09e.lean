import Derived.Test.YtlmcblcijndipaaGreatDoorj09
import Derived.Sort.Walk0
set_option linter.defProp false
set_option linter.unusedVariables false
namespace Go.Proofs.YtlmcblcijndipaaGreatDoor
variable {n x:Nat}{f:Nat->Mv}{g:Nat->Nat}
section
variable {a b c:ByteArray}{y:Nat}
def Mv.key (m:Mv):Int:=if 0<=m.prom then m.prom else m.bF
def bJ (a b:ByteArray):Bool:=a.toList==b.toList
def j9 (a b:Int):Int:=if a<b then -1 else if b<a then 1 else 0
def ug (a b:ByteArray):Int:=if bX a b=true then -1 else if bJ a b=true then 0 else 1
def JB (a b c:Int):Int:=if a=0 then(if b=0 then c else b)else a
def pR (a:ByteArray):bX a a=false:=by
 unfold bX;rw[bytesLess_eq];simp
def xZ (h:bX a b=true)(h':bX b c=true):bX a c=true:=by
 unfold bX at*;rw[bytesLess_eq]at*;simp at*;exact List.lt_trans h h'
def EE (h:bX a b=false)(h':bJ a b=false):bX b a=true:=by
 unfold bX bJ at*;rw[bytesLess_eq]at*;simp at*;rcases Std.lt_trichotomy a.toList b.toList with l|l|l
 .exact absurd l qJ
 .exact absurd l h'
 .exact l
def qx (h:bJ a b=true):bX a c=bX b c/\bX c a=bX c b:=by
 unfold bJ bX at*;simp at h;rw[h];exact⟨rfl,rfl⟩
def nG (f:Nat->Mv)(x y:Nat):Prop:=(f x).key<(f y).key\/(f x).key=(f y).key/\(bX (f x).name (f y).name=true\/bJ (f x).name (f y).name=true/\x<y)
def nG.irrefl (f:Nat->Mv)(x:Nat):¬nG f x x:=by
 rintro(h|⟨_,h|⟨_,h⟩⟩)
 .omega
 .rw[pR]at h;cases h
 .omega
def nv (h:bJ a b=true):bJ b a=true:=by unfold bJ at*;simp at*;exact h.symm
def sz (h:bJ a b=true)(h':bJ b c=true):bJ a c=true:=by unfold bJ at*;simp at*;exact h.trans h'
def nG.trans {z:Nat}(h:nG f x y)(h':nG f y z):nG f x z:=by
 rcases h with h|⟨e,h⟩<;>rcases h' with h'|⟨e',h'⟩
 .exact .inl ab
 .exact .inl ab
 .exact .inl ab
 .refine .inr ⟨ab,?_⟩;rcases h with h|⟨s,h⟩<;>rcases h' with h'|⟨s',h'⟩
  .exact .inl (xZ h h')
  .exact .inl (by rw[(qx (c:=(f x).name)<|nv s').2];exact h)
  .exact .inl (by rw[(qx (c:=(f z).name) s).1];exact h')
  .exact .inr ⟨sz s s',ab⟩
def nG.tri (f:Nat->Mv)(x y:Nat):nG f x y\/x=y\/nG f y x:=by
 by_cases h1:(f x).key<(f y).key
 .exact .inl (.inl h1)
 .by_cases h2:(f y).key<(f x).key
  .exact .inr (.inr<|.inl h2)
  .have e:(f x).key=(f y).key:=by omega
   cases h3:bX (f x).name (f y).name with
   |true=>exact .inl (.inr ⟨e,.inl h3⟩)
   |false=>
    cases h4:bJ (f x).name (f y).name with
    |false=>exact .inr (.inr<|.inr ⟨e.symm,.inl<|EE h3 h4⟩)
    |true=>
     rcases Nat.lt_trichotomy x y with l|l|l
     .exact .inl (.inr ⟨e,.inr ⟨h4,l⟩⟩)
     .exact .inr (.inl l)
     .exact .inr (.inr<|.inr ⟨e.symm,.inr ⟨nv h4,l⟩⟩)
def nG.asymm (h:nG f x y):¬nG f y x:=λh'=>nG.irrefl f x<|h.trans h'
def LX (f:Nat->Mv)(x y:Nat):Int:=JB (j9 (f x).key (f y).key) (ug (f x).name (f y).name)<|j9 x y
def QI (f:Nat->Mv)(x y:Nat):LX f x y<0<->nG f x y:=by
 unfold LX JB j9 ug nG;by_cases h1:(f x).key<(f y).key
 .simp[h1]
 .by_cases h2:(f y).key<(f x).key
  .simp[h1,h2];omega
  .have e:(f x).key=(f y).key:=by omega
   cases h3:bX (f x).name (f y).name with
   |true=>simp[e]
   |false=>
    cases h4:bJ (f x).name (f y).name with
    |false=>simp[e]
    |true=>
     simp[e];by_cases l:x<y
     .simp[l]
     .simp[l];split<;>simp
structure dr (f:Nat->Mv)(n:Nat)(g:Nat->Nat):Prop where
 low:∀i,i<n->g i<n
 ST:∀i j,i<j->j<n->nG f (g i) (g j)
def dr.inj (h:dr f n g)(i j:Nat)(kq:i<j)(hj:j<n):g i≠g j:=λe=>nG.irrefl f (g i) (by have:=h.ST i j kq hj;rwa [<-e]at this)
def dr.zR (h:dr f n g)(p:Nat)(hp:p<n):∃i,i<n/\g i=p:=YtlmcblcijndipaaGreatDoor.zR n g h.low h.inj p hp
def dr.unique {h:Nat->Nat}(hg:dr f n g)(hh:dr f n h):∀i,i<n->g i=h i:=by
 intro i;induction i using Nat.strongRecOn with
 |ind i ih=>
  intro hi;let⟨j,hj,ej⟩:=hh.zR (g i)<|hg.low i hi;let⟨k,hk,ek⟩:=hg.zR (h i)<|hh.low i hi;rcases Nat.lt_trichotomy j i with l|l|l
  .have:=ih j l hj;rw[ej]at this;exact absurd this<|hg.inj j i l hi
  .subst l;exact ej.symm
  .rcases Nat.lt_trichotomy k i with m|m|m
   .have:=ih k m hk;rw[ek]at this;exact absurd this.symm<|hh.inj k i m hi
   .subst m;exact ek
   .have b1:=hh.ST i j l hj;have b2:=hg.ST i k m hk;rw[ej]at b1;rw[ek]at b2;exact absurd b1 b2.asymm
def dr.ord (h:dr f n g):jc (λi=>((g i:Nat):Int)) n n:=
 ⟨λi hi=>by have:=h.low i hi;simp only;omega,λi j kq hj e=>h.inj i j kq hj<|by simp only at e;omega⟩
end
section
variable {i:Nat}
def oW (g:Nat->Nat)(k i:Nat)(j:Nat):Nat:=if j<k then g j else if j=k then i else g (j-1)
def mg {k:Nat}(h:dr f i g)(hk:k<=i)(h1:∀j,j<k->nG f (g j) i)(h2:k<i->¬nG f (g k) i):dr f (i+1) (oW g k i):=by
 have hb:∀q,k<=q->q<i->nG f i (g q):=by
  intro q hq ZR;have po:k<i:=ab;have hki:nG f i (g k):=by
   rcases nG.tri f (g k) i with b|b|b
   .exact absurd b (h2 po)
   .have:=h.low k po;omega
   .exact b
  by_cases e:q=k
  .subst e;exact hki
  .exact hki.trans (h.ST k q ab ZR)
 refine⟨λj hj=>?_,λa b Xz dt=>?_⟩
 .unfold oW;split
  .have:=h.low j ab;omega
  .split
   .omega
   .have:=h.low (j-1) ab;omega
 .unfold oW;by_cases ha:a<k
  .rw[if_pos ha];by_cases bI:b<k
   .rw[if_pos bI];exact h.ST a b Xz ab
   .rw[if_neg bI];by_cases cj:b=k
    .rw[if_pos cj];exact h1 a ha
    .rw[if_neg cj];exact h.ST a (b-1) ab ab
  .rw[if_neg ha];by_cases ha2:a=k
   .rw[if_pos ha2,if_neg ab,if_neg ab];exact hb (b-1) ab ab
   .rw[if_neg ha2,if_neg ab,if_neg ab];exact h.ST (a-1) (b-1) ab ab
def CC (f:Nat->Mv)(g:Nat->Nat):dr f 0 g:=⟨λi hi=>absurd hi<|ac7 _,λ_ _ _ h=>absurd h<|ac7 _⟩
def Kc (h:x<i):nG f x i<->(f x).key<(f i).key\/(f x).key=(f i).key/\(bX (f x).name (f i).name||bJ (f x).name (f i).name)=true:=by
 unfold nG;rw[adw];constructor
 .rintro(h1|⟨e,h1|⟨h1,_⟩⟩)
  .exact .inl h1
  .exact .inr ⟨e,.inl h1⟩
  .exact .inr ⟨e,.inr h1⟩
 .rintro(h1|⟨e,h1|h1⟩)
  .exact .inl h1
  .exact .inr ⟨e,.inl h1⟩
  .exact .inr ⟨e,.inr ⟨h1,h⟩⟩
def cf (g:Nat->Nat)(n:Nat):List Value:=(List.range n).map λj=>.int .i64 ((g j:Nat):Int)
def eF (g:Nat->Nat)(n:Nat):(cf g n).length=n:=by simp[cf]
def gY {j:Nat}(h:j<n):(cf g n)[j]?=some (.int .i64 ((g j:Nat):Int)):=by simp[cf,h]
def PA (g:Nat->Nat)(i k:Nat)(hk:k<=i):(cf g k++[.int .i64 ((i:Nat):Int)])++cf (λj=>g<|k+j) (i-k)=cf (oW g k i) (i+1):=by
 apply List.ext_getElem?;intro j;by_cases h1:j<k
 .rw[adf (by simp[eF];omega),adf (by simp[eF];omega),gY h1,gY (by omega)];unfold oW;rw[if_pos h1]
 .by_cases h2:j=k
  .subst h2;rw[adf (by simp[eF]),adg (by simp[eF]),gY (by omega)];unfold oW;simp[eF]
  .by_cases h3:j<i+1
   .rw[adg (by simp[eF];omega),gY (by simp[eF];omega),gY h3];unfold oW;rw[if_neg h1,if_neg h2];simp only[List.length_append,eF,List.length_cons,List.length_nil];rw[show k+(j-(k+0+1))=j-1 by omega]
   .rw[ade (by simp[eF];omega),ade (by simp[eF];omega)]
end
