import Derived.Test.YtlmcblcijndipaaGreatDoora09
import Derived.Sort.Walk0
set_option linter.defProp false
set_option linter.unusedVariables false
namespace Go.Proofs.YtlmcblcijndipaaGreatDoor
variable {n x:Nat}{f:Nat->Mv}{g:Nat->Nat}
section
variable {a b c:ByteArray}{y:Nat}
def Mv.key (m:Mv):Int:=if 0<=m.prom then m.prom else m.aW
def bX (a b:ByteArray):Bool:=a.toList==b.toList
def kg (a b:Int):Int:=if a<b then -1 else if b<a then 1 else 0
def tN (a b:ByteArray):Int:=if bU a b=true then -1 else if bX a b=true then 0 else 1
def I5 (a b c:Int):Int:=if a=0 then(if b=0 then c else b)else a
def pN (a:ByteArray):bU a a=false:=by
 unfold bU;rw[bytesLess_eq];simp
def xK (h:bU a b=true)(h':bU b c=true):bU a c=true:=by
 unfold bU at*;rw[bytesLess_eq]at*;simp at*;exact List.lt_trans h h'
def Eg (h:bU a b=false)(h':bX a b=false):bU b a=true:=by
 unfold bU bX at*;rw[bytesLess_eq]at*;simp at*;rcases Std.lt_trichotomy a.toList b.toList with l|l|l
 .exact absurd l oO
 .exact absurd l h'
 .exact l
def qs (h:bX a b=true):bU a c=bU b c/\bU c a=bU c b:=by
 unfold bX bU at*;simp at h;rw[h];exact⟨rfl,rfl⟩
def nA (f:Nat->Mv)(x y:Nat):Prop:=(f x).key<(f y).key\/(f x).key=(f y).key/\(bU (f x).name (f y).name=true\/bX (f x).name (f y).name=true/\x<y)
def nA.irrefl (f:Nat->Mv)(x:Nat):¬nA f x x:=by
 rintro(h|⟨_,h|⟨_,h⟩⟩)
 .omega
 .rw[pN]at h;cases h
 .omega
def uh (h:bX a b=true):bX b a=true:=by unfold bX at*;simp at*;exact h.symm
def Hb (h:bX a b=true)(h':bX b c=true):bX a c=true:=by unfold bX at*;simp at*;exact h.trans h'
def nA.trans {z:Nat}(h:nA f x y)(h':nA f y z):nA f x z:=by
 rcases h with h|⟨e,h⟩<;>rcases h' with h'|⟨e',h'⟩
 .exact .inl aa
 .exact .inl aa
 .exact .inl aa
 .refine .inr ⟨aa,?_⟩;rcases h with h|⟨s,h⟩<;>rcases h' with h'|⟨s',h'⟩
  .exact .inl (xK h h')
  .exact .inl (by rw[(qs (c:=(f x).name)<|uh s').2];exact h)
  .exact .inl (by rw[(qs (c:=(f z).name) s).1];exact h')
  .exact .inr ⟨Hb s s',aa⟩
def nA.tri (f:Nat->Mv)(x y:Nat):nA f x y\/x=y\/nA f y x:=by
 by_cases h1:(f x).key<(f y).key
 .exact .inl (.inl h1)
 .by_cases h2:(f y).key<(f x).key
  .exact .inr (.inr<|.inl h2)
  .have e:(f x).key=(f y).key:=by omega
   cases h3:bU (f x).name (f y).name with
   |true=>exact .inl (.inr ⟨e,.inl h3⟩)
   |false=>
    cases h4:bX (f x).name (f y).name with
    |false=>exact .inr (.inr<|.inr ⟨e.symm,.inl<|Eg h3 h4⟩)
    |true=>
     rcases Nat.lt_trichotomy x y with l|l|l
     .exact .inl (.inr ⟨e,.inr ⟨h4,l⟩⟩)
     .exact .inr (.inl l)
     .exact .inr (.inr<|.inr ⟨e.symm,.inr ⟨uh h4,l⟩⟩)
def nA.asymm (h:nA f x y):¬nA f y x:=λh'=>nA.irrefl f x<|h.trans h'
def K9 (f:Nat->Mv)(x y:Nat):Int:=I5 (kg (f x).key (f y).key) (tN (f x).name (f y).name)<|kg x y
def PL (f:Nat->Mv)(x y:Nat):K9 f x y<0<->nA f x y:=by
 unfold K9 I5 kg tN nA;by_cases h1:(f x).key<(f y).key
 .simp[h1]
 .by_cases h2:(f y).key<(f x).key
  .simp[h1,h2];omega
  .have e:(f x).key=(f y).key:=by omega
   cases h3:bU (f x).name (f y).name with
   |true=>simp[e]
   |false=>
    cases h4:bX (f x).name (f y).name with
    |false=>simp[e]
    |true=>
     simp[e];by_cases l:x<y
     .simp[l]
     .simp[l];split<;>simp
structure dt (f:Nat->Mv)(n:Nat)(g:Nat->Nat):Prop where
 low:∀i,i<n->g i<n
 R1:∀i j,i<j->j<n->nA f (g i) (g j)
def dt.inj (h:dt f n g)(i j:Nat)(lH:i<j)(hj:j<n):g i≠g j:=λe=>nA.irrefl f (g i) (by have:=h.R1 i j lH hj;rwa [<-e]at this)
def dt.zH (h:dt f n g)(p:Nat)(hp:p<n):∃i,i<n/\g i=p:=YtlmcblcijndipaaGreatDoor.zH n g h.low h.inj p hp
def dt.unique {h:Nat->Nat}(hg:dt f n g)(hh:dt f n h):∀i,i<n->g i=h i:=by
 intro i;induction i using Nat.strongRecOn with
 |ind i ih=>
  intro hi;let⟨j,hj,ej⟩:=hh.zH (g i)<|hg.low i hi;let⟨k,hk,ek⟩:=hg.zH (h i)<|hh.low i hi;rcases Nat.lt_trichotomy j i with l|l|l
  .have:=ih j l hj;rw[ej]at this;exact absurd this<|hg.inj j i l hi
  .subst l;exact ej.symm
  .rcases Nat.lt_trichotomy k i with m|m|m
   .have:=ih k m hk;rw[ek]at this;exact absurd this.symm<|hh.inj k i m hi
   .subst m;exact ek
   .have b1:=hh.R1 i j l hj;have b2:=hg.R1 i k m hk;rw[ej]at b1;rw[ek]at b2;exact absurd b1 b2.asymm
def dt.ord (h:dt f n g):je (λi=>((g i:Nat):Int)) n n:=
 ⟨λi hi=>by have:=h.low i hi;simp only;omega,λi j lH hj e=>h.inj i j lH hj<|by simp only at e;omega⟩
end
section
variable {i:Nat}
def oB (g:Nat->Nat)(k i:Nat)(j:Nat):Nat:=if j<k then g j else if j=k then i else g (j-1)
def ma {k:Nat}(h:dt f i g)(hk:k<=i)(h1:∀j,j<k->nA f (g j) i)(h2:k<i->¬nA f (g k) i):dt f (i+1) (oB g k i):=by
 have hb:∀q,k<=q->q<i->nA f i (g q):=by
  intro q hq Y7;have pc:k<i:=aa;have hki:nA f i (g k):=by
   rcases nA.tri f (g k) i with b|b|b
   .exact absurd b (h2 pc)
   .have:=h.low k pc;omega
   .exact b
  by_cases e:q=k
  .subst e;exact hki
  .exact hki.trans (h.R1 k q aa Y7)
 refine⟨λj hj=>?_,λa b Wu dw=>?_⟩
 .unfold oB;split
  .have:=h.low j aa;omega
  .split
   .omega
   .have:=h.low (j-1) aa;omega
 .unfold oB;by_cases ha:a<k
  .rw[if_pos ha];by_cases bP:b<k
   .rw[if_pos bP];exact h.R1 a b Wu aa
   .rw[if_neg bP];by_cases cP:b=k
    .rw[if_pos cP];exact h1 a ha
    .rw[if_neg cP];exact h.R1 a (b-1) aa aa
  .rw[if_neg ha];by_cases ha2:a=k
   .rw[if_pos ha2,if_neg aa,if_neg aa];exact hb (b-1) aa aa
   .rw[if_neg ha2,if_neg aa,if_neg aa];exact h.R1 (a-1) (b-1) aa aa
def Cr (f:Nat->Mv)(g:Nat->Nat):dt f 0 g:=⟨λi hi=>absurd hi<|ac9 _,λ_ _ _ h=>absurd h<|ac9 _⟩
def JD (h:x<i):nA f x i<->(f x).key<(f i).key\/(f x).key=(f i).key/\(bU (f x).name (f i).name||bX (f x).name (f i).name)=true:=by
 unfold nA;rw[ady];constructor
 .rintro(h1|⟨e,h1|⟨h1,_⟩⟩)
  .exact .inl h1
  .exact .inr ⟨e,.inl h1⟩
  .exact .inr ⟨e,.inr h1⟩
 .rintro(h1|⟨e,h1|h1⟩)
  .exact .inl h1
  .exact .inr ⟨e,.inl h1⟩
  .exact .inr ⟨e,.inr ⟨h1,h⟩⟩
def cm (g:Nat->Nat)(n:Nat):List Value:=(List.range n).map λj=>.int .i64 ((g j:Nat):Int)
def eu (g:Nat->Nat)(n:Nat):(cm g n).length=n:=by simp[cm]
def gU {j:Nat}(h:j<n):(cm g n)[j]?=some (.int .i64 ((g j:Nat):Int)):=by simp[cm,h]
def ON (g:Nat->Nat)(i k:Nat)(hk:k<=i):(cm g k++[.int .i64 ((i:Nat):Int)])++cm (λj=>g<|k+j) (i-k)=cm (oB g k i) (i+1):=by
 apply List.ext_getElem?;intro j;by_cases h1:j<k
 .rw[adh (by simp[eu];omega),adh (by simp[eu];omega),gU h1,gU (by omega)];unfold oB;rw[if_pos h1]
 .by_cases h2:j=k
  .subst h2;rw[adh (by simp[eu]),adi (by simp[eu]),gU (by omega)];unfold oB;simp[eu]
  .by_cases h3:j<i+1
   .rw[adi (by simp[eu];omega),gU (by simp[eu];omega),gU h3];unfold oB;rw[if_neg h1,if_neg h2];simp only[List.length_append,eu,List.length_cons,List.length_nil];rw[show k+(j-(k+0+1))=j-1 by omega]
   .rw[adg (by simp[eu];omega),adg (by simp[eu];omega)]
end
