import Derived.Test.YtjoalkgmgmmedaaGreatDoorj12
import Derived.Sort.Walk0
set_option linter.defProp false
set_option linter.unusedVariables false
open Nat renaming lt_trichotomy->aa
open Or renaming inr->ac,inl->ad
namespace Go.Proofs.YtjoalkgmgmmedaaGreatDoor
variable {n x:Nat}{f:Nat->Mv}{g:Nat->Nat}
section
variable {a b c:ByteArray}{y:Nat}
def Mv.key (m:Mv):Int:=if 0<=m.prom then m.prom else m.cE
def de (a b:ByteArray):Bool:=a.toList==b.toList
def kX (a b:Int):Int:=if a<b then -1 else if b<a then 1 else 0
def vp (a b:ByteArray):Int:=if cr a b then -1 else if de a b then 0 else 1
def Lh (a b c:Int):Int:=if a=0 then(if b=0 then c else b)else a
theorem Ga (a):cr a a=false:=by
 unfold cr;rw[bytesLess_eq];simp
def zO (h:cr a b)(e:cr b c):cr a c:=by
 unfold cr at*;rw[bytesLess_eq]at*;grind
def Gb (h:cr a b=false)(d:de a b=false):cr b a:=by
 unfold cr de at*;rw[bytesLess_eq]at*;grind
def C2 (h:de a b):cr a c=cr b c/\cr c a=cr c b:=by
 grind [de,cr]
def pZ (f:Nat->Mv)(x y:Nat):Prop:=(f x).key<(f y).key\/(f x).key=(f y).key/\(cr (f x).name (f y).name\/de (f x).name (f y).name/\x<y)
def pZ.irrefl (f) x:¬pZ f x x:=by
 rintro(h|⟨_,h|⟨_,h⟩⟩);all_goals grind [Ga]
def C4 (h:de a b):de b a:=by unfold de at*;simp at*;exact h.symm
def JL (h:de a b)(e:de b c):de a c:=by unfold de at*;simp at*;exact h.trans e
def pZ.trans {z}(h:pZ f x y)(r:pZ f y z):pZ f x z:=by
 rcases h with h|⟨e,h⟩<;>rcases r with r|⟨u,r⟩
 .exact ad ab
 .exact ad ab
 .exact ad ab
 refine ac ⟨ab,?_⟩;rcases h with h|⟨s,h⟩<;>rcases r with r|⟨t,r⟩
 .exact ad (zO h r)
 .exact ad (by rw[(C2<|C4 t).2];exact h)
 .exact ad (by rw[(C2 s).1];exact r)
 exact ac ⟨JL s t,ab⟩
def pZ.tri (f x y):pZ f x y\/x=y\/pZ f y x:=by
 by_cases t:(f x).key<(f y).key
 .exact ad (ad t)
 by_cases u:(f y).key<(f x).key
 .exact ac (ac<|ad u)
 have e:(f x).key=(f y).key:=by omega
 cases s:cr (f x).name (f y).name with
 |true=>exact ad (ac ⟨e,ad s⟩)
 |false=>
  cases r:de (f x).name (f y).name with
  |false=>exact ac (ac<|ac ⟨e.symm,ad<|Gb s r⟩)
  |true=>
   rcases aa x y with l|l|l
   .exact ad (ac ⟨e,ac ⟨r,l⟩⟩)
   .omega
   exact ac<|ac<|ac ⟨e.symm,ac ⟨C4 r,l⟩⟩
def pZ.asymm (h:pZ f x y):¬pZ f y x:=λr=>pZ.irrefl f x<|h.trans r
def Tg (f:Nat->Mv)(x y:Nat):Int:=Lh (kX (f x).key (f y).key) (vp (f x).name (f y).name)<|kX x y
def Th (f x y):Tg f x y<0<->pZ f x y:=by
 grind [Tg,Lh,kX,vp,pZ]
structure dI (f) n (g:Nat->Nat):Prop where
 low:∀i,i<n->g i<n
 Yq:∀i j,i<j->j<n->pZ f (g i) (g j)
def dI.inj (h:dI f n g)(i j)(r:i<j)(s:j<n):g i≠g j:=λe=>pZ.irrefl f (g i) (by have:=h.Yq i j r s;rwa [<-e]at this)
def dI.BK (h:dI f n g) p (r:p<n):∃i,i<n/\g i=p:=YtjoalkgmgmmedaaGreatDoor.BK n g h.low h.inj p r
def dI.unique {h}(r:dI f n g)(s:dI f n h):∀i,i<n->g i=h i:=by
 intro i;induction i using Nat.strongRecOn with
 |ind i u=>
  intro t;let⟨j,v,A⟩:=s.BK (g i)<|r.low i t;let⟨k,hk,B⟩:=r.BK (h i)<|s.low i t;rcases aa j i with l|l|l
  .have:=u j l v;rw[A]at this;exact absurd this<|r.inj j i l t
  .grind
  rcases aa k i with m|m|m
  .have:=u k m hk;rw[B]at this;exact absurd this.symm<|s.inj k i m t
  .grind
  have C:=s.Yq i j l v;have D:=r.Yq i k m hk;rw[A]at C;rw[B]at D;exact absurd C D.asymm
def dI.ord (h:dI f n g):jy (λi=>((g i:Nat):Int)) n n:=
 ⟨λi r=>by have:=h.low i r;simp;omega,λi j s t e=>h.inj i j s t gC⟩
end
section
variable {i:Nat}
def putAt (g:Nat->Nat)(k i:Nat)(j:Nat):Nat:=if j<k then g j else if j=k then i else g (j-1)
def qK {k}(h:dI f i g)(hk:k<=i)(D:∀j,j<k->pZ f (g j) i)(J:k<i->¬pZ f (g k) i):dI f (i+1) (putAt g k i):=by
 have hb:∀q,k<=q->q<i->pZ f i (g q):=by
  intro q hq r;have A:k<i:=ab;have s:pZ f i (g k):=by
   rcases pZ.tri f (g k) i with b|b|b
   .grind
   .have:=h.low k A;omega
   omega
  by_cases e:q=k
  .grind
  exact s.trans<|h.Yq k q ab r
 refine⟨λj N=>?_,λa b B O=>?_⟩
 .unfold putAt;split
  .have:=h.low j ab;omega
  split
  .omega
  have:=h.low (j-1) ab;omega
 unfold putAt;by_cases u:a<k
 .rw[if_pos u];by_cases v:b<k
  .rw[if_pos v];exact h.Yq a b B ab
  rw[if_neg v];by_cases C:b=k
  .grind
  rw[if_neg C];exact h.Yq a (b-1) ab ab
 rw[if_neg u];by_cases t:a=k
 .grind
 rw[if_neg t,if_neg ab,if_neg ab];exact h.Yq (a-1) (b-1) ab ab
def En (f g):dI f 0 g:=⟨λi r=>absurd r<|afO _,λ_ _ _ h=>absurd h<|afO _⟩
theorem LX (h:x<i):pZ f x i<->(f x).key<(f i).key\/(f x).key=(f i).key/\(cr (f x).name (f i).name||de (f x).name (f i).name):=by
 unfold pZ;grind
def cG (g:Nat->Nat)(n:Nat):List Value:=(List.range n).map λj=>.int .i64 ((g j:Nat):Int)
theorem fj (g) n:(cG g n).length=n:=by simp[cG]
def iC {j}(h:j<n):(cG g n)[j]?=some (.int .i64 ((g j:Nat):Int)):=by simp[cG,h]
def RT (g i k)(l:k<=i):(cG g k++[.int .i64 i])++cG (λj=>g<|k+j) (i-k)=cG (putAt g k i) (i+1):=by
 apply List.ext_getElem?;intro j;by_cases d:j<k
 .rw[afV (by grind [fj]),afV (by simp[fj];omega),iC d,iC (by omega)];unfold putAt;grind
 by_cases e:j=k
 .subst e;rw[afV (by simp[fj]),afW (by simp[fj]),iC (by omega)];grind [putAt,fj]
 by_cases h:j<i+1
 .rw[afW (by grind [fj]),iC (by simp[fj];omega),iC h];unfold putAt;rw[if_neg d,if_neg e];grind [List.length_append,fj,List.length_cons,List.length_nil]
 grind [List.getElem?_eq_none,fj]
end
