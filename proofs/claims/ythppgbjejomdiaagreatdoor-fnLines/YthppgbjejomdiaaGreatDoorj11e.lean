import Derived.Test.YthppgbjejomdiaaGreatDoorj11
import Derived.Sort.Walk0
set_option linter.all false
open Nat renaming lt_trichotomy->ad
open Or renaming inr->aa,inl->ac
namespace Go.Proofs.YthppgbjejomdiaaGreatDoor
variable {n x:Nat}{f:Nat->Mv}{g:Nat->Nat}
section
variable {a b c:ByteArray}{y:Nat}
def Mv.key (m:Mv):Int:=if 0<=m.prom then m.prom else m.cj
def di (a b:ByteArray):Bool:=a.toList==b.toList
def lq (a b:Int):Int:=if a<b then -1 else if b<a then 1 else 0
def vK (a b:ByteArray):Int:=if cG a b then -1 else if di a b then 0 else 1
def LW (a b c:Int):Int:=if a=0 then(if b=0 then c else b)else a
theorem GE (a):cG a a=false:=by unfold cG;rw[bytesLess_eq];simp
def Ak (h:cG a b)(e:cG b c):cG a c:=by unfold cG at*;rw[bytesLess_eq]at*;grind
def GF (h:cG a b=false)(d:di a b=false):cG b a:=by unfold cG di at*;rw[bytesLess_eq]at*;grind
def Dv (h:di a b):cG a c=cG b c/\cG c a=cG c b:=by grind [di,cG]
def qc (f:Nat->Mv)(x y:Nat):Prop:=(f x).key<(f y).key\/(f x).key=(f y).key/\(cG (f x).name (f y).name\/di (f x).name (f y).name/\x<y)
def qc.irrefl (f) x:¬qc f x x:=by rintro(h|⟨_,h|⟨_,h⟩⟩);all_goals grind [GE]
def Dw (h:di a b):di b a:=by unfold di at*;simp at*;exact h.symm
def Kk (h:di a b)(e:di b c):di a c:=by unfold di at*;simp at*;exact h.trans e
def qc.trans {z}(h:qc f x y)(r:qc f y z):qc f x z:=by rcases h with h|⟨e,h⟩<;>rcases r with r|⟨u,r⟩;exact ac ab;exact ac ab;exact ac ab;refine aa ⟨ab,?_⟩;rcases h with h|⟨s,h⟩<;>rcases r with r|⟨t,r⟩;exact ac<|Ak h r;exact ac (by rw[(Dv<|Dw t).2];exact h);exact ac (by rw[(Dv s).1];exact r);exact aa ⟨Kk s t,ab⟩
def qc.tri (f x y):qc f x y\/x=y\/qc f y x:=by by_cases t:(f x).key<(f y).key;exact ac<|ac t;by_cases u:(f y).key<(f x).key;exact aa<|aa<|ac u;(have e:(f x).key=(f y).key:=by omega);cases s:cG (f x).name (f y).name;cases r:di (f x).name (f y).name;exact aa<|aa<|aa ⟨e.symm,ac<|GF s r⟩;rcases ad x y with l|l|l;exact ac<|aa ⟨e,aa ⟨r,l⟩⟩;omega;exact aa<|aa<|aa ⟨e.symm,aa ⟨Dw r,l⟩⟩;exact ac<|aa ⟨e,ac s⟩
def qc.asymm (h:qc f x y):¬qc f y x:=λr=>qc.irrefl f x<|h.trans r
def TX (f:Nat->Mv)(x y:Nat):Int:=LW (lq (f x).key (f y).key) (vK (f x).name (f y).name)<|lq x y
def TY (f x y):TX f x y<0<->qc f x y:=by grind [TX,LW,lq,vK,qc]
structure dK (f) n (g:Nat->Nat):Prop where
 low:∀i,i<n->g i<n
 Zj:∀i j,i<j->j<n->qc f (g i) (g j)
theorem dK.inj (h:dK f n g)(i j)(r:i<j)(s:j<n):g i≠g j:=λe=>qc.irrefl f (g i) (by have:=h.Zj i j r s;rwa [<-e]at this)
def dK.Cm (h:dK f n g) p (r:p<n):∃i,i<n/\g i=p:=YthppgbjejomdiaaGreatDoor.Cm n g h.low h.inj p r
def dK.unique {h}(r:dK f n g)(s:dK f n h):∀i,i<n->g i=h i:=by intro i;induction i using Nat.strongRecOn with|ind i u=>intro t;let⟨j,v,A⟩:=s.Cm (g i)<|r.low i t;let⟨k,hk,B⟩:=r.Cm (h i)<|s.low i t;rcases ad j i with l|l|l;have:=u j l v;rw[A]at this;exact absurd this<|r.inj j i l t;grind;rcases ad k i with m|m|m;have:=u k m hk;rw[B]at this;exact absurd this.symm<|s.inj k i m t;grind;have C:=s.Zj i j l v;have D:=r.Zj i k m hk;rw[A]at C;rw[B]at D;exact absurd C D.asymm
def dK.ord (h:dK f n g):jF (λi=>((g i:Nat):Int)) n n:=
 ⟨λi r=>by have:=h.low i r;simp;omega,λi j s t e=>h.inj i j s t f7⟩
end
section
variable {i:Nat}
def putAt (g:Nat->Nat)(k i:Nat)(j:Nat):Nat:=if j<k then g j else if j=k then i else g (j-1)
def qR {k}(h:dK f i g)(hk:k<=i)(D:∀j,j<k->qc f (g j) i)(J:k<i->¬qc f (g k) i):dK f (i+1) (putAt g k i):=by (have hb:∀q,k<=q->q<i->qc f i (g q):=by intro q hq r;have A:k<i:=ab;(have s:qc f i (g k):=by rcases qc.tri f (g k) i with b|b|b;grind;have:=h.low k A;omega;omega);by_cases e:q=k;grind;exact s.trans<|h.Zj k q ab r);refine⟨λj N=>?_,λa b B O=>?_⟩;unfold putAt;split;have:=h.low j ab;omega;split;omega;have:=h.low (j-1) ab;omega;unfold putAt;by_cases u:a<k;rw[if_pos u];by_cases v:b<k;rw[if_pos v];exact h.Zj a b B ab;rw[if_neg v];by_cases C:b=k;grind;rw[if_neg C];exact h.Zj a (b-1) ab ab;rw[if_neg u];by_cases t:a=k;grind;rw[if_neg t,if_neg ab,if_neg ab];exact h.Zj (a-1) (b-1) ab ab
def EO (f g):dK f 0 g:=⟨λi r=>absurd r<|agA _,λ_ _ _ h=>absurd h<|agA _⟩
theorem MH (h:x<i):qc f x i<->(f x).key<(f i).key\/(f x).key=(f i).key/\(cG (f x).name (f i).name||di (f x).name (f i).name):=by unfold qc;grind
def cH (g:Nat->Nat)(n:Nat):List Value:=(List.range n).map λj=>.int .i64 ((g j:Nat):Int)
theorem fq (g) n:(cH g n).length=n:=by simp[cH]
def iG {j}(h:j<n):(cH g n)[j]?=some (.int .i64 ((g j:Nat):Int)):=by simp[cH,h]
def SB (g i k)(l:k<=i):(cH g k++[.int .i64 i])++cH (λj=>g<|k+j) (i-k)=cH (putAt g k i) (i+1):=by apply List.ext_getElem?;intro j;by_cases d:j<k;rw[agH (by grind [fq]),agH (by simp[fq];omega),iG d,iG (by omega)];unfold putAt;grind;by_cases e:j=k;subst e;rw[agH (by simp[fq]),agI (by simp[fq]),iG (by omega)];grind [putAt,fq];by_cases h:j<i+1;rw[agI (by grind [fq]),iG (by simp[fq];omega),iG h];unfold putAt;rw[if_neg d,if_neg e];grind [List.length_append,fq,List.length_cons,List.length_nil];grind [List.getElem?_eq_none,fq]
end
