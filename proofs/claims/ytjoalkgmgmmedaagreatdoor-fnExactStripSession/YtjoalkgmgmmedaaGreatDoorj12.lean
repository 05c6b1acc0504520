import Derived.Test.YtjoalkgmgmmedaaGreatDoorj10
set_option linter.unusedVariables false
set_option linter.defProp false
namespace Go.Proofs.YtjoalkgmgmmedaaGreatDoor
variable {g a b:Nat->Int}{n k i j p:Nat}{r s:Int}{P Q:Nat->Nat->Prop}
def jy (g:Nat->Int)(n k:Nat):Prop:=(∀i,i<k->0<=g i/\g i<n)/\∀i j,i<j->j<k->g i≠g j
def nX (g:Nat->Int)(c n:Nat):Bool:=decide (c=n)&&((List.range n).all λi=>jj (g i) 0 (n-1)&&(List.range i).all λk=>g k !=g i)
def Ie (g) n:jy g n 0:=⟨λ_ h=>absurd h<|afO _,λ_ _ _ h=>absurd h<|afO _⟩
def Id (h:jy g n k)(d:0<=g k/\g k<n)(f:∀i,i<k->g i≠g k):jy g n (k+1):=by
 refine⟨λi l=>?_,λi j c m=>?_⟩
 .by_cases e:i=k
  .grind
  exact h.1 i ab
 by_cases e:j=k
 .grind
 exact h.2 i j c ab
def Ac (g) n:nX g n n<->jy g n n:=by
 unfold nX jy jj;grind
def GE {c}(h:c≠n):nX g c n=false:=by
 grind [nX]
def Ae (h:jy g n n):nX g n n:=(Ac g n).mpr h
def QH (c:k<n)(h:¬(0<=g k/\g k<n)):nX g n n=false:=by
 rw[Bool.eq_false_iff];intro d;exact h<|((Ac g n).mp d).1 k c
def JB (c:i<j)(d:j<n)(h:g i=g j):nX g n n=false:=by
 rw[Bool.eq_false_iff];intro e;exact((Ac g n).mp e).2 i j c d h
def BK:∀n (g:Nat->Nat),(∀i,i<n->g i<n)->(∀i j,i<j->j<n->g i≠g j)->∀p,p<n->∃i,i<n/\g i=p
 |0,_,_,_,p,m=>absurd m (afO _)
 |n+1,g,o,d,p,m=>by
  have x:=o n ab;have f:=BK n (λi=>if g i=n then g n else g i)
   (λi l=>by
    have q:=o i ab;have t:=d i n l ab;split<;>omega)
   (λi j u v=>by
    have q:=d i j u ab;have t:=d i n ab ab;have y:=d j n v ab;split<;>split<;>omega)
  by_cases e:p=n
  .subst e;by_cases w:g p=p
   .exact⟨p,ab,w⟩
   .let⟨i,l,c⟩:=f (g p) ab;split at c
    .exact⟨i,ab,by assumption⟩
    .exact absurd c (d i p l ab)
  .let⟨i,l,c⟩:=f p ab;split at c
   .exact⟨n,ab,c⟩
   .exact⟨i,ab,c⟩
def jy.BK (h:jy g n n) p (f:p<n):∃i,i<n/\g i=p:=by
 let⟨i,c,m⟩:=YtjoalkgmgmmedaaGreatDoor.BK n (λi=>(g i).toNat) (λi c=>by have:=h.1 i c;omega)
  (λi j l d e=>h.2 i j l d (by have:=h.1 i ab;have:=h.1 j d;omega)) p f
 exact⟨i,c,by have:=h.1 i c;omega⟩
structure fk (a b:Nat->Int)(n:Nat)(r:Int):Prop where
 low:0<=r
 high:r<=n
 most:∀i k,i<n->k<n->a i=b k->i-k<=r/\k-i<=r
 some:r=0\/∃i k,i<n/\k<n/\a i=b k/\(r=i-k\/r=k-i)
def fk.unique (h:fk a b n r)(c:fk a b n s):r=s:=by
 have m:r<=s:=by
  rcases h.some with e|⟨i,k,d,f,l,e⟩
  .have:=c.low;omega
  have:=c.most i k d f l;omega
 have o:s<=r:=by
  rcases c.some with e|⟨i,k,d,f,l,e⟩
  .have:=h.low;omega
  have:=h.most i k d f l;omega
 omega
structure tT (a b:Nat->Int)(n:Nat)(P:Nat->Nat->Prop)(r:Int):Prop where
 low:0<=r
 high:r<=n
 most:∀i k,i<n->k<n->a i=b k->P i k->i-k<=r/\k-i<=r
 some:r=0\/∃i k,i<n/\k<n/\a i=b k/\(r=i-k\/r=k-i)
def tT.all (h:tT a b n P r)(f:∀i k,i<n->k<n->a i=b k->P i k):fk a b n r:=
 ⟨h.low,h.high,λi k c d e=>h.most i k c d e<|f i k c d e,h.some⟩
def tT.none (c:∀i k,¬P i k):tT a b n P 0:=
 ⟨Int.le_refl _,ab,λi k _ _ _ h=>absurd h<|c i k,.inl rfl⟩
def tT.mono (h:tT a b n P r)(f:∀i k,i<n->k<n->a i=b k->Q i k->P i k):tT a b n Q r:=
 ⟨h.low,h.high,λi k c d e l=>h.most i k c d e<|f i k c d e l,h.some⟩
def tT.more {c}(h:tT a b n P r)(d:i<n)(f:k<n)(l:a i=b k)
  (t:∀x y,x<n->y<n->a x=b y->Q x y->P x y\/x=i/\y=k)(A:r<=c)(B:i-k<=c)(C:k-i<=c)(v:c=r\/c=i-k\/c=k-i):tT a b n Q c:=by
 have u:=h.high;refine⟨ab,ab,λx y m o q w=>?_,?_⟩
 .rcases t x y m o q w with z|⟨rfl,rfl⟩
  .have:=h.most x y m o q z;omega
  omega
 rcases v with e|e|e
 .rw[e];exact h.some
 .exact .inr ⟨i,k,d,f,l,.inl e⟩
 exact .inr ⟨i,k,d,f,l,.inr e⟩
def eI (a:Nat->Int)(n:Nat)(b:Nat->Int)(m:Nat)(r:Int):Prop:=if n=m/\nX a n n/\nX b n n then fk a b n r else r=-1
def rD (g:Nat->Int):Nat->Nat->Int
 |0,_=>0
 |k+1,p=>if g k=p then k else rD g k p
def tF (h:jy g n n)(c:g j=p):∀k,k<=n->j<k->rD g k p=j
 |0,_,d=>absurd d (afO _)
 |k+1,hk,f=>by
  simp only[rD];by_cases e:j=k
  .subst e;rw[if_pos c]
  .rw[if_neg (λl=>h.2 j k ab ab<|by rw[c,l])];exact tF h c k ab ab
def aet (g:Nat->Int)(k:Nat)(p:Nat):Bool:=(List.range k).any λj=>g j==p
