import Derived.Test.YthppgbjejomdiaaGreatDoorj09
set_option linter.all false
namespace Go.Proofs.YthppgbjejomdiaaGreatDoor
variable {g a b:Nat->Int}{n k i j p:Nat}{r s:Int}{P Q:Nat->Nat->Prop}
def jF (g:Nat->Int)(n k:Nat):Prop:=(∀i,i<k->0<=g i/\g i<n)/\∀i j,i<j->j<k->g i≠g j
def oe (g:Nat->Int)(c n:Nat):Bool:=decide (c=n)&&((List.range n).all λi=>jr (g i) 0 (n-1)&&(List.range i).all λk=>g k !=g i)
def IN (g) n:jF g n 0:=⟨λ_ h=>absurd h<|agA _,λ_ _ _ h=>absurd h<|agA _⟩
def IM (h:jF g n k)(d:0<=g k/\g k<n)(f:∀i,i<k->g i≠g k):jF g n (k+1):=by refine⟨λi l=>?_,λi j c m=>?_⟩;by_cases e:i=k;grind;exact h.1 i ab;by_cases e:j=k;grind;exact h.2 i j c ab
def Ax (g) n:oe g n n<->jF g n n:=by unfold oe jF jr;grind
def G5 {c}(h:c≠n):oe g c n=false:=by grind [oe]
def Ay (h:jF g n n):oe g n n:=(Ax g n).mpr h
def Rq (c:k<n)(h:¬(0<=g k/\g k<n)):oe g n n=false:=by rw[Bool.eq_false_iff];intro d;exact h<|((Ax g n).mp d).1 k c
def J9 (c:i<j)(d:j<n)(h:g i=g j):oe g n n=false:=by rw[Bool.eq_false_iff];intro e;exact((Ax g n).mp e).2 i j c d h
def Cm:∀n (g:Nat->Nat),(∀i,i<n->g i<n)->(∀i j,i<j->j<n->g i≠g j)->∀p,p<n->∃i,i<n/\g i=p
 |0,_,_,_,p,m=>absurd m (agA _)
 |n+1,g,o,d,p,m=>by
  have x:=o n ab;have f:=Cm n (λi=>if g i=n then g n else g i)
   (λi l=>by
    have q:=o i ab;have t:=d i n l ab;split<;>omega)
   (λi j u v=>by
    have q:=d i j u ab;have t:=d i n ab ab;have y:=d j n v ab;split<;>split<;>omega)
  by_cases e:p=n
  .subst e;by_cases w:g p=p
   .exact⟨p,ab,w⟩
   .let⟨i,l,c⟩:=f (g p) ab;split at c
    .exact⟨i,ab,by assumption⟩
    .exact absurd c (d i p l ab)
  .let⟨i,l,c⟩:=f p ab;split at c
   .exact⟨n,ab,c⟩
   .exact⟨i,ab,c⟩
def jF.Cm (h:jF g n n) p (f:p<n):∃i,i<n/\g i=p:=by
 let⟨i,c,m⟩:=YthppgbjejomdiaaGreatDoor.Cm n (λi=>(g i).toNat) (λi c=>by have:=h.1 i c;omega)
  (λi j l d e=>h.2 i j l d (by have:=h.1 i ab;have:=h.1 j d;omega)) p f
 exact⟨i,c,by have:=h.1 i c;omega⟩
structure ft (a b:Nat->Int)(n:Nat)(r:Int):Prop where
 low:0<=r
 high:r<=n
 most:∀i k,i<n->k<n->a i=b k->i-k<=r/\k-i<=r
 some:r=0\/∃i k,i<n/\k<n/\a i=b k/\(r=i-k\/r=k-i)
def ft.unique (h:ft a b n r)(c:ft a b n s):r=s:=by
 have m:r<=s:=by rcases h.some with e|⟨i,k,d,f,l,e⟩;have:=c.low;omega;have:=c.most i k d f l;omega
 have o:s<=r:=by rcases c.some with e|⟨i,k,d,f,l,e⟩;have:=h.low;omega;have:=h.most i k d f l;omega
 omega
structure ug (a b:Nat->Int)(n:Nat)(P:Nat->Nat->Prop)(r:Int):Prop where
 low:0<=r
 high:r<=n
 most:∀i k,i<n->k<n->a i=b k->P i k->i-k<=r/\k-i<=r
 some:r=0\/∃i k,i<n/\k<n/\a i=b k/\(r=i-k\/r=k-i)
def ug.all (h:ug a b n P r)(f:∀i k,i<n->k<n->a i=b k->P i k):ft a b n r:=
 ⟨h.low,h.high,λi k c d e=>h.most i k c d e<|f i k c d e,h.some⟩
def ug.none (c:∀i k,¬P i k):ug a b n P 0:=
 ⟨Int.le_refl _,ab,λi k _ _ _ h=>absurd h<|c i k,.inl rfl⟩
def ug.mono (h:ug a b n P r)(f:∀i k,i<n->k<n->a i=b k->Q i k->P i k):ug a b n Q r:=
 ⟨h.low,h.high,λi k c d e l=>h.most i k c d e<|f i k c d e l,h.some⟩
def ug.more {c}(h:ug a b n P r)(d:i<n)(f:k<n)(l:a i=b k) (t:∀x y,x<n->y<n->a x=b y->Q x y->P x y\/x=i/\y=k)(A:r<=c)(B:i-k<=c)(C:k-i<=c)(v:c=r\/c=i-k\/c=k-i):ug a b n Q c:=by have u:=h.high;refine⟨ab,ab,λx y m o q w=>?_,?_⟩;rcases t x y m o q w with z|⟨rfl,rfl⟩;have:=h.most x y m o q z;omega;omega;rcases v with e|e|e;rw[e];exact h.some;exact .inr ⟨i,k,d,f,l,.inl e⟩;exact .inr ⟨i,k,d,f,l,.inr e⟩
def eN (a:Nat->Int)(n:Nat)(b:Nat->Int)(m:Nat)(r:Int):Prop:=if n=m/\oe a n n/\oe b n n then ft a b n r else r=-1
def rL (g:Nat->Int):Nat->Nat->Int
 |0,_=>0
 |k+1,p=>if g k=p then k else rL g k p
def tR (h:jF g n n)(c:g j=p):∀k,k<=n->j<k->rL g k p=j
 |0,_,d=>absurd d (agA _)
 |k+1,hk,f=>by
  simp only[rL];by_cases e:j=k
  .subst e;rw[if_pos c]
  .rw[if_neg (λl=>h.2 j k ab ab<|by rw[c,l])];exact tR h c k ab ab
def afd (g:Nat->Int)(k:Nat)(p:Nat):Bool:=(List.range k).any λj=>g j==p
