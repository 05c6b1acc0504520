import Derived.Test.YtlmcblcijndipabGreatDoorDr09
namespace Go.Proofs.YtlmcblcijndipabGreatDoor
def ep (g:Nat->Int)(n k:Nat):Prop:=(∀i,i<k->0<=g i/\g i<n)/\∀i j,i<j->j<k->g i≠g j
def gC (g:Nat->Int)(len n:Nat):Bool:=decide (len=n)&&((List.range n).all λi=>dE (g i) 0 ((n:Int)-1)&&(List.range i).all λk=>g k !=g i)
theorem ua (g:Nat->Int)(n:Nat):ep g n 0:=⟨λ_ h=>absurd h (Nat.not_lt_zero _),λ_ _ _ h=>absurd h (Nat.not_lt_zero _)⟩
theorem ub {g:Nat->Int}{n k:Nat}(h:ep g n k)(h1:0<=g k/\g k<n)(h2:∀i,i<k->g i≠g k):ep g n (k+1):=by
 refine⟨λi hi=>?_,λi j hij hj=>?_⟩
 .by_cases e:i=k
  .subst e;exact h1
  .exact h.1 i (by omega)
 .by_cases e:j=k
  .subst e;exact h2 i hij
  .exact h.2 i j hij (by omega)
theorem nD (g:Nat->Int)(n:Nat):gC g n n=true<->ep g n n:=by
 unfold gC ep dE;simp only[decide_true,Bool.true_and,List.all_eq_true,List.mem_range,Bool.and_eq_true,decide_eq_true_eq,bne_iff_ne];constructor
 .intro h;exact⟨λi hi=>by have:=(h i hi).1;omega,λi j hij hj=>(h j hj).2 i hij⟩
 .intro h i hi;exact⟨by have:=h.1 i hi;omega,λk hk=>h.2 k i hk hi⟩
theorem sk {g:Nat->Int}{len n:Nat}(h:len≠n):gC g len n=false:=by
 unfold gC;simp[h]
theorem nE {g:Nat->Int}{n:Nat}(h:ep g n n):gC g n n=true:=(nD g n).mpr h
theorem yp {g:Nat->Int}{n k:Nat}(hk:k<n)(h:¬(0<=g k/\g k<n)):gC g n n=false:=by
 rw[Bool.eq_false_iff];intro hh;exact h (((nD g n).mp hh).1 k hk)
theorem uc {g:Nat->Int}{n i j:Nat}(hij:i<j)(hj:j<n)(h:g i=g j):gC g n n=false:=by
 rw[Bool.eq_false_iff];intro hh;exact((nD g n).mp hh).2 i j hij hj h
theorem surj:∀(n:Nat) (g:Nat->Nat),(∀i,i<n->g i<n)->(∀i j,i<j->j<n->g i≠g j)->∀p,p<n->∃i,i<n/\g i=p
 |0,_,_,_,p,hp=>absurd hp (Nat.not_lt_zero _)
 |n+1,g,hr,hd,p,hp=>by
  have hq:=hr n (by omega);have key:=surj n (λi=>if g i=n then g n else g i)
   (λi hi=>by
    have h1:=hr i (by omega);have h2:=hd i n hi (by omega);split<;>omega)
   (λi j hij hj=>by
    have h1:=hd i j hij (by omega);have h2:=hd i n (by omega) (by omega);have h3:=hd j n hj (by omega);split<;>split<;>omega)
  by_cases e:p=n
  .subst e;by_cases hn:g p=p
   .exact⟨p,by omega,hn⟩
   .obtain⟨i,hi,he⟩:=key (g p) (by omega);split at he
    .exact⟨i,by omega,by assumption⟩
    .exact absurd he (hd i p hi (by omega))
  .obtain⟨i,hi,he⟩:=key p (by omega);split at he
   .exact⟨n,by omega,he⟩
   .exact⟨i,by omega,he⟩
theorem ep.surj {g:Nat->Int}{n:Nat}(h:ep g n n)(p:Nat)(hp:p<n):∃i,i<n/\g i=p:=by
 obtain⟨i,hi,he⟩:=YtlmcblcijndipabGreatDoor.surj n (λi=>(g i).toNat) (λi hi=>by have:=h.1 i hi;omega)
  (λi j hij hj e=>h.2 i j hij hj (by have:=h.1 i (by omega);have:=h.1 j hj;omega)) p hp
 exact⟨i,hi,by have:=h.1 i hi;omega⟩
structure bQ (a b:Nat->Int)(n:Nat)(r:Int):Prop where
 low:0<=r
 high:r<=n
 most:∀i k:Nat,i<n->k<n->a i=b k->(i:Int)-k<=r/\(k:Int)-i<=r
 some:r=0\/∃i k:Nat,i<n/\k<n/\a i=b k/\(r=(i:Int)-k\/r=(k:Int)-i)
theorem bQ.unique {a b:Nat->Int}{n:Nat}{r s:Int}(h:bQ a b n r)(h':bQ a b n s):r=s:=by
 have h1:r<=s:=by
  rcases h.some with e|⟨i,k,hi,hk,he,e⟩
  .have:=h'.low;omega
  .have:=h'.most i k hi hk he;omega
 have h2:s<=r:=by
  rcases h'.some with e|⟨i,k,hi,hk,he,e⟩
  .have:=h.low;omega
  .have:=h.most i k hi hk he;omega
 omega
structure kI (a b:Nat->Int)(n:Nat)(P:Nat->Nat->Prop)(r:Int):Prop where
 low:0<=r
 high:r<=n
 most:∀i k:Nat,i<n->k<n->a i=b k->P i k->(i:Int)-k<=r/\(k:Int)-i<=r
 some:r=0\/∃i k:Nat,i<n/\k<n/\a i=b k/\(r=(i:Int)-k\/r=(k:Int)-i)
theorem kI.all {a b:Nat->Int}{n:Nat}{P:Nat->Nat->Prop}{r:Int}(h:kI a b n P r)(hP:∀i k:Nat,i<n->k<n->a i=b k->P i k):bQ a b n r:=
 ⟨h.low,h.high,λi k hi hk he=>h.most i k hi hk he (hP i k hi hk he),h.some⟩
theorem kI.none {a b:Nat->Int}{n:Nat}{P:Nat->Nat->Prop}(hP:∀i k,¬P i k):kI a b n P 0:=
 ⟨Int.le_refl _,by omega,λi k _ _ _ h=>absurd h (hP i k),.inl rfl⟩
theorem kI.mono {a b:Nat->Int}{n:Nat}{P Q:Nat->Nat->Prop}{r:Int}(h:kI a b n P r)(hP:∀i k:Nat,i<n->k<n->a i=b k->Q i k->P i k):kI a b n Q r:=
 ⟨h.low,h.high,λi k hi hk he hq=>h.most i k hi hk he (hP i k hi hk he hq),h.some⟩
theorem kI.more {a b:Nat->Int}{n:Nat}{P Q:Nat->Nat->Prop}{r r':Int}(h:kI a b n P r){i k:Nat}(hi:i<n)(hk:k<n)(he:a i=b k)
  (hQ:∀x y:Nat,x<n->y<n->a x=b y->Q x y->P x y\/x=i/\y=k)(h1:r<=r')(h2:(i:Int)-k<=r')(h3:(k:Int)-i<=r')(h4:r'=r\/r'=(i:Int)-k\/r'=(k:Int)-i):kI a b n Q r':=by
 have l:=h.low;have u:=h.high;refine⟨by omega,by omega,λx y hx hy hxy hq=>?_,?_⟩
 .rcases hQ x y hx hy hxy hq with hp|⟨rfl,rfl⟩
  .have:=h.most x y hx hy hxy hp;omega
  .exact⟨h2,h3⟩
 .rcases h4 with e|e|e
  .rw[e];exact h.some
  .exact .inr ⟨i,k,hi,hk,he,.inl e⟩
  .exact .inr ⟨i,k,hi,hk,he,.inr e⟩
def bF (a:Nat->Int)(n:Nat)(b:Nat->Int)(m:Nat)(r:Int):Prop:=if n=m/\gC a n n=true/\gC b n n=true then bQ a b n r else r=-1
def jr (g:Nat->Int):Nat->Nat->Int
 |0,_=>0
 |k+1,p=>if g k=p then k else jr g k p
theorem jZ {g:Nat->Int}{n:Nat}(h:ep g n n){j p:Nat}(hj:g j=p):∀k,k<=n->j<k->jr g k p=j
 |0,_,h0=>absurd h0 (Nat.not_lt_zero _)
 |k+1,hk,hjk=>by
  simp only[jr];by_cases e:j=k
  .subst e;rw[if_pos hj]
  .rw[if_neg (λe'=>h.2 j k (by omega) (by omega) (by rw[hj,e']))];exact jZ h hj k (by omega) (by omega)
def CX (g:Nat->Int)(k:Nat)(p:Nat):Bool:=(List.range k).any λj=>g j==(p:Int)
end Go.Proofs.YtlmcblcijndipabGreatDoor
