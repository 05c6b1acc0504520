import Derived.Test.YtlmcblcijndipabGreatDoorM09
namespace Go.Proofs.YtlmcblcijndipabGreatDoor
def dQ (g:Nat->Int)(n k:Nat):Prop:=(∀i,i<k->0<=g i/\g i<n)/\∀i j,i<j->j<k->g i≠g j
def fU (g:Nat->Int)(len n:Nat):Bool:=decide (len=n)&&((List.range n).all λi=>dN (g i) 0 ((n:Int)-1)&&(List.range i).all λk=>g k !=g i)
theorem sL (g:Nat->Int)(n:Nat):dQ g n 0:=⟨λ_ h=>absurd h (Nat.not_lt_zero _),λ_ _ _ h=>absurd h (Nat.not_lt_zero _)⟩
theorem sM {g:Nat->Int}{n k:Nat}(h:dQ g n k)(h1:0<=g k/\g k<n)(h2:∀i,i<k->g i≠g k):dQ g n (k+1):=by
 refine⟨λi hi=>?_,λi j hij hj=>?_⟩
 .by_cases e:i=k
  .subst e;exact h1
  .exact h.1 i (by omega)
 .by_cases e:j=k
  .subst e;exact h2 i hij
  .exact h.2 i j hij (by omega)
theorem mC (g:Nat->Int)(n:Nat):fU g n n=true<->dQ g n n:=by
 unfold fU dQ dN;simp only[decide_true,Bool.true_and,List.all_eq_true,List.mem_range,Bool.and_eq_true,decide_eq_true_eq,bne_iff_ne];constructor
 .intro h;exact⟨λi hi=>by have:=(h i hi).1;omega,λi j hij hj=>(h j hj).2 i hij⟩
 .intro h i hi;exact⟨by have:=h.1 i hi;omega,λk hk=>h.2 k i hk hi⟩
theorem qK {g:Nat->Int}{len n:Nat}(h:len≠n):fU g len n=false:=by
 unfold fU;simp[h]
theorem mD {g:Nat->Int}{n:Nat}(h:dQ g n n):fU g n n=true:=(mC g n).mpr h
theorem wM {g:Nat->Int}{n k:Nat}(hk:k<n)(h:¬(0<=g k/\g k<n)):fU g n n=false:=by
 rw[Bool.eq_false_iff];intro hh;exact h (((mC g n).mp hh).1 k hk)
theorem sN {g:Nat->Int}{n i j:Nat}(hij:i<j)(hj:j<n)(h:g i=g j):fU g n n=false:=by
 rw[Bool.eq_false_iff];intro hh;exact((mC g n).mp hh).2 i j hij hj h
theorem surj:∀(n:Nat) (g:Nat->Nat),(∀i,i<n->g i<n)->(∀i j,i<j->j<n->g i≠g j)->∀p,p<n->∃i,i<n/\g i=p
 |0,_,_,_,p,hp=>absurd hp (Nat.not_lt_zero _)
 |n+1,g,hr,hd,p,hp=>by
  have hq:=hr n (by omega);have key:=surj n (λi=>if g i=n then g n else g i)
   (λi hi=>by
    have h1:=hr i (by omega);have h2:=hd i n hi (by omega);split<;>omega)
   (λi j hij hj=>by
    have h1:=hd i j hij (by omega);have h2:=hd i n (by omega) (by omega);have h3:=hd j n hj (by omega);split<;>split<;>omega)
  by_cases e:p=n
  .subst e;by_cases hn:g p=p
   .exact⟨p,by omega,hn⟩
   .obtain⟨i,hi,he⟩:=key (g p) (by omega);split at he
    .exact⟨i,by omega,by assumption⟩
    .exact absurd he (hd i p hi (by omega))
  .obtain⟨i,hi,he⟩:=key p (by omega);split at he
   .exact⟨n,by omega,he⟩
   .exact⟨i,by omega,he⟩
theorem dQ.surj {g:Nat->Int}{n:Nat}(h:dQ g n n)(p:Nat)(hp:p<n):∃i,i<n/\g i=p:=by
 obtain⟨i,hi,he⟩:=YtlmcblcijndipabGreatDoor.surj n (λi=>(g i).toNat) (λi hi=>by have:=h.1 i hi;omega)
  (λi j hij hj e=>h.2 i j hij hj (by have:=h.1 i (by omega);have:=h.1 j hj;omega)) p hp
 exact⟨i,hi,by have:=h.1 i hi;omega⟩
structure bF (a b:Nat->Int)(n:Nat)(r:Int):Prop where
 low:0<=r
 high:r<=n
 most:∀i k:Nat,i<n->k<n->a i=b k->(i:Int)-k<=r/\(k:Int)-i<=r
 some:r=0\/∃i k:Nat,i<n/\k<n/\a i=b k/\(r=(i:Int)-k\/r=(k:Int)-i)
theorem bF.unique {a b:Nat->Int}{n:Nat}{r s:Int}(h:bF a b n r)(h':bF a b n s):r=s:=by
 have h1:r<=s:=by
  rcases h.some with e|⟨i,k,hi,hk,he,e⟩
  .have:=h'.low;omega
  .have:=h'.most i k hi hk he;omega
 have h2:s<=r:=by
  rcases h'.some with e|⟨i,k,hi,hk,he,e⟩
  .have:=h.low;omega
  .have:=h.most i k hi hk he;omega
 omega
structure jQ (a b:Nat->Int)(n:Nat)(P:Nat->Nat->Prop)(r:Int):Prop where
 low:0<=r
 high:r<=n
 most:∀i k:Nat,i<n->k<n->a i=b k->P i k->(i:Int)-k<=r/\(k:Int)-i<=r
 some:r=0\/∃i k:Nat,i<n/\k<n/\a i=b k/\(r=(i:Int)-k\/r=(k:Int)-i)
theorem jQ.all {a b:Nat->Int}{n:Nat}{P:Nat->Nat->Prop}{r:Int}(h:jQ a b n P r)(hP:∀i k:Nat,i<n->k<n->a i=b k->P i k):bF a b n r:=
 ⟨h.low,h.high,λi k hi hk he=>h.most i k hi hk he (hP i k hi hk he),h.some⟩
theorem jQ.none {a b:Nat->Int}{n:Nat}{P:Nat->Nat->Prop}(hP:∀i k,¬P i k):jQ a b n P 0:=
 ⟨Int.le_refl _,by omega,λi k _ _ _ h=>absurd h (hP i k),.inl rfl⟩
theorem jQ.mono {a b:Nat->Int}{n:Nat}{P Q:Nat->Nat->Prop}{r:Int}(h:jQ a b n P r)(hP:∀i k:Nat,i<n->k<n->a i=b k->Q i k->P i k):jQ a b n Q r:=
 ⟨h.low,h.high,λi k hi hk he hq=>h.most i k hi hk he (hP i k hi hk he hq),h.some⟩
theorem jQ.more {a b:Nat->Int}{n:Nat}{P Q:Nat->Nat->Prop}{r r':Int}(h:jQ a b n P r){i k:Nat}(hi:i<n)(hk:k<n)(he:a i=b k)
  (hQ:∀x y:Nat,x<n->y<n->a x=b y->Q x y->P x y\/x=i/\y=k)(h1:r<=r')(h2:(i:Int)-k<=r')(h3:(k:Int)-i<=r')(h4:r'=r\/r'=(i:Int)-k\/r'=(k:Int)-i):jQ a b n Q r':=by
 have l:=h.low;have u:=h.high;refine⟨by omega,by omega,λx y hx hy hxy hq=>?_,?_⟩
 .rcases hQ x y hx hy hxy hq with hp|⟨rfl,rfl⟩
  .have:=h.most x y hx hy hxy hp;omega
  .exact⟨h2,h3⟩
 .rcases h4 with e|e|e
  .rw[e];exact h.some
  .exact .inr ⟨i,k,hi,hk,he,.inl e⟩
  .exact .inr ⟨i,k,hi,hk,he,.inr e⟩
def bg (a:Nat->Int)(n:Nat)(b:Nat->Int)(m:Nat)(r:Int):Prop:=if n=m/\fU a n n=true/\fU b n n=true then bF a b n r else r=-1
def iK (g:Nat->Int):Nat->Nat->Int
 |0,_=>0
 |k+1,p=>if g k=p then k else iK g k p
theorem ju {g:Nat->Int}{n:Nat}(h:dQ g n n){j p:Nat}(hj:g j=p):∀k,k<=n->j<k->iK g k p=j
 |0,_,h0=>absurd h0 (Nat.not_lt_zero _)
 |k+1,hk,hjk=>by
  simp only[iK];by_cases e:j=k
  .subst e;rw[if_pos hj]
  .rw[if_neg (λe'=>h.2 j k (by omega) (by omega) (by rw[hj,e']))];exact ju h hj k (by omega) (by omega)
def Bf (g:Nat->Int)(k:Nat)(p:Nat):Bool:=(List.range k).any λj=>g j==(p:Int)
end Go.Proofs.YtlmcblcijndipabGreatDoor
