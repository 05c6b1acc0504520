import Derived.Test.YtlmcblcijndipaaGreatDoorj06
namespace Go.Proofs.YtlmcblcijndipaaGreatDoor
variable {g a b:Nat->Int}{n k i j p:Nat}{r s:Int}{P Q:Nat->Nat->Prop}
def iN (g:Nat->Int)(n k:Nat):Prop:=(∀i,i<k->0<=g i/\g i<n)/\∀i j,i<j->j<k->g i≠g j
def mE (g:Nat->Int)(len n:Nat):Bool:=decide (len=n)&&((List.range n).all λi=>iu (g i) 0 ((n:Int)-1)&&(List.range i).all λk=>g k !=g i)
theorem Ed (g:Nat->Int)(n:Nat):iN g n 0:=⟨λ_ h=>absurd h (aco _),λ_ _ _ h=>absurd h (aco _)⟩
theorem Ec (h:iN g n k)(h1:0<=g k/\g k<n)(h2:∀i,i<k->g i≠g k):iN g n (k+1):=by
 refine⟨λi hi=>?_,λi j lI hj=>?_⟩
 .by_cases e:i=k
  .subst e;exact h1
  .exact h.1 i ab
 .by_cases e:j=k
  .subst e;exact h2 i lI
  .exact h.2 i j lI ab
theorem wH (g:Nat->Int)(n:Nat):mE g n n=true<->iN g n n:=by
 unfold mE iN iu;simp only[decide_true,Bool.true_and,List.all_eq_true,List.mem_range,Bool.and_eq_true,decide_eq_true_eq,bne_iff_ne];constructor
 .intro h;exact⟨λi hi=>by have:=(h i hi).1;omega,λi j lI hj=>(h j hj).2 i lI⟩
 .intro h i hi;exact⟨by have:=h.1 i hi;omega,λk hk=>h.2 k i hk hi⟩
theorem CX {len:Nat}(h:len≠n):mE g len n=false:=by
 unfold mE;simp[h]
theorem wI (h:iN g n n):mE g n n=true:=(wH g n).mpr h
theorem L4 (hk:k<n)(h:¬(0<=g k/\g k<n)):mE g n n=false:=by
 rw[Bool.eq_false_iff];intro hh;exact h (((wH g n).mp hh).1 k hk)
theorem Fz (lI:i<j)(hj:j<n)(h:g i=g j):mE g n n=false:=by
 rw[Bool.eq_false_iff];intro hh;exact((wH g n).mp hh).2 i j lI hj h
theorem yq:∀(n:Nat) (g:Nat->Nat),(∀i,i<n->g i<n)->(∀i j,i<j->j<n->g i≠g j)->∀p,p<n->∃i,i<n/\g i=p
 |0,_,_,_,p,hp=>absurd hp (aco _)
 |n+1,g,hr,hd,p,hp=>by
  have hq:=hr n ab;have key:=yq n (λi=>if g i=n then g n else g i)
   (λi hi=>by
    have h1:=hr i ab;have h2:=hd i n hi ab;split<;>omega)
   (λi j lI hj=>by
    have h1:=hd i j lI ab;have h2:=hd i n ab ab;have h3:=hd j n hj ab;split<;>split<;>omega)
  by_cases e:p=n
  .subst e;by_cases hn:g p=p
   .exact⟨p,ab,hn⟩
   .obtain⟨i,hi,he⟩:=key (g p) ab;split at he
    .exact⟨i,ab,by assumption⟩
    .exact absurd he (hd i p hi ab)
  .obtain⟨i,hi,he⟩:=key p ab;split at he
   .exact⟨n,ab,he⟩
   .exact⟨i,ab,he⟩
theorem iN.yq (h:iN g n n)(p:Nat)(hp:p<n):∃i,i<n/\g i=p:=by
 obtain⟨i,hi,he⟩:=YtlmcblcijndipaaGreatDoor.yq n (λi=>(g i).toNat) (λi hi=>by have:=h.1 i hi;omega)
  (λi j lI hj e=>h.2 i j lI hj (by have:=h.1 i ab;have:=h.1 j hj;omega)) p hp
 exact⟨i,hi,by have:=h.1 i hi;omega⟩
structure er (a b:Nat->Int)(n:Nat)(r:Int):Prop where
 low:0<=r
 high:r<=n
 most:∀i k:Nat,i<n->k<n->a i=b k->(i:Int)-k<=r/\(k:Int)-i<=r
 some:r=0\/∃i k:Nat,i<n/\k<n/\a i=b k/\(r=(i:Int)-k\/r=(k:Int)-i)
theorem er.unique (h:er a b n r)(h':er a b n s):r=s:=by
 have h1:r<=s:=by
  rcases h.some with e|⟨i,k,hi,hk,he,e⟩
  .have:=h'.low;omega
  .have:=h'.most i k hi hk he;omega
 have h2:s<=r:=by
  rcases h'.some with e|⟨i,k,hi,hk,he,e⟩
  .have:=h.low;omega
  .have:=h.most i k hi hk he;omega
 omega
structure rO (a b:Nat->Int)(n:Nat)(P:Nat->Nat->Prop)(r:Int):Prop where
 low:0<=r
 high:r<=n
 most:∀i k:Nat,i<n->k<n->a i=b k->P i k->(i:Int)-k<=r/\(k:Int)-i<=r
 some:r=0\/∃i k:Nat,i<n/\k<n/\a i=b k/\(r=(i:Int)-k\/r=(k:Int)-i)
theorem rO.all (h:rO a b n P r)(hP:∀i k:Nat,i<n->k<n->a i=b k->P i k):er a b n r:=
 ⟨h.low,h.high,λi k hi hk he=>h.most i k hi hk he (hP i k hi hk he),h.some⟩
theorem rO.none (hP:∀i k,¬P i k):rO a b n P 0:=
 ⟨Int.le_refl _,ab,λi k _ _ _ h=>absurd h (hP i k),.inl rfl⟩
theorem rO.mono (h:rO a b n P r)(hP:∀i k:Nat,i<n->k<n->a i=b k->Q i k->P i k):rO a b n Q r:=
 ⟨h.low,h.high,λi k hi hk he hq=>h.most i k hi hk he (hP i k hi hk he hq),h.some⟩
theorem rO.more {r':Int}(h:rO a b n P r)(hi:i<n)(hk:k<n)(he:a i=b k)
  (hQ:∀x y:Nat,x<n->y<n->a x=b y->Q x y->P x y\/x=i/\y=k)(h1:r<=r')(h2:(i:Int)-k<=r')(h3:(k:Int)-i<=r')(h4:r'=r\/r'=(i:Int)-k\/r'=(k:Int)-i):rO a b n Q r':=by
 have l:=h.low;have u:=h.high;refine⟨ab,ab,λx y hx hy QO hq=>?_,?_⟩
 .rcases hQ x y hx hy QO hq with hp|⟨rfl,rfl⟩
  .have:=h.most x y hx hy QO hp;omega
  .exact⟨h2,h3⟩
 .rcases h4 with e|e|e
  .rw[e];exact h.some
  .exact .inr ⟨i,k,hi,hk,he,.inl e⟩
  .exact .inr ⟨i,k,hi,hk,he,.inr e⟩
def dR (a:Nat->Int)(n:Nat)(b:Nat->Int)(m:Nat)(r:Int):Prop:=if n=m/\mE a n n=true/\mE b n n=true then er a b n r else r=-1
def p6 (g:Nat->Int):Nat->Nat->Int
 |0,_=>0
 |k+1,p=>if g k=p then k else p6 g k p
theorem rD (h:iN g n n)(hj:g j=p):∀k,k<=n->j<k->p6 g k p=j
 |0,_,h0=>absurd h0 (aco _)
 |k+1,hk,hjk=>by
  simp only[p6];by_cases e:j=k
  .subst e;rw[if_pos hj]
  .rw[if_neg (λe'=>h.2 j k ab ab (by rw[hj,e']))];exact rD h hj k ab ab
def abc (g:Nat->Int)(k:Nat)(p:Nat):Bool:=(List.range k).any λj=>g j==(p:Int)
