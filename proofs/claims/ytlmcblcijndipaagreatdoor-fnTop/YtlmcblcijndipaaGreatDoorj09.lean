import Derived.Test.YtlmcblcijndipaaGreatDoorj06
set_option linter.unusedVariables false
set_option linter.defProp false
namespace Go.Proofs.YtlmcblcijndipaaGreatDoor
variable {g a b:Nat->Int}{n k i j p:Nat}{r s:Int}{P Q:Nat->Nat->Prop}
def jc (g:Nat->Int)(n k:Nat):Prop:=(∀i,i<k->0<=g i/\g i<n)/\∀i j,i<j->j<k->g i≠g j
def np (g:Nat->Int)(len n:Nat):Bool:=decide (len=n)&&((List.range n).all λi=>iB (g i) 0 ((n:Int)-1)&&(List.range i).all λk=>g k !=g i)
def Gi (g:Nat->Int)(n:Nat):jc g n 0:=⟨λ_ h=>absurd h<|ac7 _,λ_ _ _ h=>absurd h<|ac7 _⟩
def Gg (h:jc g n k)(h1:0<=g k/\g k<n)(h2:∀i,i<k->g i≠g k):jc g n (k+1):=by
 refine⟨λi hi=>?_,λi j kq hj=>?_⟩
 .by_cases e:i=k
  .subst e;exact h1
  .exact h.1 i ab
 .by_cases e:j=k
  .subst e;exact h2 i kq
  .exact h.2 i j kq ab
def yp (g:Nat->Int)(n:Nat):np g n n=true<->jc g n n:=by
 unfold np jc iB;simp only[decide_true,Bool.true_and,List.all_eq_true,List.mem_range,Bool.and_eq_true,decide_eq_true_eq,bne_iff_ne];constructor
 .intro h;exact⟨λi hi=>by have:=(h i hi).1;omega,λi j kq hj=>(h j hj).2 i kq⟩
 .intro h i hi;exact⟨by have:=h.1 i hi;omega,λk hk=>h.2 k i hk hi⟩
def EY {len:Nat}(h:len≠n):np g len n=false:=by
 unfold np;simp[h]
def yq (h:jc g n n):np g n n=true:=(yp g n).mpr h
def OG (hk:k<n)(h:¬(0<=g k/\g k<n)):np g n n=false:=by
 rw[Bool.eq_false_iff];intro hh;exact h<|((yp g n).mp hh).1 k hk
def Hy (kq:i<j)(hj:j<n)(h:g i=g j):np g n n=false:=by
 rw[Bool.eq_false_iff];intro hh;exact((yp g n).mp hh).2 i j kq hj h
def zR:∀(n:Nat) (g:Nat->Nat),(∀i,i<n->g i<n)->(∀i j,i<j->j<n->g i≠g j)->∀p,p<n->∃i,i<n/\g i=p
 |0,_,_,_,p,hp=>absurd hp (ac7 _)
 |n+1,g,hr,hd,p,hp=>by
  have hq:=hr n ab;have key:=zR n (λi=>if g i=n then g n else g i)
   (λi hi=>by
    have h1:=hr i ab;have h2:=hd i n hi ab;split<;>omega)
   (λi j kq hj=>by
    have h1:=hd i j kq ab;have h2:=hd i n ab ab;have h3:=hd j n hj ab;split<;>split<;>omega)
  by_cases e:p=n
  .subst e;by_cases hn:g p=p
   .exact⟨p,ab,hn⟩
   .let⟨i,hi,he⟩:=key (g p) ab;split at he
    .exact⟨i,ab,by assumption⟩
    .exact absurd he (hd i p hi ab)
  .let⟨i,hi,he⟩:=key p ab;split at he
   .exact⟨n,ab,he⟩
   .exact⟨i,ab,he⟩
def jc.zR (h:jc g n n)(p:Nat)(hp:p<n):∃i,i<n/\g i=p:=by
 let⟨i,hi,he⟩:=YtlmcblcijndipaaGreatDoor.zR n (λi=>(g i).toNat) (λi hi=>by have:=h.1 i hi;omega)
  (λi j kq hj e=>h.2 i j kq hj (by have:=h.1 i ab;have:=h.1 j hj;omega)) p hp
 exact⟨i,hi,by have:=h.1 i hi;omega⟩
structure eH (a b:Nat->Int)(n:Nat)(r:Int):Prop where
 low:0<=r
 high:r<=n
 most:∀i k:Nat,i<n->k<n->a i=b k->(i:Int)-k<=r/\(k:Int)-i<=r
 some:r=0\/∃i k:Nat,i<n/\k<n/\a i=b k/\(r=(i:Int)-k\/r=(k:Int)-i)
def eH.unique (h:eH a b n r)(h':eH a b n s):r=s:=by
 have h1:r<=s:=by
  rcases h.some with e|⟨i,k,hi,hk,he,e⟩
  .have:=h'.low;omega
  .have:=h'.most i k hi hk he;omega
 have h2:s<=r:=by
  rcases h'.some with e|⟨i,k,hi,hk,he,e⟩
  .have:=h.low;omega
  .have:=h.most i k hi hk he;omega
 omega
structure sO (a b:Nat->Int)(n:Nat)(P:Nat->Nat->Prop)(r:Int):Prop where
 low:0<=r
 high:r<=n
 most:∀i k:Nat,i<n->k<n->a i=b k->P i k->(i:Int)-k<=r/\(k:Int)-i<=r
 some:r=0\/∃i k:Nat,i<n/\k<n/\a i=b k/\(r=(i:Int)-k\/r=(k:Int)-i)
def sO.all (h:sO a b n P r)(hP:∀i k:Nat,i<n->k<n->a i=b k->P i k):eH a b n r:=
 ⟨h.low,h.high,λi k hi hk he=>h.most i k hi hk he<|hP i k hi hk he,h.some⟩
def sO.none (hP:∀i k,¬P i k):sO a b n P 0:=
 ⟨Int.le_refl _,ab,λi k _ _ _ h=>absurd h<|hP i k,.inl rfl⟩
def sO.mono (h:sO a b n P r)(hP:∀i k:Nat,i<n->k<n->a i=b k->Q i k->P i k):sO a b n Q r:=
 ⟨h.low,h.high,λi k hi hk he hq=>h.most i k hi hk he<|hP i k hi hk he hq,h.some⟩
def sO.more {r':Int}(h:sO a b n P r)(hi:i<n)(hk:k<n)(he:a i=b k)
  (hQ:∀x y:Nat,x<n->y<n->a x=b y->Q x y->P x y\/x=i/\y=k)(h1:r<=r')(h2:(i:Int)-k<=r')(h3:(k:Int)-i<=r')(h4:r'=r\/r'=(i:Int)-k\/r'=(k:Int)-i):sO a b n Q r':=by
 have l:=h.low;have u:=h.high;refine⟨ab,ab,λx y hx hy XT hq=>?_,?_⟩
 .rcases hQ x y hx hy XT hq with hp|⟨rfl,rfl⟩
  .have:=h.most x y hx hy XT hp;omega
  .exact⟨h2,h3⟩
 .rcases h4 with e|e|e
  .rw[e];exact h.some
  .exact .inr ⟨i,k,hi,hk,he,.inl e⟩
  .exact .inr ⟨i,k,hi,hk,he,.inr e⟩
def eu (a:Nat->Int)(n:Nat)(b:Nat->Int)(m:Nat)(r:Int):Prop:=if n=m/\np a n n=true/\np b n n=true then eH a b n r else r=-1
def qA (g:Nat->Int):Nat->Nat->Int
 |0,_=>0
 |k+1,p=>if g k=p then k else qA g k p
def sG (h:jc g n n)(hj:g j=p):∀k,k<=n->j<k->qA g k p=j
 |0,_,h0=>absurd h0 (ac7 _)
 |k+1,hk,hjk=>by
  simp only[qA];by_cases e:j=k
  .subst e;rw[if_pos hj]
  .rw[if_neg (λe'=>h.2 j k ab ab<|by rw[hj,e'])];exact sG h hj k ab ab
def abV (g:Nat->Int)(k:Nat)(p:Nat):Bool:=(List.range k).any λj=>g j==(p:Int)
