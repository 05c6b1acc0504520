import Derived.Test.YtlmcblcijndipaaGreatDoora06
set_option linter.unusedVariables false
set_option linter.defProp false
namespace Go.Proofs.YtlmcblcijndipaaGreatDoor
variable {g a b:Nat->Int}{n k i j p:Nat}{r s:Int}{P Q:Nat->Nat->Prop}
def je (g:Nat->Int)(n k:Nat):Prop:=(∀i,i<k->0<=g i/\g i<n)/\∀i j,i<j->j<k->g i≠g j
def nk (g:Nat->Int)(len n:Nat):Bool:=decide (len=n)&&((List.range n).all λi=>iL (g i) 0 ((n:Int)-1)&&(List.range i).all λk=>g k !=g i)
def FP (g:Nat->Int)(n:Nat):je g n 0:=⟨λ_ h=>absurd h<|ac9 _,λ_ _ _ h=>absurd h<|ac9 _⟩
def FO (h:je g n k)(h1:0<=g k/\g k<n)(h2:∀i,i<k->g i≠g k):je g n (k+1):=by
 refine⟨λi hi=>?_,λi j lH hj=>?_⟩
 .by_cases e:i=k
  .subst e;exact h1
  .exact h.1 i aa
 .by_cases e:j=k
  .subst e;exact h2 i lH
  .exact h.2 i j lH aa
def xS (g:Nat->Int)(n:Nat):nk g n n=true<->je g n n:=by
 unfold nk je iL;simp only[decide_true,Bool.true_and,List.all_eq_true,List.mem_range,Bool.and_eq_true,decide_eq_true_eq,bne_iff_ne];constructor
 .intro h;exact⟨λi hi=>by have:=(h i hi).1;omega,λi j lH hj=>(h j hj).2 i lH⟩
 .intro h i hi;exact⟨by have:=h.1 i hi;omega,λk hk=>h.2 k i hk hi⟩
def Ez {len:Nat}(h:len≠n):nk g len n=false:=by
 unfold nk;simp[h]
def xU (h:je g n n):nk g n n=true:=(xS g n).mpr h
def NN (hk:k<n)(h:¬(0<=g k/\g k<n)):nk g n n=false:=by
 rw[Bool.eq_false_iff];intro hh;exact h<|((xS g n).mp hh).1 k hk
def G8 (lH:i<j)(hj:j<n)(h:g i=g j):nk g n n=false:=by
 rw[Bool.eq_false_iff];intro hh;exact((xS g n).mp hh).2 i j lH hj h
def zH:∀(n:Nat) (g:Nat->Nat),(∀i,i<n->g i<n)->(∀i j,i<j->j<n->g i≠g j)->∀p,p<n->∃i,i<n/\g i=p
 |0,_,_,_,p,hp=>absurd hp (ac9 _)
 |n+1,g,hr,hd,p,hp=>by
  have hq:=hr n aa;have key:=zH n (λi=>if g i=n then g n else g i)
   (λi hi=>by
    have h1:=hr i aa;have h2:=hd i n hi aa;split<;>omega)
   (λi j lH hj=>by
    have h1:=hd i j lH aa;have h2:=hd i n aa aa;have h3:=hd j n hj aa;split<;>split<;>omega)
  by_cases e:p=n
  .subst e;by_cases hn:g p=p
   .exact⟨p,aa,hn⟩
   .let⟨i,hi,he⟩:=key (g p) aa;split at he
    .exact⟨i,aa,by assumption⟩
    .exact absurd he (hd i p hi aa)
  .let⟨i,hi,he⟩:=key p aa;split at he
   .exact⟨n,aa,he⟩
   .exact⟨i,aa,he⟩
def je.zH (h:je g n n)(p:Nat)(hp:p<n):∃i,i<n/\g i=p:=by
 let⟨i,hi,he⟩:=YtlmcblcijndipaaGreatDoor.zH n (λi=>(g i).toNat) (λi hi=>by have:=h.1 i hi;omega)
  (λi j lH hj e=>h.2 i j lH hj (by have:=h.1 i aa;have:=h.1 j hj;omega)) p hp
 exact⟨i,hi,by have:=h.1 i hi;omega⟩
structure ew (a b:Nat->Int)(n:Nat)(r:Int):Prop where
 low:0<=r
 high:r<=n
 most:∀i k:Nat,i<n->k<n->a i=b k->(i:Int)-k<=r/\(k:Int)-i<=r
 some:r=0\/∃i k:Nat,i<n/\k<n/\a i=b k/\(r=(i:Int)-k\/r=(k:Int)-i)
def ew.unique (h:ew a b n r)(h':ew a b n s):r=s:=by
 have h1:r<=s:=by
  rcases h.some with e|⟨i,k,hi,hk,he,e⟩
  .have:=h'.low;omega
  .have:=h'.most i k hi hk he;omega
 have h2:s<=r:=by
  rcases h'.some with e|⟨i,k,hi,hk,he,e⟩
  .have:=h.low;omega
  .have:=h.most i k hi hk he;omega
 omega
structure sD (a b:Nat->Int)(n:Nat)(P:Nat->Nat->Prop)(r:Int):Prop where
 low:0<=r
 high:r<=n
 most:∀i k:Nat,i<n->k<n->a i=b k->P i k->(i:Int)-k<=r/\(k:Int)-i<=r
 some:r=0\/∃i k:Nat,i<n/\k<n/\a i=b k/\(r=(i:Int)-k\/r=(k:Int)-i)
def sD.all (h:sD a b n P r)(hP:∀i k:Nat,i<n->k<n->a i=b k->P i k):ew a b n r:=
 ⟨h.low,h.high,λi k hi hk he=>h.most i k hi hk he<|hP i k hi hk he,h.some⟩
def sD.none (hP:∀i k,¬P i k):sD a b n P 0:=
 ⟨Int.le_refl _,aa,λi k _ _ _ h=>absurd h<|hP i k,.inl rfl⟩
def sD.mono (h:sD a b n P r)(hP:∀i k:Nat,i<n->k<n->a i=b k->Q i k->P i k):sD a b n Q r:=
 ⟨h.low,h.high,λi k hi hk he hq=>h.most i k hi hk he<|hP i k hi hk he hq,h.some⟩
def sD.more {r':Int}(h:sD a b n P r)(hi:i<n)(hk:k<n)(he:a i=b k)
  (hQ:∀x y:Nat,x<n->y<n->a x=b y->Q x y->P x y\/x=i/\y=k)(h1:r<=r')(h2:(i:Int)-k<=r')(h3:(k:Int)-i<=r')(h4:r'=r\/r'=(i:Int)-k\/r'=(k:Int)-i):sD a b n Q r':=by
 have l:=h.low;have u:=h.high;refine⟨aa,aa,λx y hx hy WQ hq=>?_,?_⟩
 .rcases hQ x y hx hy WQ hq with hp|⟨rfl,rfl⟩
  .have:=h.most x y hx hy WQ hp;omega
  .exact⟨h2,h3⟩
 .rcases h4 with e|e|e
  .rw[e];exact h.some
  .exact .inr ⟨i,k,hi,hk,he,.inl e⟩
  .exact .inr ⟨i,k,hi,hk,he,.inr e⟩
def d8 (a:Nat->Int)(n:Nat)(b:Nat->Int)(m:Nat)(r:Int):Prop:=if n=m/\nk a n n=true/\nk b n n=true then ew a b n r else r=-1
def qu (g:Nat->Int):Nat->Nat->Int
 |0,_=>0
 |k+1,p=>if g k=p then k else qu g k p
def sj (h:je g n n)(hj:g j=p):∀k,k<=n->j<k->qu g k p=j
 |0,_,h0=>absurd h0 (ac9 _)
 |k+1,hk,hjk=>by
  simp only[qu];by_cases e:j=k
  .subst e;rw[if_pos hj]
  .rw[if_neg (λe'=>h.2 j k aa aa<|by rw[hj,e'])];exact sj h hj k aa aa
def abR (g:Nat->Int)(k:Nat)(p:Nat):Bool:=(List.range k).any λj=>g j==(p:Int)
