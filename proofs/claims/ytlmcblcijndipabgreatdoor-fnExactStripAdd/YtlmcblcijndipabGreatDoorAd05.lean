import Derived.Test.YtlmcblcijndipabGreatDoorAd02
namespace Go.Proofs.YtlmcblcijndipabGreatDoor
section
def eG (g:Nat->Int)(n k:Nat):Prop:=(∀i,i<k->0<=g i/\g i<n)/\∀i j,i<j->j<k->g i≠g j
def gK (g:Nat->Int)(len n:Nat):Bool:=decide (len=n)&&((List.range n).all λi=>dN (g i) 0 ((n:Int)-1)&&(List.range i).all λk=>g k !=g i)
theorem uC (g:Nat->Int)(n:Nat):eG g n 0:=⟨λ_ h=>absurd h (Gr _),λ_ _ _ h=>absurd h (Gr _)⟩
theorem uD {g:Nat->Int}{n k:Nat}(h:eG g n k)(h1:0<=g k/\g k<n)(h2:∀i,i<k->g i≠g k):eG g n (k+1):=by
 refine⟨λi hi=>?_,λi j hij hj=>?_⟩
 .by_cases e:i=k
  .subst e;exact h1
  .exact h.1 i (by omega)
 .by_cases e:j=k
  .subst e;exact h2 i hij
  .exact h.2 i j hij (by omega)
theorem nI (g:Nat->Int)(n:Nat):gK g n n=true<->eG g n n:=by
 unfold gK eG dN;simp only[decide_true,Bool.true_and,List.all_eq_true,List.mem_range,Bool.and_eq_true,decide_eq_true_eq,bne_iff_ne];constructor
 .intro h;exact⟨λi hi=>by have:=(h i hi).1;omega,λi j hij hj=>(h j hj).2 i hij⟩
 .intro h i hi;exact⟨by have:=h.1 i hi;omega,λk hk=>h.2 k i hk hi⟩
theorem sR {g:Nat->Int}{len n:Nat}(h:len≠n):gK g len n=false:=by
 unfold gK;simp[h]
theorem nJ {g:Nat->Int}{n:Nat}(h:eG g n n):gK g n n=true:=(nI g n).mpr h
theorem yU {g:Nat->Int}{n k:Nat}(hk:k<n)(h:¬(0<=g k/\g k<n)):gK g n n=false:=by
 rw[Bool.eq_false_iff];intro hh;exact h (((nI g n).mp hh).1 k hk)
theorem uE {g:Nat->Int}{n i j:Nat}(hij:i<j)(hj:j<n)(h:g i=g j):gK g n n=false:=by
 rw[Bool.eq_false_iff];intro hh;exact((nI g n).mp hh).2 i j hij hj h
theorem surj:∀(n:Nat) (g:Nat->Nat),(∀i,i<n->g i<n)->(∀i j,i<j->j<n->g i≠g j)->∀p,p<n->∃i,i<n/\g i=p
 |0,_,_,_,p,hp=>absurd hp (Gr _)
 |n+1,g,hr,hd,p,hp=>by
  have hq:=hr n (by omega);have key:=surj n (λi=>if g i=n then g n else g i)
   (λi hi=>by
    have h1:=hr i (by omega);have h2:=hd i n hi (by omega);split<;>omega)
   (λi j hij hj=>by
    have h1:=hd i j hij (by omega);have h2:=hd i n (by omega) (by omega);have h3:=hd j n hj (by omega);split<;>split<;>omega)
  by_cases e:p=n
  .subst e;by_cases hn:g p=p
   .exact⟨p,by omega,hn⟩
   .obtain⟨i,hi,he⟩:=key (g p) (by omega);split at he
    .exact⟨i,by omega,by assumption⟩
    .exact absurd he (hd i p hi (by omega))
  .obtain⟨i,hi,he⟩:=key p (by omega);split at he
   .exact⟨n,by omega,he⟩
   .exact⟨i,by omega,he⟩
theorem eG.surj {g:Nat->Int}{n:Nat}(h:eG g n n)(p:Nat)(hp:p<n):∃i,i<n/\g i=p:=by
 obtain⟨i,hi,he⟩:=YtlmcblcijndipabGreatDoor.surj n (λi=>(g i).toNat) (λi hi=>by have:=h.1 i hi;omega)
  (λi j hij hj e=>h.2 i j hij hj (by have:=h.1 i (by omega);have:=h.1 j hj;omega)) p hp
 exact⟨i,hi,by have:=h.1 i hi;omega⟩
structure bO (a b:Nat->Int)(n:Nat)(r:Int):Prop where
 low:0<=r
 high:r<=n
 most:∀i k:Nat,i<n->k<n->a i=b k->(i:Int)-k<=r/\(k:Int)-i<=r
 some:r=0\/∃i k:Nat,i<n/\k<n/\a i=b k/\(r=(i:Int)-k\/r=(k:Int)-i)
theorem bO.unique {a b:Nat->Int}{n:Nat}{r s:Int}(h:bO a b n r)(h':bO a b n s):r=s:=by
 have h1:r<=s:=by
  rcases h.some with e|⟨i,k,hi,hk,he,e⟩
  .have:=h'.low;omega
  .have:=h'.most i k hi hk he;omega
 have h2:s<=r:=by
  rcases h'.some with e|⟨i,k,hi,hk,he,e⟩
  .have:=h.low;omega
  .have:=h.most i k hi hk he;omega
 omega
structure kO (a b:Nat->Int)(n:Nat)(P:Nat->Nat->Prop)(r:Int):Prop where
 low:0<=r
 high:r<=n
 most:∀i k:Nat,i<n->k<n->a i=b k->P i k->(i:Int)-k<=r/\(k:Int)-i<=r
 some:r=0\/∃i k:Nat,i<n/\k<n/\a i=b k/\(r=(i:Int)-k\/r=(k:Int)-i)
theorem kO.all {a b:Nat->Int}{n:Nat}{P:Nat->Nat->Prop}{r:Int}(h:kO a b n P r)(hP:∀i k:Nat,i<n->k<n->a i=b k->P i k):bO a b n r:=
 ⟨h.low,h.high,λi k hi hk he=>h.most i k hi hk he (hP i k hi hk he),h.some⟩
theorem kO.none {a b:Nat->Int}{n:Nat}{P:Nat->Nat->Prop}(hP:∀i k,¬P i k):kO a b n P 0:=
 ⟨Int.le_refl _,by omega,λi k _ _ _ h=>absurd h (hP i k),.inl rfl⟩
theorem kO.mono {a b:Nat->Int}{n:Nat}{P Q:Nat->Nat->Prop}{r:Int}(h:kO a b n P r)(hP:∀i k:Nat,i<n->k<n->a i=b k->Q i k->P i k):kO a b n Q r:=
 ⟨h.low,h.high,λi k hi hk he hq=>h.most i k hi hk he (hP i k hi hk he hq),h.some⟩
theorem kO.more {a b:Nat->Int}{n:Nat}{P Q:Nat->Nat->Prop}{r r':Int}(h:kO a b n P r){i k:Nat}(hi:i<n)(hk:k<n)(he:a i=b k)
  (hQ:∀x y:Nat,x<n->y<n->a x=b y->Q x y->P x y\/x=i/\y=k)(h1:r<=r')(h2:(i:Int)-k<=r')(h3:(k:Int)-i<=r')(h4:r'=r\/r'=(i:Int)-k\/r'=(k:Int)-i):kO a b n Q r':=by
 have l:=h.low;have u:=h.high;refine⟨by omega,by omega,λx y hx hy hxy hq=>?_,?_⟩
 .rcases hQ x y hx hy hxy hq with hp|⟨rfl,rfl⟩
  .have:=h.most x y hx hy hxy hp;omega
  .exact⟨h2,h3⟩
 .rcases h4 with e|e|e
  .rw[e];exact h.some
  .exact .inr ⟨i,k,hi,hk,he,.inl e⟩
  .exact .inr ⟨i,k,hi,hk,he,.inr e⟩
def bE (a:Nat->Int)(n:Nat)(b:Nat->Int)(m:Nat)(r:Int):Prop:=if n=m/\gK a n n=true/\gK b n n=true then bO a b n r else r=-1
def jD (g:Nat->Int):Nat->Nat->Int
 |0,_=>0
 |k+1,p=>if g k=p then k else jD g k p
theorem kh {g:Nat->Int}{n:Nat}(h:eG g n n){j p:Nat}(hj:g j=p):∀k,k<=n->j<k->jD g k p=j
 |0,_,h0=>absurd h0 (Gr _)
 |k+1,hk,hjk=>by
  simp only[jD];by_cases e:j=k
  .subst e;rw[if_pos hj]
  .rw[if_neg (λe'=>h.2 j k (by omega) (by omega) (by rw[hj,e']))];exact kh h hj k (by omega) (by omega)
def EA (g:Nat->Int)(k:Nat)(p:Nat):Bool:=(List.range k).any λj=>g j==(p:Int)
end
section
open Go.RowKit
def pl (l:List Nat)(i:Nat):Nat:=l.getD i 0
def lI (x:Nat)(p:Nat):Nat:=if x<=p then p+1 else p
def az:Nat->List (List Nat)
 |0=>[[]]
 |n+1=>(List.range (n+1)).flatMap λx=>(az n).map λl=>x::l.map (lI x)
theorem AS (x:Nat)(l:List Nat):pl (x::l) 0=x:=rfl
theorem nl (x:Nat)(l:List Nat)(i:Nat):pl (x::l) (i+1)=pl l i:=rfl
theorem wh (x:Nat)(l:List Nat)(i:Nat)(h:i<l.length):pl (l.map (lI x)) i=lI x (pl l i):=by
 simp[pl,List.getD,h]
theorem sS {n:Nat}{l:List Nat}:l∈az (n+1)<->∃x,x<n+1/\∃l',l'∈az n/\l=x::l'.map (lI x):=by
 simp only[az,List.mem_flatMap,List.mem_range,List.mem_map];constructor
 .rintro⟨x,hx,l',h',rfl⟩;exact⟨x,hx,l',h',rfl⟩
 .rintro⟨x,hx,l',h',rfl⟩;exact⟨x,hx,l',h',rfl⟩
theorem dV:∀{n:Nat} {l:List Nat},l∈az n->l.length=n/\(∀i,i<n->pl l i<n)/\∀i j,i<j->j<n->pl l i≠pl l j
 |0,l,h=>by
  simp[az]at h;subst h;exact⟨rfl,λi h=>absurd h (Gr _),λi j _ h=>absurd h (Gr _)⟩
 |n+1,l,h=>by
  obtain⟨x,hx,l',hl,rfl⟩:=sS.1 h;obtain⟨h1,h2,h3⟩:=dV hl;refine⟨by simp[h1],λi hi=>?_,λi j hij hj=>?_⟩
  .cases i with
   |zero=>exact hx
   |succ i=>
    rw[nl,wh _ _ _ (by omega)];have:=h2 i (by omega);unfold lI;split<;>omega
  .obtain⟨j,rfl⟩:∃j',j=j'+1:=⟨j-1,by omega⟩;rw[nl,wh _ _ _ (by omega)];cases i with
   |zero=>rw[AS];unfold lI;split<;>omega
   |succ i=>
    rw[nl,wh _ _ _ (by omega)];have:=h3 i j (by omega) (by omega);unfold lI;split<;>split<;>omega
theorem sU:∀{n:Nat} {g:Nat->Nat},(∀i,i<n->g i<n)->(∀i j,i<j->j<n->g i≠g j)->∃l,l∈az n/\∀i,i<n->pl l i=g i
 |0,g,_,_=>⟨[],by simp[az],λi h=>absurd h (Gr _)⟩
 |n+1,g,h1,h2=>by
  obtain⟨l,hl,hg⟩:=sU (n:=n) (g:=λi=>if g 0<g (i+1)then g (i+1)-1 else g (i+1)) (λi hi=>by
   have a:=h1 0 (by omega);have b:=h1 (i+1) (by omega);have c:=h2 0 (i+1) (by omega) (by omega);split<;>omega) (λi j hij hj=>by
   have a:=h2 0 (i+1) (by omega) (by omega);have b:=h2 0 (j+1) (by omega) (by omega);have c:=h2 (i+1) (j+1) (by omega) (by omega);split<;>split<;>omega)
  refine⟨g 0::l.map (lI (g 0)),sS.2 ⟨_,h1 0 (by omega),l,hl,rfl⟩,λi hi=>?_⟩;cases i with
  |zero=>rfl
  |succ i=>
   rw[nl,wh _ _ _ (by rw[(dV hl).1];omega),hg i (by omega)];have a:=h2 0 (i+1) (by omega) (by omega);unfold lI;split<;>split<;>omega
def dW (g:Nat->Nat):Nat->Option Nat
 |0=>none
 |m+1=>if g (m+1)<g m then dW g m else some m
def fM (g:Nat->Nat)(x:Nat):Nat->Nat
 |0=>0
 |m+1=>if g (m+1)<x then fM g x m else m+1
def wi (g:Nat->Nat)(i j:Nat)(k:Nat):Nat:=if k=j then g i else if k=i then g j else g k
def wj (n:Nat)(g:Nat->Nat)(i:Nat)(k:Nat):Nat:=if k<=i then g k else g (n+i-k)
def gL (n:Nat)(g:Nat->Nat):Option (Nat->Nat):=
 match dW g (n-1)with
 |none=>none
 |some i=>some (wj n (wi g i (fM g (g i) (n-1))) i)
def CV (n:Nat)(g h:Nat->Nat):Bool:=(List.range n).all λi=>Nat.beq (g i) (h i)
theorem fN {n:Nat}{g h:Nat->Nat}:CV n g h=true<->∀i,i<n->g i=h i:=by
 simp[CV]
def dX (n:Nat):List (List Nat)->Bool
 |[]=>true
 |l::r=>(match gL n (pl l),r.head? with
  |none,none=>true
  |some g,some l'=>CV n g (pl l')
  |_,_=>false)&&dX n r
theorem CW:dX 0 (az 0)=true:=by kernel_rfl
theorem CX:dX 1 (az 1)=true:=by kernel_rfl
theorem CY:dX 2 (az 2)=true:=by kernel_rfl
theorem CZ:dX 3 (az 3)=true:=by kernel_rfl
theorem C0:dX 4 (az 4)=true:=by kernel_rfl
theorem C1:dX 5 (az 5)=true:=by kernel_rfl
theorem C2:dX 6 (az 6)=true:=by kernel_rfl
theorem yV {n:Nat}(h:n<=6):dX n (az n)=true:=by
 obtain rfl|rfl|rfl|rfl|rfl|rfl|rfl:n=0\/n=1\/n=2\/n=3\/n=4\/n=5\/n=6:=by omega
 .exact CW
 .exact CX
 .exact CY
 .exact CZ
 .exact C0
 .exact C1
 .exact C2
theorem nK {n:Nat}:∀{L:List (List Nat)},dX n L=true->∀{k:Nat} {l:List Nat},L[k]?=some l->(∀l',L[k+1]?=some l'->∃g,gL n (pl l)=some g/\∀i,i<n->g i=pl l' i)/\(L.length<=k+1->gL n (pl l)=none)
 |[],_,k,l,h=>by simp at h
 |a::r,hc,k,l,h=>by
  rw[dX,GQ]at hc;cases k with
  |succ k=>
   have:=nK hc.2 (k:=k) (l:=l) (by simpa using h);exact⟨λl' h'=>this.1 l' (by simpa using h'),λh'=>this.2 (by simpa using h')⟩
  |zero=>
   simp at h;subst h;have h1:=hc.1;cases r with
   |nil=>
    refine⟨λl' h'=>by simp at h',λ_=>?_⟩;cases hn:gL n (pl a)with
    |none=>rfl
    |some g=>rw[hn]at h1;simp at h1
   |cons b r=>
    refine⟨λl' h'=>?_,λh'=>by simp at h'⟩;simp at h';subst h';cases hn:gL n (pl a)with
    |none=>rw[hn]at h1;simp at h1
    |some g=>rw[hn]at h1;exact⟨g,rfl,fN.1 h1⟩
theorem uF:∀n,n<=6->∃l,(az n)[0]?=some l/\∀i,i<n->pl l i=i:=by
 intro n h;obtain rfl|rfl|rfl|rfl|rfl|rfl|rfl:n=0\/n=1\/n=2\/n=3\/n=4\/n=5\/n=6:=by omega
 .exact⟨[],by kernel_rfl,λi h=>absurd h (Gr _)⟩
 .exact⟨[0],by kernel_rfl,fN.1 (by kernel_rfl)⟩
 .exact⟨[0,1],by kernel_rfl,fN.1 (by kernel_rfl)⟩
 .exact⟨[0,1,2],by kernel_rfl,fN.1 (by kernel_rfl)⟩
 .exact⟨[0,1,2,3],by kernel_rfl,fN.1 (by kernel_rfl)⟩
 .exact⟨[0,1,2,3,4],by kernel_rfl,fN.1 (by kernel_rfl)⟩
 .exact⟨[0,1,2,3,4,5],by kernel_rfl,fN.1 (by kernel_rfl)⟩
theorem fd:∀n,n<=6->(az n).length<=720/\0<(az n).length:=by
 intro n h;obtain rfl|rfl|rfl|rfl|rfl|rfl|rfl:n=0\/n=1\/n=2\/n=3\/n=4\/n=5\/n=6:=by omega
 .have e:(az 0).length=1:=by kernel_rfl
  omega
 .have e:(az 1).length=1:=by kernel_rfl
  omega
 .have e:(az 2).length=2:=by kernel_rfl
  omega
 .have e:(az 3).length=6:=by kernel_rfl
  omega
 .have e:(az 4).length=24:=by kernel_rfl
  omega
 .have e:(az 5).length=120:=by kernel_rfl
  omega
 .have e:(az 6).length=720:=by kernel_rfl
  omega
end
