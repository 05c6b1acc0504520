import Derived.Test.YtlmcblcijndipaaGreatM16
import Derived.Test.YtlmcblcijndipaaGreatM17
set_option linter.unusedVariables false
namespace Go.Proofs.YtlmcblcijndipaaGreat
open Go.RowKit
def pl (l:List Nat)(i:Nat):Nat:=l.getD i 0
def lD (x:Nat)(p:Nat):Nat:=if x<=p then p+1 else p
def aA:Nat->List (List Nat)
 |0=>[[]]
 |n+1=>(List.range (n+1)).flatMap λx=>(aA n).map λl=>x::l.map (lD x)
theorem yD (x:Nat)(l:List Nat):pl (x::l) 0=x:=rfl
theorem mG (x:Nat)(l:List Nat)(i:Nat):pl (x::l) (i+1)=pl l i:=rfl
theorem us (x:Nat)(l:List Nat)(i:Nat)(h:i<l.length):pl (l.map (lD x)) i=lD x (pl l i):=by
 simp[pl,List.getD,h]
theorem rL {n:Nat}{l:List Nat}:l∈aA (n+1)<->∃x,x<n+1/\∃l',l'∈aA n/\l=x::l'.map (lD x):=by
 simp only[aA,List.mem_flatMap,List.mem_range,List.mem_map];constructor
 .rintro⟨x,hx,l',h',rfl⟩;exact⟨x,hx,l',h',rfl⟩
 .rintro⟨x,hx,l',h',rfl⟩;exact⟨x,hx,l',h',rfl⟩
theorem dY:∀{n:Nat} {l:List Nat},l∈aA n->l.length=n/\(∀i,i<n->pl l i<n)/\∀i j,i<j->j<n->pl l i≠pl l j
 |0,l,h=>by
  simp[aA]at h;subst h;exact⟨rfl,λi h=>absurd h (Nat.not_lt_zero _),λi j _ h=>absurd h (Nat.not_lt_zero _)⟩
 |n+1,l,h=>by
  obtain⟨x,hx,l',hl,rfl⟩:=rL.1 h;obtain⟨h1,h2,h3⟩:=dY hl;refine⟨by simp[h1],λi hi=>?_,λi j hij hj=>?_⟩
  .cases i with
   |zero=>exact hx
   |succ i=>
    rw[mG,us _ _ _ (by omega)];have:=h2 i (by omega);unfold lD;split<;>omega
  .obtain⟨j,rfl⟩:∃j',j=j'+1:=⟨j-1,by omega⟩;rw[mG,us _ _ _ (by omega)];cases i with
   |zero=>rw[yD];unfold lD;split<;>omega
   |succ i=>
    rw[mG,us _ _ _ (by omega)];have:=h3 i j (by omega) (by omega);unfold lD;split<;>split<;>omega
theorem rM:∀{n:Nat} {g:Nat->Nat},(∀i,i<n->g i<n)->(∀i j,i<j->j<n->g i≠g j)->∃l,l∈aA n/\∀i,i<n->pl l i=g i
 |0,g,_,_=>⟨[],by simp[aA],λi h=>absurd h (Nat.not_lt_zero _)⟩
 |n+1,g,h1,h2=>by
  obtain⟨l,hl,hg⟩:=rM (n:=n) (g:=λi=>if g 0<g (i+1)then g (i+1)-1 else g (i+1)) (λi hi=>by
   have a:=h1 0 (by omega);have b:=h1 (i+1) (by omega);have c:=h2 0 (i+1) (by omega) (by omega);split<;>omega) (λi j hij hj=>by
   have a:=h2 0 (i+1) (by omega) (by omega);have b:=h2 0 (j+1) (by omega) (by omega);have c:=h2 (i+1) (j+1) (by omega) (by omega);split<;>split<;>omega)
  refine⟨g 0::l.map (lD (g 0)),rL.2 ⟨_,h1 0 (by omega),l,hl,rfl⟩,λi hi=>?_⟩;cases i with
  |zero=>rfl
  |succ i=>
   rw[mG,us _ _ _ (by rw[(dY hl).1];omega),hg i (by omega)];have a:=h2 0 (i+1) (by omega) (by omega);unfold lD;split<;>split<;>omega
def dZ (g:Nat->Nat):Nat->Option Nat
 |0=>none
 |m+1=>if g (m+1)<g m then dZ g m else some m
def fM (g:Nat->Nat)(x:Nat):Nat->Nat
 |0=>0
 |m+1=>if g (m+1)<x then fM g x m else m+1
def ut (g:Nat->Nat)(i j:Nat)(k:Nat):Nat:=if k=j then g i else if k=i then g j else g k
def uu (n:Nat)(g:Nat->Nat)(i:Nat)(k:Nat):Nat:=if k<=i then g k else g (n+i-k)
def gG (n:Nat)(g:Nat->Nat):Option (Nat->Nat):=
 match dZ g (n-1)with
 |none=>none
 |some i=>some (uu n (ut g i (fM g (g i) (n-1))) i)
def zW (n:Nat)(g h:Nat->Nat):Bool:=(List.range n).all λi=>Nat.beq (g i) (h i)
theorem fN {n:Nat}{g h:Nat->Nat}:zW n g h=true<->∀i,i<n->g i=h i:=by
 simp[zW]
def d9 (n:Nat):List (List Nat)->Bool
 |[]=>true
 |l::r=>(match gG n (pl l),r.head? with
  |none,none=>true
  |some g,some l'=>zW n g (pl l')
  |_,_=>false)&&d9 n r
theorem zX:d9 0 (aA 0)=true:=by kernel_rfl
theorem zY:d9 1 (aA 1)=true:=by kernel_rfl
theorem zZ:d9 2 (aA 2)=true:=by kernel_rfl
theorem Aa:d9 3 (aA 3)=true:=by kernel_rfl
theorem Ab:d9 4 (aA 4)=true:=by kernel_rfl
theorem Ac:d9 5 (aA 5)=true:=by kernel_rfl
theorem Ae:d9 6 (aA 6)=true:=by kernel_rfl
theorem wS {n:Nat}(h:n<=6):d9 n (aA n)=true:=by
 obtain rfl|rfl|rfl|rfl|rfl|rfl|rfl:n=0\/n=1\/n=2\/n=3\/n=4\/n=5\/n=6:=by omega
 .exact zX
 .exact zY
 .exact zZ
 .exact Aa
 .exact Ab
 .exact Ac
 .exact Ae
theorem nK {n:Nat}:∀{L:List (List Nat)},d9 n L=true->∀{k:Nat} {l:List Nat},L[k]?=some l->(∀l',L[k+1]?=some l'->∃g,gG n (pl l)=some g/\∀i,i<n->g i=pl l' i)/\(L.length<=k+1->gG n (pl l)=none)
 |[],_,k,l,h=>by simp at h
 |a::r,hc,k,l,h=>by
  rw[d9,Bool.and_eq_true]at hc;cases k with
  |succ k=>
   have:=nK hc.2 (k:=k) (l:=l) (by simpa using h);exact⟨λl' h'=>this.1 l' (by simpa using h'),λh'=>this.2 (by simpa using h')⟩
  |zero=>
   simp at h;subst h;have h1:=hc.1;cases r with
   |nil=>
    refine⟨λl' h'=>by simp at h',λ_=>?_⟩;cases hn:gG n (pl a)with
    |none=>rfl
    |some g=>rw[hn]at h1;simp at h1
   |cons b r=>
    refine⟨λl' h'=>?_,λh'=>by simp at h'⟩;simp at h';subst h';cases hn:gG n (pl a)with
    |none=>rw[hn]at h1;simp at h1
    |some g=>rw[hn]at h1;exact⟨g,rfl,fN.1 h1⟩
theorem tv:∀n,n<=6->∃l,(aA n)[0]?=some l/\∀i,i<n->pl l i=i:=by
 intro n h;obtain rfl|rfl|rfl|rfl|rfl|rfl|rfl:n=0\/n=1\/n=2\/n=3\/n=4\/n=5\/n=6:=by omega
 .exact⟨[],by kernel_rfl,λi h=>absurd h (Nat.not_lt_zero _)⟩
 .exact⟨[0],by kernel_rfl,fN.1 (by kernel_rfl)⟩
 .exact⟨[0,1],by kernel_rfl,fN.1 (by kernel_rfl)⟩
 .exact⟨[0,1,2],by kernel_rfl,fN.1 (by kernel_rfl)⟩
 .exact⟨[0,1,2,3],by kernel_rfl,fN.1 (by kernel_rfl)⟩
 .exact⟨[0,1,2,3,4],by kernel_rfl,fN.1 (by kernel_rfl)⟩
 .exact⟨[0,1,2,3,4,5],by kernel_rfl,fN.1 (by kernel_rfl)⟩
theorem fd:∀n,n<=6->(aA n).length<=720/\0<(aA n).length:=by
 intro n h;obtain rfl|rfl|rfl|rfl|rfl|rfl|rfl:n=0\/n=1\/n=2\/n=3\/n=4\/n=5\/n=6:=by omega
 .have e:(aA 0).length=1:=by kernel_rfl
  omega
 .have e:(aA 1).length=1:=by kernel_rfl
  omega
 .have e:(aA 2).length=2:=by kernel_rfl
  omega
 .have e:(aA 3).length=6:=by kernel_rfl
  omega
 .have e:(aA 4).length=24:=by kernel_rfl
  omega
 .have e:(aA 5).length=120:=by kernel_rfl
  omega
 .have e:(aA 6).length=720:=by kernel_rfl
  omega
end Go.Proofs.YtlmcblcijndipaaGreat
namespace Go.Proofs.YtlmcblcijndipaaGreat
open Go Go.RowKit
def dw:List Int->List Int->Bool
 |a::l,b::r=>if a=b then dw l r else decide (a<b)
 |_,_=>false
theorem mf:∀l,dw l l=false
 |[]=>rfl
 |a::l=>by simp[dw,mf l]
theorem jT:∀{a b c:List Int},dw a b=true->dw b c=true->dw a c=true
 |[],_,_,h,_=>by simp[dw]at h
 |_::_,[],_,h,_=>by simp[dw]at h
 |_::_,_::_,[],_,h=>by simp[dw]at h
 |x::a,y::b,z::c,h,h'=>by
  simp only[dw]at h h'⊢;split at h<;>split at h'<;>split
  .exact jT h h'
  .omega
  .omega
  .exact h'.trans (by simp;omega)|>λ_=>by simp at h'⊢;omega
  .simp at h h';omega
  .simp at h⊢;omega
  .simp at h h';omega
  .simp at h h'⊢;omega
theorem nL:∀{a b:List Int},a.length=b.length->dw a b=false->dw b a=false->a=b
 |[],[],_,_,_=>rfl
 |[],_::_,h,_,_=>by simp at h
 |_::_,[],h,_,_=>by simp at h
 |x::a,y::b,hl,h,h'=>by
  simp only[dw]at h h';split at h
  .rename_i e;subst e;rw[if_pos rfl]at h';rw[nL (by simpa using hl) h h']
  .rename_i e;rw[if_neg (λe'=>e e'.symm)]at h';simp at h h';omega
def bv:Option (List Int)->Option (List Int)->Bool
 |some a,some b=>dw a b
 |some _,none=>true
 |none,_=>false
theorem cp (a:Option (List Int)):bv a a=false:=by cases a<;>simp[bv,mf]
theorem iV {a b c:Option (List Int)}(h:bv a b=true)(h':bv b c=true):bv a c=true:=by
 cases a<;>cases b<;>cases c<;>simp_all [bv]
 exact jT h h'
theorem vf {m:Nat}{a b c:Option (List Int)}(hb:∀l,b=some l->l.length=m)(hc:∀l,c=some l->l.length=m)(h:bv a b=false)(h':bv c b=true)(ha:∀l,a=some l->l.length=m):bv a c=false:=by
 cases ht:bv a c with
 |false=>rfl
 |true=>rw[iV ht h']at h;cases h
theorem ij {m:Nat}{a b c:Option (List Int)}(ha:∀l,a=some l->l.length=m)(hb:∀l,b=some l->l.length=m)(hc:∀l,c=some l->l.length=m)(h:bv a b=false)(h':bv b c=false):bv a c=false:=by
 cases ht:bv a c with
 |false=>rfl
 |true=>
  cases a with
  |none=>simp[bv]at ht
  |some a=>
   cases b with
   |none=>simp[bv]at h
   |some b=>
    cases c with
    |none=>simp[bv]at h'
    |some c=>
     simp only[bv]at*;cases hcb:dw c b with
     |true=>rw[jT ht hcb]at h;cases h
     |false=>
      have:=nL ((hb _ rfl).trans (hc _ rfl).symm) h' hcb;subst this;rw[ht]at h;cases h
def dO (g:Nat->Int):Nat->Nat->List Int
 |0,_=>[]
 |f+1,k=>g k::dO g f (k+1)
theorem iX (g:Nat->Int):∀f k,(dO g f k).length=f
 |0,_=>rfl
 |f+1,k=>by simp[dO,iX g f]
theorem nM {g h:Nat->Int}:∀f k,(∀i,k<=i->i<k+f->g i=h i)->dO g f k=dO h f k
 |0,_,_=>rfl
 |f+1,k,e=>by rw[dO,dO,e k (by omega) (by omega),nM f (k+1) λi h1 h2=>e i (by omega) (by omega)]
theorem rO {g h:Nat->Int}:∀f k,dO g f k=dO h f k->∀i,k<=i->i<k+f->g i=h i
 |0,_,_,i,h1,h2=>by omega
 |f+1,k,e,i,h1,h2=>by
  rw[dO,dO,List.cons.injEq]at e;by_cases hi:i=k
  .subst hi;exact e.1
  .exact rO f (k+1) e.2 i (by omega) (by omega)
def dq (f:Nat->Mv)(n:Nat)(T:Nat->Int):List Int:=sumTo f T n::aX f T n::dO T n 0
def cr (f:Nat->Mv)(n:Nat)(b:Option (Nat->Int))(l:List Nat):Option (Nat->Int):=
 match bZ f (pl l) n with
 |none=>b
 |some T=>match b with
  |none=>some T
  |some S=>if dw (dq f n T) (dq f n S)=true then some T else some S
def df (f:Nat->Mv)(n:Nat)(L:List (List Nat)):Option (Nat->Int):=L.foldl (cr f n) none
theorem iY (f:Nat->Mv)(n:Nat)(T:Nat->Int):(dq f n T).length=n+2:=by simp[dq,iX]
theorem jo (f:Nat->Mv)(n:Nat)(o:Option (Nat->Int)):∀l,o.map (dq f n)=some l->l.length=n+2:=by
 intro l h;cases o with
 |none=>simp at h
 |some T=>simp at h;rw[<-h];exact iY f n T
theorem tw (f:Nat->Mv)(n:Nat)(b:Option (Nat->Int))(l:List Nat):
  (cr f n b l=b\/cr f n b l=bZ f (pl l) n)/\bv (b.map (dq f n)) ((cr f n b l).map (dq f n))=false/\bv ((bZ f (pl l) n).map (dq f n)) ((cr f n b l).map (dq f n))=false:=by
 unfold cr;cases h:bZ f (pl l) n with
 |none=>exact⟨.inl rfl,cp _,rfl⟩
 |some T=>
  cases b with
  |none=>exact⟨.inr rfl,rfl,cp _⟩
  |some S=>
   by_cases hp:dw (dq f n T) (dq f n S)=true
   .simp only[hp,if_true];refine⟨.inr (by trivial),?_,cp _⟩;cases hq:bv (some (dq f n S)) (some (dq f n T))with
    |false=>exact hq
    |true=>exact absurd (iV (a:=some (dq f n T)) (b:=some (dq f n S)) (c:=some (dq f n T)) hp hq) (by rw[cp];simp)
   .simp only[hp];exact⟨.inl rfl,cp _,by simpa[bv]using hp⟩
theorem rP (f:Nat->Mv)(n:Nat):∀(L:List (List Nat)) (b:Option (Nat->Int)),(L.foldl (cr f n) b=b\/∃l∈L,L.foldl (cr f n) b=bZ f (pl l) n)/\bv (b.map (dq f n)) ((L.foldl (cr f n) b).map (dq f n))=false/\∀l∈L,bv ((bZ f (pl l) n).map (dq f n)) ((L.foldl (cr f n) b).map (dq f n))=false
 |[],b=>⟨.inl rfl,cp _,λl hl=>by simp at hl⟩
 |l::L,b=>by
  obtain⟨h1,h2,h3⟩:=tw f n b l;obtain⟨k1,k2,k3⟩:=rP f n L (cr f n b l);rw[List.foldl_cons];refine⟨?_,ij (jo f n _) (jo f n _) (jo f n _) h2 k2,λx hx=>?_⟩
  .rcases k1 with e|⟨x,hx,e⟩
   .rw[e];exact h1.elim .inl λe=>.inr ⟨l,by simp,e⟩
   .exact .inr ⟨x,by simp[hx],e⟩
  .rcases List.mem_cons.1 hx with rfl|hx
   .exact ij (jo f n _) (jo f n _) (jo f n _) h3 k2
   .exact k3 x hx
end Go.Proofs.YtlmcblcijndipaaGreat
