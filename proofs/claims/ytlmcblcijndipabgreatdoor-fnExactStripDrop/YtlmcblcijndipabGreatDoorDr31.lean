import Derived.Test.YtlmcblcijndipabGreatDoorDr12
import Derived.Test.YtlmcblcijndipabGreatDoorDr28
import Derived.Test.YtlmcblcijndipabGreatDoorDr16
import Derived.Test.YtlmcblcijndipabGreatDoorDr17
set_option linter.unusedVariables false
set_option maxHeartbeats 2000000
set_option maxRecDepth 10000
namespace Go.Proofs.YtlmcblcijndipabGreatDoor
section
open Go.RowKit
def pl (l:List Nat)(i:Nat):Nat:=l.getD i 0
def lC (x:Nat)(p:Nat):Nat:=if x<=p then p+1 else p
def ay:Nat->List (List Nat)
 |0=>[[]]
 |n+1=>(List.range (n+1)).flatMap λx=>(ay n).map λl=>x::l.map (lC x)
theorem Af (x:Nat)(l:List Nat):pl (x::l) 0=x:=rfl
theorem mK (x:Nat)(l:List Nat)(i:Nat):pl (x::l) (i+1)=pl l i:=rfl
theorem vh (x:Nat)(l:List Nat)(i:Nat)(h:i<l.length):pl (l.map (lC x)) i=lC x (pl l i):=by
 simp[pl,List.getD,h]
theorem sI {n:Nat}{l:List Nat}:l∈ay (n+1)<->∃x,x<n+1/\∃l',l'∈ay n/\l=x::l'.map (lC x):=by
 simp only[ay,List.mem_flatMap,List.mem_range,List.mem_map];constructor
 .rintro⟨x,hx,l',h',rfl⟩;exact⟨x,hx,l',h',rfl⟩
 .rintro⟨x,hx,l',h',rfl⟩;exact⟨x,hx,l',h',rfl⟩
theorem dP:∀{n:Nat} {l:List Nat},l∈ay n->l.length=n/\(∀i,i<n->pl l i<n)/\∀i j,i<j->j<n->pl l i≠pl l j
 |0,l,h=>by
  simp[ay]at h;subst h;exact⟨rfl,λi h=>absurd h (Nat.not_lt_zero _),λi j _ h=>absurd h (Nat.not_lt_zero _)⟩
 |n+1,l,h=>by
  obtain⟨x,hx,l',hl,rfl⟩:=sI.1 h;obtain⟨h1,h2,h3⟩:=dP hl;refine⟨by simp[h1],λi hi=>?_,λi j hij hj=>?_⟩
  .cases i with
   |zero=>exact hx
   |succ i=>
    rw[mK,vh _ _ _ (by omega)];have:=h2 i (by omega);unfold lC;split<;>omega
  .obtain⟨j,rfl⟩:∃j',j=j'+1:=⟨j-1,by omega⟩;rw[mK,vh _ _ _ (by omega)];cases i with
   |zero=>rw[Af];unfold lC;split<;>omega
   |succ i=>
    rw[mK,vh _ _ _ (by omega)];have:=h3 i j (by omega) (by omega);unfold lC;split<;>split<;>omega
theorem sJ:∀{n:Nat} {g:Nat->Nat},(∀i,i<n->g i<n)->(∀i j,i<j->j<n->g i≠g j)->∃l,l∈ay n/\∀i,i<n->pl l i=g i
 |0,g,_,_=>⟨[],by simp[ay],λi h=>absurd h (Nat.not_lt_zero _)⟩
 |n+1,g,h1,h2=>by
  obtain⟨l,hl,hg⟩:=sJ (n:=n) (g:=λi=>if g 0<g (i+1)then g (i+1)-1 else g (i+1)) (λi hi=>by
   have a:=h1 0 (by omega);have b:=h1 (i+1) (by omega);have c:=h2 0 (i+1) (by omega) (by omega);split<;>omega) (λi j hij hj=>by
   have a:=h2 0 (i+1) (by omega) (by omega);have b:=h2 0 (j+1) (by omega) (by omega);have c:=h2 (i+1) (j+1) (by omega) (by omega);split<;>split<;>omega)
  refine⟨g 0::l.map (lC (g 0)),sI.2 ⟨_,h1 0 (by omega),l,hl,rfl⟩,λi hi=>?_⟩;cases i with
  |zero=>rfl
  |succ i=>
   rw[mK,vh _ _ _ (by rw[(dP hl).1];omega),hg i (by omega)];have a:=h2 0 (i+1) (by omega) (by omega);unfold lC;split<;>split<;>omega
def dQ (g:Nat->Nat):Nat->Option Nat
 |0=>none
 |m+1=>if g (m+1)<g m then dQ g m else some m
def fF (g:Nat->Nat)(x:Nat):Nat->Nat
 |0=>0
 |m+1=>if g (m+1)<x then fF g x m else m+1
def vj (g:Nat->Nat)(i j:Nat)(k:Nat):Nat:=if k=j then g i else if k=i then g j else g k
def vk (n:Nat)(g:Nat->Nat)(i:Nat)(k:Nat):Nat:=if k<=i then g k else g (n+i-k)
def gG (n:Nat)(g:Nat->Nat):Option (Nat->Nat):=
 match dQ g (n-1)with
 |none=>none
 |some i=>some (vk n (vj g i (fF g (g i) (n-1))) i)
def BD (n:Nat)(g h:Nat->Nat):Bool:=(List.range n).all λi=>Nat.beq (g i) (h i)
theorem fG {n:Nat}{g h:Nat->Nat}:BD n g h=true<->∀i,i<n->g i=h i:=by
 simp[BD]
def dR (n:Nat):List (List Nat)->Bool
 |[]=>true
 |l::r=>(match gG n (pl l),r.head? with
  |none,none=>true
  |some g,some l'=>BD n g (pl l')
  |_,_=>false)&&dR n r
theorem BE:dR 0 (ay 0)=true:=by kernel_rfl
theorem BF:dR 1 (ay 1)=true:=by kernel_rfl
theorem BG:dR 2 (ay 2)=true:=by kernel_rfl
theorem BH:dR 3 (ay 3)=true:=by kernel_rfl
theorem BI:dR 4 (ay 4)=true:=by kernel_rfl
theorem BJ:dR 5 (ay 5)=true:=by kernel_rfl
theorem BK:dR 6 (ay 6)=true:=by kernel_rfl
theorem yD {n:Nat}(h:n<=6):dR n (ay n)=true:=by
 obtain rfl|rfl|rfl|rfl|rfl|rfl|rfl:n=0\/n=1\/n=2\/n=3\/n=4\/n=5\/n=6:=by omega
 .exact BE
 .exact BF
 .exact BG
 .exact BH
 .exact BI
 .exact BJ
 .exact BK
theorem nP {n:Nat}:∀{L:List (List Nat)},dR n L=true->∀{k:Nat} {l:List Nat},L[k]?=some l->(∀l',L[k+1]?=some l'->∃g,gG n (pl l)=some g/\∀i,i<n->g i=pl l' i)/\(L.length<=k+1->gG n (pl l)=none)
 |[],_,k,l,h=>by simp at h
 |a::r,hc,k,l,h=>by
  rw[dR,Bool.and_eq_true]at hc;cases k with
  |succ k=>
   have:=nP hc.2 (k:=k) (l:=l) (by simpa using h);exact⟨λl' h'=>this.1 l' (by simpa using h'),λh'=>this.2 (by simpa using h')⟩
  |zero=>
   simp at h;subst h;have h1:=hc.1;cases r with
   |nil=>
    refine⟨λl' h'=>by simp at h',λ_=>?_⟩;cases hn:gG n (pl a)with
    |none=>rfl
    |some g=>rw[hn]at h1;simp at h1
   |cons b r=>
    refine⟨λl' h'=>?_,λh'=>by simp at h'⟩;simp at h';subst h';cases hn:gG n (pl a)with
    |none=>rw[hn]at h1;simp at h1
    |some g=>rw[hn]at h1;exact⟨g,rfl,fG.1 h1⟩
theorem uj:∀n,n<=6->∃l,(ay n)[0]?=some l/\∀i,i<n->pl l i=i:=by
 intro n h;obtain rfl|rfl|rfl|rfl|rfl|rfl|rfl:n=0\/n=1\/n=2\/n=3\/n=4\/n=5\/n=6:=by omega
 .exact⟨[],by kernel_rfl,λi h=>absurd h (Nat.not_lt_zero _)⟩
 .exact⟨[0],by kernel_rfl,fG.1 (by kernel_rfl)⟩
 .exact⟨[0,1],by kernel_rfl,fG.1 (by kernel_rfl)⟩
 .exact⟨[0,1,2],by kernel_rfl,fG.1 (by kernel_rfl)⟩
 .exact⟨[0,1,2,3],by kernel_rfl,fG.1 (by kernel_rfl)⟩
 .exact⟨[0,1,2,3,4],by kernel_rfl,fG.1 (by kernel_rfl)⟩
 .exact⟨[0,1,2,3,4,5],by kernel_rfl,fG.1 (by kernel_rfl)⟩
theorem eQ:∀n,n<=6->(ay n).length<=720/\0<(ay n).length:=by
 intro n h;obtain rfl|rfl|rfl|rfl|rfl|rfl|rfl:n=0\/n=1\/n=2\/n=3\/n=4\/n=5\/n=6:=by omega
 .have e:(ay 0).length=1:=by kernel_rfl
  omega
 .have e:(ay 1).length=1:=by kernel_rfl
  omega
 .have e:(ay 2).length=2:=by kernel_rfl
  omega
 .have e:(ay 3).length=6:=by kernel_rfl
  omega
 .have e:(ay 4).length=24:=by kernel_rfl
  omega
 .have e:(ay 5).length=120:=by kernel_rfl
  omega
 .have e:(ay 6).length=720:=by kernel_rfl
  omega
end
section
open Go Go.RowKit
def dm:List Int->List Int->Bool
 |a::l,b::r=>if a=b then dm l r else decide (a<b)
 |_,_=>false
theorem mh:∀l,dm l l=false
 |[]=>rfl
 |a::l=>by simp[dm,mh l]
theorem j0:∀{a b c:List Int},dm a b=true->dm b c=true->dm a c=true
 |[],_,_,h,_=>by simp[dm]at h
 |_::_,[],_,h,_=>by simp[dm]at h
 |_::_,_::_,[],_,h=>by simp[dm]at h
 |x::a,y::b,z::c,h,h'=>by
  simp only[dm]at h h'⊢;split at h<;>split at h'<;>split
  .exact j0 h h'
  .omega
  .omega
  .exact h'.trans (by simp;omega)|>λ_=>by simp at h'⊢;omega
  .simp at h h';omega
  .simp at h⊢;omega
  .simp at h h';omega
  .simp at h h'⊢;omega
theorem nQ:∀{a b:List Int},a.length=b.length->dm a b=false->dm b a=false->a=b
 |[],[],_,_,_=>rfl
 |[],_::_,h,_,_=>by simp at h
 |_::_,[],h,_,_=>by simp at h
 |x::a,y::b,hl,h,h'=>by
  simp only[dm]at h h';split at h
  .rename_i e;subst e;rw[if_pos rfl]at h';rw[nQ (by simpa using hl) h h']
  .rename_i e;rw[if_neg (λe'=>e e'.symm)]at h';simp at h h';omega
def bp:Option (List Int)->Option (List Int)->Bool
 |some a,some b=>dm a b
 |some _,none=>true
 |none,_=>false
theorem cg (a:Option (List Int)):bp a a=false:=by cases a<;>simp[bp,mh]
theorem iV {a b c:Option (List Int)}(h:bp a b=true)(h':bp b c=true):bp a c=true:=by
 cases a<;>cases b<;>cases c<;>simp_all [bp]
 exact j0 h h'
theorem wz {m:Nat}{a b c:Option (List Int)}(hb:∀l,b=some l->l.length=m)(hc:∀l,c=some l->l.length=m)(h:bp a b=false)(h':bp c b=true)(ha:∀l,a=some l->l.length=m):bp a c=false:=by
 cases ht:bp a c with
 |false=>rfl
 |true=>rw[iV ht h']at h;cases h
theorem ij {m:Nat}{a b c:Option (List Int)}(ha:∀l,a=some l->l.length=m)(hb:∀l,b=some l->l.length=m)(hc:∀l,c=some l->l.length=m)(h:bp a b=false)(h':bp b c=false):bp a c=false:=by
 cases ht:bp a c with
 |false=>rfl
 |true=>
  cases a with
  |none=>simp[bp]at ht
  |some a=>
   cases b with
   |none=>simp[bp]at h
   |some b=>
    cases c with
    |none=>simp[bp]at h'
    |some c=>
     simp only[bp]at*;cases hcb:dm c b with
     |true=>rw[j0 ht hcb]at h;cases h
     |false=>
      have:=nQ ((hb _ rfl).trans (hc _ rfl).symm) h' hcb;subst this;rw[ht]at h;cases h
def eh (g:Nat->Int):Nat->Nat->List Int
 |0,_=>[]
 |f+1,k=>g k::eh g f (k+1)
theorem iX (g:Nat->Int):∀f k,(eh g f k).length=f
 |0,_=>rfl
 |f+1,k=>by simp[eh,iX g f]
theorem nR {g h:Nat->Int}:∀f k,(∀i,k<=i->i<k+f->g i=h i)->eh g f k=eh h f k
 |0,_,_=>rfl
 |f+1,k,e=>by rw[eh,eh,e k (by omega) (by omega),nR f (k+1) λi h1 h2=>e i (by omega) (by omega)]
theorem sK {g h:Nat->Int}:∀f k,eh g f k=eh h f k->∀i,k<=i->i<k+f->g i=h i
 |0,_,_,i,h1,h2=>by omega
 |f+1,k,e,i,h1,h2=>by
  rw[eh,eh,List.cons.injEq]at e;by_cases hi:i=k
  .subst hi;exact e.1
  .exact sK f (k+1) e.2 i (by omega) (by omega)
def de (f:Nat->Mv)(n:Nat)(T:Nat->Int):List Int:=sumTo f T n::aS f T n::eh T n 0
def cj (f:Nat->Mv)(n:Nat)(b:Option (Nat->Int))(l:List Nat):Option (Nat->Int):=
 match bL f (pl l) n with
 |none=>b
 |some T=>match b with
  |none=>some T
  |some S=>if dm (de f n T) (de f n S)=true then some T else some S
def cQ (f:Nat->Mv)(n:Nat)(L:List (List Nat)):Option (Nat->Int):=L.foldl (cj f n) none
theorem iY (f:Nat->Mv)(n:Nat)(T:Nat->Int):(de f n T).length=n+2:=by simp[de,iX]
theorem jt (f:Nat->Mv)(n:Nat)(o:Option (Nat->Int)):∀l,o.map (de f n)=some l->l.length=n+2:=by
 intro l h;cases o with
 |none=>simp at h
 |some T=>simp at h;rw[<-h];exact iY f n T
theorem uk (f:Nat->Mv)(n:Nat)(b:Option (Nat->Int))(l:List Nat):
  (cj f n b l=b\/cj f n b l=bL f (pl l) n)/\bp (b.map (de f n)) ((cj f n b l).map (de f n))=false/\bp ((bL f (pl l) n).map (de f n)) ((cj f n b l).map (de f n))=false:=by
 unfold cj;cases h:bL f (pl l) n with
 |none=>exact⟨.inl rfl,cg _,rfl⟩
 |some T=>
  cases b with
  |none=>exact⟨.inr rfl,rfl,cg _⟩
  |some S=>
   by_cases hp:dm (de f n T) (de f n S)=true
   .simp only[hp,if_true];refine⟨.inr (by trivial),?_,cg _⟩;cases hq:bp (some (de f n S)) (some (de f n T))with
    |false=>exact hq
    |true=>exact absurd (iV (a:=some (de f n T)) (b:=some (de f n S)) (c:=some (de f n T)) hp hq) (by rw[cg];simp)
   .simp only[hp];exact⟨.inl rfl,cg _,by simpa[bp]using hp⟩
theorem sL (f:Nat->Mv)(n:Nat):∀(L:List (List Nat)) (b:Option (Nat->Int)),(L.foldl (cj f n) b=b\/∃l∈L,L.foldl (cj f n) b=bL f (pl l) n)/\bp (b.map (de f n)) ((L.foldl (cj f n) b).map (de f n))=false/\∀l∈L,bp ((bL f (pl l) n).map (de f n)) ((L.foldl (cj f n) b).map (de f n))=false
 |[],b=>⟨.inl rfl,cg _,λl hl=>by simp at hl⟩
 |l::L,b=>by
  obtain⟨h1,h2,h3⟩:=uk f n b l;obtain⟨k1,k2,k3⟩:=sL f n L (cj f n b l);rw[List.foldl_cons];refine⟨?_,ij (jt f n _) (jt f n _) (jt f n _) h2 k2,λx hx=>?_⟩
  .rcases k1 with e|⟨x,hx,e⟩
   .rw[e];exact h1.elim .inl λe=>.inr ⟨l,by simp,e⟩
   .exact .inr ⟨x,by simp[hx],e⟩
  .rcases List.mem_cons.1 hx with rfl|hx
   .exact ij (jt f n _) (jt f n _) (jt f n _) h3 k2
   .exact k3 x hx
end
section
open Go.RowKit
theorem fH.drew {B:Nat}{a w:World}(h:fH B a w):fH B a w.drew:=⟨h.size,h.block⟩
theorem fH.drewN {B:Nat}{a w:World}(h:fH B a w)(q:Nat):fH B a (w.drewN q):=⟨h.size,h.block⟩
theorem aj.drewN {w:World}{b n:Nat}{g:Nat->Int}(h:aj w b n g)(q:Nat):aj (w.drewN q) b n g:=h
theorem ck {B:Nat}{a w:World}(h:Below B a w)(q:Nat):Below B a (w.drewN q):=⟨h.os,h.tape,h.output,h.size,h.block⟩
theorem aj.drew {w:World}{b n:Nat}{g:Nat->Int}(h:aj w b n g):aj w.drew b n g:=h
def vn (h:Nat->Int)(m k:Nat)(y:Nat):Int:=if y<k\/m<=y+k then h (m-1-y)else h y
def nU (g:Nat->Int)(off:Nat)(r:Nat->Int)(x:Nat):Int:=if x<off then g x else r (x-off)
theorem sN (b n off m cap:Nat)(g:Nat->Int)(w:World)(hn:n<=1048576)(hoff:off+m=n)(hown:aj w b n g):
  Calls Tryz0.prog 250 #[.slice (some ⟨b,off,none⟩) m cap] w λe w'=>(∃v,e=.returned v)/\aj w' b n (nU g off (λy=>g (off+(m-1-y))))/\fH b w w'/\Below b w w':=by
 have hbl:=hown.lt;go_enter Tryz0.func250,Tryz.ntmps250
 go_wp2;go_loopw [2,3] (λx y wr=>∃k:Nat,2*k<=m+1/\x=.int .i64 k/\y=.int .i64 ((m:Int)-1-k)/\aj wr b n (nU g off (vn (λy=>g (off+y)) m k))/\fH b w wr/\Below b w wr) (λx _ _=>m-(intOf x).toNat)
 case atStart=>exact⟨0,by omega,rfl,by simp,hown.congr (λi hi=>by unfold nU vn;split;rfl;rw[if_neg (by omega)];congr 1;omega),fH.refl _ _,Below.refl _ _⟩
 case round=>
  obtain⟨k,hk,rfl,rfl,hown1,hbut,hbel⟩:=hrel;by_cases hlt:2*k+1<m
  .obtain⟨q,hq⟩:∃q,m=q+k+1:=⟨m-1-k,by omega⟩;have e1:((m:Int)-1-k)=(q:Int):=by omega
   have hlt':(k:Int)<q:=by omega
   have hqm:(q:Int)<m:=by omega
   have hkm:(k:Int)<m:=by omega
   have c1:=hown1.cellAt (off+k) (by omega);have c2:=hown1.cellAt (off+q) (by omega);have hfz:=λj=>hown1.frozen j
   rw[e1];go_wp2;go_region
   all_goals
    go_wp2;go_roundw
    case rel=>
     refine⟨k+1,by omega,by go_num,by first|(congr 1;omega)|(go_num),?_,(hbut.setCell _ _).setCell _ _|>.drew,((hbel.setCell (Nat.le_refl _) _).setCell (Nat.le_refl _) _).drew⟩;refine aj.drew (((hown1.set (off+k) (by omega) _).set (off+q) (by omega) _).congr λi hi=>?_);unfold nU vn;by_cases h0:i<off
     .rw[if_neg (by omega),if_neg (by omega),if_pos h0,if_pos h0]
     .obtain⟨y,rfl⟩:∃y,i=off+y:=⟨i-off,by omega⟩;simp only[Nat.add_sub_cancel_left];by_cases h1:y=q
      .subst h1;rw[if_pos rfl,if_neg (by omega),if_neg (by omega),if_neg (by omega),if_pos (by omega)];congr 2;omega
      .by_cases h2:y=k
       .subst h2;rw[if_neg (by omega),if_pos rfl,if_neg (by omega),if_neg (by omega),if_neg (by omega),if_pos (by omega)];try(congr 2;omega)
       .rw[if_neg (by omega),if_neg (by omega),if_neg h0,if_neg h0];by_cases h3:y<k\/m<=y+k
        .rw[if_pos (by omega),if_pos (by omega)]
        .rw[if_neg (by omega),if_neg (by omega)]
    case measure=>simp[intOf];omega
  .go_wp2;go_end0
   refine⟨⟨_,rfl⟩,hown1.congr (λi hi=>?_),hbut,hbel⟩;unfold nU vn;by_cases h0:i<off
   .rw[if_pos h0,if_pos h0]
   .rw[if_neg h0,if_neg h0];by_cases h3:i-off<k\/m<=i-off+k
    .rw[if_pos h3]
    .rw[if_neg h3];congr 1;omega
theorem qO {g:Nat->Nat}{m:Nat}(h:g (m+1)<g m):dQ g (m+1)=dQ g m:=by simp[dQ,h]
theorem qP {g:Nat->Nat}{m:Nat}(h:¬g (m+1)<g m):dQ g (m+1)=some m:=by simp[dQ,h]
theorem sO {g:Nat->Nat}{x m:Nat}(h:g (m+1)<x):fF g x (m+1)=fF g x m:=by simp[fF,h]
theorem sP {g:Nat->Nat}{x m:Nat}(h:¬g (m+1)<x):fF g x (m+1)=m+1:=by simp[fF,h]
theorem Ai (g:Nat->Nat){n k q i:Nat}(hi:i<n)(hk:k+1<n)(hq:k<q):nU (λi=>if i=q then(g k:Int)else if i=k then(g q:Int)else(g i:Int)) (k+1) (λy=>(λi=>if i=q then(g k:Int)else if i=k then(g q:Int)else(g i:Int)) (k+1+(n-(k+1)-1-y))) i=((vk n (vj g k q) k i:Nat):Int):=by
 unfold nU vk vj;by_cases h0:i<=k
 .simp only[if_pos (show i<k+1 by omega),if_pos h0,if_neg (show¬i=q by omega)];split<;>rfl
 .have e1:k+1+(n-(k+1)-1-(i-(k+1)))=n+k-i:=by omega
  simp only[if_neg (show¬i<k+1 by omega),if_neg h0,e1];split
  .rfl
  .split<;>rfl
theorem yG (b n cap:Nat)(g:Nat->Nat)(w:World)(hn:n<=1048576)(hcap:n<=cap)(hown:aj w b n (λi=>(g i:Int))):
  Calls Tryz0.prog 237 #[.slice (some ⟨b,0,none⟩) n cap] w λe w'=>e=.returned (.bool (gG n g).isSome)/\(∀g',gG n g=some g'->aj w' b n (λi=>(g' i:Int)))/\fH b w w'/\Below b w w':=by
 have hbl:=hown.lt;go_enter Tryz0.func237,Tryz.ntmps237
 go_wp2;rcases Nat.eq_zero_or_pos n with hz|hpos
 .subst hz;go_loopw [3] (λx wr=>x=.int .i64 (-2)/\wr=w) (λx _=>0)
  case atStart=>exact⟨by go_num,rfl⟩
  case round=>
   obtain⟨rfl,rfl⟩:=hrel;go_wp2;go_quiet (fail)
   go_wp2;go_ret;exact⟨aE rfl,λg' h=>by simp[gG,dQ]at h,(fH.refl _ _).drewN _,ck (Below.refl _ _) _⟩
 have hpos':0<n:=hpos;go_loopw [3] (λx wr=>∃k:Nat,x=.int .i64 ((k:Int)-1)/\k+1<=n/\dQ g (n-1)=dQ g k/\aj wr b n (λi=>(g i:Int))/\fH b w wr/\Below b w wr) (λx _=>(intOf x+1).toNat)
 case atStart=>exact⟨n-1,by go_num,by omega,rfl,hown,fH.refl _ _,Below.refl _ _⟩
 case round=>
  obtain⟨k,rfl,hk,hla,hown1,hbut,hbel⟩:=hrel;cases k with
  |zero=>
   have hno:gG n g=none:=by unfold gG;rw[hla];rfl
   have HN:Hid (gG n g=none):=hno;clear hno;go_wp2;go_quiet (fail)
   go_wp2;go_ret;exact⟨aE (by rw[HN.out];rfl),λg' h=>absurd (HN.out.symm.trans h) (by simp),hbut.drewN _,ck hbel _⟩
  |succ k=>
   have e0:(((k+1:Nat):Int)-1)=(k:Int):=by omega
   have hkn:(k:Int)<n:=by omega
   have hkn1:(k:Int)+1<n:=by omega
   have c1:=hown1.cellAt k (by omega);have c2:=hown1.cellAt (k+1) (by omega);rw[e0];by_cases hd:g (k+1)<g k
   .have hd':(((g (k+1):Nat):Int)<((g k:Nat):Int)):=by omega
    go_wp2;go_quiet (fail)
    go_wp2;go_roundw
    case rel=>exact⟨k,by go_num,by omega,hla.trans (qO hd),hown1.drewN _,hbut.drewN _,ck hbel _⟩
    case measure=>simp[intOf]<;>omega
   .have hd':¬(((g (k+1):Nat):Int)<((g k:Nat):Int)):=by omega
    have hla2:dQ g (n-1)=some k:=hla.trans (qP hd);have HN:Hid (gG n g=some (vk n (vj g k (fF g (g k) (n-1))) k)):=by unfold gG;rw[hla2];exact rfl
    clear hla hla2;go_wp2;go_quiet (fail)
    go_wp2;go_loopw [4] (λx W=>∃q:Nat,x=.int .i64 q/\k+1<=q/\q+1<=n/\fF g (g k) (n-1)=fF g (g k) q/\aj W b n (λi=>(g i:Int))/\fH b w W/\Below b w W) (λx _=>(intOf x).toNat)
    case atStart=>exact⟨n-1,by go_num,by omega,by omega,rfl,hown1.drewN _,hbut.drewN _,ck hbel _⟩
    case round=>
     clear hown1 hbut hbel c1 c2;obtain⟨q,rfl,hkq,hqn,hge,hown1,hbut,hbel⟩:=hrel;have c1:=hown1.cellAt k (by omega);have c2:=hown1.cellAt q (by omega);have hqn':(q:Int)<n:=by omega
     by_cases hc:g q<g k
     .have hc':(((g q:Nat):Int)<((g k:Nat):Int)):=by omega
      have hne:q≠k+1:=λe=>by subst e;exact hd hc
      obtain⟨q,rfl⟩:∃p,q=p+1:=⟨q-1,by omega⟩;go_wp2;go_quiet (fail)
      go_wp2;go_roundw
      case rel=>exact⟨q,by go_num,by omega,by omega,hge.trans (sO hc),hown1.drewN _,hbut.drewN _,ck hbel _⟩
      case measure=>simp[intOf]
     .have hc':¬(((g q:Nat):Int)<((g k:Nat):Int)):=by omega
      have hge2:fF g (g k) (n-1)=q:=by
       obtain⟨p,rfl⟩:∃p,q=p+1:=⟨q-1,by omega⟩;exact hge.trans (sP hc)
      rw[hge2]at HN;have hfz:=λj=>hown1.frozen j
      have hkq':(k:Int)≠q:=by omega
      go_wp2;go_quiet (fail)
      go_wp2;go_region
      all_goals
       go_wp2_with(go_at_call 250;refine(sN b n (k+1) (n-(k+1)) _ _ _ hn (by omega) (((hown1.drewN _).set k (by omega) _).set q (by omega) _)).mono ?_;rintro e w1 ⟨⟨v1,rfl⟩,o1,t1,b1⟩)
       go_ret;refine⟨aE (by rw[HN.out];rfl),λg' h=>?_,(((hbut.drewN _).setCell _ _).setCell _ _).trans t1,(((ck hbel _).setCell (Nat.le_refl _) _).setCell (Nat.le_refl _) _).trans b1⟩;obtain rfl:=Option.some.inj (HN.out.symm.trans h);exact o1.congr λi hi=>Ai g hi (by omega) (by omega)
theorem fV {P:Program}{ops:Array Oper}{rest:List Oper}{o:Oper}{a:Act}{w:World}{Q:Exit->Act->World->Prop}(hgd:o.guard=none)(s x:Operand)(t:TypeId)
  (ho:o.op=.call {callee:=.builtin .append,args:=#[s,x],argTypes:=#[t,t]})(v vx:Value)(hs:a.eval s=v)(hx:a.eval x=vx){v':Value}{w':World}
  (hr:(Builtin.append_ #[t,t] o.type #[v,vx]).run P w=.ok v' w')(h:wpList P ops Q rest (a.put o.dst v') w'):wpList P ops Q (o::rest) a w:=by
 have hw:Region.wanted o (yielded ops a.tmps)=true:=by simp[Region.wanted,hgd]
 unfold wpList;rw[if_pos hw];refine .inl ?_;unfold Oper.wp execOp;simp only[ho,resolve,invoke,builtin,Sem.run_bind,Sem.run_pure,Result.andThen_ok,List.map_toArray,List.map_cons,List.map_nil,hs,hx,hr];exact h
def dT (w:World)(B:Nat):Prop:=∃cs,w.heap[B]?=some (.cells cs 3 (0,0))/\∀v∈cs,∃x:Int,v=.int .i64 x
theorem dT.below {B:Nat}{w w':World}{b:Nat}(h:dT w b)(hb:Below B w w')(hB:b<B):dT w' b:=by
 obtain⟨cs,h1,h2⟩:=h;exact⟨cs,(hb.block b hB).trans h1,h2⟩
theorem fW:Tryz0.prog.underlying 164=some (.slice 3):=by kernel_rfl
theorem qQ (b n cap:Nat)(g:Nat->Int)(w:World)(hn:n<=1048576)(hbs:b<w.heap.size)(hrow:ag w b 0 n g):
  ∃B c w',(Builtin.append_ #[164,164] 164 #[.slice (some ⟨w.heap.size,0,none⟩) 0 0,.slice (some ⟨b,0,none⟩) n cap]).run Tryz0.prog (w.alloc (.cells #[] 3))=.ok (.slice (some ⟨B,0,none⟩) n c) w'/\
   n<=c/\w.heap.size<=B/\B<w'.heap.size/\dT w' B/\ag w' B 0 n g/\Below w.heap.size w w':=by
 obtain⟨i0,hI,hz0,hz1,hz2⟩:∃i0,Tryz0.prog.info? 3=some i0/\i0.zero=some (.int .i64 0)/\i0.size=1/\i0.bytes=8:=by
  have h:=gw;cases hI:Tryz0.prog.info? 3 with
  |none=>rw[hI]at h;simp at h
  |some i0=>rw[hI]at h;simp only[Option.map_some,Option.some.injEq,Prod.mk.injEq]at h;exact⟨i0,rfl,h.2.2,h.1,h.2.1⟩
 have hB0:Below w.heap.size w (w.alloc (.cells #[] 3)):=(Below.refl _ _).alloc (Nat.le_refl _) _;have hrow1:=hrow.below hB0 hbs;have hE:(w.alloc (.cells #[] 3)).heap[w.heap.size]?=some (.cells #[] 3 (0,0)):=heap_alloc_new _ _;let news:List Value:=(List.range n).map λj=>.int .i64 (g j)
 have hnl:news.length=n*i0.size:=by simp[news,hz1]
 have hnews:∀j u,news[j]?=some u->(w.alloc (.cells #[] 3)).cell? ((⟨b,0,none⟩:Addr).add j)=some u:=λj u hu=>by
  have hj:j<n:=by rcases Nat.lt_or_ge j n with h|h;exact h;rw[List.getElem?_eq_none (by simp[news];exact h)]at hu;cases hu
  simp[news,hj]at hu;rw[<-hu];have:=hrow1 j hj;rw[show(⟨b,0,none⟩:Addr).add j=⟨b,0+j,none⟩ by unfold Addr.add;split<;>simp_all];exact this
 have hone:∀u∈news,u.oneCell'=true:=λu hu=>by simp[news]at hu;obtain⟨_,_,rfl⟩:=hu;rfl
 rcases Nat.eq_zero_or_pos n with hz|hpos
 .subst hz;have hr:=run_append_room (P:=Tryz0.prog) (w.alloc (.cells #[] 3)) 164 164 3 i0 fW hI w.heap.size 0 0 #[] hE ⟨b,0,none⟩ 0 cap news hnl hnews hone (by omega) (by simp[news]);refine⟨_,_,_,hr,Nat.le_refl _,Nat.le_refl _,?_,⟨_,setRow_heap _ _ _ _ _ _ hE,?_⟩,λi hi=>absurd hi (Nat.not_lt_zero _),?_⟩
  .simp
  .simp[news]
  .exact⟨rfl,rfl,rfl,by simp,λk hk=>(setRow_other _ _ _ _ (by simp;omega)).trans (hB0.block k hk)⟩
 .have hr:=run_append_grow (P:=Tryz0.prog) (w.alloc (.cells #[] 3)) 164 164 3 i0 (.int .i64 0) fW hI hz0 ⟨w.heap.size,0,none⟩ 0 0 [] (by simp) (by simp) ⟨b,0,none⟩ n cap news hnl hnews (by omega) (by omega) (growslice_fits (by omega) (by rw[hz2];omega));have hge:=grownCap_ge (w.alloc (.cells #[] 3)) (0+n) 0 3;simp only[Nat.zero_add]at hr hge;refine⟨_,_,_,hr,hge,?_,?_,⟨_,heap_alloc_new _ _,?_⟩,?_,?_⟩
  .simp
  .simp
  .intro v hv;simp[news,Builtin.zeroCells,Value.cells]at hv;rcases hv with⟨j,_,rfl⟩|⟨x,_,rfl⟩
   .exact⟨_,rfl⟩
   .exact⟨0,by simp[Nat.mod_one]⟩
  .intro j hj;have hA:=heap_alloc_new (w.alloc (.cells #[] 3)).drew (.cells (#[]++news.toArray++Builtin.zeroCells (Value.int IntKind.i64 0).cells (grownCap (w.alloc (.cells #[] 3)) n 0 3-n)) 3);rw[show(⟨(w.alloc (.cells #[] 3)).heap.size,0+j,none⟩:Addr)=⟨(w.alloc (.cells #[] 3)).drew.heap.size,j,none⟩ by simp];rw[cell_of_row _ _ _ _ _ _ hA];simp[news,hj,Array.getElem?_append]
  .exact(hB0.drew).alloc (by simp) _
theorem wD (b n cap:Nat)(g:Nat->Int)(w:World)(hn:n<=1048576)(hbs:b<w.heap.size)(hrow:ag w b 0 n g):
  Calls Tryz0.prog 238 #[.slice (some ⟨b,0,none⟩) n cap] w λe w'=>∃B c,e=.returned (.slice (some ⟨B,0,none⟩) n c)/\n<=c/\w.heap.size<=B/\B<w'.heap.size/\dT w' B/\ag w' B 0 n g/\Below w.heap.size w w':=by
 obtain⟨B,c,w',hap,h1,h2,h3,h4,h5,h6⟩:=qQ b n cap g w hn hbs hrow;have hnil:=Go.Lib.run_eql_slice_nil (P:=Tryz0.prog) w 164 3 (some ⟨b,0,none⟩) n cap 0 0 fW;go_enter Tryz0.func238,Tryz.ntmps238
 go_wp2_with(refine fV rfl (.tmp 5) (.tmp 6) 164 rfl _ _ (by rfl) (by rfl) hap ?_)
 go_ret;exact⟨B,c,rfl,h1,h2,h3,h4,h5,h6⟩
end
end Go.Proofs.YtlmcblcijndipabGreatDoor
