import Derived.Test.YtlmcblcijndipaaGreatDoora20
import Derived.Test.YtlmcblcijndipaaGreatDoora22
set_option linter.defProp false
set_option linter.unusedVariables false
set_option maxHeartbeats 2000000
set_option maxRecDepth 10000
namespace Go.Proofs.YtlmcblcijndipaaGreatDoor
open RowKit
variable {l:List Nat}{B b m n:Nat}{g:Nat->Nat}{w w':World}
def pl (l:List Nat)(i:Nat):Nat:=l.getD i 0
def lE (x:Nat)(p:Nat):Nat:=if x<=p then p+1 else p
def aQ:Nat->List (List Nat)
 |0=>[[]]
 |n+1=>(List.range<|n+1).flatMap λx=>(aQ n).map λl=>x::l.map (lE x)
def QY (x:Nat)(l:List Nat):pl (x::l) 0=x:=rfl
def vO (x:Nat)(l:List Nat)(i:Nat):pl (x::l) (i+1)=pl l i:=rfl
def Jc (x:Nat)(l:List Nat)(i:Nat)(h:i<l.length):pl (l.map<|lE x) i=lE x (pl l i):=by
 simp[pl,List.getD,h]
def Ej:l∈aQ (n+1)<->∃x,x<n+1/\∃l',l'∈aQ n/\l=x::l'.map (lE x):=by
 simp only[aQ,List.mem_flatMap,List.mem_range,List.mem_map];constructor
 .rintro⟨x,hx,l',h',rfl⟩;exact⟨x,hx,l',h',rfl⟩
 .rintro⟨x,hx,l',h',rfl⟩;exact⟨x,hx,l',h',rfl⟩
def gI:∀{n:Nat} {l:List Nat},l∈aQ n->l.length=n/\(∀i,i<n->pl l i<n)/\∀i j,i<j->j<n->pl l i≠pl l j
 |0,l,h=>by
  simp[aQ]at h;subst h;exact⟨rfl,λi h=>absurd h<|ac9 _,λi j _ h=>absurd h<|ac9 _⟩
 |n+1,l,h=>by
  obtain⟨x,hx,l',hl,rfl⟩:=Ej.1 h;let⟨h1,h2,h3⟩:=gI hl;refine⟨by simp[h1],λi hi=>?_,λi j lH hj=>?_⟩
  .cases i with
   |zero=>exact hx
   |succ i=>
    rw[vO,Jc _ _ _ aa];have:=h2 i aa;unfold lE;split<;>omega
  .obtain⟨j,rfl⟩:∃j',j=j'+1:=⟨j-1,aa⟩;rw[vO,Jc _ _ _ aa];cases i with
   |zero=>rw[QY];unfold lE;split<;>omega
   |succ i=>
    rw[vO,Jc _ _ _ aa];have:=h3 i j aa aa;unfold lE;split<;>split<;>omega
def wo:∀{n:Nat} {g:Nat->Nat},(∀i,i<n->g i<n)->(∀i j,i<j->j<n->g i≠g j)->∃l,l∈aQ n/\∀i,i<n->pl l i=g i
 |0,g,_,_=>⟨[],by simp[aQ],λi h=>absurd h<|ac9 _⟩
 |n+1,g,h1,h2=>by
  let⟨l,hl,hg⟩:=wo (n:=n) (g:=λi=>if g 0<g (i+1)then g (i+1)-1 else g (i+1)) (λi hi=>by
   have a:=h1 0 aa;have b:=h1 (i+1) aa;have c:=h2 0 (i+1) aa aa;split<;>omega) (λi j lH hj=>by
   have a:=h2 0 (i+1) aa aa;have b:=h2 0 (j+1) aa aa;have c:=h2 (i+1) (j+1) aa aa;split<;>split<;>omega)
  refine⟨g 0::l.map (lE<|g 0),Ej.2 ⟨_,h1 0 aa,l,hl,rfl⟩,λi hi=>?_⟩;cases i with
  |zero=>rfl
  |succ i=>
   rw[vO,Jc _ _ _ (by rw[(gI hl).1];omega),hg i aa];have a:=h2 0 (i+1) aa aa;unfold lE;split<;>split<;>omega
def iN (g:Nat->Nat):Nat->Option Nat
 |0=>none
 |m+1=>if g (m+1)<g m then iN g m else some m
def lh (g:Nat->Nat)(x:Nat):Nat->Nat
 |0=>0
 |m+1=>if g (m+1)<x then lh g x m else m+1
def Jm (g:Nat->Nat)(i j:Nat)(k:Nat):Nat:=if k=j then g i else if k=i then g j else g k
def Jp (n:Nat)(g:Nat->Nat)(i:Nat)(k:Nat):Nat:=if k<=i then g k else g (n+i-k)
def nh (n:Nat)(g:Nat->Nat):Option (Nat->Nat):=
 match iN g (n-1)with
 |none=>none
 |some i=>some<|Jp n (Jm g i<|lh g (g i)<|n-1) i
def TY (n:Nat)(g h:Nat->Nat):Bool:=(List.range n).all λi=>Nat.beq (g i)<|h i
def kY {h:Nat->Nat}:TY n g h=true<->∀i,i<n->g i=h i:=by
 simp[TY]
def iG (n:Nat):List (List Nat)->Bool
 |[]=>true
 |l::r=>(match nh n (pl l),r.head? with
  |none,none=>true
  |some g,some l'=>TY n g (pl l')
  |_,_=>false)&&iG n r
def TG:iG 0 (aQ 0)=true:=bD
def TH:iG 1 (aQ 1)=true:=bD
def TI:iG 2 (aQ 2)=true:=bD
def TJ:iG 3 (aQ 3)=true:=bD
def TK:iG 4 (aQ 4)=true:=bD
def TL:iG 5 (aQ 5)=true:=bD
def TM:iG 6 (aQ 6)=true:=bD
def LY (h:n<=6):iG n (aQ n)=true:=by
 obtain rfl|rfl|rfl|rfl|rfl|rfl|rfl:n=0\/n=1\/n=2\/n=3\/n=4\/n=5\/n=6:=aa
 .exact TG
 .exact TH
 .exact TI
 .exact TJ
 .exact TK
 .exact TL
 .exact TM
def wG:∀{L:List (List Nat)},iG n L=true->∀{k:Nat} {l:List Nat},L[k]?=some l->(∀l',L[k+1]?=some l'->∃g,nh n (pl l)=some g/\∀i,i<n->g i=pl l' i)/\(L.length<=k+1->nh n (pl l)=none)
 |[],_,k,l,h=>by simp at h
 |a::r,hc,k,l,h=>by
  rw[iG,adz]at hc;cases k with
  |succ k=>
   have:=wG hc.2 (k:=k) (l:=l) oO;exact⟨λl' h'=>this.1 l'<|by simpa using h',λh'=>this.2<|by simpa using h'⟩
  |zero=>
   simp at h;subst h;have h1:=hc.1;cases r with
   |nil=>
    refine⟨λl' h'=>by simp at h',λ_=>?_⟩;cases hn:nh n (pl a)with
    |none=>rfl
    |some g=>rw[hn]at h1;simp at h1
   |cons b r=>
    refine⟨λl' h'=>?_,λh'=>by simp at h'⟩;simp at h';subst h';cases hn:nh n (pl a)with
    |none=>rw[hn]at h1;simp at h1
    |some g=>rw[hn]at h1;exact⟨g,rfl,kY.1 h1⟩
def FV:∀n,n<=6->∃l,(aQ n)[0]?=some l/\∀i,i<n->pl l i=i:=by
 intro n h;obtain rfl|rfl|rfl|rfl|rfl|rfl|rfl:n=0\/n=1\/n=2\/n=3\/n=4\/n=5\/n=6:=aa
 .exact⟨[],bD,λi h=>absurd h<|ac9 _⟩
 .exact⟨[0],bD,kY.1 bD⟩
 .exact⟨[0,1],bD,kY.1 bD⟩
 .exact⟨[0,1,2],bD,kY.1 bD⟩
 .exact⟨[0,1,2,3],bD,kY.1 bD⟩
 .exact⟨[0,1,2,3,4],bD,kY.1 bD⟩
 .exact⟨[0,1,2,3,4,5],bD,kY.1 bD⟩
def jI:∀n,n<=6->(aQ n).length<=720/\0<(aQ n).length:=by
 intro n h;obtain rfl|rfl|rfl|rfl|rfl|rfl|rfl:n=0\/n=1\/n=2\/n=3\/n=4\/n=5\/n=6:=aa
 .have e:(aQ 0).length=1:=by kernel_rfl
  omega
 .have e:(aQ 1).length=1:=by kernel_rfl
  omega
 .have e:(aQ 2).length=2:=by kernel_rfl
  omega
 .have e:(aQ 3).length=6:=by kernel_rfl
  omega
 .have e:(aQ 4).length=24:=by kernel_rfl
  omega
 .have e:(aQ 5).length=120:=by kernel_rfl
  omega
 .have e:(aQ 6).length=720:=by kernel_rfl
  omega
section
variable {a b c:Option (List Int)}{g h:Nat->Int}
def gO:List Int->List Int->Bool
 |a::l,b::r=>if a=b then gO l r else decide (a<b)
 |_,_=>false
def uN:∀l,gO l l=false
 |[]=>rfl
 |a::l=>by simp[gO,uN l]
def rL:∀{a b c:List Int},gO a b=true->gO b c=true->gO a c=true
 |[],_,_,h,_=>by simp[gO]at h
 |_::_,[],_,h,_=>by simp[gO]at h
 |_::_,_::_,[],_,h=>by simp[gO]at h
 |x::a,y::b,z::c,h,h'=>by
  simp only[gO]at h h'⊢;split at h<;>split at h'<;>split
  .exact rL h h'
  .omega
  .omega
  .exact h'.trans cU|>λ_=>by simp at h'⊢;omega
  .simp at h h';omega
  .simp at h⊢;omega
  .simp at h h';omega
  .simp at h h'⊢;omega
def xL:∀{a b:List Int},a.length=b.length->gO a b=false->gO b a=false->a=b
 |[],[],_,_,_=>rfl
 |[],_::_,h,_,_=>by simp at h
 |_::_,[],h,_,_=>by simp at h
 |x::a,y::b,hl,h,h'=>by
  simp only[gO]at h h';split at h
  .rename_i e;subst e;rw[if_pos rfl]at h';rw[xL (by simpa using hl) h h']
  .rename_i e;rw[if_neg (λe'=>e e'.symm)]at h';simp at h h';omega
def dD:Option (List Int)->Option (List Int)->Bool
 |some a,some b=>gO a b
 |some _,none=>true
 |none,_=>false
def fh (a:Option (List Int)):dD a a=false:=by cases a<;>simp[dD,uN]
def pT (h:dD a b=true)(h':dD b c=true):dD a c=true:=by
 cases a<;>cases b<;>cases c<;>simp_all [dD]
 exact rL h h'
def Ks (hb:∀l,b=some l->l.length=m)(hc:∀l,c=some l->l.length=m)(h:dD a b=false)(h':dD c b=true)(ha:∀l,a=some l->l.length=m):dD a c=false:=by
 cases ht:dD a c with
 |false=>rfl
 |true=>rw[pT ht h']at h;cases h
def oe (ha:∀l,a=some l->l.length=m)(hb:∀l,b=some l->l.length=m)(hc:∀l,c=some l->l.length=m)(h:dD a b=false)(h':dD b c=false):dD a c=false:=by
 cases ht:dD a c with
 |false=>rfl
 |true=>
  cases a with
  |none=>simp[dD]at ht
  |some a=>
   cases b with
   |none=>simp[dD]at h
   |some b=>
    cases c with
    |none=>simp[dD]at h'
    |some c=>
     simp only[dD]at*;cases Wx:gO c b with
     |true=>rw[rL ht Wx]at h;cases h
     |false=>
      have:=xL ((hb _ rfl).trans (hc _ rfl).symm) h' Wx;subst this;rw[ht]at h;cases h
def jc (g:Nat->Int):Nat->Nat->List Int
 |0,_=>[]
 |f+1,k=>g k::jc g f (k+1)
def pZ (g:Nat->Int):∀f k,(jc g f k).length=f
 |0,_=>rfl
 |f+1,k=>by simp[jc,pZ g f]
def yq:∀f k,(∀i,k<=i->i<k+f->g i=h i)->jc g f k=jc h f k
 |0,_,_=>rfl
 |f+1,k,e=>by rw[jc,jc,e k aa aa,yq f (k+1) λi h1 h2=>e i aa aa]
def EO:∀f k,jc g f k=jc h f k->∀i,k<=i->i<k+f->g i=h i
 |0,_,_,i,h1,h2=>aa
 |f+1,k,e,i,h1,h2=>by
  rw[jc,jc,List.cons.injEq]at e;by_cases hi:i=k
  .subst hi;exact e.1
  .exact EO f (k+1) e.2 i aa aa
def f7 (f:Nat->Mv)(n:Nat)(T:Nat->Int):List Int:=sumTo f T n::dc f T n::jc T n 0
def eZ (f:Nat->Mv)(n:Nat)(b:Option (Nat->Int))(l:List Nat):Option (Nat->Int):=
 match er f (pl l) n with
 |none=>b
 |some T=>match b with
  |none=>some T
  |some S=>if gO (f7 f n T) (f7 f n S)=true then some T else some S
def eY (f:Nat->Mv)(n:Nat)(L:List (List Nat)):Option (Nat->Int):=L.foldl (eZ f n) none
def pM (f:Nat->Mv)(n:Nat)(T:Nat->Int):(f7 f n T).length=n+2:=by simp[f7,pZ]
def qk (f:Nat->Mv)(n:Nat)(o:Option (Nat->Int)):∀l,o.map (f7 f n)=some l->l.length=n+2:=by
 intro l h;cases o with
 |none=>simp at h
 |some T=>simp at h;rw[<-h];exact pM f n T
def FZ (f:Nat->Mv)(n:Nat)(b:Option (Nat->Int))(l:List Nat):
  (eZ f n b l=b\/eZ f n b l=er f (pl l) n)/\dD (b.map<|f7 f n) ((eZ f n b l).map<|f7 f n)=false/\dD ((er f (pl l) n).map<|f7 f n) ((eZ f n b l).map<|f7 f n)=false:=by
 unfold eZ;cases h:er f (pl l) n with
 |none=>exact⟨.inl rfl,fh _,rfl⟩
 |some T=>
  cases b with
  |none=>exact⟨.inr rfl,rfl,fh _⟩
  |some S=>
   by_cases hp:gO (f7 f n T) (f7 f n S)=true
   .simp only[hp,if_true];refine⟨.inr<|by trivial,?_,fh _⟩;cases hq:dD (some<|f7 f n S) (some<|f7 f n T)with
    |false=>exact hq
    |true=>exact absurd (pT (a:=some<|f7 f n T) (b:=some<|f7 f n S) (c:=some<|f7 f n T) hp hq) (by rw[fh];simp)
   .simp only[hp];exact⟨.inl rfl,fh _,by simpa[dD]using hp⟩
def sF (f:Nat->Mv)(n:Nat):∀(L:List (List Nat)) (b:Option (Nat->Int)),(L.foldl (eZ f n) b=b\/∃l∈L,L.foldl (eZ f n) b=er f (pl l) n)/\dD (b.map<|f7 f n) ((L.foldl (eZ f n) b).map<|f7 f n)=false/\∀l∈L,dD ((er f (pl l) n).map<|f7 f n) ((L.foldl (eZ f n) b).map<|f7 f n)=false
 |[],b=>⟨.inl rfl,fh _,λl hl=>by simp at hl⟩
 |l::L,b=>by
  let⟨h1,h2,h3⟩:=FZ f n b l;let⟨k1,k2,k3⟩:=sF f n L<|eZ f n b l;rw[List.foldl_cons];refine⟨?_,oe (qk f n _) (qk f n _) (qk f n _) h2 k2,λx hx=>?_⟩
  .rcases k1 with e|⟨x,hx,e⟩
   .rw[e];exact h1.elim .inl λe=>.inr ⟨l,aF,e⟩
   .exact .inr ⟨x,by simp[hx],e⟩
  .rcases List.mem_cons.1 hx with rfl|hx
   .exact oe (qk f n _) (qk f n _) (qk f n _) h3 k2
   .exact k3 x hx
end
section
variable {x:Nat}{a:World}
def fH.drew (h:fH B a w):fH B a w.drew:=⟨h.size,h.block⟩
def fH.drewN (h:fH B a w)(q:Nat):fH B a (w.drewN q):=⟨h.size,h.block⟩
def aC.drewN {g:Nat->Int}(h:aC w b n g)(q:Nat):aC (w.drewN q) b n g:=h
def eV (h:Below B a w)(q:Nat):Below B a (w.drewN q):=⟨h.os,h.tape,h.output,h.size,h.block⟩
def aC.drew {g:Nat->Int}(h:aC w b n g):aC w.drew b n g:=h
def Jf (h:Nat->Int)(m k:Nat)(y:Nat):Int:=if y<k\/m<=y+k then h (m-1-y)else h y
def xQ (g:Nat->Int)(off:Nat)(r:Nat->Int)(x:Nat):Int:=if x<off then g x else r (x-off)
def EG (b n off m cap:Nat)(g:Nat->Int)(w:World)(hn:n<=1048576)(acp:off+m=n)(bc:aC w b n g):
  Calls Tz.prog 236 #[.slice (some ⟨b,off,none⟩) m cap] w λe w'=>(∃v,e=.returned v)/\aC w' b n (xQ g off λy=>g<|off+(m-1-y))/\fH b w w'/\Below b w w':=by
 have oG:=bc.lt;go_enter Tz.func236,Tryz.ntmps236
 go_wp2;go_loopw [2,3] (λx y wr=>∃k:Nat,2*k<=m+1/\x=.int .i64 k/\y=.int .i64 ((m:Int)-1-k)/\aC wr b n (xQ g off<|Jf (λy=>g<|off+y) m k)/\fH b w wr/\Below b w wr) (λx _ _=>m-(intOf x).toNat)
 case atStart=>exact⟨0,aa,rfl,aF,bc.congr (λi hi=>by unfold xQ Jf;split;rfl;rw[if_neg aa];congr 1;omega),fH.refl _ _,acW _ _⟩
 case round=>
  obtain⟨k,hk,rfl,rfl,fN,zc,za⟩:=hrel;by_cases aB:2*k+1<m
  .obtain⟨q,hq⟩:∃q,m=q+k+1:=⟨m-1-k,aa⟩;have e1:((m:Int)-1-k)=(q:Int):=aa;have dr:(k:Int)<q:=aa;have hqm:(q:Int)<m:=aa;have hkm:(k:Int)<m:=aa;have c1:=fN.cellAt (off+k) aa;have c2:=fN.cellAt (off+q) aa;have IC:=λj=>fN.frozen j
   rw[e1];go_wp2;go_region
   all_goals
    go_wp2;go_roundw
    case rel=>
     refine⟨k+1,aa,by go_num,by first|(congr 1;omega)|(go_num),?_,(zc.setCell _ _).setCell _ _|>.drew,((za.setCell (ac5 _) _).setCell (ac5 _) _).drew⟩;refine aC.drew<|((fN.set (off+k) aa _).set (off+q) aa _).congr λi hi=>?_;unfold xQ Jf;by_cases h0:i<off
     .rw[if_neg aa,if_neg aa,if_pos h0,if_pos h0]
     .obtain⟨y,rfl⟩:∃y,i=off+y:=⟨i-off,aa⟩;simp only[Nat.add_sub_cancel_left];by_cases h1:y=q
      .subst h1;rw[if_pos rfl,if_neg aa,if_neg aa,if_neg aa,if_pos aa];congr 2;omega
      .by_cases h2:y=k
       .subst h2;rw[if_neg aa,if_pos rfl,if_neg aa,if_neg aa,if_neg aa,if_pos aa];try(congr 2;omega)
       .rw[if_neg aa,if_neg aa,if_neg h0,if_neg h0];by_cases h3:y<k\/m<=y+k
        .rw[if_pos aa,if_pos aa]
        .rw[if_neg aa,if_neg aa]
    case measure=>exact cI
  .go_wp2;go_end0
   refine⟨⟨_,rfl⟩,fN.congr λi hi=>?_,zc,za⟩;unfold xQ Jf;by_cases h0:i<off
   .rw[if_pos h0,if_pos h0]
   .rw[if_neg h0,if_neg h0];by_cases h3:i-off<k\/m<=i-off+k
    .rw[if_pos h3]
    .rw[if_neg h3];congr 1;omega
def Cu (h:g (m+1)<g m):iN g (m+1)=iN g m:=by simp[iN,h]
def Ct (h:¬g (m+1)<g m):iN g (m+1)=some m:=by simp[iN,h]
def Ee (h:g (m+1)<x):lh g x (m+1)=lh g x m:=by simp[lh,h]
def Ed (h:¬g (m+1)<x):lh g x (m+1)=m+1:=by simp[lh,h]
def RD (g:Nat->Nat){k q i:Nat}(hi:i<n)(hk:k+1<n)(hq:k<q):xQ (λi=>if i=q then(g k:Int)else if i=k then(g q:Int)else(g i:Int)) (k+1) (λy=>(λi=>if i=q then(g k:Int)else if i=k then(g q:Int)else(g i:Int))<|k+1+(n-(k+1)-1-y)) i=((Jp n (Jm g k q) k i:Nat):Int):=by
 unfold xQ Jp Jm;by_cases h0:i<=k
 .simp only[if_pos (show i<k+1 by omega),if_pos h0,if_neg (show¬i=q by omega)];split<;>rfl
 .have e1:k+1+(n-(k+1)-1-(i-(k+1)))=n+k-i:=by omega
  simp only[if_neg (show¬i<k+1 by omega),if_neg h0,e1];split
  .rfl
  .split<;>rfl
def NF (b n cap:Nat)(g:Nat->Nat)(w:World)(hn:n<=1048576)(vy:n<=cap)(bc:aC w b n (λi=>(g i:Int))):
  Calls Tz.prog 199 #[.slice b n cap] w λe w'=>e=.returned (.bool (nh n g).isSome)/\(∀g',nh n g=some g'->aC w' b n (λi=>(g' i:Int)))/\fH b w w'/\Below b w w':=by
 have oG:=bc.lt;go_enter Tz.func199,Tryz.ntmps199
 go_wp2;rcases adj n with hz|gF
 .subst hz;go_loopw [3] (λx wr=>x=.int .i64 (-2)/\wr=w) (λx _=>0)
  case atStart=>exact⟨by go_num,rfl⟩
  case round=>
   obtain⟨rfl,rfl⟩:=hrel;go_wp2;go_quiet (fail)
   go_wp2;go_ret;exact⟨bQ rfl,λg' h=>by simp[nh,iN]at h,(fH.refl _ _).drewN _,eV (acW _ _) _⟩
 have abN:0<n:=gF;go_loopw [3] (λx wr=>∃k:Nat,x=.int .i64 ((k:Int)-1)/\k+1<=n/\iN g (n-1)=iN g k/\aC wr b n (λi=>(g i:Int))/\fH b w wr/\Below b w wr) (λx _=>(intOf x+1).toNat)
 case atStart=>exact⟨n-1,by go_num,aa,rfl,bc,fH.refl _ _,acW _ _⟩
 case round=>
  obtain⟨k,rfl,hk,Gx,fN,zc,za⟩:=hrel;cases k with
  |zero=>
   have pg:nh n g=none:=by unfold nh;rw[Gx];rfl
   have HN:Hid (nh n g=none):=pg;clear pg;go_wp2;go_quiet (fail)
   go_wp2;go_ret;exact⟨bQ (by rw[HN.out];rfl),λg' h=>absurd (HN.out.symm.trans h) aF,zc.drewN _,eV za _⟩
  |succ k=>
   have e0:(((k+1:Nat):Int)-1)=(k:Int):=aa;have tD:(k:Int)<n:=aa;have ace:(k:Int)+1<n:=aa;have c1:=fN.cellAt k aa;have c2:=fN.cellAt (k+1) aa;rw[e0];by_cases hd:g (k+1)<g k
   .have Ys:(((g (k+1):Nat):Int)<((g k:Nat):Int)):=by omega
    go_wp2;go_quiet (fail)
    go_wp2;go_roundw
    case rel=>exact⟨k,by go_num,aa,Gx.trans<|Cu hd,fN.drewN _,zc.drewN _,eV za _⟩
    case measure=>simp[intOf]<;>omega
   .have Ys:¬(((g (k+1):Nat):Int)<((g k:Nat):Int)):=by omega
    have YL:iN g (n-1)=some k:=Gx.trans<|Ct hd;have HN:Hid (nh n g=some (Jp n (Jm g k<|lh g (g k)<|n-1) k)):=by unfold nh;rw[YL];exact rfl
    clear Gx YL;go_wp2;go_quiet (fail)
    go_wp2;go_loopw [4] (λx W=>∃q:Nat,x=.int .i64 q/\k+1<=q/\q+1<=n/\lh g (g k) (n-1)=lh g (g k) q/\aC W b n (λi=>(g i:Int))/\fH b w W/\Below b w W) (λx _=>(intOf x).toNat)
    case atStart=>exact⟨n-1,by go_num,aa,aa,rfl,fN.drewN _,zc.drewN _,eV za _⟩
    case round=>
     clear fN zc za c1 c2;obtain⟨q,rfl,hkq,hqn,tC,fN,zc,za⟩:=hrel;have c1:=fN.cellAt k aa;have c2:=fN.cellAt q aa;have Y8:(q:Int)<n:=aa;by_cases hc:g q<g k
     .have BW:(((g q:Nat):Int)<((g k:Nat):Int)):=by omega
      have hne:q≠k+1:=λe=>by subst e;exact hd hc
      obtain⟨q,rfl⟩:∃p,q=p+1:=⟨q-1,aa⟩;go_wp2;go_quiet (fail)
      go_wp2;go_roundw
      case rel=>exact⟨q,by go_num,aa,aa,tC.trans<|Ee hc,fN.drewN _,zc.drewN _,eV za _⟩
      case measure=>simp[intOf]
     .have BW:¬(((g q:Nat):Int)<((g k:Nat):Int)):=by omega
      have aaV:lh g (g k) (n-1)=q:=by
       obtain⟨p,rfl⟩:∃p,q=p+1:=⟨q-1,aa⟩;exact tC.trans<|Ed hc
      rw[aaV]at HN;have IC:=λj=>fN.frozen j
      have acf:(k:Int)≠q:=aa;go_wp2;go_quiet (fail)
      go_wp2;go_region
      all_goals
       go_wp2_with(go_at_call 236;refine(EG b n (k+1) (n-(k+1)) _ _ _ hn aa<|((fN.drewN _).set k aa _).set q aa _).mono ?_;rintro e w1 ⟨⟨v1,rfl⟩,o1,t1,b1⟩)
       go_ret;refine⟨bQ (by rw[HN.out];rfl),λg' h=>?_,(((zc.drewN _).setCell _ _).setCell _ _).trans t1,(((eV za _).setCell (ac5 _) _).setCell (ac5 _) _).trans b1⟩;obtain rfl:=adb<|HN.out.symm.trans h;exact o1.congr λi hi=>RD g hi aa aa
end
def wpList_append_run {P:Program}{ops:Array Oper}{rest:List Oper}{o:Oper}{a:Act}{Q:Exit->Act->World->Prop}(J8:o.guard=none)(s x:Operand)(t:TypeId)
  (ho:o.op=.call {callee:=.builtin .append,args:=#[s,x],argTypes:=#[t,t]})(v vx:Value)(hs:a.eval s=v)(hx:a.eval x=vx){v':Value}
  (hr:(Builtin.append_ #[t,t] o.type #[v,vx]).run P w=.ok v' w')(h:wpList P ops Q rest (a.put o.dst v') w'):wpList P ops Q (o::rest) a w:=by
 have hw:Region.wanted o (yielded ops a.tmps)=true:=by simp[Region.wanted,J8]
 unfold wpList;rw[if_pos hw];refine .inl ?_;unfold Oper.wp execOp;simp only[ho,resolve,invoke,builtin,Sem.run_bind,Sem.run_pure,Result.andThen_ok,List.map_toArray,List.map_cons,List.map_nil,hs,hx,hr];exact h
def iA (w:World)(B:Nat):Prop:=∃cs,w.heap[B]?=some (.cells cs 3 (0,0))/\∀v∈cs,∃x:Int,v=.int .i64 x
def iA.below (h:iA w b)(hb:Below B w w')(hB:b<B):iA w' b:=by
 let⟨cs,h1,h2⟩:=h;exact⟨cs,(hb.block b hB).trans h1,h2⟩
def lV:Tz.prog.underlying 183=some (.slice 3):=bD
def Bt (b n cap:Nat)(g:Nat->Int)(w:World)(hn:n<=1048576)(bH:b<w)(aq:aA w b 0 n g):
  ∃B c w',(Builtin.append_ #[183,183] 183 #[.slice w.heap.size 0 0,.slice b n cap]).run Tz.prog (w.alloc<|.cells #[] 3)=.ok (.slice (some ⟨B,0,none⟩) n c) w'/\
   n<=c/\w.heap.size<=B/\B<w'/\iA w' B/\aA w' B 0 n g/\Below w w w':=by
 obtain⟨i0,hI,gj,eO,gM⟩:∃i0,Tz.prog.info? 3=some i0/\i0.zero=some (.int .i64 0)/\i0.size=1/\i0.bytes=8:=by
  have h:=nf;cases hI:Tz.prog.info? 3 with
  |none=>rw[hI]at h;simp at h
  |some i0=>rw[hI]at h;simp only[Option.map_some,Option.some.injEq,Prod.mk.injEq]at h;exact⟨i0,rfl,h.2.2,h.1,h.2.1⟩
 have mF:Below w w (w.alloc<|.cells #[] 3):=(acW _ _).alloc (ac5 _) _;have M9:=aq.below mF bH;have hE:(w.alloc<|.cells #[] 3).heap[w.heap.size]?=some (.cells #[] 3 (0,0)):=heap_alloc_new _ _;let news:List Value:=(List.range n).map λj=>.int .i64<|g j
 have IJ:news.length=n*i0.size:=by simp[news,eO]
 have gd:∀j u,news[j]?=some u->(w.alloc<|.cells #[] 3).cell? ((b:Addr).add j)=some u:=λj u hu=>by
  have hj:j<n:=by rcases ade j n with h|h;exact h;rw[adg (by simp[news];exact h)]at hu;cases hu
  simp[news,hj]at hu;rw[<-hu];have:=M9 j hj;rw[show(b:Addr).add j=⟨b,0+j,none⟩ by unfold Addr.add;split<;>simp_all];exact this
 have xl:∀u∈news,u.oneCell'=true:=λu hu=>by simp[news]at hu;obtain⟨_,_,rfl⟩:=hu;rfl
 rcases adj n with hz|gF
 .subst hz;have hr:=run_append_room (P:=Tz.prog) (w.alloc<|.cells #[] 3) 183 183 3 i0 lV hI w.heap.size 0 0 #[] hE b 0 cap news IJ gd xl aa (by simp[news]);refine⟨_,_,_,hr,ac5 _,ac5 _,?_,⟨_,setRow_heap _ _ _ _ _ _ hE,?_⟩,λi hi=>absurd hi<|ac9 _,?_⟩
  .simp
  .simp[news]
  .exact⟨rfl,rfl,rfl,aF,λk hk=>(setRow_other _ _ _ _ cU).trans<|mF.block k hk⟩
 .have hr:=run_append_grow (P:=Tz.prog) (w.alloc<|.cells #[] 3) 183 183 3 i0 (.int .i64 0) lV hI gj w.heap.size 0 0 [] aF aF b n cap news IJ gd aa aa (growslice_fits aa<|by rw[gM];omega);have tC:=grownCap_ge (w.alloc<|.cells #[] 3) (0+n) 0 3;simp only[Nat.zero_add]at hr tC;refine⟨_,_,_,hr,tC,?_,?_,⟨_,heap_alloc_new _ _,?_⟩,?_,?_⟩
  .simp
  .simp
  .intro v hv;simp[news,Builtin.zeroCells,Value.cells]at hv;rcases hv with⟨j,_,rfl⟩|⟨x,_,rfl⟩
   .exact⟨_,rfl⟩
   .exact⟨0,by simp[Nat.mod_one]⟩
  .intro j hj;have hA:=heap_alloc_new (w.alloc<|.cells #[] 3).drew<|.cells (#[]++news.toArray++Builtin.zeroCells (Value.int IntKind.i64 0).cells (grownCap (w.alloc<|.cells #[] 3) n 0 3-n)) 3;rw[show(⟨(w.alloc<|.cells #[] 3).heap.size,0+j,none⟩:Addr)=⟨(w.alloc<|.cells #[] 3).drew.heap.size,j,none⟩ by simp];rw[cell_of_row _ _ _ _ _ _ hA];simp[news,hj,Array.getElem?_append]
  .exact(mF.drew).alloc aF _
def JI (b n cap:Nat)(g:Nat->Int)(w:World)(hn:n<=1048576)(bH:b<w)(aq:aA w b 0 n g):
  Calls Tz.prog 200 #[.slice b n cap] w λe w'=>∃B c,e=.returned (.slice (some ⟨B,0,none⟩) n c)/\n<=c/\w.heap.size<=B/\B<w'.heap.size/\iA w' B/\aA w' B 0 n g/\Below w w w':=by
 let⟨B,c,w',qL,h1,h2,h3,h4,h5,h6⟩:=Bt b n cap g w hn bH aq;have Qs:=Go.Lib.run_eql_slice_nil (P:=Tz.prog) w 183 3 b n cap 0 0 lV;go_enter Tz.func200,Tryz.ntmps200
 go_wp2_with(refine wpList_append_run rfl (.tmp 5) (.tmp 6) 183 rfl _ _ cj cj qL ?_)
 go_ret;exact⟨B,c,rfl,h1,h2,h3,h4,h5,h6⟩
