import Derived.Test.YtlmcblcijndipaaGreatDoorj23
import Derived.Test.YtlmcblcijndipaaGreatDoorj18
set_option linter.unusedVariables false
set_option maxHeartbeats 2000000
set_option maxRecDepth 10000
namespace Go.Proofs.YtlmcblcijndipaaGreatDoor
section
open RowKit
variable {n:Nat}
def pl (l:List Nat)(i:Nat):Nat:=l.getD i 0
def tS (x:Nat)(p:Nat):Nat:=if x<=p then p+1 else p
def aR:Nat->List (List Nat)
 |0=>[[]]
 |n+1=>(List.range (n+1)).flatMap λx=>(aR n).map λl=>x::l.map (tS x)
theorem Pm (x:Nat)(l:List Nat):pl (x::l) 0=x:=rfl
theorem ve (x:Nat)(l:List Nat)(i:Nat):pl (x::l) (i+1)=pl l i:=rfl
theorem G8 (x:Nat)(l:List Nat)(i:Nat)(h:i<l.length):pl (l.map (tS x)) i=tS x (pl l i):=by
 simp[pl,List.getD,h]
theorem CD {l:List Nat}:l∈aR (n+1)<->∃x,x<n+1/\∃l',l'∈aR n/\l=x::l'.map (tS x):=by
 simp only[aR,List.mem_flatMap,List.mem_range,List.mem_map];constructor
 .rintro⟨x,hx,l',h',rfl⟩;exact⟨x,hx,l',h',rfl⟩
 .rintro⟨x,hx,l',h',rfl⟩;exact⟨x,hx,l',h',rfl⟩
theorem gn:∀{n:Nat} {l:List Nat},l∈aR n->l.length=n/\(∀i,i<n->pl l i<n)/\∀i j,i<j->j<n->pl l i≠pl l j
 |0,l,h=>by
  simp[aR]at h;subst h;exact⟨rfl,λi h=>absurd h (aco _),λi j _ h=>absurd h (aco _)⟩
 |n+1,l,h=>by
  obtain⟨x,hx,l',hl,rfl⟩:=CD.1 h;obtain⟨h1,h2,h3⟩:=gn hl;refine⟨by simp[h1],λi hi=>?_,λi j lI hj=>?_⟩
  .cases i with
   |zero=>exact hx
   |succ i=>
    rw[ve,G8 _ _ _ ab];have:=h2 i ab;unfold tS;split<;>omega
  .obtain⟨j,rfl⟩:∃j',j=j'+1:=⟨j-1,ab⟩;rw[ve,G8 _ _ _ ab];cases i with
   |zero=>rw[Pm];unfold tS;split<;>omega
   |succ i=>
    rw[ve,G8 _ _ _ ab];have:=h3 i j ab ab;unfold tS;split<;>split<;>omega
theorem BD:∀{n:Nat} {g:Nat->Nat},(∀i,i<n->g i<n)->(∀i j,i<j->j<n->g i≠g j)->∃l,l∈aR n/\∀i,i<n->pl l i=g i
 |0,g,_,_=>⟨[],by simp[aR],λi h=>absurd h (aco _)⟩
 |n+1,g,h1,h2=>by
  obtain⟨l,hl,hg⟩:=BD (n:=n) (g:=λi=>if g 0<g (i+1)then g (i+1)-1 else g (i+1)) (λi hi=>by
   have a:=h1 0 ab;have b:=h1 (i+1) ab;have c:=h2 0 (i+1) ab ab;split<;>omega) (λi j lI hj=>by
   have a:=h2 0 (i+1) ab ab;have b:=h2 0 (j+1) ab ab;have c:=h2 (i+1) (j+1) ab ab;split<;>split<;>omega)
  refine⟨g 0::l.map (tS (g 0)),CD.2 ⟨_,h1 0 ab,l,hl,rfl⟩,λi hi=>?_⟩;cases i with
  |zero=>rfl
  |succ i=>
   rw[ve,G8 _ _ _ (by rw[(gn hl).1];omega),hg i ab];have a:=h2 0 (i+1) ab ab;unfold tS;split<;>split<;>omega
def ix (g:Nat->Nat):Nat->Option Nat
 |0=>none
 |m+1=>if g (m+1)<g m then ix g m else some m
def kO (g:Nat->Nat)(x:Nat):Nat->Nat
 |0=>0
 |m+1=>if g (m+1)<x then kO g x m else m+1
def Hm (g:Nat->Nat)(i j:Nat)(k:Nat):Nat:=if k=j then g i else if k=i then g j else g k
def Ho (n:Nat)(g:Nat->Nat)(i:Nat)(k:Nat):Nat:=if k<=i then g k else g (n+i-k)
def mC (n:Nat)(g:Nat->Nat):Option (Nat->Nat):=
 match ix g (n-1)with
 |none=>none
 |some i=>some (Ho n (Hm g i (kO g (g i) (n-1))) i)
def R8 (n:Nat)(g h:Nat->Nat):Bool:=(List.range n).all λi=>Nat.beq (g i) (h i)
theorem kI {g h:Nat->Nat}:R8 n g h=true<->∀i,i<n->g i=h i:=by
 simp[R8]
def im (n:Nat):List (List Nat)->Bool
 |[]=>true
 |l::r=>(match mC n (pl l),r.head? with
  |none,none=>true
  |some g,some l'=>R8 n g (pl l')
  |_,_=>false)&&im n r
theorem RN:im 0 (aR 0)=true:=bR
theorem RO:im 1 (aR 1)=true:=bR
theorem RP:im 2 (aR 2)=true:=bR
theorem RQ:im 3 (aR 3)=true:=bR
theorem RT:im 4 (aR 4)=true:=bR
theorem RU:im 5 (aR 5)=true:=bR
theorem RV:im 6 (aR 6)=true:=bR
theorem Kv (h:n<=6):im n (aR n)=true:=by
 obtain rfl|rfl|rfl|rfl|rfl|rfl|rfl:n=0\/n=1\/n=2\/n=3\/n=4\/n=5\/n=6:=ab
 .exact RN
 .exact RO
 .exact RP
 .exact RQ
 .exact RT
 .exact RU
 .exact RV
theorem vH:∀{L:List (List Nat)},im n L=true->∀{k:Nat} {l:List Nat},L[k]?=some l->(∀l',L[k+1]?=some l'->∃g,mC n (pl l)=some g/\∀i,i<n->g i=pl l' i)/\(L.length<=k+1->mC n (pl l)=none)
 |[],_,k,l,h=>by simp at h
 |a::r,hc,k,l,h=>by
  rw[im,acP]at hc;cases k with
  |succ k=>
   have:=vH hc.2 (k:=k) (l:=l) qg;exact⟨λl' h'=>this.1 l' (by simpa using h'),λh'=>this.2 (by simpa using h')⟩
  |zero=>
   simp at h;subst h;have h1:=hc.1;cases r with
   |nil=>
    refine⟨λl' h'=>by simp at h',λ_=>?_⟩;cases hn:mC n (pl a)with
    |none=>rfl
    |some g=>rw[hn]at h1;simp at h1
   |cons b r=>
    refine⟨λl' h'=>?_,λh'=>by simp at h'⟩;simp at h';subst h';cases hn:mC n (pl a)with
    |none=>rw[hn]at h1;simp at h1
    |some g=>rw[hn]at h1;exact⟨g,rfl,kI.1 h1⟩
theorem Ek:∀n,n<=6->∃l,(aR n)[0]?=some l/\∀i,i<n->pl l i=i:=by
 intro n h;obtain rfl|rfl|rfl|rfl|rfl|rfl|rfl:n=0\/n=1\/n=2\/n=3\/n=4\/n=5\/n=6:=ab
 .exact⟨[],bR,λi h=>absurd h (aco _)⟩
 .exact⟨[0],bR,kI.1 bR⟩
 .exact⟨[0,1],bR,kI.1 bR⟩
 .exact⟨[0,1,2],bR,kI.1 bR⟩
 .exact⟨[0,1,2,3],bR,kI.1 bR⟩
 .exact⟨[0,1,2,3,4],bR,kI.1 bR⟩
 .exact⟨[0,1,2,3,4,5],bR,kI.1 bR⟩
theorem jq:∀n,n<=6->(aR n).length<=720/\0<(aR n).length:=by
 intro n h;obtain rfl|rfl|rfl|rfl|rfl|rfl|rfl:n=0\/n=1\/n=2\/n=3\/n=4\/n=5\/n=6:=ab
 .have e:(aR 0).length=1:=by kernel_rfl
  omega
 .have e:(aR 1).length=1:=by kernel_rfl
  omega
 .have e:(aR 2).length=2:=by kernel_rfl
  omega
 .have e:(aR 3).length=6:=by kernel_rfl
  omega
 .have e:(aR 4).length=24:=by kernel_rfl
  omega
 .have e:(aR 5).length=120:=by kernel_rfl
  omega
 .have e:(aR 6).length=720:=by kernel_rfl
  omega
end
section
open RowKit
variable {a b c:Option (List Int)}{m:Nat}{g h:Nat->Int}
def gr:List Int->List Int->Bool
 |a::l,b::r=>if a=b then gr l r else decide (a<b)
 |_,_=>false
theorem ul:∀l,gr l l=false
 |[]=>rfl
 |a::l=>by simp[gr,ul l]
theorem q8:∀{a b c:List Int},gr a b=true->gr b c=true->gr a c=true
 |[],_,_,h,_=>by simp[gr]at h
 |_::_,[],_,h,_=>by simp[gr]at h
 |_::_,_::_,[],_,h=>by simp[gr]at h
 |x::a,y::b,z::c,h,h'=>by
  simp only[gr]at h h'⊢;split at h<;>split at h'<;>split
  .exact q8 h h'
  .omega
  .omega
  .exact h'.trans cC|>λ_=>by simp at h'⊢;omega
  .simp at h h';omega
  .simp at h⊢;omega
  .simp at h h';omega
  .simp at h h'⊢;omega
theorem wy:∀{a b:List Int},a.length=b.length->gr a b=false->gr b a=false->a=b
 |[],[],_,_,_=>rfl
 |[],_::_,h,_,_=>by simp at h
 |_::_,[],h,_,_=>by simp at h
 |x::a,y::b,hl,h,h'=>by
  simp only[gr]at h h';split at h
  .rename_i e;subst e;rw[if_pos rfl]at h';rw[wy (by simpa using hl) h h']
  .rename_i e;rw[if_neg (λe'=>e e'.symm)]at h';simp at h h';omega
def dH:Option (List Int)->Option (List Int)->Bool
 |some a,some b=>gr a b
 |some _,none=>true
 |none,_=>false
theorem eP (a:Option (List Int)):dH a a=false:=by cases a<;>simp[dH,ul]
theorem pv (h:dH a b=true)(h':dH b c=true):dH a c=true:=by
 cases a<;>cases b<;>cases c<;>simp_all [dH]
 exact q8 h h'
theorem IV (hb:∀l,b=some l->l.length=m)(hc:∀l,c=some l->l.length=m)(h:dH a b=false)(h':dH c b=true)(ha:∀l,a=some l->l.length=m):dH a c=false:=by
 cases ht:dH a c with
 |false=>rfl
 |true=>rw[pv ht h']at h;cases h
theorem nH (ha:∀l,a=some l->l.length=m)(hb:∀l,b=some l->l.length=m)(hc:∀l,c=some l->l.length=m)(h:dH a b=false)(h':dH b c=false):dH a c=false:=by
 cases ht:dH a c with
 |false=>rfl
 |true=>
  cases a with
  |none=>simp[dH]at ht
  |some a=>
   cases b with
   |none=>simp[dH]at h
   |some b=>
    cases c with
    |none=>simp[dH]at h'
    |some c=>
     simp only[dH]at*;cases UE:gr c b with
     |true=>rw[q8 ht UE]at h;cases h
     |false=>
      have:=wy ((hb _ rfl).trans (hc _ rfl).symm) h' UE;subst this;rw[ht]at h;cases h
def iK (g:Nat->Int):Nat->Nat->List Int
 |0,_=>[]
 |f+1,k=>g k::iK g f (k+1)
theorem pz (g:Nat->Int):∀f k,(iK g f k).length=f
 |0,_=>rfl
 |f+1,k=>by simp[iK,pz g f]
theorem wU:∀f k,(∀i,k<=i->i<k+f->g i=h i)->iK g f k=iK h f k
 |0,_,_=>rfl
 |f+1,k,e=>by rw[iK,iK,e k ab ab,wU f (k+1) λi h1 h2=>e i ab ab]
theorem Df:∀f k,iK g f k=iK h f k->∀i,k<=i->i<k+f->g i=h i
 |0,_,_,i,h1,h2=>ab
 |f+1,k,e,i,h1,h2=>by
  rw[iK,iK,List.cons.injEq]at e;by_cases hi:i=k
  .subst hi;exact e.1
  .exact Df f (k+1) e.2 i ab ab
def fQ (f:Nat->Mv)(n:Nat)(T:Nat->Int):List Int:=sumTo f T n::cU f T n::iK T n 0
def eJ (f:Nat->Mv)(n:Nat)(b:Option (Nat->Int))(l:List Nat):Option (Nat->Int):=
 match d9 f (pl l) n with
 |none=>b
 |some T=>match b with
  |none=>some T
  |some S=>if gr (fQ f n T) (fQ f n S)=true then some T else some S
def fe (f:Nat->Mv)(n:Nat)(L:List (List Nat)):Option (Nat->Int):=L.foldl (eJ f n) none
theorem pi (f:Nat->Mv)(n:Nat)(T:Nat->Int):(fQ f n T).length=n+2:=by simp[fQ,pz]
theorem pQ (f:Nat->Mv)(n:Nat)(o:Option (Nat->Int)):∀l,o.map (fQ f n)=some l->l.length=n+2:=by
 intro l h;cases o with
 |none=>simp at h
 |some T=>simp at h;rw[<-h];exact pi f n T
theorem Eo (f:Nat->Mv)(n:Nat)(b:Option (Nat->Int))(l:List Nat):
  (eJ f n b l=b\/eJ f n b l=d9 f (pl l) n)/\dH (b.map (fQ f n)) ((eJ f n b l).map (fQ f n))=false/\dH ((d9 f (pl l) n).map (fQ f n)) ((eJ f n b l).map (fQ f n))=false:=by
 unfold eJ;cases h:d9 f (pl l) n with
 |none=>exact⟨.inl rfl,eP _,rfl⟩
 |some T=>
  cases b with
  |none=>exact⟨.inr rfl,rfl,eP _⟩
  |some S=>
   by_cases hp:gr (fQ f n T) (fQ f n S)=true
   .simp only[hp,if_true];refine⟨.inr (by trivial),?_,eP _⟩;cases hq:dH (some (fQ f n S)) (some (fQ f n T))with
    |false=>exact hq
    |true=>exact absurd (pv (a:=some (fQ f n T)) (b:=some (fQ f n S)) (c:=some (fQ f n T)) hp hq) (by rw[eP];simp)
   .simp only[hp];exact⟨.inl rfl,eP _,by simpa[dH]using hp⟩
theorem vy (f:Nat->Mv)(n:Nat):∀(L:List (List Nat)) (b:Option (Nat->Int)),(L.foldl (eJ f n) b=b\/∃l∈L,L.foldl (eJ f n) b=d9 f (pl l) n)/\dH (b.map (fQ f n)) ((L.foldl (eJ f n) b).map (fQ f n))=false/\∀l∈L,dH ((d9 f (pl l) n).map (fQ f n)) ((L.foldl (eJ f n) b).map (fQ f n))=false
 |[],b=>⟨.inl rfl,eP _,λl hl=>by simp at hl⟩
 |l::L,b=>by
  obtain⟨h1,h2,h3⟩:=Eo f n b l;obtain⟨k1,k2,k3⟩:=vy f n L (eJ f n b l);rw[List.foldl_cons];refine⟨?_,nH (pQ f n _) (pQ f n _) (pQ f n _) h2 k2,λx hx=>?_⟩
  .rcases k1 with e|⟨x,hx,e⟩
   .rw[e];exact h1.elim .inl λe=>.inr ⟨l,aH,e⟩
   .exact .inr ⟨x,by simp[hx],e⟩
  .rcases List.mem_cons.1 hx with rfl|hx
   .exact nH (pQ f n _) (pQ f n _) (pQ f n _) h3 k2
   .exact k3 x hx
end
section
open RowKit
variable {B b n m x:Nat}{a w:World}{g:Nat->Nat}
theorem fp.drew (h:fp B a w):fp B a w.drew:=⟨h.size,h.block⟩
theorem fp.drewN (h:fp B a w)(q:Nat):fp B a (w.drewN q):=⟨h.size,h.block⟩
theorem aJ.drewN {g:Nat->Int}(h:aJ w b n g)(q:Nat):aJ (w.drewN q) b n g:=h
theorem eG (h:Below B a w)(q:Nat):Below B a (w.drewN q):=⟨h.os,h.tape,h.output,h.size,h.block⟩
theorem aJ.drew {g:Nat->Int}(h:aJ w b n g):aJ w.drew b n g:=h
def Hd (h:Nat->Int)(m k:Nat)(y:Nat):Int:=if y<k\/m<=y+k then h (m-1-y)else h y
def wF (g:Nat->Int)(off:Nat)(r:Nat->Int)(x:Nat):Int:=if x<off then g x else r (x-off)
theorem C6 (b n off m cap:Nat)(g:Nat->Int)(w:World)(hn:n<=1048576)(abG:off+m=n)(aU:aJ w b n g):
  Calls Tz.prog 236 #[.slice (some ⟨b,off,none⟩) m cap] w λe w'=>(∃v,e=.returned v)/\aJ w' b n (wF g off (λy=>g (off+(m-1-y))))/\fp b w w'/\Below b w w':=by
 have oq:=aU.lt;go_enter Tz.func236,Tryz.ntmps236
 go_wp2;go_loopw [2,3] (λx y wr=>∃k:Nat,2*k<=m+1/\x=.int .i64 k/\y=.int .i64 ((m:Int)-1-k)/\aJ wr b n (wF g off (Hd (λy=>g (off+y)) m k))/\fp b w wr/\Below b w wr) (λx _ _=>m-(intOf x).toNat)
 case atStart=>exact⟨0,ab,rfl,aH,aU.congr (λi hi=>by unfold wF Hd;split;rfl;rw[if_neg ab];congr 1;omega),fp.refl _ _,aca _ _⟩
 case round=>
  obtain⟨k,hk,rfl,rfl,fC,xM,xL⟩:=hrel;by_cases aI:2*k+1<m
  .obtain⟨q,hq⟩:∃q,m=q+k+1:=⟨m-1-k,ab⟩;have e1:((m:Int)-1-k)=(q:Int):=ab;have dG:(k:Int)<q:=ab;have hqm:(q:Int)<m:=ab;have hkm:(k:Int)<m:=ab;have c1:=fC.cellAt (off+k) ab;have c2:=fC.cellAt (off+q) ab;have Qp:=λj=>fC.frozen j
   rw[e1];go_wp2;go_region
   all_goals
    go_wp2;go_roundw
    case rel=>
     refine⟨k+1,ab,by go_num,by first|(congr 1;omega)|(go_num),?_,(xM.setCell _ _).setCell _ _|>.drew,((xL.setCell (ack _) _).setCell (ack _) _).drew⟩;refine aJ.drew (((fC.set (off+k) ab _).set (off+q) ab _).congr λi hi=>?_);unfold wF Hd;by_cases h0:i<off
     .rw[if_neg ab,if_neg ab,if_pos h0,if_pos h0]
     .obtain⟨y,rfl⟩:∃y,i=off+y:=⟨i-off,ab⟩;simp only[Nat.add_sub_cancel_left];by_cases h1:y=q
      .subst h1;rw[if_pos rfl,if_neg ab,if_neg ab,if_neg ab,if_pos ab];congr 2;omega
      .by_cases h2:y=k
       .subst h2;rw[if_neg ab,if_pos rfl,if_neg ab,if_neg ab,if_neg ab,if_pos ab];try(congr 2;omega)
       .rw[if_neg ab,if_neg ab,if_neg h0,if_neg h0];by_cases h3:y<k\/m<=y+k
        .rw[if_pos ab,if_pos ab]
        .rw[if_neg ab,if_neg ab]
    case measure=>exact cf
  .go_wp2;go_end0
   refine⟨⟨_,rfl⟩,fC.congr (λi hi=>?_),xM,xL⟩;unfold wF Hd;by_cases h0:i<off
   .rw[if_pos h0,if_pos h0]
   .rw[if_neg h0,if_neg h0];by_cases h3:i-off<k\/m<=i-off+k
    .rw[if_pos h3]
    .rw[if_neg h3];congr 1;omega
theorem AD (h:g (m+1)<g m):ix g (m+1)=ix g m:=by simp[ix,h]
theorem AC (h:¬g (m+1)<g m):ix g (m+1)=some m:=by simp[ix,h]
theorem Cz (h:g (m+1)<x):kO g x (m+1)=kO g x m:=by simp[kO,h]
theorem Cy (h:¬g (m+1)<x):kO g x (m+1)=m+1:=by simp[kO,h]
theorem PV (g:Nat->Nat){n k q i:Nat}(hi:i<n)(hk:k+1<n)(hq:k<q):wF (λi=>if i=q then(g k:Int)else if i=k then(g q:Int)else(g i:Int)) (k+1) (λy=>(λi=>if i=q then(g k:Int)else if i=k then(g q:Int)else(g i:Int)) (k+1+(n-(k+1)-1-y))) i=((Ho n (Hm g k q) k i:Nat):Int):=by
 unfold wF Ho Hm;by_cases h0:i<=k
 .simp only[if_pos (show i<k+1 by omega),if_pos h0,if_neg (show¬i=q by omega)];split<;>rfl
 .have e1:k+1+(n-(k+1)-1-(i-(k+1)))=n+k-i:=by omega
  simp only[if_neg (show¬i<k+1 by omega),if_neg h0,e1];split
  .rfl
  .split<;>rfl
theorem LV (b n cap:Nat)(g:Nat->Nat)(w:World)(hn:n<=1048576)(uP:n<=cap)(aU:aJ w b n (λi=>(g i:Int))):
  Calls Tz.prog 199 #[.slice b n cap] w λe w'=>e=.returned (.bool (mC n g).isSome)/\(∀g',mC n g=some g'->aJ w' b n (λi=>(g' i:Int)))/\fp b w w'/\Below b w w':=by
 have oq:=aU.lt;go_enter Tz.func199,Tryz.ntmps199
 go_wp2;rcases acz n with hz|gh
 .subst hz;go_loopw [3] (λx wr=>x=.int .i64 (-2)/\wr=w) (λx _=>0)
  case atStart=>exact⟨by go_num,rfl⟩
  case round=>
   obtain⟨rfl,rfl⟩:=hrel;go_wp2;go_quiet (fail)
   go_wp2;go_ret;exact⟨bN rfl,λg' h=>by simp[mC,ix]at h,(fp.refl _ _).drewN _,eG (aca _ _) _⟩
 have aa8:0<n:=gh;go_loopw [3] (λx wr=>∃k:Nat,x=.int .i64 ((k:Int)-1)/\k+1<=n/\ix g (n-1)=ix g k/\aJ wr b n (λi=>(g i:Int))/\fp b w wr/\Below b w wr) (λx _=>(intOf x+1).toNat)
 case atStart=>exact⟨n-1,by go_num,ab,rfl,aU,fp.refl _ _,aca _ _⟩
 case round=>
  obtain⟨k,rfl,hk,va,fC,xM,xL⟩:=hrel;cases k with
  |zero=>
   have lp:mC n g=none:=by unfold mC;rw[va];rfl
   have HN:Hid (mC n g=none):=lp;clear lp;go_wp2;go_quiet (fail)
   go_wp2;go_ret;exact⟨bN (by rw[HN.out];rfl),λg' h=>absurd (HN.out.symm.trans h) aH,xM.drewN _,eG xL _⟩
  |succ k=>
   have e0:(((k+1:Nat):Int)-1)=(k:Int):=ab;have qo:(k:Int)<n:=ab;have abv:(k:Int)+1<n:=ab;have c1:=fC.cellAt k ab;have c2:=fC.cellAt (k+1) ab;rw[e0];by_cases hd:g (k+1)<g k
   .have La:(((g (k+1):Nat):Int)<((g k:Nat):Int)):=by omega
    go_wp2;go_quiet (fail)
    go_wp2;go_roundw
    case rel=>exact⟨k,by go_num,ab,va.trans (AD hd),fC.drewN _,xM.drewN _,eG xL _⟩
    case measure=>simp[intOf]<;>omega
   .have La:¬(((g (k+1):Nat):Int)<((g k:Nat):Int)):=by omega
    have WK:ix g (n-1)=some k:=va.trans (AC hd);have HN:Hid (mC n g=some (Ho n (Hm g k (kO g (g k) (n-1))) k)):=by unfold mC;rw[WK];exact rfl
    clear va WK;go_wp2;go_quiet (fail)
    go_wp2;go_loopw [4] (λx W=>∃q:Nat,x=.int .i64 q/\k+1<=q/\q+1<=n/\kO g (g k) (n-1)=kO g (g k) q/\aJ W b n (λi=>(g i:Int))/\fp b w W/\Below b w W) (λx _=>(intOf x).toNat)
    case atStart=>exact⟨n-1,by go_num,ab,ab,rfl,fC.drewN _,xM.drewN _,eG xL _⟩
    case round=>
     clear fC xM xL c1 c2;obtain⟨q,rfl,hkq,hqn,td,fC,xM,xL⟩:=hrel;have c1:=fC.cellAt k ab;have c2:=fC.cellAt q ab;have Xi:(q:Int)<n:=ab;by_cases hc:g q<g k
     .have Ah:(((g q:Nat):Int)<((g k:Nat):Int)):=by omega
      have hne:q≠k+1:=λe=>by subst e;exact hd hc
      obtain⟨q,rfl⟩:∃p,q=p+1:=⟨q-1,ab⟩;go_wp2;go_quiet (fail)
      go_wp2;go_roundw
      case rel=>exact⟨q,by go_num,ab,ab,td.trans (Cz hc),fC.drewN _,xM.drewN _,eG xL _⟩
      case measure=>simp[intOf]
     .have Ah:¬(((g q:Nat):Int)<((g k:Nat):Int)):=by omega
      have aae:kO g (g k) (n-1)=q:=by
       obtain⟨p,rfl⟩:∃p,q=p+1:=⟨q-1,ab⟩;exact td.trans (Cy hc)
      rw[aae]at HN;have Qp:=λj=>fC.frozen j
      have abw:(k:Int)≠q:=ab;go_wp2;go_quiet (fail)
      go_wp2;go_region
      all_goals
       go_wp2_with(go_at_call 236;refine(C6 b n (k+1) (n-(k+1)) _ _ _ hn ab (((fC.drewN _).set k ab _).set q ab _)).mono ?_;rintro e w1 ⟨⟨v1,rfl⟩,o1,t1,b1⟩)
       go_ret;refine⟨bN (by rw[HN.out];rfl),λg' h=>?_,(((xM.drewN _).setCell _ _).setCell _ _).trans t1,(((eG xL _).setCell (ack _) _).setCell (ack _) _).trans b1⟩;obtain rfl:=acr (HN.out.symm.trans h);exact o1.congr λi hi=>PV g hi ab ab
end
section
open RowKit
theorem lg {P:Program}{ops:Array Oper}{rest:List Oper}{o:Oper}{a:Act}{w:World}{Q:Exit->Act->World->Prop}(hgd:o.guard=none)(s x:Operand)(t:TypeId)
  (ho:o.op=.call {callee:=.builtin .append,args:=#[s,x],argTypes:=#[t,t]})(v vx:Value)(hs:a.eval s=v)(hx:a.eval x=vx){v':Value}{w':World}
  (hr:(Builtin.append_ #[t,t] o.type #[v,vx]).run P w=.ok v' w')(h:wpList P ops Q rest (a.put o.dst v') w'):wpList P ops Q (o::rest) a w:=by
 have hw:Region.wanted o (yielded ops a.tmps)=true:=by simp[Region.wanted,hgd]
 unfold wpList;rw[if_pos hw];refine .inl ?_;unfold Oper.wp execOp;simp only[ho,resolve,invoke,builtin,Sem.run_bind,Sem.run_pure,Result.andThen_ok,List.map_toArray,List.map_cons,List.map_nil,hs,hx,hr];exact h
def ie (w:World)(B:Nat):Prop:=∃cs,w.heap[B]?=some (.cells cs 3 (0,0))/\∀v∈cs,∃x:Int,v=.int .i64 x
theorem ie.below {B:Nat}{w w':World}{b:Nat}(h:ie w b)(hb:Below B w w')(hB:b<B):ie w' b:=by
 obtain⟨cs,h1,h2⟩:=h;exact⟨cs,(hb.block b hB).trans h1,h2⟩
theorem lu:Tz.prog.underlying 183=some (.slice 3):=bR
theorem zM (b n cap:Nat)(g:Nat->Int)(w:World)(hn:n<=1048576)(bw:b<w)(aq:aB w b 0 n g):
  ∃B c w',(Builtin.append_ #[183,183] 183 #[.slice w.heap.size 0 0,.slice b n cap]).run Tz.prog (w.alloc (.cells #[] 3))=.ok (.slice (some ⟨B,0,none⟩) n c) w'/\
   n<=c/\w.heap.size<=B/\B<w'/\ie w' B/\aB w' B 0 n g/\Below w w w':=by
 obtain⟨i0,hI,gI,fq,iF⟩:∃i0,Tz.prog.info? 3=some i0/\i0.zero=some (.int .i64 0)/\i0.size=1/\i0.bytes=8:=by
  have h:=kN;cases hI:Tz.prog.info? 3 with
  |none=>rw[hI]at h;simp at h
  |some i0=>rw[hI]at h;simp only[Option.map_some,Option.some.injEq,Prod.mk.injEq]at h;exact⟨i0,rfl,h.2.2,h.1,h.2.1⟩
 have mQ:Below w w (w.alloc (.cells #[] 3)):=(aca _ _).alloc (ack _) _;have Lr:=aq.below mQ bw;have hE:(w.alloc (.cells #[] 3)).heap[w.heap.size]?=some (.cells #[] 3 (0,0)):=heap_alloc_new _ _;let news:List Value:=(List.range n).map λj=>.int .i64 (g j)
 have Li:news.length=n*i0.size:=by simp[news,fq]
 have oU:∀j u,news[j]?=some u->(w.alloc (.cells #[] 3)).cell? ((b:Addr).add j)=some u:=λj u hu=>by
  have hj:j<n:=by rcases acu j n with h|h;exact h;rw[acw (by simp[news];exact h)]at hu;cases hu
  simp[news,hj]at hu;rw[<-hu];have:=Lr j hj;rw[show(b:Addr).add j=⟨b,0+j,none⟩ by unfold Addr.add;split<;>simp_all];exact this
 have aas:∀u∈news,u.oneCell'=true:=λu hu=>by simp[news]at hu;obtain⟨_,_,rfl⟩:=hu;rfl
 rcases acz n with hz|gh
 .subst hz;have hr:=run_append_room (P:=Tz.prog) (w.alloc (.cells #[] 3)) 183 183 3 i0 lu hI w.heap.size 0 0 #[] hE b 0 cap news Li oU aas ab (by simp[news]);refine⟨_,_,_,hr,ack _,ack _,?_,⟨_,setRow_heap _ _ _ _ _ _ hE,?_⟩,λi hi=>absurd hi (aco _),?_⟩
  .simp
  .simp[news]
  .exact⟨rfl,rfl,rfl,aH,λk hk=>(setRow_other _ _ _ _ cC).trans (mQ.block k hk)⟩
 .have hr:=run_append_grow (P:=Tz.prog) (w.alloc (.cells #[] 3)) 183 183 3 i0 (.int .i64 0) lu hI gI w.heap.size 0 0 [] aH aH b n cap news Li oU ab ab (growslice_fits ab (by rw[iF];omega));have td:=grownCap_ge (w.alloc (.cells #[] 3)) (0+n) 0 3;simp only[Nat.zero_add]at hr td;refine⟨_,_,_,hr,td,?_,?_,⟨_,heap_alloc_new _ _,?_⟩,?_,?_⟩
  .simp
  .simp
  .intro v hv;simp[news,Builtin.zeroCells,Value.cells]at hv;rcases hv with⟨j,_,rfl⟩|⟨x,_,rfl⟩
   .exact⟨_,rfl⟩
   .exact⟨0,by simp[Nat.mod_one]⟩
  .intro j hj;have hA:=heap_alloc_new (w.alloc (.cells #[] 3)).drew (.cells (#[]++news.toArray++Builtin.zeroCells (Value.int IntKind.i64 0).cells (grownCap (w.alloc (.cells #[] 3)) n 0 3-n)) 3);rw[show(⟨(w.alloc (.cells #[] 3)).heap.size,0+j,none⟩:Addr)=⟨(w.alloc (.cells #[] 3)).drew.heap.size,j,none⟩ by simp];rw[cell_of_row _ _ _ _ _ _ hA];simp[news,hj,Array.getElem?_append]
  .exact(mQ.drew).alloc aH _
theorem Ib (b n cap:Nat)(g:Nat->Int)(w:World)(hn:n<=1048576)(bw:b<w)(aq:aB w b 0 n g):
  Calls Tz.prog 200 #[.slice b n cap] w λe w'=>∃B c,e=.returned (.slice (some ⟨B,0,none⟩) n c)/\n<=c/\w.heap.size<=B/\B<w'.heap.size/\ie w' B/\aB w' B 0 n g/\Below w w w':=by
 obtain⟨B,c,w',hap,h1,h2,h3,h4,h5,h6⟩:=zM b n cap g w hn bw aq;have S6:=Go.Lib.run_eql_slice_nil (P:=Tz.prog) w 183 3 b n cap 0 0 lu;go_enter Tz.func200,Tryz.ntmps200
 go_wp2_with(refine lg rfl (.tmp 5) (.tmp 6) 183 rfl _ _ bU bU hap ?_)
 go_ret;exact⟨B,c,rfl,h1,h2,h3,h4,h5,h6⟩
end
