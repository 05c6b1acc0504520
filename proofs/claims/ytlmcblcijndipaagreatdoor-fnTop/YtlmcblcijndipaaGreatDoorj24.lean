import Derived.Test.YtlmcblcijndipaaGreatDoorj23
import Derived.Test.YtlmcblcijndipaaGreatDoorj18
set_option linter.defProp false
set_option linter.unusedVariables false
set_option maxHeartbeats 2000000
set_option maxRecDepth 10000
namespace Go.Proofs.YtlmcblcijndipaaGreatDoor
open RowKit
variable {l:List Nat}{B b m n:Nat}{g:Nat->Nat}{w w':World}
def pl (l:List Nat)(i:Nat):Nat:=l.getD i 0
def lK (x:Nat)(p:Nat):Nat:=if x<=p then p+1 else p
def aS:Nat->List (List Nat)
 |0=>[[]]
 |n+1=>(List.range<|n+1).flatMap λx=>(aS n).map λl=>x::l.map (lK x)
def R4 (x:Nat)(l:List Nat):pl (x::l) 0=x:=rfl
def ws (x:Nat)(l:List Nat)(i:Nat):pl (x::l) (i+1)=pl l i:=rfl
def JJ (x:Nat)(l:List Nat)(i:Nat)(h:i<l.length):pl (l.map<|lK x) i=lK x (pl l i):=by
 simp[pl,List.getD,h]
def EG:l∈aS (n+1)<->∃x,x<n+1/\∃l',l'∈aS n/\l=x::l'.map (lK x):=by
 simp only[aS,List.mem_flatMap,List.mem_range,List.mem_map];constructor
 .rintro⟨x,hx,l',h',rfl⟩;exact⟨x,hx,l',h',rfl⟩
 .rintro⟨x,hx,l',h',rfl⟩;exact⟨x,hx,l',h',rfl⟩
def gj:∀{n:Nat} {l:List Nat},l∈aS n->l.length=n/\(∀i,i<n->pl l i<n)/\∀i j,i<j->j<n->pl l i≠pl l j
 |0,l,h=>by
  simp[aS]at h;subst h;exact⟨rfl,λi h=>absurd h (ac7 _),λi j _ h=>absurd h (ac7 _)⟩
 |n+1,l,h=>by
  obtain⟨x,hx,l',hl,rfl⟩:=EG.1 h;obtain⟨h1,h2,h3⟩:=gj hl;refine⟨by simp[h1],λi hi=>?_,λi j kq hj=>?_⟩
  .cases i with
   |zero=>exact hx
   |succ i=>
    rw[ws,JJ _ _ _ ab];have:=h2 i ab;unfold lK;split<;>omega
  .obtain⟨j,rfl⟩:∃j',j=j'+1:=⟨j-1,ab⟩;rw[ws,JJ _ _ _ ab];cases i with
   |zero=>rw[R4];unfold lK;split<;>omega
   |succ i=>
    rw[ws,JJ _ _ _ ab];have:=h3 i j ab ab;unfold lK;split<;>split<;>omega
def wO:∀{n:Nat} {g:Nat->Nat},(∀i,i<n->g i<n)->(∀i j,i<j->j<n->g i≠g j)->∃l,l∈aS n/\∀i,i<n->pl l i=g i
 |0,g,_,_=>⟨[],by simp[aS],λi h=>absurd h (ac7 _)⟩
 |n+1,g,h1,h2=>by
  obtain⟨l,hl,hg⟩:=wO (n:=n) (g:=λi=>if g 0<g (i+1)then g (i+1)-1 else g (i+1)) (λi hi=>by
   have a:=h1 0 ab;have b:=h1 (i+1) ab;have c:=h2 0 (i+1) ab ab;split<;>omega) (λi j kq hj=>by
   have a:=h2 0 (i+1) ab ab;have b:=h2 0 (j+1) ab ab;have c:=h2 (i+1) (j+1) ab ab;split<;>split<;>omega)
  refine⟨g 0::l.map (lK (g 0)),EG.2 ⟨_,h1 0 ab,l,hl,rfl⟩,λi hi=>?_⟩;cases i with
  |zero=>rfl
  |succ i=>
   rw[ws,JJ _ _ _ (by rw[(gj hl).1];omega),hg i ab];have a:=h2 0 (i+1) ab ab;unfold lK;split<;>split<;>omega
def iN (g:Nat->Nat):Nat->Option Nat
 |0=>none
 |m+1=>if g (m+1)<g m then iN g m else some m
def lj (g:Nat->Nat)(x:Nat):Nat->Nat
 |0=>0
 |m+1=>if g (m+1)<x then lj g x m else m+1
def JU (g:Nat->Nat)(i j:Nat)(k:Nat):Nat:=if k=j then g i else if k=i then g j else g k
def JW (n:Nat)(g:Nat->Nat)(i:Nat)(k:Nat):Nat:=if k<=i then g k else g (n+i-k)
def nk (n:Nat)(g:Nat->Nat):Option (Nat->Nat):=
 match iN g (n-1)with
 |none=>none
 |some i=>some<|JW n (JU g i<|lj g (g i)<|n-1) i
def UY (n:Nat)(g h:Nat->Nat):Bool:=(List.range n).all λi=>Nat.beq (g i)<|h i
def kX {h:Nat->Nat}:UY n g h=true<->∀i,i<n->g i=h i:=by
 simp[UY]
def iI (n:Nat):List (List Nat)->Bool
 |[]=>true
 |l::r=>(match nk n (pl l),r.head? with
  |none,none=>true
  |some g,some l'=>UY n g (pl l')
  |_,_=>false)&&iI n r
def UE:iI 0 (aS 0)=true:=bj
def UF:iI 1 (aS 1)=true:=bj
def UG:iI 2 (aS 2)=true:=bj
def UH:iI 3 (aS 3)=true:=bj
def UI:iI 4 (aS 4)=true:=bj
def UJ:iI 5 (aS 5)=true:=bj
def UK:iI 6 (aS 6)=true:=bj
def MV (h:n<=6):iI n (aS n)=true:=by
 obtain rfl|rfl|rfl|rfl|rfl|rfl|rfl:n=0\/n=1\/n=2\/n=3\/n=4\/n=5\/n=6:=ab
 .exact UE
 .exact UF
 .exact UG
 .exact UH
 .exact UI
 .exact UJ
 .exact UK
def wX:∀{L:List (List Nat)},iI n L=true->∀{k:Nat} {l:List Nat},L[k]?=some l->(∀l',L[k+1]?=some l'->∃g,nk n (pl l)=some g/\∀i,i<n->g i=pl l' i)/\(L.length<=k+1->nk n (pl l)=none)
 |[],_,k,l,h=>by simp at h
 |a::r,hc,k,l,h=>by
  rw[iI,adx]at hc;cases k with
  |succ k=>
   have:=wX hc.2 (k:=k) (l:=l) qJ;exact⟨λl' h'=>this.1 l'<|by simpa using h',λh'=>this.2<|by simpa using h'⟩
  |zero=>
   simp at h;subst h;have h1:=hc.1;cases r with
   |nil=>
    refine⟨λl' h'=>by simp at h',λ_=>?_⟩;cases hn:nk n (pl a)with
    |none=>rfl
    |some g=>rw[hn]at h1;simp at h1
   |cons b r=>
    refine⟨λl' h'=>?_,λh'=>by simp at h'⟩;simp at h';subst h';cases hn:nk n (pl a)with
    |none=>rw[hn]at h1;simp at h1
    |some g=>rw[hn]at h1;exact⟨g,rfl,kX.1 h1⟩
def Gp:∀n,n<=6->∃l,(aS n)[0]?=some l/\∀i,i<n->pl l i=i:=by
 intro n h;obtain rfl|rfl|rfl|rfl|rfl|rfl|rfl:n=0\/n=1\/n=2\/n=3\/n=4\/n=5\/n=6:=ab
 .exact⟨[],bj,λi h=>absurd h<|ac7 _⟩
 .exact⟨[0],bj,kX.1 bj⟩
 .exact⟨[0,1],bj,kX.1 bj⟩
 .exact⟨[0,1,2],bj,kX.1 bj⟩
 .exact⟨[0,1,2,3],bj,kX.1 bj⟩
 .exact⟨[0,1,2,3,4],bj,kX.1 bj⟩
 .exact⟨[0,1,2,3,4,5],bj,kX.1 bj⟩
def jE:∀n,n<=6->(aS n).length<=720/\0<(aS n).length:=by
 intro n h;obtain rfl|rfl|rfl|rfl|rfl|rfl|rfl:n=0\/n=1\/n=2\/n=3\/n=4\/n=5\/n=6:=ab
 .have e:(aS 0).length=1:=by kernel_rfl
  omega
 .have e:(aS 1).length=1:=by kernel_rfl
  omega
 .have e:(aS 2).length=2:=by kernel_rfl
  omega
 .have e:(aS 3).length=6:=by kernel_rfl
  omega
 .have e:(aS 4).length=24:=by kernel_rfl
  omega
 .have e:(aS 5).length=120:=by kernel_rfl
  omega
 .have e:(aS 6).length=720:=by kernel_rfl
  omega
section
variable {a b c:Option (List Int)}{g h:Nat->Int}
def gS:List Int->List Int->Bool
 |a::l,b::r=>if a=b then gS l r else decide (a<b)
 |_,_=>false
def vf:∀l,gS l l=false
 |[]=>rfl
 |a::l=>by simp[gS,vf l]
def rZ:∀{a b c:List Int},gS a b=true->gS b c=true->gS a c=true
 |[],_,_,h,_=>by simp[gS]at h
 |_::_,[],_,h,_=>by simp[gS]at h
 |_::_,_::_,[],_,h=>by simp[gS]at h
 |x::a,y::b,z::c,h,h'=>by
  simp only[gS]at h h'⊢;split at h<;>split at h'<;>split
  .exact rZ h h'
  .omega
  .omega
  .exact h'.trans cH|>λ_=>by simp at h'⊢;omega
  .simp at h h';omega
  .simp at h⊢;omega
  .simp at h h';omega
  .simp at h h'⊢;omega
def x9:∀{a b:List Int},a.length=b.length->gS a b=false->gS b a=false->a=b
 |[],[],_,_,_=>rfl
 |[],_::_,h,_,_=>by simp at h
 |_::_,[],h,_,_=>by simp at h
 |x::a,y::b,hl,h,h'=>by
  simp only[gS]at h h';split at h
  .rename_i e;subst e;rw[if_pos rfl]at h';rw[x9 (by simpa using hl) h h']
  .rename_i e;rw[if_neg (λe'=>e e'.symm)]at h';simp at h h';omega
def dD:Option (List Int)->Option (List Int)->Bool
 |some a,some b=>gS a b
 |some _,none=>true
 |none,_=>false
def fh (a:Option (List Int)):dD a a=false:=by cases a<;>simp[dD,vf]
def pX (h:dD a b=true)(h':dD b c=true):dD a c=true:=by
 cases a<;>cases b<;>cases c<;>simp_all [dD]
 exact rZ h h'
def K8 (hb:∀l,b=some l->l.length=m)(hc:∀l,c=some l->l.length=m)(h:dD a b=false)(h':dD c b=true)(ha:∀l,a=some l->l.length=m):dD a c=false:=by
 cases ht:dD a c with
 |false=>rfl
 |true=>rw[pX ht h']at h;cases h
def oG (ha:∀l,a=some l->l.length=m)(hb:∀l,b=some l->l.length=m)(hc:∀l,c=some l->l.length=m)(h:dD a b=false)(h':dD b c=false):dD a c=false:=by
 cases ht:dD a c with
 |false=>rfl
 |true=>
  cases a with
  |none=>simp[dD]at ht
  |some a=>
   cases b with
   |none=>simp[dD]at h
   |some b=>
    cases c with
    |none=>simp[dD]at h'
    |some c=>
     simp only[dD]at*;cases XC:gS c b with
     |true=>rw[rZ ht XC]at h;cases h
     |false=>
      have:=x9 ((hb _ rfl).trans (hc _ rfl).symm) h' XC;subst this;rw[ht]at h;cases h
def iZ (g:Nat->Int):Nat->Nat->List Int
 |0,_=>[]
 |f+1,k=>g k::iZ g f (k+1)
def p9 (g:Nat->Int):∀f k,(iZ g f k).length=f
 |0,_=>rfl
 |f+1,k=>by simp[iZ,p9 g f]
def yF:∀f k,(∀i,k<=i->i<k+f->g i=h i)->iZ g f k=iZ h f k
 |0,_,_=>rfl
 |f+1,k,e=>by rw[iZ,iZ,e k ab ab,yF f (k+1) λi h1 h2=>e i ab ab]
def Fm:∀f k,iZ g f k=iZ h f k->∀i,k<=i->i<k+f->g i=h i
 |0,_,_,i,h1,h2=>ab
 |f+1,k,e,i,h1,h2=>by
  rw[iZ,iZ,List.cons.injEq]at e;by_cases hi:i=k
  .subst hi;exact e.1
  .exact Fm f (k+1) e.2 i ab ab
def ge (f:Nat->Mv)(n:Nat)(T:Nat->Int):List Int:=sumTo f T n::cW f T n::iZ T n 0
def fe (f:Nat->Mv)(n:Nat)(b:Option (Nat->Int))(l:List Nat):Option (Nat->Int):=
 match eB f (pl l) n with
 |none=>b
 |some T=>match b with
  |none=>some T
  |some S=>if gS (ge f n T) (ge f n S)=true then some T else some S
def fd (f:Nat->Mv)(n:Nat)(L:List (List Nat)):Option (Nat->Int):=L.foldl (fe f n) none
def pQ (f:Nat->Mv)(n:Nat)(T:Nat->Int):(ge f n T).length=n+2:=by simp[ge,p9]
def qq (f:Nat->Mv)(n:Nat)(o:Option (Nat->Int)):∀l,o.map (ge f n)=some l->l.length=n+2:=by
 intro l h;cases o with
 |none=>simp at h
 |some T=>simp at h;rw[<-h];exact pQ f n T
def Gt (f:Nat->Mv)(n:Nat)(b:Option (Nat->Int))(l:List Nat):
  (fe f n b l=b\/fe f n b l=eB f (pl l) n)/\dD (b.map<|ge f n) ((fe f n b l).map<|ge f n)=false/\dD ((eB f (pl l) n).map<|ge f n) ((fe f n b l).map<|ge f n)=false:=by
 unfold fe;cases h:eB f (pl l) n with
 |none=>exact⟨.inl rfl,fh _,rfl⟩
 |some T=>
  cases b with
  |none=>exact⟨.inr rfl,rfl,fh _⟩
  |some S=>
   by_cases hp:gS (ge f n T) (ge f n S)=true
   .simp only[hp,if_true];refine⟨.inr<|by trivial,?_,fh _⟩;cases hq:dD (some<|ge f n S) (some<|ge f n T)with
    |false=>exact hq
    |true=>exact absurd (pX (a:=some<|ge f n T) (b:=some<|ge f n S) (c:=some<|ge f n T) hp hq) (by rw[fh];simp)
   .simp only[hp];exact⟨.inl rfl,fh _,by simpa[dD]using hp⟩
def sQ (f:Nat->Mv)(n:Nat):∀(L:List (List Nat)) (b:Option (Nat->Int)),(L.foldl (fe f n) b=b\/∃l∈L,L.foldl (fe f n) b=eB f (pl l) n)/\dD (b.map<|ge f n) ((L.foldl (fe f n) b).map<|ge f n)=false/\∀l∈L,dD ((eB f (pl l) n).map<|ge f n) ((L.foldl (fe f n) b).map<|ge f n)=false
 |[],b=>⟨.inl rfl,fh _,λl hl=>by simp at hl⟩
 |l::L,b=>by
  let⟨h1,h2,h3⟩:=Gt f n b l;let⟨k1,k2,k3⟩:=sQ f n L<|fe f n b l;rw[List.foldl_cons];refine⟨?_,oG (qq f n _) (qq f n _) (qq f n _) h2 k2,λx hx=>?_⟩
  .rcases k1 with e|⟨x,hx,e⟩
   .rw[e];exact h1.elim .inl λe=>.inr ⟨l,aG,e⟩
   .exact .inr ⟨x,by simp[hx],e⟩
  .rcases List.mem_cons.1 hx with rfl|hx
   .exact oG (qq f n _) (qq f n _) (qq f n _) h3 k2
   .exact k3 x hx
end
section
variable {x:Nat}{a:World}
def ja.drew (h:ja B a w):ja B a w.drew:=⟨h.size,h.block⟩
def ja.drewN (h:ja B a w)(q:Nat):ja B a (w.drewN q):=⟨h.size,h.block⟩
def aC.drewN {g:Nat->Int}(h:aC w b n g)(q:Nat):aC (w.drewN q) b n g:=h
def fc (h:Below B a w)(q:Nat):Below B a (w.drewN q):=⟨h.os,h.tape,h.output,h.size,h.block⟩
def aC.drew {g:Nat->Int}(h:aC w b n g):aC w.drew b n g:=h
def JM (h:Nat->Int)(m k:Nat)(y:Nat):Int:=if y<k\/m<=y+k then h (m-1-y)else h y
def yk (g:Nat->Int)(off:Nat)(r:Nat->Int)(x:Nat):Int:=if x<off then g x else r (x-off)
def Ff (b n off m cap:Nat)(g:Nat->Int)(w:World)(hn:n<=1048576)(acp:off+m=n)(bc:aC w b n g):
  Calls Tz.prog 236 #[.slice (some ⟨b,off,none⟩) m cap] w λe w'=>(∃v,e=.returned v)/\aC w' b n (yk g off λy=>g<|off+(m-1-y))/\ja b w w'/\Below b w w':=by
 have pa:=bc.lt;go_enter Tz.func236,Tryz.ntmps236
 go_wp2;go_loopw [2,3] (λx y wr=>∃k:Nat,2*k<=m+1/\x=.int .i64 k/\y=.int .i64 ((m:Int)-1-k)/\aC wr b n (yk g off<|JM (λy=>g<|off+y) m k)/\ja b w wr/\Below b w wr) (λx _ _=>m-(intOf x).toNat)
 case atStart=>exact⟨0,ab,rfl,aG,bc.congr (λi hi=>by unfold yk JM;split;rfl;rw[if_neg ab];congr 1;omega),ja.refl _ _,acU _ _⟩
 case round=>
  obtain⟨k,hk,rfl,rfl,fP,zr,zq⟩:=hrel;by_cases ay:2*k+1<m
  .obtain⟨q,hq⟩:∃q,m=q+k+1:=⟨m-1-k,ab⟩;have e1:((m:Int)-1-k)=(q:Int):=ab;have dq:(k:Int)<q:=ab;have hqm:(q:Int)<m:=ab;have hkm:(k:Int)<m:=ab;have c1:=fP.cellAt (off+k) ab;have c2:=fP.cellAt (off+q) ab;have I8:=λj=>fP.frozen j
   rw[e1];go_wp2;go_region
   all_goals
    go_wp2;go_roundw
    case rel=>
     refine⟨k+1,ab,by go_num,by first|(congr 1;omega)|(go_num),?_,(zr.setCell _ _).setCell _ _|>.drew,((zq.setCell (ac3 _) _).setCell (ac3 _) _).drew⟩;refine aC.drew<|((fP.set (off+k) ab _).set (off+q) ab _).congr λi hi=>?_;unfold yk JM;by_cases h0:i<off
     .rw[if_neg ab,if_neg ab,if_pos h0,if_pos h0]
     .obtain⟨y,rfl⟩:∃y,i=off+y:=⟨i-off,ab⟩;simp only[Nat.add_sub_cancel_left];by_cases h1:y=q
      .subst h1;rw[if_pos rfl,if_neg ab,if_neg ab,if_neg ab,if_pos ab];congr 2;omega
      .by_cases h2:y=k
       .subst h2;rw[if_neg ab,if_pos rfl,if_neg ab,if_neg ab,if_neg ab,if_pos ab];try(congr 2;omega)
       .rw[if_neg ab,if_neg ab,if_neg h0,if_neg h0];by_cases h3:y<k\/m<=y+k
        .rw[if_pos ab,if_pos ab]
        .rw[if_neg ab,if_neg ab]
    case measure=>exact bZ
  .go_wp2;go_end0
   refine⟨⟨_,rfl⟩,fP.congr λi hi=>?_,zr,zq⟩;unfold yk JM;by_cases h0:i<off
   .rw[if_pos h0,if_pos h0]
   .rw[if_neg h0,if_neg h0];by_cases h3:i-off<k\/m<=i-off+k
    .rw[if_pos h3]
    .rw[if_neg h3];congr 1;omega
def CH (h:g (m+1)<g m):iN g (m+1)=iN g m:=by simp[iN,h]
def CG (h:¬g (m+1)<g m):iN g (m+1)=some m:=by simp[iN,h]
def EC (h:g (m+1)<x):lj g x (m+1)=lj g x m:=by simp[lj,h]
def EB (h:¬g (m+1)<x):lj g x (m+1)=m+1:=by simp[lj,h]
def SE (g:Nat->Nat){k q i:Nat}(hi:i<n)(hk:k+1<n)(hq:k<q):yk (λi=>if i=q then(g k:Int)else if i=k then(g q:Int)else(g i:Int)) (k+1) (λy=>(λi=>if i=q then(g k:Int)else if i=k then(g q:Int)else(g i:Int))<|k+1+(n-(k+1)-1-y)) i=((JW n (JU g k q) k i:Nat):Int):=by
 unfold yk JW JU;by_cases h0:i<=k
 .simp only[if_pos (show i<k+1 by omega),if_pos h0,if_neg (show¬i=q by omega)];split<;>rfl
 .have e1:k+1+(n-(k+1)-1-(i-(k+1)))=n+k-i:=by omega
  simp only[if_neg (show¬i<k+1 by omega),if_neg h0,e1];split
  .rfl
  .split<;>rfl
def Oy (b n cap:Nat)(g:Nat->Nat)(w:World)(hn:n<=1048576)(xE:n<=cap)(bc:aC w b n (λi=>(g i:Int))):
  Calls Tz.prog 199 #[.slice b n cap] w λe w'=>e=.returned (.bool (nk n g).isSome)/\(∀g',nk n g=some g'->aC w' b n (λi=>(g' i:Int)))/\ja b w w'/\Below b w w':=by
 have pa:=bc.lt;go_enter Tz.func199,Tryz.ntmps199
 go_wp2;rcases adh n with hz|gO
 .subst hz;go_loopw [3] (λx wr=>x=.int .i64 (-2)/\wr=w) (λx _=>0)
  case atStart=>exact⟨by go_num,rfl⟩
  case round=>
   obtain⟨rfl,rfl⟩:=hrel;go_wp2;go_quiet (fail)
   go_wp2;go_ret;exact⟨bQ rfl,λg' h=>by simp[nk,iN]at h,(ja.refl _ _).drewN _,fc (acU _ _) _⟩
 have abU:0<n:=gO;go_loopw [3] (λx wr=>∃k:Nat,x=.int .i64 ((k:Int)-1)/\k+1<=n/\iN g (n-1)=iN g k/\aC wr b n (λi=>(g i:Int))/\ja b w wr/\Below b w wr) (λx _=>(intOf x+1).toNat)
 case atStart=>exact⟨n-1,by go_num,ab,rfl,bc,ja.refl _ _,acU _ _⟩
 case round=>
  obtain⟨k,rfl,hk,GW,fP,zr,zq⟩:=hrel;cases k with
  |zero=>
   have lQ:nk n g=none:=by unfold nk;rw[GW];rfl
   have HN:Hid (nk n g=none):=lQ;clear lQ;go_wp2;go_quiet (fail)
   go_wp2;go_ret;exact⟨bQ (by rw[HN.out];rfl),λg' h=>absurd (HN.out.symm.trans h) aG,zr.drewN _,fc zq _⟩
  |succ k=>
   have e0:(((k+1:Nat):Int)-1)=(k:Int):=ab;have tS:(k:Int)<n:=ab;have ace:(k:Int)+1<n:=ab;have c1:=fP.cellAt k ab;have c2:=fP.cellAt (k+1) ab;rw[e0];by_cases hd:g (k+1)<g k
   .have Zd:(((g (k+1):Nat):Int)<((g k:Nat):Int)):=by omega
    go_wp2;go_quiet (fail)
    go_wp2;go_roundw
    case rel=>exact⟨k,by go_num,ab,GW.trans<|CH hd,fP.drewN _,zr.drewN _,fc zq _⟩
    case measure=>simp[intOf]<;>omega
   .have Zd:¬(((g (k+1):Nat):Int)<((g k:Nat):Int)):=by omega
    have Zw:iN g (n-1)=some k:=GW.trans<|CG hd;have HN:Hid (nk n g=some (JW n (JU g k<|lj g (g k)<|n-1) k)):=by unfold nk;rw[Zw];exact rfl
    clear GW Zw;go_wp2;go_quiet (fail)
    go_wp2;go_loopw [4] (λx W=>∃q:Nat,x=.int .i64 q/\k+1<=q/\q+1<=n/\lj g (g k) (n-1)=lj g (g k) q/\aC W b n (λi=>(g i:Int))/\ja b w W/\Below b w W) (λx _=>(intOf x).toNat)
    case atStart=>exact⟨n-1,by go_num,ab,ab,rfl,fP.drewN _,zr.drewN _,fc zq _⟩
    case round=>
     clear fP zr zq c1 c2;obtain⟨q,rfl,hkq,hqn,tR,fP,zr,zq⟩:=hrel;have c1:=fP.cellAt k ab;have c2:=fP.cellAt q ab;have ZS:(q:Int)<n:=ab;by_cases hc:g q<g k
     .have Ci:(((g q:Nat):Int)<((g k:Nat):Int)):=by omega
      have hne:q≠k+1:=λe=>by subst e;exact hd hc
      obtain⟨q,rfl⟩:∃p,q=p+1:=⟨q-1,ab⟩;go_wp2;go_quiet (fail)
      go_wp2;go_roundw
      case rel=>exact⟨q,by go_num,ab,ab,tR.trans<|EC hc,fP.drewN _,zr.drewN _,fc zq _⟩
      case measure=>simp[intOf]
     .have Ci:¬(((g q:Nat):Int)<((g k:Nat):Int)):=by omega
      have aa2:lj g (g k) (n-1)=q:=by
       obtain⟨p,rfl⟩:∃p,q=p+1:=⟨q-1,ab⟩;exact tR.trans<|EB hc
      rw[aa2]at HN;have I8:=λj=>fP.frozen j
      have acf:(k:Int)≠q:=ab;go_wp2;go_quiet (fail)
      go_wp2;go_region
      all_goals
       go_wp2_with(go_at_call 236;refine(Ff b n (k+1) (n-(k+1)) _ _ _ hn ab<|((fP.drewN _).set k ab _).set q ab _).mono ?_;rintro e w1 ⟨⟨v1,rfl⟩,o1,t1,b1⟩)
       go_ret;refine⟨bQ (by rw[HN.out];rfl),λg' h=>?_,(((zr.drewN _).setCell _ _).setCell _ _).trans t1,(((fc zq _).setCell (ac3 _) _).setCell (ac3 _) _).trans b1⟩;obtain rfl:=ac9<|HN.out.symm.trans h;exact o1.congr λi hi=>SE g hi ab ab
end
def wpList_append_run {P:Program}{ops:Array Oper}{rest:List Oper}{o:Oper}{a:Act}{Q:Exit->Act->World->Prop}(KG:o.guard=none)(s x:Operand)(t:TypeId)
  (ho:o.op=.call {callee:=.builtin .append,args:=#[s,x],argTypes:=#[t,t]})(v vx:Value)(hs:a.eval s=v)(hx:a.eval x=vx){v':Value}
  (hr:(Builtin.append_ #[t,t] o.type #[v,vx]).run P w=.ok v' w')(h:wpList P ops Q rest (a.put o.dst v') w'):wpList P ops Q (o::rest) a w:=by
 have hw:Region.wanted o (yielded ops a.tmps)=true:=by simp[Region.wanted,KG]
 unfold wpList;rw[if_pos hw];refine .inl ?_;unfold Oper.wp execOp;simp only[ho,resolve,invoke,builtin,Sem.run_bind,Sem.run_pure,Result.andThen_ok,List.map_toArray,List.map_cons,List.map_nil,hs,hx,hr];exact h
def iE (w:World)(B:Nat):Prop:=∃cs,w.heap[B]?=some (.cells cs 3 (0,0))/\∀v∈cs,∃x:Int,v=.int .i64 x
def iE.below (h:iE w b)(hb:Below B w w')(hB:b<B):iE w' b:=by
 let⟨cs,h1,h2⟩:=h;exact⟨cs,(hb.block b hB).trans h1,h2⟩
def mc:Tz.prog.underlying 183=some (.slice 3):=bj
def BH (b n cap:Nat)(g:Nat->Int)(w:World)(hn:n<=1048576)(bz:b<w)(am:aA w b 0 n g):
  ∃B c w',(Builtin.append_ #[183,183] 183 #[.slice w.heap.size 0 0,.slice b n cap]).run Tz.prog (w.alloc<|.cells #[] 3)=.ok (.slice (some ⟨B,0,none⟩) n c) w'/\
   n<=c/\w.heap.size<=B/\B<w'/\iE w' B/\aA w' B 0 n g/\Below w w w':=by
 obtain⟨i0,hI,gE,eG,ga⟩:∃i0,Tz.prog.info? 3=some i0/\i0.zero=some (.int .i64 0)/\i0.size=1/\i0.bytes=8:=by
  have h:=li;cases hI:Tz.prog.info? 3 with
  |none=>rw[hI]at h;simp at h
  |some i0=>rw[hI]at h;simp only[Option.map_some,Option.some.injEq,Prod.mk.injEq]at h;exact⟨i0,rfl,h.2.2,h.1,h.2.1⟩
 have lY:Below w w (w.alloc<|.cells #[] 3):=(acU _ _).alloc (ac3 _) _;have NU:=am.below lY bz;have hE:(w.alloc<|.cells #[] 3).heap[w.heap.size]?=some (.cells #[] 3 (0,0)):=heap_alloc_new _ _;let news:List Value:=(List.range n).map λj=>.int .i64<|g j
 have KI:news.length=n*i0.size:=by simp[news,eG]
 have gq:∀j u,news[j]?=some u->(w.alloc<|.cells #[] 3).cell? ((b:Addr).add j)=some u:=λj u hu=>by
  have hj:j<n:=by rcases adb j n with h|h;exact h;rw[ade (by simp[news];exact h)]at hu;cases hu
  simp[news,hj]at hu;rw[<-hu];have:=NU j hj;rw[show(b:Addr).add j=⟨b,0+j,none⟩ by unfold Addr.add;split<;>simp_all];exact this
 have xJ:∀u∈news,u.oneCell'=true:=λu hu=>by simp[news]at hu;obtain⟨_,_,rfl⟩:=hu;rfl
 rcases adh n with hz|gO
 .subst hz;have hr:=run_append_room (P:=Tz.prog) (w.alloc<|.cells #[] 3) 183 183 3 i0 mc hI w.heap.size 0 0 #[] hE b 0 cap news KI gq xJ ab (by simp[news]);refine⟨_,_,_,hr,ac3 _,ac3 _,?_,⟨_,setRow_heap _ _ _ _ _ _ hE,?_⟩,λi hi=>absurd hi<|ac7 _,?_⟩
  .simp
  .simp[news]
  .exact⟨rfl,rfl,rfl,aG,λk hk=>(setRow_other _ _ _ _ cH).trans<|lY.block k hk⟩
 .have hr:=run_append_grow (P:=Tz.prog) (w.alloc<|.cells #[] 3) 183 183 3 i0 (.int .i64 0) mc hI gE w.heap.size 0 0 [] aG aG b n cap news KI gq ab ab (growslice_fits ab<|by rw[ga];omega);have tR:=grownCap_ge (w.alloc<|.cells #[] 3) (0+n) 0 3;simp only[Nat.zero_add]at hr tR;refine⟨_,_,_,hr,tR,?_,?_,⟨_,heap_alloc_new _ _,?_⟩,?_,?_⟩
  .simp
  .simp
  .intro v hv;simp[news,Builtin.zeroCells,Value.cells]at hv;rcases hv with⟨j,_,rfl⟩|⟨x,_,rfl⟩
   .exact⟨_,rfl⟩
   .exact⟨0,by simp[Nat.mod_one]⟩
  .intro j hj;have hA:=heap_alloc_new (w.alloc<|.cells #[] 3).drew<|.cells (#[]++news.toArray++Builtin.zeroCells (Value.int IntKind.i64 0).cells (grownCap (w.alloc<|.cells #[] 3) n 0 3-n)) 3;rw[show(⟨(w.alloc<|.cells #[] 3).heap.size,0+j,none⟩:Addr)=⟨(w.alloc<|.cells #[] 3).drew.heap.size,j,none⟩ by simp];rw[cell_of_row _ _ _ _ _ _ hA];simp[news,hj,Array.getElem?_append]
  .exact(lY.drew).alloc aG _
def Kh (b n cap:Nat)(g:Nat->Int)(w:World)(hn:n<=1048576)(bz:b<w)(am:aA w b 0 n g):
  Calls Tz.prog 200 #[.slice b n cap] w λe w'=>∃B c,e=.returned (.slice (some ⟨B,0,none⟩) n c)/\n<=c/\w.heap.size<=B/\B<w'.heap.size/\iE w' B/\aA w' B 0 n g/\Below w w w':=by
 let⟨B,c,w',qS,h1,h2,h3,h4,h5,h6⟩:=BH b n cap g w hn bz am;have Rx:=Go.Lib.run_eql_slice_nil (P:=Tz.prog) w 183 3 b n cap 0 0 mc;go_enter Tz.func200,Tryz.ntmps200
 go_wp2_with(refine wpList_append_run rfl (.tmp 5) (.tmp 6) 183 rfl _ _ bD bD qS ?_)
 go_ret;exact⟨B,c,rfl,h1,h2,h3,h4,h5,h6⟩
