import Derived.Test.YtjoalkgmgmmedaaGreatDoorj13
import Derived.Test.YtjoalkgmgmmedaaGreatDoorj12e
import Derived.Laws.CopyOwn
set_option linter.defProp false
set_option linter.unusedVariables false
set_option maxHeartbeats 2000000
set_option maxRecDepth 10000
open Go renaming setCell_eq_setRow->av,setRow_heap->ay,World->aE,Calls->aN,setRow_setRow->a7,below_setRow->a8,setRow_other->a9,setRow_size->bb
open Go.Ending renaming returned->au
open Go.Value renaming int->aa,slice->ad,bool->ai,string->ao
open Go.World renaming cell?->ac,frozen?->aL,cell?_alloc_some->a6
namespace Go.Proofs.YtjoalkgmgmmedaaGreatDoor
open RowKit
variable {b n:Nat}{p:Prop}{w:aE}
def UU (m:Mv)(w):
  aN Tz.prog 222 #[.agg #[m.name,m.ax,m.aI,m.cE,m.late,m.prom]] w λe w'=>e=au m.key/\w'=w.alloc (.cells #[m.name,m.ax,m.aI,m.cE,m.late,m.prom] 55):=by
 by_cases h:0<=m.prom
 .go_enter Tz.func222,Tryz.ntmps222
  go_wp2;go_ret;exact⟨ii (by unfold Mv.key;rw[if_pos h]),rfl⟩
 go_enter Tz.func222,Tryz.ntmps222
 go_wp2;go_ret;simp_all [Mv.key,if_neg]
def Ux (m:Mv)(w):
  aN Tz.prog 110 #[.agg #[m.name,m.ax,m.aI,m.cE,m.late,m.prom]] w λe w'=>e=au m.key/\Below w w w':=by
 by_cases h:0<=m.prom
 .go_enter Tz.func110,Tryz.ntmps110
  go_wp2;go_ret;exact⟨ii (by unfold Mv.key;rw[if_pos h]),(afB _ _).alloc ab _⟩
 go_enter Tz.func110,Tryz.ntmps110
 go_wp2;go_ret;exact⟨ii<|by simp_all [Mv.key,if_neg],(afB _ _).alloc ab _⟩
def qj (a b:Int)(w):
  aN Tz.prog 77 #[a,b] w λe w'=>e=au (kX a b)/\w'=w:=by
 by_cases h:a<b
 .go_enter Tz.func77,Tryz.ntmps77
  go_wp2;go_ret;exact⟨ii (by unfold kX;rw[if_pos h]),rfl⟩
 by_cases c:b<a
 .go_enter Tz.func77,Tryz.ntmps77
  go_wp2;go_ret;exact⟨ii (by unfold kX;rw[if_neg ab,if_pos c]),rfl⟩
 go_enter Tz.func77,Tryz.ntmps77
 go_wp2;go_ret;simp_all [kX,if_neg]
def aee (x9:p:=by
  go_enter Tz.func223,Tryz.ntmps223
  go_wp2;go_ret;exact⟨ii HC.out.symm,rfl⟩):p:=x9
def acx (x9:p:=by
  unfold cr at h;unfold de at h';go_enter Tz.func223,Tryz.ntmps223
  go_wp2;go_ret;exact⟨ii HC.out.symm,rfl⟩):p:=x9
def OW (a b:ByteArray)(w):
  aN Tz.prog 223 #[a,b] w λe w'=>e=au (vp a b)/\w'=w:=by
 cases h:cr a b with
 |true=>
  have c:vp a b=-1:=by unfold vp;grind
  have HC:Hid (vp a b=-1):=c;unfold cr at h;exact aee
 |false=>
  cases h':de a b with
  |true=>
   have c:vp a b=0:=by unfold vp;grind
   have HC:Hid (vp a b=0):=c;exact acx
  |false=>
   have c:vp a b=1:=by unfold vp;grind
   have HC:Hid (vp a b=1):=c;exact acx
def adX (c:Nat->Int)(k:Nat):Prop:=∀i,i<k->c i=0
def Z5 b (c:Nat->Int)(w:aE)(hc:∀i,i<3->w.cell? ⟨b,i,none⟩=some (aa .i64<|c i)):
  aN Tz.prog 207 #[ad b 3 3] w λe w'=>e=au (aa .i64<|Lh (c 0) (c 1)<|c 2)/\w'=w:=by
 go_enter Tz.func207,Tryz.ntmps207
 go_wp2;go_loop [8] (λi=>∃k:Nat,k<=3/\i=aa .i64 k/\adX c k) (λi=>3-(intOf i).toNat)
 .exact⟨0,afP _,rfl,λi s=>absurd s ab⟩
 obtain⟨k,hk,rfl,q⟩:=hrel;by_cases t:k<3
 .have x:=hc k t;have y:(k:Int)<3:=ab;cases u:(c k !=0)with
  |true=>
   have f:Lh (c 0) (c 1) (c 2)=c k:=by
    have z:c k≠0:=cO;unfold Lh;by_cases A:k=0
    .grind
    rw[if_pos (q 0 ab)];by_cases B:k=1
    .grind
    rw[if_pos (q 1 ab)];grind
   have r:Hid (Lh (c 0) (c 1) (c 2)=c k):=f;clear f;go_wp2;go_ret;exact⟨ii r.out.symm,rfl⟩
  |false=>
   have v:c k=0:=cO;have C:=v;go_wp2;go_round
   case rel=>exact⟨k+1,ab,cO,λi s=>by
    by_cases e:i=k
    .grind
    .exact q i ab⟩
   exact cD
 have f:Lh (c 0) (c 1) (c 2)=0:=by
  unfold Lh;rw[if_pos (q 0 ab),if_pos (q 1 ab)];exact q 2 ab
 have r:Hid (Lh (c 0) (c 1) (c 2)=0):=f;clear f;go_wp2;go_ret;exact⟨ii r.out.symm,rfl⟩
def or3 (b:Nat)(x y z w)(c:w.cell? b=some (aa .i64 x))(d:w.cell? ⟨b,1,none⟩=some (aa .i64 y))(f:w.cell? ⟨b,2,none⟩=some (aa .i64 z)):
  aN Tz.prog 207 #[ad b 3 3] w λe w'=>e=au (Lh x y z)/\w'=w:=
 Z5 b (λi=>if i=0 then x else if i=1 then y else z) w (λi j=>by
  match i,j with
  |0,_=>simpa using c
  |1,_=>simpa using d
  |2,_=>simpa using f)
def jJ (g g':Nat->Int)(n r:Nat):Nat->Nat->Int
 |0,_=>if n<r then -1 else 0
 |f+1,k=>if r<=k then 1 else if kX (g k) (g' k)=0 then jJ g g' n r f (k+1)else kX (g k) (g' k)
def aed (x9:p:=by
  go_ret;exact⟨ii<|by first|exact hc.symm|rfl,rfl⟩):p:=x9
def G_ (x9:p:=by
  go_wp2;go_ret;exact⟨ii<|by first|exact hc.symm|rfl,rfl⟩):p:=x9
def yS (a a' n c cap cap' g g' w)(x:n<=1048576)(m:c<=1048576)(h:eR w a n g)(o:eR w a' c g'):
  aN Tz.prog 208 #[ad a n cap,ad a' c cap'] w λe w'=>e=au (jJ g g' n c n 0)/\w'=w:=by
 go_enter Tz.func208,Tryz.ntmps208
 go_wp2;go_loopw [11] (λi w'=>∃k:Nat,k<=n/\i=aa .i64 k/\w'=w/\jJ g g' n c n 0=jJ g g' n c (n-k) k) (λi _=>n-(intOf i).toNat)
 .grind
 obtain⟨k,y,rfl,rfl,hc⟩:=hrel;by_cases q:k<n
 .obtain⟨b,r,rfl,s⟩:=h.resolve_left ab;have z:=s k q;have A:(k:Int)<n:=ab;have t:n-k=(n-(k+1))+1:=ab;rw[t,jJ]at hc;by_cases f:c<=k
  .rw[if_pos f]at hc;have u:(c:Int)<=k:=ab;exact G_
  rw[if_neg f]at hc;obtain⟨B,C,rfl,v⟩:=o.resolve_left ab;have D:=v k ab;have u:¬(c:Int)<=k:=ab;have E:(k:Int)<c:=ab;by_cases j:kX (g k) (g' k)=0
  .rw[if_pos j]at hc;go_wp2_with(go_at_call 77;refine(qj _ _ _).mono ?_;rintro e w' ⟨rfl,rfl⟩)
   go_roundw
   .exact⟨k+1,ab,by go_num,V8,hc⟩
   exact cD
  rw[if_neg j]at hc;go_wp2_with(go_at_call 77;refine(qj _ _ _).mono ?_;rintro e w' ⟨rfl,rfl⟩)
  exact aed
 obtain rfl:k=n:=by omega
 rw[Nat.sub_self,jJ]at hc;by_cases l:k<c
 .rw[if_pos l]at hc;have d:(k:Int)<c:=ab;exact G_
 rw[if_neg l]at hc;have d:¬(k:Int)<c:=ab;exact G_
def abE (g:Nat->Int):Nat->Nat->Int
 |0,_=>0
 |f+1,k=>if g k=0 then abE g f (k+1)else g k
def Ho (x9:p:=by
  go_wp2;go_ret;simp_all):p:=x9
def ft {W:aE}{o v}(h:W.cell? ⟨b,o,none⟩=some v):∀c d e,(((W.alloc c).alloc d).alloc e).cell? ⟨b,o,none⟩=some v:=λc d e=>
 (((((afB W.heap.size W).alloc (afK _) c).alloc aP d).alloc dj e).cell (block_lt_of_cell h)).trans h
def Ip (x y)(bl b off n cap:Nat)(f W)(hx:x<n)(hy:y<n)(hn:n<=1048576)
  (cl:W.cell? bl=some (ad (some ⟨b,off,none⟩) n cap))(D:aK W b off n f):
  aN Tz.prog 221 #[aa .i64 x,aa .i64 y,.pointer bl] W λe w'=>e=au (Tg f x y)/\Below W W w'/\W.drawn<=w'.drawn:=by
 have eX:(x:Int)<n:=ab;have Sz:(y:Int)<n:=ab;let⟨a0,a1,a2,a3,a4,a5⟩:=D x hx;let⟨b0,b1,b2,b3,b4,b5⟩:=D y hy;go_enter Tz.func221,Tryz.ntmps221
 go_wp2;go_region_held3 (λw'=>w'.cell? bl=some (ad (some ⟨b,off,none⟩) n cap)
  /\w'.cell? ⟨b,off+x*6,none⟩=some (ao (f x).name)/\w'.cell? ⟨b,off+x*6+1,none⟩=some (ai (f x).ax)/\w'.cell? ⟨b,off+x*6+2,none⟩=some (aa .i64 (f x).aI)/\w'.cell? ⟨b,off+x*6+3,none⟩=some (aa .i64 (f x).cE)/\w'.cell? ⟨b,off+x*6+4,none⟩=some (aa .i64 (f x).late)/\w'.cell? ⟨b,off+x*6+5,none⟩=some (aa .i64 (f x).prom)
  /\w'.cell? ⟨b,off+y*6,none⟩=some (ao (f y).name)/\w'.cell? ⟨b,off+y*6+1,none⟩=some (ai (f y).ax)/\w'.cell? ⟨b,off+y*6+2,none⟩=some (aa .i64 (f y).aI)/\w'.cell? ⟨b,off+y*6+3,none⟩=some (aa .i64 (f y).cE)/\w'.cell? ⟨b,off+y*6+4,none⟩=some (aa .i64 (f y).late)/\w'.cell? ⟨b,off+y*6+5,none⟩=some (aa .i64 (f y).prom)) (go_keep) (fail)
 focus
  have t:Below W W ((W.alloc<|.cells #[ao (f x).name,ai (f x).ax,aa .i64 (f x).aI,aa .i64 (f x).cE,aa .i64 (f x).late,aa .i64 (f x).prom] 55).alloc<|.cells #[ao (f y).name,ai (f y).ax,aa .i64 (f y).aI,aa .i64 (f y).cE,aa .i64 (f y).late,aa .i64 (f y).prom] 55).drew:=(((afB _ W).alloc (afK _) _).alloc aP _).drew;have B:W.drawn<=((W.alloc<|.cells #[ao (f x).name,ai (f x).ax,aa .i64 (f x).aI,aa .i64 (f x).cE,aa .i64 (f x).late,aa .i64 (f x).prom] 55).alloc<|.cells #[ao (f y).name,ai (f y).ax,aa .i64 (f y).aI,aa .i64 (f y).cE,aa .i64 (f y).late,aa .i64 (f y).prom] 55).drew.drawn:=by show W.drawn<=W.drawn+1;omega
  have hA:xB ((W.alloc<|.cells #[ao (f x).name,ai (f x).ax,aa .i64 (f x).aI,aa .i64 (f x).cE,aa .i64 (f x).late,aa .i64 (f x).prom] 55).alloc<|.cells #[ao (f y).name,ai (f y).ax,aa .i64 (f y).aI,aa .i64 (f y).cE,aa .i64 (f y).late,aa .i64 (f y).prom] 55).drew (W.heap.size) 0 (f x):=by constructor<;>simp[go_sem]
  have u:xB ((W.alloc<|.cells #[ao (f x).name,ai (f x).ax,aa .i64 (f x).aI,aa .i64 (f x).cE,aa .i64 (f x).late,aa .i64 (f x).prom] 55).alloc<|.cells #[ao (f y).name,ai (f y).ax,aa .i64 (f y).aI,aa .i64 (f y).cE,aa .i64 (f y).late,aa .i64 (f y).prom] 55).drew (W.heap.size+1) 0 (f y):=by constructor<;>simp[go_sem]
  go_wp2;revert t B hA u;generalize ((W.alloc<|.cells #[ao (f x).name,ai (f x).ax,aa .i64 (f x).aI,aa .i64 (f x).cE,aa .i64 (f x).late,aa .i64 (f x).prom] 55).alloc<|.cells #[ao (f y).name,ai (f y).ax,aa .i64 (f y).aI,aa .i64 (f y).cE,aa .i64 (f y).late,aa .i64 (f y).prom] 55).drew=C;intro t B hA u;obtain⟨r,v⟩:∃r,r=W.heap.size:=⟨_,rfl⟩;obtain⟨s,A⟩:∃s,s=W.heap.size+1:=⟨_,rfl⟩;rw[<-v]at hA;rw[<-A]at u;rw[<-A,<-v];clear v A
 rotate_left;focus
  have t:Below W W ((W.alloc<|.cells #[ao (f y).name,ai (f y).ax,aa .i64 (f y).aI,aa .i64 (f y).cE,aa .i64 (f y).late,aa .i64 (f y).prom] 55).alloc<|.cells #[ao (f x).name,ai (f x).ax,aa .i64 (f x).aI,aa .i64 (f x).cE,aa .i64 (f x).late,aa .i64 (f x).prom] 55).drew:=(((afB _ W).alloc (afK _) _).alloc aP _).drew;have B:W.drawn<=((W.alloc<|.cells #[ao (f y).name,ai (f y).ax,aa .i64 (f y).aI,aa .i64 (f y).cE,aa .i64 (f y).late,aa .i64 (f y).prom] 55).alloc<|.cells #[ao (f x).name,ai (f x).ax,aa .i64 (f x).aI,aa .i64 (f x).cE,aa .i64 (f x).late,aa .i64 (f x).prom] 55).drew.drawn:=by show W.drawn<=W.drawn+1;omega
  have hA:xB ((W.alloc<|.cells #[ao (f y).name,ai (f y).ax,aa .i64 (f y).aI,aa .i64 (f y).cE,aa .i64 (f y).late,aa .i64 (f y).prom] 55).alloc<|.cells #[ao (f x).name,ai (f x).ax,aa .i64 (f x).aI,aa .i64 (f x).cE,aa .i64 (f x).late,aa .i64 (f x).prom] 55).drew (W.heap.size+1) 0 (f x):=by constructor<;>simp[go_sem]
  have u:xB ((W.alloc<|.cells #[ao (f y).name,ai (f y).ax,aa .i64 (f y).aI,aa .i64 (f y).cE,aa .i64 (f y).late,aa .i64 (f y).prom] 55).alloc<|.cells #[ao (f x).name,ai (f x).ax,aa .i64 (f x).aI,aa .i64 (f x).cE,aa .i64 (f x).late,aa .i64 (f x).prom] 55).drew (W.heap.size) 0 (f y):=by constructor<;>simp[go_sem]
  go_wp2;revert t B hA u;generalize ((W.alloc<|.cells #[ao (f y).name,ai (f y).ax,aa .i64 (f y).aI,aa .i64 (f y).cE,aa .i64 (f y).late,aa .i64 (f y).prom] 55).alloc<|.cells #[ao (f x).name,ai (f x).ax,aa .i64 (f x).aI,aa .i64 (f x).cE,aa .i64 (f x).late,aa .i64 (f x).prom] 55).drew=C;intro t B hA u;obtain⟨r,v⟩:∃r,r=W.heap.size+1:=⟨_,rfl⟩;obtain⟨s,A⟩:∃s,s=W.heap.size:=⟨_,rfl⟩;rw[<-v]at hA;rw[<-A]at u;rw[<-v,<-A];clear v A
 all_goals
  let⟨J,N,O,R,T,U⟩:=hA;let⟨Y,Z,k2,k3,k4,k5⟩:=u;simp only[Nat.zero_add]at J N O R T U Y Z k2 k3 k4 k5;have aF:=ft J;have aV:=ft N;have aZ:=ft O;have be:=ft R;have bi:=ft T;have bj:=ft U;have bk:=ft Y;have bm:=ft Z;have bn:=ft k2;have bo:=ft k3;have bp:=ft k4;have bq:=ft k5;go_region_held3 (λw'=>w'.cell? r=some (ao (f x).name)/\w'.cell? ⟨r,1,none⟩=some (ai (f x).ax)/\w'.cell? ⟨r,2,none⟩=some (aa .i64 (f x).aI)/\w'.cell? ⟨r,3,none⟩=some (aa .i64 (f x).cE)/\w'.cell? ⟨r,4,none⟩=some (aa .i64 (f x).late)/\w'.cell? ⟨r,5,none⟩=some (aa .i64 (f x).prom)/\w'.cell? s=some (ao (f y).name)/\w'.cell? ⟨s,1,none⟩=some (ai (f y).ax)/\w'.cell? ⟨s,2,none⟩=some (aa .i64 (f y).aI)/\w'.cell? ⟨s,3,none⟩=some (aa .i64 (f y).cE)/\w'.cell? ⟨s,4,none⟩=some (aa .i64 (f y).late)/\w'.cell? ⟨s,5,none⟩=some (aa .i64 (f y).prom)) (go_keep)
   (first|(go_at_call 222;refine(UU _ _).mono ?_;rintro e w' ⟨rfl,rfl⟩)|(go_at_call 77;refine(qj _ _ _).mono ?_;rintro e w' ⟨rfl,rfl⟩)|(go_at_call 223;refine(OW _ _ _).mono ?_;rintro e w' ⟨rfl,rfl⟩)|(go_at_call 207;refine(or3 _ (kX (f x).key (f y).key) (vp (f x).name (f y).name) (kX (x:Int) (y:Int)) _ DC DC DC).mono ?_;rintro e w' ⟨rfl,rfl⟩))
  all_goals
   go_wp2;go_ret;refine⟨ii rfl,t.trans ?_,?_⟩
   .exact((((afB W.heap.size C).alloc t.size _).alloc (by have:=t.size;simp;omega) _).alloc (by have:=t.size;simp;omega) _).drew
   .show W.drawn<=C.drawn+1;omega
section
variable {a:Option Addr}{g:Nat->Int}
def oD (x y:aX):Int:=if x.ok=y.ok then Lh (kX x.sum y.sum) (kX x.most y.most) (jJ x.g y.g x.n y.n x.n 0)else if x.ok then -1 else 1
def eR.below {w'}(h:eR w a n g)(f:Below w w w'):eR w' a n g:=by
 rcases h with h|⟨b,c,e,d⟩
 .exact .inl h
 by_cases i:n=0
 .exact .inl i
 refine .inr ⟨b,c,e,d.below f ?_⟩;have:=d 0 ab;grind [ac,Array.getElem?_eq_none,Nat.lt_or_ge]
def eR.alloc (o)(h:eR w a n g):eR (w.alloc o) a n g:=h.below<|(afB _ w).alloc (afK _) o
def eR.drew (h:eR w a n g):eR w.drew a n g:=h
def IC (x y W)(K:x.n<=1048576)(L:y.n<=1048576)(h:eR W x.a x.n x.g)(G:eR W y.a y.n y.g):
  aN Tz.prog 183 #[x.val,y.val] W λe w'=>e=au (oD x y)/\Below W W w':=by
 let⟨D,f,i,j,c,o,B⟩:=x;let⟨M,k,l,m,d,q,C⟩:=y;simp[aX.val,oD]at*;by_cases N:D=M
 .subst N;rw[if_pos rfl];have r:Below W W ((W.alloc<|.cells #[D,f,i,ad j c o] 208).alloc<|.cells #[D,k,l,ad m d q] 208):=((afB _ W).alloc ab _).alloc aP _;cases D
  .have u:((W.alloc<|.cells #[false,f,i,ad j c o] 208).alloc<|.cells #[false,k,l,ad m d q] 208).cell? ⟨W.heap.size,1,none⟩=some (aa .i64 f)/\((W.alloc<|.cells #[false,f,i,ad j c o] 208).alloc<|.cells #[false,k,l,ad m d q] 208).cell? ⟨W.heap.size,2,none⟩=some (aa .i64 i)/\((W.alloc<|.cells #[false,f,i,ad j c o] 208).alloc<|.cells #[false,k,l,ad m d q] 208).cell? ⟨W.heap.size,3,none⟩=some (ad j c o):=by refine⟨?_,?_,?_⟩<;>simp[go_sem]
   have v:((W.alloc<|.cells #[false,f,i,ad j c o] 208).alloc<|.cells #[false,k,l,ad m d q] 208).cell? ⟨W.heap.size+1,1,none⟩=some (aa .i64 k)/\((W.alloc<|.cells #[false,f,i,ad j c o] 208).alloc<|.cells #[false,k,l,ad m d q] 208).cell? ⟨W.heap.size+1,2,none⟩=some (aa .i64 l)/\((W.alloc<|.cells #[false,f,i,ad j c o] 208).alloc<|.cells #[false,k,l,ad m d q] 208).cell? ⟨W.heap.size+1,3,none⟩=some (ad m d q):=by refine⟨?_,?_,?_⟩<;>simp[go_sem]
   have E:=h.below r;have F:=G.below r;go_enter Tz.func183,Tryz.ntmps183
   go_wp2;revert r u v E F;generalize ((W.alloc<|.cells #[ai false,aa .i64 f,aa .i64 i,ad j c o] 208).alloc<|.cells #[ai false,aa .i64 k,aa .i64 l,ad m d q] 208)=J;intro r u v E F;obtain⟨s,z⟩:∃s,s=W.heap.size:=⟨_,rfl⟩;obtain⟨t,A⟩:∃t,t=W.heap.size+1:=⟨_,rfl⟩;rw[<-z]at u;rw[<-A]at v;rw[<-A,<-z];have O:=u;have P:=v;clear z A h G;go_region_held3 (λw'=>w'.cell? ⟨s,1,none⟩=some (aa .i64 f)/\w'.cell? ⟨s,2,none⟩=some (aa .i64 i)/\w'.cell? ⟨s,3,none⟩=some (ad j c o)/\w'.cell? ⟨t,1,none⟩=some (aa .i64 k)/\w'.cell? ⟨t,2,none⟩=some (aa .i64 l)/\w'.cell? ⟨t,3,none⟩=some (ad m d q)/\eR w' j c B/\eR w' m d C) (simp[*,a6,eR.alloc,eR.drew])
    (first|(go_at_call 77;refine(qj _ _ _).mono ?_;rintro e w' ⟨rfl,rfl⟩)|(go_at_call 208;refine(yS _ _ _ _ _ _ B C _ K L (by assumption)<|by assumption).mono ?_;rintro e w' ⟨rfl,rfl⟩)|(go_at_call 207;refine(or3 _ (kX f k) (kX i l) (jJ B C c d c 0) _ DC DC DC).mono ?_;rintro e w' ⟨rfl,rfl⟩))
   all_goals
    go_wp2;go_ret;exact⟨ii rfl,r.trans<|((afB W.heap.size J).alloc r.size _).drew⟩
  have u:((W.alloc<|.cells #[true,f,i,ad j c o] 208).alloc<|.cells #[true,k,l,ad m d q] 208).cell? ⟨W.heap.size,1,none⟩=some (aa .i64 f)/\((W.alloc<|.cells #[true,f,i,ad j c o] 208).alloc<|.cells #[true,k,l,ad m d q] 208).cell? ⟨W.heap.size,2,none⟩=some (aa .i64 i)/\((W.alloc<|.cells #[true,f,i,ad j c o] 208).alloc<|.cells #[true,k,l,ad m d q] 208).cell? ⟨W.heap.size,3,none⟩=some (ad j c o):=by refine⟨?_,?_,?_⟩<;>simp[go_sem]
  have v:((W.alloc<|.cells #[true,f,i,ad j c o] 208).alloc<|.cells #[true,k,l,ad m d q] 208).cell? ⟨W.heap.size+1,1,none⟩=some (aa .i64 k)/\((W.alloc<|.cells #[true,f,i,ad j c o] 208).alloc<|.cells #[true,k,l,ad m d q] 208).cell? ⟨W.heap.size+1,2,none⟩=some (aa .i64 l)/\((W.alloc<|.cells #[true,f,i,ad j c o] 208).alloc<|.cells #[true,k,l,ad m d q] 208).cell? ⟨W.heap.size+1,3,none⟩=some (ad m d q):=by refine⟨?_,?_,?_⟩<;>simp[go_sem]
  have E:=h.below r;have F:=G.below r;go_enter Tz.func183,Tryz.ntmps183
  go_wp2;revert r u v E F;generalize ((W.alloc<|.cells #[ai true,aa .i64 f,aa .i64 i,ad j c o] 208).alloc<|.cells #[ai true,aa .i64 k,aa .i64 l,ad m d q] 208)=J;intro r u v E F;obtain⟨s,z⟩:∃s,s=W.heap.size:=⟨_,rfl⟩;obtain⟨t,A⟩:∃t,t=W.heap.size+1:=⟨_,rfl⟩;rw[<-z]at u;rw[<-A]at v;rw[<-A,<-z];have O:=u;have P:=v;clear z A h G;go_region_held3 (λw'=>w'.cell? ⟨s,1,none⟩=some (aa .i64 f)/\w'.cell? ⟨s,2,none⟩=some (aa .i64 i)/\w'.cell? ⟨s,3,none⟩=some (ad j c o)/\w'.cell? ⟨t,1,none⟩=some (aa .i64 k)/\w'.cell? ⟨t,2,none⟩=some (aa .i64 l)/\w'.cell? ⟨t,3,none⟩=some (ad m d q)/\eR w' j c B/\eR w' m d C) (simp[*,a6,eR.alloc,eR.drew])
   (first|(go_at_call 77;refine(qj _ _ _).mono ?_;rintro e w' ⟨rfl,rfl⟩)|(go_at_call 208;refine(yS _ _ _ _ _ _ B C _ K L (by assumption)<|by assumption).mono ?_;rintro e w' ⟨rfl,rfl⟩)|(go_at_call 207;refine(or3 _ (kX f k) (kX i l) (jJ B C c d c 0) _ DC DC DC).mono ?_;rintro e w' ⟨rfl,rfl⟩))
  all_goals
   go_wp2;go_ret;exact⟨ii rfl,r.trans<|((afB W.heap.size J).alloc r.size _).drew⟩
 cases D<;>cases M<;>simp at N
 .go_enter Tz.func183,Tryz.ntmps183
  go_wp2;go_ret;exact⟨ii aP,(((afB _ W).alloc ab _).alloc aP _)⟩
 go_enter Tz.func183,Tryz.ntmps183
 go_wp2;go_ret;exact⟨ii aP,(((afB _ W).alloc (afK _) _).alloc aP _)⟩
end
structure VV (w:aE)(b o)(x:aX):Prop where
 c0:w.cell? ⟨b,o,none⟩=some (ai x.ok)
 c1:w.cell? ⟨b,o+1,none⟩=some (aa .i64 x.sum)
 c2:w.cell? ⟨b,o+2,none⟩=some (aa .i64 x.most)
 c3:w.cell? ⟨b,o+3,none⟩=some (ad x.a x.n x.cap)
 row:eR w x.a x.n x.g
 small:x.n<=1048576
def Ii (w:aE)(b off n:Nat)(f:Nat->aX):Prop:=∀i,i<n->VV w b (off+i*4) (f i)
def cW (f:Nat->aX):Nat->aX
 |0=>eY
 |k+1=>if k=0\/oD (f k) (cW f k)<0 then f k else cW f k
def uL {a0 a1 i j c d e f T}(h:w.heap[b]?=some (.cells #[a0,a1,i,j] T (0,0))):
  (((w.setCell b c).setCell ⟨b,1,none⟩ d).setCell ⟨b,2,none⟩ e).setCell ⟨b,3,none⟩ f=w.setRow b #[c,d,e,f]:=by
 rw[av w b 0 _ _ _ c h,av _ b 1 _ _ _ d (ay w b _ _ T _ h),a7,av _ b 2 _ _ _ e (ay w b _ _ T _ h),a7,av _ b 3 _ _ _ f (ay w b _ _ T _ h),a7];rfl
def zL {off n f}(r:Ii w b off n f):∀k,k<=n->eR w (cW f k).a (cW f k).n (cW f k).g/\(cW f k).n<=1048576
 |0,_=>⟨.inl rfl,by simp[cW,eY]⟩
 |k+1,h=>by
  simp only[cW];split
  .exact⟨(r k ab).row,(r k ab).small⟩
  .exact zL r k ab
def F9 (b off n cap:Nat)(f)(w:aE)(hn:n<=1048576)(O:b<w)(aB:Ii w b off n f):
  aN Tz.prog 182 #[ad (some ⟨b,off,none⟩) n cap,.func (.func 183) #[] #[]] w λe w'=>e=au (cW f n).val/\Below w w w':=by
 go_enter Tz.func182,Tryz.ntmps182
 go_wp2;go_loopw [10] (λi w'=>∃k:Nat,k<=n/\i=aa .i64 k/\Below w w w'/\w.heap.size+2<=w'.heap.size
  /\w'.heap[w.heap.size]?=some (.cells #[false,(0:Int),(0:Int),()] 208)
  /\w'.heap[w.heap.size+1]?=some (.cells #[ai (cW f k).ok,aa .i64 (cW f k).sum,aa .i64 (cW f k).most,ad (cW f k).a (cW f k).n (cW f k).cap] 208)) (λi _=>n-(intOf i).toNat)
 .exact⟨0,afP _,rfl,((afB _ w).alloc ab _).alloc aP _,aP,(afC _ _ _ aP).trans<|heap_alloc_new _ _,by have:=heap_alloc_new (w.alloc<|.cells #[ai false,(0:Int),(0:Int),ad none 0 0] 208)<|.cells #[ai false,(0:Int),(0:Int),ad none 0 0] 208;simpa[cW,eY]using this⟩
 obtain⟨k,hk,rfl,C,iP,A,s⟩:=hrel;by_cases aF:k<n
 .let⟨c0,c1,c2,c3,hl,Y⟩:=aB k aF;have dV:(k:Int)<n:=ab;have d0:=(C.cell O).trans c0;have d1:=(C.cell O).trans c1;have d2:=(C.cell O).trans c2;have d3:=(C.cell O).trans c3;generalize hL:cW f k=L at s;have l0:wr.cell? ⟨w.heap.size+1,0,none⟩=some (ai L.ok):=by simp[ac,s]
  have l1:wr.cell? ⟨w.heap.size+1,1,none⟩=some (aa .i64 L.sum):=by simp[ac,s]
  have l2:wr.cell? ⟨w.heap.size+1,2,none⟩=some (aa .i64 L.most):=by simp[ac,s]
  have l3:wr.cell? ⟨w.heap.size+1,3,none⟩=some (ad L.a L.n L.cap):=by simp[ac,s]
  have lf:∀j,wr.frozen? ⟨w.heap.size+1,j,none⟩=false:=λj=>by simp[aL,s]
  have D:w.heap.size+1<wr:=ab;have hS:cW f (k+1)=if k=0\/oD (f k) L<0 then f k else L:=by rw[<-hL];rfl
  by_cases xQ:k=0
  .subst xQ;rw[if_pos (.inl rfl)]at hS;simp[Nat.zero_mul,Nat.add_zero]at d0 d1 d2 d3;go_wp2;go_roundw
   .rw[uL s];have hz:(wr.setRow (w.heap.size+1) #[ai (f 0).ok,aa .i64 (f 0).sum,aa .i64 (f 0).most,ad (f 0).a (f 0).n (f 0).cap]).heap.size=wr.heap.size:=bb _ _ _;refine⟨1,ab,rfl,(a8 C ab _).alloc ab _,by rw[afG,hz];omega,?_,by rw[afC _ _ _ ab,ay _ _ _ _ _ _ s,hS]⟩;rw[afC _ _ _ ab,a9 _ _ _ _ ab];exact A
   exact cD
  have Od:¬((k:Int)=0):=by omega
  let⟨J,N⟩:=zL aB k hk;rw[hL]at J N;have hA:Below w w (wr.alloc<|.cells #[ai (f k).ok,aa .i64 (f k).sum,aa .i64 (f k).most,ad (f k).a (f k).n (f k).cap] 208):=C.alloc ab _;have Ug:=hl.below hA;have Z:=J.below hA;have R:=IC (f k) L (wr.alloc<|.cells #[ai (f k).ok,aa .i64 (f k).sum,aa .i64 (f k).most,ad (f k).a (f k).n (f k).cap] 208) Y N Ug Z;by_cases T:oD (f k) L<0
  .rw[if_pos (.inr T)]at hS;go_wp2_with(go_at_call 183;refine R.mono ?_;clear R;rintro e r ⟨rfl,u⟩;have B:=(u.block wr.heap.size aP).trans<|heap_alloc_new _ _;have t:=(u.block (w.heap.size+1) dj).trans<|(afC _ _ _ D).trans s;have AS:=(u.block w.heap.size dj).trans<|(afC _ _ _ ab).trans A;have x0:r.cell? ⟨wr.heap.size,0,none⟩=some (ai (f k).ok):=(by simp[ac,B]);have x1:r.cell? ⟨wr.heap.size,1,none⟩=some (aa .i64 (f k).sum):=(by simp[ac,B]);have x2:r.cell? ⟨wr.heap.size,2,none⟩=some (aa .i64 (f k).most):=(by simp[ac,B]);have x3:r.cell? ⟨wr.heap.size,3,none⟩=some (ad (f k).a (f k).n (f k).cap):=(by simp[ac,B]);have y0:r.cell? ⟨w.heap.size+1,0,none⟩=some (ai L.ok):=(by simp[ac,t]);have y1:r.cell? ⟨w.heap.size+1,1,none⟩=some (aa .i64 L.sum):=(by simp[ac,t]);have y2:r.cell? ⟨w.heap.size+1,2,none⟩=some (aa .i64 L.most):=(by simp[ac,t]);have y3:r.cell? ⟨w.heap.size+1,3,none⟩=some (ad L.a L.n L.cap):=(by simp[ac,t]);have yf:∀j,r.frozen? ⟨w.heap.size+1,j,none⟩=false:=(λj=>by simp[aL,t]);have qn:=hA.trans<|u.mono dj;have eO:=u.size)<;>try omega
   go_roundw
   .rw[uL t];rw[afG]at eO;refine⟨k+1,ab,by go_num,a8 qn ab _,by rw[(bb _ _ _)];omega,?_,by rw[ay _ _ _ _ _ _ t,hS]⟩;rw[a9 _ _ _ _ ab];exact AS
   exact cD
  rw[if_neg (λe=>e.elim xQ T)]at hS;have So:decide (oD (f k) L<0)=false:=decide_eq_false T;have ax:0<=oD (f k) L:=ab;clear T;go_wp2_with(go_at_call 183;refine R.mono ?_;clear R;rintro e r ⟨rfl,u⟩;have B:=(u.block wr.heap.size aP).trans<|heap_alloc_new _ _;have t:=(u.block (w.heap.size+1) dj).trans<|(afC _ _ _ D).trans s;have AS:=(u.block w.heap.size dj).trans<|(afC _ _ _ ab).trans A;have x0:r.cell? ⟨wr.heap.size,0,none⟩=some (ai (f k).ok):=(by simp[ac,B]);have x1:r.cell? ⟨wr.heap.size,1,none⟩=some (aa .i64 (f k).sum):=(by simp[ac,B]);have x2:r.cell? ⟨wr.heap.size,2,none⟩=some (aa .i64 (f k).most):=(by simp[ac,B]);have x3:r.cell? ⟨wr.heap.size,3,none⟩=some (ad (f k).a (f k).n (f k).cap):=(by simp[ac,B]);have y0:r.cell? ⟨w.heap.size+1,0,none⟩=some (ai L.ok):=(by simp[ac,t]);have y1:r.cell? ⟨w.heap.size+1,1,none⟩=some (aa .i64 L.sum):=(by simp[ac,t]);have y2:r.cell? ⟨w.heap.size+1,2,none⟩=some (aa .i64 L.most):=(by simp[ac,t]);have y3:r.cell? ⟨w.heap.size+1,3,none⟩=some (ad L.a L.n L.cap):=(by simp[ac,t]);have yf:∀j,r.frozen? ⟨w.heap.size+1,j,none⟩=false:=(λj=>by simp[aL,t]);have qn:=hA.trans<|u.mono dj;have eO:=u.size)
  all_goals try omega
  go_roundw
  case rel=>
   rw[afG]at eO;exact⟨k+1,ab,by go_num,qn,ab,AS,by rw[t,hS]⟩
  case measure=>exact cD
 .have tM:k=n:=by omega
  subst tM;have l0:wr.cell? ⟨w.heap.size+1,0,none⟩=some (ai (cW f k).ok):=by simp[ac,s]
  have l1:wr.cell? ⟨w.heap.size+1,1,none⟩=some (aa .i64 (cW f k).sum):=by simp[ac,s]
  have l2:wr.cell? ⟨w.heap.size+1,2,none⟩=some (aa .i64 (cW f k).most):=by simp[ac,s]
  have l3:wr.cell? ⟨w.heap.size+1,3,none⟩=some (ad (cW f k).a (cW f k).n (cW f k).cap):=by simp[ac,s]
  have s0:wr.cell? w.heap.size=some (ai false):=by simp[ac,A]
  have s1:wr.cell? ⟨w.heap.size,1,none⟩=some (aa .i64 0):=by simp[ac,A]
  have s2:wr.cell? ⟨w.heap.size,2,none⟩=some (aa .i64 0):=by simp[ac,A]
  have s3:wr.cell? ⟨w.heap.size,3,none⟩=some (ad none 0 0):=by simp[ac,A]
  have sf:∀j,wr.frozen? ⟨w.heap.size,j,none⟩=false:=λj=>by simp[aL,A]
  go_wp2;rw[uL A];have hw5:=ay wr w.heap.size _ #[ai (cW f k).ok,aa .i64 (cW f k).sum,aa .i64 (cW f k).most,ad (cW f k).a (cW f k).n (cW f k).cap] _ _ A;have iZ:=a8 C (afK _) #[ai (cW f k).ok,aa .i64 (cW f k).sum,aa .i64 (cW f k).most,ad (cW f k).a (cW f k).n (cW f k).cap];generalize wr.setRow w.heap.size #[ai (cW f k).ok,aa .i64 (cW f k).sum,aa .i64 (cW f k).most,ad (cW f k).a (cW f k).n (cW f k).cap]=U at hw5 iZ⊢;have q0:U.cell? w.heap.size=some (ai (cW f k).ok):=xD;have q1:U.cell? ⟨w.heap.size,1,none⟩=some (aa .i64 (cW f k).sum):=xD;have q2:U.cell? ⟨w.heap.size,2,none⟩=some (aa .i64 (cW f k).most):=xD;have q3:U.cell? ⟨w.heap.size,3,none⟩=some (ad (cW f k).a (cW f k).n (cW f k).cap):=xD;refine bodyPost_ret (v:=(cW f k).val) ?_ rfl ⟨rfl,iZ⟩;simp[results,Tryz.f182,go_sem,aX.val,q0,q1,q2,q3]
