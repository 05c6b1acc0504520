import Derived.Test.YthppgbjejomdiaaGreatDoorj17
import Derived.Test.YthppgbjejomdiaaGreatDoorj11e
import Derived.Laws.CopyOwn
set_option linter.all false
set_option maxHeartbeats 2000000
set_option maxRecDepth 10000
open Go renaming World->au,Calls->ay,setRow_heap->aE,setCell_eq_setRow->aL,setRow_setRow->a6,below_setRow->a7,setRow_other->a9,setRow_size->bb
open Go.Ending renaming returned->av
open Go.Value renaming int->aa,slice->ac,bool->ad,string->ao
open Go.World renaming cell?->aj,frozen?->aP,cell?_alloc_some->a8
namespace Go.Proofs.YthppgbjejomdiaaGreatDoor
open RowKit
variable {b n:Nat}{p:Prop}{w:au}
def Vz (m:Mv)(w): ay Tz.prog 229 #[.agg #[m.name,m.ax,m.aI,m.cj,m.late,m.prom]] w λe w'=>e=av m.key/\w'=w.alloc (.cells #[m.name,m.ax,m.aI,m.cj,m.late,m.prom] 30):=by by_cases h:0<=m.prom;(.go_enter Tz.func229,Tryz.ntmps229;go_wp2;go_ret;exact⟨il (by unfold Mv.key;rw[if_pos h]),rfl⟩);go_enter Tz.func229,Tryz.ntmps229;go_wp2;go_ret;simp_all [Mv.key,if_neg]
def Vb (m:Mv)(w): ay Tz.prog 148 #[.agg #[m.name,m.ax,m.aI,m.cj,m.late,m.prom]] w λe w'=>e=av m.key/\Below w w w':=by by_cases h:0<=m.prom;(.go_enter Tz.func148,Tryz.ntmps148;go_wp2;go_ret;exact⟨il (by unfold Mv.key;rw[if_pos h]),(agn _ _).alloc ab _⟩);go_enter Tz.func148,Tryz.ntmps148;go_wp2;go_ret;exact⟨il<|by simp_all [Mv.key,if_neg],(agn _ _).alloc ab _⟩
def qq (a b:Int)(w): ay Tz.prog 77 #[a,b] w λe w'=>e=av (lq a b)/\w'=w:=by by_cases h:a<b;(.go_enter Tz.func77,Tryz.ntmps77;go_wp2;go_ret;exact⟨il (by unfold lq;rw[if_pos h]),rfl⟩);by_cases c:b<a;(.go_enter Tz.func77,Tryz.ntmps77;go_wp2;go_ret;exact⟨il (by unfold lq;rw[if_neg ab,if_pos c]),rfl⟩);go_enter Tz.func77,Tryz.ntmps77;go_wp2;go_ret;simp_all [lq,if_neg]
def ae0 (x9:p:=by go_enter Tz.func230,Tryz.ntmps230;go_wp2;go_ret;exact⟨il HC.out.symm,rfl⟩):p:=x9
def adm (x9:p:=by unfold cG at h;unfold di at h';go_enter Tz.func230,Tryz.ntmps230;go_wp2;go_ret;exact⟨il HC.out.symm,rfl⟩):p:=x9
def PB (a b:ByteArray)(w): ay Tz.prog 230 #[a,b] w λe w'=>e=av (vK a b)/\w'=w:=by
 cases h:cG a b;cases h':di a b;have c:vK a b=1:=by unfold vK;grind
 have HC:Hid (vK a b=1):=c;exact adm;have c:vK a b=0:=by unfold vK;grind
 have HC:Hid (vK a b=0):=c;exact adm;have c:vK a b=-1:=by unfold vK;grind
 have HC:Hid (vK a b=-1):=c;unfold cG at h;exact ae0
def aeJ (c:Nat->Int)(k:Nat):Prop:=∀i,i<k->c i=0
def U' b (c:Nat->Int)(w:au)(hc:∀i,i<3->w.cell? ⟨b,i,none⟩=some (aa .i64<|c i)): ay Tz.prog 214 #[ac b 3 3] w λe w'=>e=av (aa .i64<|LW (c 0) (c 1)<|c 2)/\w'=w:=by
 go_enter Tz.func214,Tryz.ntmps214;go_wp2;go_loop [8] (λi=>∃k:Nat,k<=3/\i=aa .i64 k/\aeJ c k) (λi=>3-(intOf i).toNat)
 exact⟨0,agB _,rfl,λi s=>absurd s ab⟩;obtain⟨k,hk,rfl,q⟩:=hrel;by_cases t:k<3
 .have x:=hc k t;have y:(k:Int)<3:=ab;cases u:(c k !=0)with|true=>(have f:LW (c 0) (c 1) (c 2)=c k:=by have z:c k≠0:=cQ;unfold LW;by_cases A:k=0;grind;rw[if_pos (q 0 ab)];by_cases B:k=1;grind;rw[if_pos (q 1 ab)];grind);have r:Hid (LW (c 0) (c 1) (c 2)=c k):=f;clear f;go_wp2;go_ret;exact⟨il r.out.symm,rfl⟩|false=>have v:c k=0:=cQ;have C:=v;go_wp2;(go_round);(case rel=>exact⟨k+1,ab,cQ,λi s=>by by_cases e:i=k;grind;exact q i ab⟩);exact cD
 have f:LW (c 0) (c 1) (c 2)=0:=by unfold LW;rw[if_pos (q 0 ab),if_pos (q 1 ab)];exact q 2 ab
 have r:Hid (LW (c 0) (c 1) (c 2)=0):=f;clear f;go_wp2;go_ret;exact⟨il r.out.symm,rfl⟩
def or3 (b:Nat)(x y z w)(c:w.cell? b=some (aa .i64 x))(d:w.cell? ⟨b,1,none⟩=some (aa .i64 y))(f:w.cell? ⟨b,2,none⟩=some (aa .i64 z)):
  ay Tz.prog 214 #[ac b 3 3] w λe w'=>e=av (LW x y z)/\w'=w:=
 U' b (λi=>if i=0 then x else if i=1 then y else z) w (λi j=>by
  match i,j with
  |0,_=>simpa using c
  |1,_=>simpa using d
  |2,_=>simpa using f)
def jO (g g':Nat->Int)(n r:Nat):Nat->Nat->Int
 |0,_=>if n<r then -1 else 0
 |f+1,k=>if r<=k then 1 else if lq (g k) (g' k)=0 then jO g g' n r f (k+1)else lq (g k) (g' k)
def aeZ (x9:p:=by go_ret;exact⟨il<|by first|exact hc.symm|rfl,rfl⟩):p:=x9
def aaD (x9:p:=by go_wp2;go_ret;exact⟨il<|by first|exact hc.symm|rfl,rfl⟩):p:=x9
def zg (a a' n c cap cap' g g' w)(y:n<=1048576)(m:c<=1048576)(h:eX w a n g)(o:eX w a' c g'): Calls Tz.prog 215 #[.slice a n cap,.slice a' c cap'] w λe w'=>e=.returned (jO g g' n c n 0)/\w'=w:=by go_enter Tz.func215,Tryz.ntmps215;go_wp2;(go_loopw [11] (λi w'=>∃k:Nat,k<=n/\i=.int .i64 k/\w'=w/\jO g g' n c n 0=jO g g' n c (n-k) k) (λi _=>n-(intOf i).toNat));grind;obtain⟨k,z,rfl,rfl,hc⟩:=hrel;by_cases q:k<n;(.obtain⟨b,r,rfl,s⟩:=h.resolve_left ab;have A:=s k q;have B:(k:Int)<n:=ab;have t:n-k=(n-(k+1))+1:=ab;rw[t,jO]at hc;by_cases f:c<=k;rw[if_pos f]at hc;have u:(c:Int)<=k:=ab;exact aaD;rw[if_neg f]at hc;obtain⟨C,D,rfl,v⟩:=o.resolve_left ab;have E:=v k ab;have u:¬(c:Int)<=k:=ab;have x:(k:Int)<c:=ab;by_cases j:lq (g k) (g' k)=0;(.rw[if_pos j]at hc;(go_wp2_with(go_at_call 77;refine(qq _ _ _).mono ?_;rintro e w' ⟨rfl,rfl⟩));(go_roundw);exact⟨k+1,ab,by go_num,Xf,hc⟩;exact cD);rw[if_neg j]at hc;(go_wp2_with(go_at_call 77;refine(qq _ _ _).mono ?_;rintro e w' ⟨rfl,rfl⟩));exact aeZ);(obtain rfl:k=n:=by omega);rw[Nat.sub_self,jO]at hc;by_cases l:k<c;rw[if_pos l]at hc;have d:(k:Int)<c:=ab;exact aaD;rw[if_neg l]at hc;have d:¬(k:Int)<c:=ab;exact aaD
def acw (g:Nat->Int):Nat->Nat->Int
 |0,_=>0
 |f+1,k=>if g k=0 then acw g f (k+1)else g k
def Ik (x9:p:=by go_wp2;go_ret;simp_all):p:=x9
def fA {W:au}{o v}(h:W.cell? ⟨b,o,none⟩=some v):∀c d e,(((W.alloc c).alloc d).alloc e).cell? ⟨b,o,none⟩=some v:=λc d e=>
 (((((agn W W).alloc (agw _) c).alloc aN d).alloc cY e).cell (block_lt_of_cell h)).trans h
def IY (x y)(bl b off n cap:Nat)(f W)(hx:x<n)(hy:y<n)(hn:n<=1048576) (cl:W.cell? bl=some (ac (some ⟨b,off,none⟩) n cap))(D:aM W b off n f): ay Tz.prog 228 #[aa .i64 x,aa .i64 y,.pointer bl] W λe w'=>e=av (TX f x y)/\Below W W w'/\W.drawn<=w'.drawn:=by
 have fe:(x:Int)<n:=ab;have Tl:(y:Int)<n:=ab;let⟨a0,a1,a2,a3,a4,a5⟩:=D x hx;let⟨b0,b1,b2,b3,b4,b5⟩:=D y hy;go_enter Tz.func228,Tryz.ntmps228;go_wp2;go_region_held3 (λw'=>w'.cell? bl=some (ac (some ⟨b,off,none⟩) n cap)/\w'.cell? ⟨b,off+x*6,none⟩=some (ao (f x).name)/\w'.cell? ⟨b,off+x*6+1,none⟩=some (ad (f x).ax)/\w'.cell? ⟨b,off+x*6+2,none⟩=some (aa .i64 (f x).aI)/\w'.cell? ⟨b,off+x*6+3,none⟩=some (aa .i64 (f x).cj)/\w'.cell? ⟨b,off+x*6+4,none⟩=some (aa .i64 (f x).late)/\w'.cell? ⟨b,off+x*6+5,none⟩=some (aa .i64 (f x).prom)/\w'.cell? ⟨b,off+y*6,none⟩=some (ao (f y).name)/\w'.cell? ⟨b,off+y*6+1,none⟩=some (ad (f y).ax)/\w'.cell? ⟨b,off+y*6+2,none⟩=some (aa .i64 (f y).aI)/\w'.cell? ⟨b,off+y*6+3,none⟩=some (aa .i64 (f y).cj)/\w'.cell? ⟨b,off+y*6+4,none⟩=some (aa .i64 (f y).late)/\w'.cell? ⟨b,off+y*6+5,none⟩=some (aa .i64 (f y).prom)) (go_keep) (fail)
 focus
  have t:Below W W ((W.alloc<|.cells #[ao (f x).name,ad (f x).ax,aa .i64 (f x).aI,aa .i64 (f x).cj,aa .i64 (f x).late,aa .i64 (f x).prom] 30).alloc<|.cells #[ao (f y).name,ad (f y).ax,aa .i64 (f y).aI,aa .i64 (f y).cj,aa .i64 (f y).late,aa .i64 (f y).prom] 30).drew:=(((agn _ W).alloc (agw _) _).alloc aN _).drew;have B:W.drawn<=((W.alloc<|.cells #[ao (f x).name,ad (f x).ax,aa .i64 (f x).aI,aa .i64 (f x).cj,aa .i64 (f x).late,aa .i64 (f x).prom] 30).alloc<|.cells #[ao (f y).name,ad (f y).ax,aa .i64 (f y).aI,aa .i64 (f y).cj,aa .i64 (f y).late,aa .i64 (f y).prom] 30).drew.drawn:=by show W.drawn<=W.drawn+1;omega
  have hA:vF ((W.alloc<|.cells #[ao (f x).name,ad (f x).ax,aa .i64 (f x).aI,aa .i64 (f x).cj,aa .i64 (f x).late,aa .i64 (f x).prom] 30).alloc<|.cells #[ao (f y).name,ad (f y).ax,aa .i64 (f y).aI,aa .i64 (f y).cj,aa .i64 (f y).late,aa .i64 (f y).prom] 30).drew ((W:Nat)) 0 (f x):=by constructor<;>simp[go_sem]
  have u:vF ((W.alloc<|.cells #[ao (f x).name,ad (f x).ax,aa .i64 (f x).aI,aa .i64 (f x).cj,aa .i64 (f x).late,aa .i64 (f x).prom] 30).alloc<|.cells #[ao (f y).name,ad (f y).ax,aa .i64 (f y).aI,aa .i64 (f y).cj,aa .i64 (f y).late,aa .i64 (f y).prom] 30).drew ((W:Nat)+1) 0 (f y):=by constructor<;>simp[go_sem]
  go_wp2;revert t B hA u;generalize ((W.alloc<|.cells #[ao (f x).name,ad (f x).ax,aa .i64 (f x).aI,aa .i64 (f x).cj,aa .i64 (f x).late,aa .i64 (f x).prom] 30).alloc<|.cells #[ao (f y).name,ad (f y).ax,aa .i64 (f y).aI,aa .i64 (f y).cj,aa .i64 (f y).late,aa .i64 (f y).prom] 30).drew=C;intro t B hA u;obtain⟨r,v⟩:∃r,r=(W:Nat):=⟨_,rfl⟩;obtain⟨s,A⟩:∃s,s=(W:Nat)+1:=⟨_,rfl⟩;rw[<-v]at hA;rw[<-A]at u;rw[<-A,<-v];clear v A
 rotate_left;focus
  have t:Below W W ((W.alloc<|.cells #[ao (f y).name,ad (f y).ax,aa .i64 (f y).aI,aa .i64 (f y).cj,aa .i64 (f y).late,aa .i64 (f y).prom] 30).alloc<|.cells #[ao (f x).name,ad (f x).ax,aa .i64 (f x).aI,aa .i64 (f x).cj,aa .i64 (f x).late,aa .i64 (f x).prom] 30).drew:=(((agn _ W).alloc (agw _) _).alloc aN _).drew;have B:W.drawn<=((W.alloc<|.cells #[ao (f y).name,ad (f y).ax,aa .i64 (f y).aI,aa .i64 (f y).cj,aa .i64 (f y).late,aa .i64 (f y).prom] 30).alloc<|.cells #[ao (f x).name,ad (f x).ax,aa .i64 (f x).aI,aa .i64 (f x).cj,aa .i64 (f x).late,aa .i64 (f x).prom] 30).drew.drawn:=by show W.drawn<=W.drawn+1;omega
  have hA:vF ((W.alloc<|.cells #[ao (f y).name,ad (f y).ax,aa .i64 (f y).aI,aa .i64 (f y).cj,aa .i64 (f y).late,aa .i64 (f y).prom] 30).alloc<|.cells #[ao (f x).name,ad (f x).ax,aa .i64 (f x).aI,aa .i64 (f x).cj,aa .i64 (f x).late,aa .i64 (f x).prom] 30).drew ((W:Nat)+1) 0 (f x):=by constructor<;>simp[go_sem]
  have u:vF ((W.alloc<|.cells #[ao (f y).name,ad (f y).ax,aa .i64 (f y).aI,aa .i64 (f y).cj,aa .i64 (f y).late,aa .i64 (f y).prom] 30).alloc<|.cells #[ao (f x).name,ad (f x).ax,aa .i64 (f x).aI,aa .i64 (f x).cj,aa .i64 (f x).late,aa .i64 (f x).prom] 30).drew ((W:Nat)) 0 (f y):=by constructor<;>simp[go_sem]
  go_wp2;revert t B hA u;generalize ((W.alloc<|.cells #[ao (f y).name,ad (f y).ax,aa .i64 (f y).aI,aa .i64 (f y).cj,aa .i64 (f y).late,aa .i64 (f y).prom] 30).alloc<|.cells #[ao (f x).name,ad (f x).ax,aa .i64 (f x).aI,aa .i64 (f x).cj,aa .i64 (f x).late,aa .i64 (f x).prom] 30).drew=C;intro t B hA u;obtain⟨r,v⟩:∃r,r=(W:Nat)+1:=⟨_,rfl⟩;obtain⟨s,A⟩:∃s,s=(W:Nat):=⟨_,rfl⟩;rw[<-v]at hA;rw[<-A]at u;rw[<-v,<-A];clear v A
 all_goals
  let⟨J,N,O,R,T,U⟩:=hA;let⟨Y,Z,k2,k3,k4,k5⟩:=u;simp only[Nat.zero_add]at J N O R T U Y Z k2 k3 k4 k5;have aG:=fA J;have aV:=fA N;have aZ:=fA O;have be:=fA R;have bi:=fA T;have bj:=fA U;have bk:=fA Y;have bm:=fA Z;have bn:=fA k2;have bo:=fA k3;have bp:=fA k4;have bq:=fA k5;go_region_held3 (λw'=>w'.cell? r=some (ao (f x).name)/\w'.cell? ⟨r,1,none⟩=some (ad (f x).ax)/\w'.cell? ⟨r,2,none⟩=some (aa .i64 (f x).aI)/\w'.cell? ⟨r,3,none⟩=some (aa .i64 (f x).cj)/\w'.cell? ⟨r,4,none⟩=some (aa .i64 (f x).late)/\w'.cell? ⟨r,5,none⟩=some (aa .i64 (f x).prom)/\w'.cell? s=some (ao (f y).name)/\w'.cell? ⟨s,1,none⟩=some (ad (f y).ax)/\w'.cell? ⟨s,2,none⟩=some (aa .i64 (f y).aI)/\w'.cell? ⟨s,3,none⟩=some (aa .i64 (f y).cj)/\w'.cell? ⟨s,4,none⟩=some (aa .i64 (f y).late)/\w'.cell? ⟨s,5,none⟩=some (aa .i64 (f y).prom)) (go_keep)
   (first|(go_at_call 229;refine(Vz _ _).mono ?_;rintro e w' ⟨rfl,rfl⟩)|(go_at_call 77;refine(qq _ _ _).mono ?_;rintro e w' ⟨rfl,rfl⟩)|(go_at_call 230;refine(PB _ _ _).mono ?_;rintro e w' ⟨rfl,rfl⟩)|(go_at_call 214;refine(or3 _ (lq (f x).key (f y).key) (vK (f x).name (f y).name) (lq (x:Int) (y:Int)) _ D5 D5 D5).mono ?_;rintro e w' ⟨rfl,rfl⟩))
  all_goals
   go_wp2;go_ret;refine⟨il rfl,t.trans ?_,?_⟩
   .exact((((agn W C).alloc t.size _).alloc (by have:=t.size;simp;omega) _).alloc (by have:=t.size;simp;omega) _).drew
   .show W.drawn<=C.drawn+1;omega
section
variable {a:Option Addr}{g:Nat->Int}
def oL (x y:aX):Int:=if x.ok=y.ok then LW (lq x.sum y.sum) (lq x.most y.most) (jO x.g y.g x.n y.n x.n 0)else if x.ok then -1 else 1
def eX.below {w'}(h:eX w a n g)(f:Below w w w'):eX w' a n g:=by rcases h with h|⟨b,c,e,d⟩;exact .inl h;by_cases i:n=0;exact .inl i;refine .inr ⟨b,c,e,d.below f ?_⟩;have:=d 0 ab;grind [aj,Array.getElem?_eq_none,Nat.lt_or_ge]
def eX.alloc (o)(h:eX w a n g):eX (w.alloc o) a n g:=h.below<|(agn _ w).alloc (agw _) o
def eX.drew (h:eX w a n g):eX w.drew a n g:=h
def Jd (x y:aX)(W:au)(K:x.n<=1048576)(L:y.n<=1048576)(h:eX W x.a x.n x.g)(G:eX W y.a y.n y.g):
  ay Tz.prog 190 #[x.val,y.val] W λe w'=>e=av (oL x y)/\Below W W w':=by
 let⟨D,f,i,j,c,o,B⟩:=x;let⟨M,k,l,m,d,q,C⟩:=y;simp[aX.val,oL]at*;by_cases N:D=M
 .subst N;rw[if_pos rfl];have r:Below W W ((W.alloc<|.cells #[D,f,i,ac j c o] 217).alloc<|.cells #[D,k,l,ac m d q] 217):=((agn _ W).alloc ab _).alloc aN _;cases D
  .have u:((W.alloc<|.cells #[false,f,i,ac j c o] 217).alloc<|.cells #[false,k,l,ac m d q] 217).cell? ⟨W,1,none⟩=some (aa .i64 f)/\((W.alloc<|.cells #[false,f,i,ac j c o] 217).alloc<|.cells #[false,k,l,ac m d q] 217).cell? ⟨W,2,none⟩=some (aa .i64 i)/\((W.alloc<|.cells #[false,f,i,ac j c o] 217).alloc<|.cells #[false,k,l,ac m d q] 217).cell? ⟨W,3,none⟩=some (ac j c o):=by refine⟨?_,?_,?_⟩<;>simp[go_sem]
   have v:((W.alloc<|.cells #[false,f,i,ac j c o] 217).alloc<|.cells #[false,k,l,ac m d q] 217).cell? ⟨(W:Nat)+1,1,none⟩=some (aa .i64 k)/\((W.alloc<|.cells #[false,f,i,ac j c o] 217).alloc<|.cells #[false,k,l,ac m d q] 217).cell? ⟨(W:Nat)+1,2,none⟩=some (aa .i64 l)/\((W.alloc<|.cells #[false,f,i,ac j c o] 217).alloc<|.cells #[false,k,l,ac m d q] 217).cell? ⟨(W:Nat)+1,3,none⟩=some (ac m d q):=by refine⟨?_,?_,?_⟩<;>simp[go_sem]
   have E:=h.below r;have F:=G.below r;go_enter Tz.func190,Tryz.ntmps190
   go_wp2;revert r u v E F;generalize ((W.alloc<|.cells #[ad false,aa .i64 f,aa .i64 i,ac j c o] 217).alloc<|.cells #[ad false,aa .i64 k,aa .i64 l,ac m d q] 217)=J;intro r u v E F;obtain⟨s,z⟩:∃s,s=(W:Nat):=⟨_,rfl⟩;obtain⟨t,A⟩:∃t,t=(W:Nat)+1:=⟨_,rfl⟩;rw[<-z]at u;rw[<-A]at v;rw[<-A,<-z];have O:=u;have P:=v;clear z A h G;go_region_held3 (λw'=>w'.cell? ⟨s,1,none⟩=some (aa .i64 f)/\w'.cell? ⟨s,2,none⟩=some (aa .i64 i)/\w'.cell? ⟨s,3,none⟩=some (ac j c o)/\w'.cell? ⟨t,1,none⟩=some (aa .i64 k)/\w'.cell? ⟨t,2,none⟩=some (aa .i64 l)/\w'.cell? ⟨t,3,none⟩=some (ac m d q)/\eX w' j c B/\eX w' m d C) (simp[*,a8,eX.alloc,eX.drew])
    (first|(go_at_call 77;refine(qq _ _ _).mono ?_;rintro e w' ⟨rfl,rfl⟩)|(go_at_call 215;refine(zg _ _ _ _ _ _ B C _ K L (by assumption)<|by assumption).mono ?_;rintro e w' ⟨rfl,rfl⟩)|(go_at_call 214;refine(or3 _ (lq f k) (lq i l) (jO B C c d c 0) _ D5 D5 D5).mono ?_;rintro e w' ⟨rfl,rfl⟩))
   all_goals
    go_wp2;go_ret;exact⟨il rfl,r.trans<|((agn W J).alloc r.size _).drew⟩
  have u:((W.alloc<|.cells #[true,f,i,ac j c o] 217).alloc<|.cells #[true,k,l,ac m d q] 217).cell? ⟨W,1,none⟩=some (aa .i64 f)/\((W.alloc<|.cells #[true,f,i,ac j c o] 217).alloc<|.cells #[true,k,l,ac m d q] 217).cell? ⟨W,2,none⟩=some (aa .i64 i)/\((W.alloc<|.cells #[true,f,i,ac j c o] 217).alloc<|.cells #[true,k,l,ac m d q] 217).cell? ⟨W,3,none⟩=some (ac j c o):=by refine⟨?_,?_,?_⟩<;>simp[go_sem]
  have v:((W.alloc<|.cells #[true,f,i,ac j c o] 217).alloc<|.cells #[true,k,l,ac m d q] 217).cell? ⟨(W:Nat)+1,1,none⟩=some (aa .i64 k)/\((W.alloc<|.cells #[true,f,i,ac j c o] 217).alloc<|.cells #[true,k,l,ac m d q] 217).cell? ⟨(W:Nat)+1,2,none⟩=some (aa .i64 l)/\((W.alloc<|.cells #[true,f,i,ac j c o] 217).alloc<|.cells #[true,k,l,ac m d q] 217).cell? ⟨(W:Nat)+1,3,none⟩=some (ac m d q):=by refine⟨?_,?_,?_⟩<;>simp[go_sem]
  have E:=h.below r;have F:=G.below r;go_enter Tz.func190,Tryz.ntmps190
  go_wp2;revert r u v E F;generalize ((W.alloc<|.cells #[ad true,aa .i64 f,aa .i64 i,ac j c o] 217).alloc<|.cells #[ad true,aa .i64 k,aa .i64 l,ac m d q] 217)=J;intro r u v E F;obtain⟨s,z⟩:∃s,s=(W:Nat):=⟨_,rfl⟩;obtain⟨t,A⟩:∃t,t=(W:Nat)+1:=⟨_,rfl⟩;rw[<-z]at u;rw[<-A]at v;rw[<-A,<-z];have O:=u;have P:=v;clear z A h G;go_region_held3 (λw'=>w'.cell? ⟨s,1,none⟩=some (aa .i64 f)/\w'.cell? ⟨s,2,none⟩=some (aa .i64 i)/\w'.cell? ⟨s,3,none⟩=some (ac j c o)/\w'.cell? ⟨t,1,none⟩=some (aa .i64 k)/\w'.cell? ⟨t,2,none⟩=some (aa .i64 l)/\w'.cell? ⟨t,3,none⟩=some (ac m d q)/\eX w' j c B/\eX w' m d C) (simp[*,a8,eX.alloc,eX.drew])
   (first|(go_at_call 77;refine(qq _ _ _).mono ?_;rintro e w' ⟨rfl,rfl⟩)|(go_at_call 215;refine(zg _ _ _ _ _ _ B C _ K L (by assumption)<|by assumption).mono ?_;rintro e w' ⟨rfl,rfl⟩)|(go_at_call 214;refine(or3 _ (lq f k) (lq i l) (jO B C c d c 0) _ D5 D5 D5).mono ?_;rintro e w' ⟨rfl,rfl⟩))
  all_goals
   go_wp2;go_ret;exact⟨il rfl,r.trans<|((agn W J).alloc r.size _).drew⟩
 cases D<;>cases M<;>simp at N
 .go_enter Tz.func190,Tryz.ntmps190
  go_wp2;go_ret;exact⟨il aN,(((agn _ W).alloc ab _).alloc aN _)⟩
 go_enter Tz.func190,Tryz.ntmps190
 go_wp2;go_ret;exact⟨il aN,(((agn _ W).alloc (agw _) _).alloc aN _)⟩
end
structure WX (w:au)(b o)(x:aX):Prop where
 c0:w.cell? ⟨b,o,none⟩=some (ad x.ok)
 c1:w.cell? ⟨b,o+1,none⟩=some (aa .i64 x.sum)
 c2:w.cell? ⟨b,o+2,none⟩=some (aa .i64 x.most)
 c3:w.cell? ⟨b,o+3,none⟩=some (ac x.a x.n x.cap)
 row:eX w x.a x.n x.g
 small:x.n<=1048576
def IS (w:au)(b off n:Nat)(f:Nat->aX):Prop:=∀i,i<n->WX w b (off+i*4) (f i)
def cX (f:Nat->aX):Nat->aX
 |0=>ff
 |k+1=>if k=0\/oL (f k) (cX f k)<0 then f k else cX f k
def va {a0 a1 i j c d e f T}(h:w.heap[b]?=some (.cells #[a0,a1,i,j] T (0,0))): (((w.setCell b c).setCell ⟨b,1,none⟩ d).setCell ⟨b,2,none⟩ e).setCell ⟨b,3,none⟩ f=w.setRow b #[c,d,e,f]:=by rw[aL w b 0 _ _ _ c h,aL _ b 1 _ _ _ d (aE w b _ _ T _ h),a6,aL _ b 2 _ _ _ e (aE w b _ _ T _ h),a6,aL _ b 3 _ _ _ f (aE w b _ _ T _ h),a6];rfl
def Ai {off n f}(r:IS w b off n f):∀k,k<=n->eX w (cX f k).a (cX f k).n (cX f k).g/\(cX f k).n<=1048576
 |0,_=>⟨.inl rfl,by simp[cX,ff]⟩
 |k+1,h=>by
  simp only[cX];split
  .exact⟨(r k ab).row,(r k ab).small⟩
  .exact Ai r k ab
def GD (b off n cap:Nat)(f)(w:au)(hn:n<=1048576)(O:b<w)(az:IS w b off n f): ay Tz.prog 189 #[ac (some ⟨b,off,none⟩) n cap,.func (.func 190) #[] #[]] w λe w'=>e=av (cX f n).val/\Below w w w':=by
 go_enter Tz.func189,Tryz.ntmps189;go_wp2;go_loopw [10] (λi w'=>∃k:Nat,k<=n/\i=aa .i64 k/\Below w w w'/\(w:Nat)+2<=(w':Nat)/\w'.heap[(w:Nat)]?=some (.cells #[false,(0:Int),(0:Int),()] 217)/\w'.heap[(w:Nat)+1]?=some (.cells #[ad (cX f k).ok,aa .i64 (cX f k).sum,aa .i64 (cX f k).most,ac (cX f k).a (cX f k).n (cX f k).cap] 217)) (λi _=>n-(intOf i).toNat)
 exact⟨0,agB _,rfl,((agn _ w).alloc ab _).alloc aN _,aN,(ago _ _ _ aN).trans<|heap_alloc_new _ _,by have:=heap_alloc_new (w.alloc<|.cells #[ad false,(0:Int),(0:Int),ac none 0 0] 217)<|.cells #[ad false,(0:Int),(0:Int),ac none 0 0] 217;simpa[cX,ff]using this⟩;obtain⟨k,hk,rfl,C,iV,A,s⟩:=hrel;by_cases aG:k<n
 .let⟨c0,c1,c2,c3,hl,Y⟩:=az k aG;have dQ:(k:Int)<n:=ab;have d0:=(C.cell O).trans c0;have d1:=(C.cell O).trans c1;have d2:=(C.cell O).trans c2;have d3:=(C.cell O).trans c3;generalize hL:cX f k=L at s;have l0:wr.cell? ⟨(w:Nat)+1,0,none⟩=some (ad L.ok):=by simp[aj,s]
  have l1:wr.cell? ⟨(w:Nat)+1,1,none⟩=some (aa .i64 L.sum):=by simp[aj,s]
  have l2:wr.cell? ⟨(w:Nat)+1,2,none⟩=some (aa .i64 L.most):=by simp[aj,s]
  have l3:wr.cell? ⟨(w:Nat)+1,3,none⟩=some (ac L.a L.n L.cap):=by simp[aj,s]
  have lf:∀j,wr.frozen? ⟨(w:Nat)+1,j,none⟩=false:=λj=>by simp[aP,s]
  have D:(w:Nat)+1<wr:=ab;have hS:cX f (k+1)=if k=0\/oL (f k) L<0 then f k else L:=by rw[<-hL];rfl
  by_cases yl:k=0
  .subst yl;rw[if_pos (.inl rfl)]at hS;simp[Nat.zero_mul,Nat.add_zero]at d0 d1 d2 d3;go_wp2;(go_roundw);rw[va s];have hz:(wr.setRow ((w:Nat)+1) #[ad (f 0).ok,aa .i64 (f 0).sum,aa .i64 (f 0).most,ac (f 0).a (f 0).n (f 0).cap]).heap.size=(wr:Nat):=bb _ _ _;refine⟨1,ab,rfl,(a7 C ab _).alloc ab _,by rw[ags,hz];omega,?_,by rw[ago _ _ _ ab,aE _ _ _ _ _ _ s,hS]⟩;rw[ago _ _ _ ab,a9 _ _ _ _ ab];exact A;exact cD
  have Lp:¬((k:Int)=0):=by omega
  let⟨J,N⟩:=Ai az k hk;rw[hL]at J N;have hA:Below w w (wr.alloc<|.cells #[ad (f k).ok,aa .i64 (f k).sum,aa .i64 (f k).most,ac (f k).a (f k).n (f k).cap] 217):=C.alloc ab _;have OU:=hl.below hA;have XJ:=J.below hA;have R:=Jd (f k) L (wr.alloc<|.cells #[ad (f k).ok,aa .i64 (f k).sum,aa .i64 (f k).most,ac (f k).a (f k).n (f k).cap] 217) Y N OU XJ;by_cases T:oL (f k) L<0
  .rw[if_pos (.inr T)]at hS;(go_wp2_with(go_at_call 190;refine R.mono ?_;clear R;rintro e r ⟨rfl,u⟩;have B:=(u.block wr aN).trans<|heap_alloc_new _ _;have t:=(u.block ((w:Nat)+1) cY).trans<|(ago _ _ _ D).trans s;have Z:=(u.block w cY).trans<|(ago _ _ _ ab).trans A;have x0:r.cell? ⟨wr,0,none⟩=some (ad (f k).ok):=(by simp[aj,B]);have x1:r.cell? ⟨wr,1,none⟩=some (aa .i64 (f k).sum):=(by simp[aj,B]);have x2:r.cell? ⟨wr,2,none⟩=some (aa .i64 (f k).most):=(by simp[aj,B]);have x3:r.cell? ⟨wr,3,none⟩=some (ac (f k).a (f k).n (f k).cap):=(by simp[aj,B]);have y0:r.cell? ⟨(w:Nat)+1,0,none⟩=some (ad L.ok):=(by simp[aj,t]);have y1:r.cell? ⟨(w:Nat)+1,1,none⟩=some (aa .i64 L.sum):=(by simp[aj,t]);have y2:r.cell? ⟨(w:Nat)+1,2,none⟩=some (aa .i64 L.most):=(by simp[aj,t]);have y3:r.cell? ⟨(w:Nat)+1,3,none⟩=some (ac L.a L.n L.cap):=(by simp[aj,t]);have yf:∀j,r.frozen? ⟨(w:Nat)+1,j,none⟩=false:=(λj=>by simp[aP,t]);have qu:=hA.trans<|u.mono cY;have eI:=u.size)<;>try omega);(go_roundw);rw[va t];rw[ags]at eI;refine⟨k+1,ab,by go_num,a7 qu ab _,by rw[(bb _ _ _)];omega,?_,by rw[aE _ _ _ _ _ _ t,hS]⟩;rw[a9 _ _ _ _ ab];exact Z;exact cD
  rw[if_neg (λe=>e.elim yl T)]at hS;have S7:decide (oL (f k) L<0)=false:=decide_eq_false T;have ax:0<=oL (f k) L:=ab;clear T;go_wp2_with(go_at_call 190;refine R.mono ?_;clear R;rintro e r ⟨rfl,u⟩;have B:=(u.block wr aN).trans<|heap_alloc_new _ _;have t:=(u.block ((w:Nat)+1) cY).trans<|(ago _ _ _ D).trans s;have Z:=(u.block w cY).trans<|(ago _ _ _ ab).trans A;have x0:r.cell? ⟨wr,0,none⟩=some (ad (f k).ok):=(by simp[aj,B]);have x1:r.cell? ⟨wr,1,none⟩=some (aa .i64 (f k).sum):=(by simp[aj,B]);have x2:r.cell? ⟨wr,2,none⟩=some (aa .i64 (f k).most):=(by simp[aj,B]);have x3:r.cell? ⟨wr,3,none⟩=some (ac (f k).a (f k).n (f k).cap):=(by simp[aj,B]);have y0:r.cell? ⟨(w:Nat)+1,0,none⟩=some (ad L.ok):=(by simp[aj,t]);have y1:r.cell? ⟨(w:Nat)+1,1,none⟩=some (aa .i64 L.sum):=(by simp[aj,t]);have y2:r.cell? ⟨(w:Nat)+1,2,none⟩=some (aa .i64 L.most):=(by simp[aj,t]);have y3:r.cell? ⟨(w:Nat)+1,3,none⟩=some (ac L.a L.n L.cap):=(by simp[aj,t]);have yf:∀j,r.frozen? ⟨(w:Nat)+1,j,none⟩=false:=(λj=>by simp[aP,t]);have qu:=hA.trans<|u.mono cY;have eI:=u.size)
  all_goals try omega
  go_roundw
  case rel=>rw[ags]at eI;exact⟨k+1,ab,by go_num,qu,ab,Z,by rw[t,hS]⟩
  case measure=>exact cD
 have tX:k=n:=by omega
 subst tX;have l0:wr.cell? ⟨(w:Nat)+1,0,none⟩=some (ad (cX f k).ok):=by simp[aj,s]
 have l1:wr.cell? ⟨(w:Nat)+1,1,none⟩=some (aa .i64 (cX f k).sum):=by simp[aj,s]
 have l2:wr.cell? ⟨(w:Nat)+1,2,none⟩=some (aa .i64 (cX f k).most):=by simp[aj,s]
 have l3:wr.cell? ⟨(w:Nat)+1,3,none⟩=some (ac (cX f k).a (cX f k).n (cX f k).cap):=by simp[aj,s]
 have s0:wr.cell? (w:Nat)=some (ad false):=by simp[aj,A]
 have s1:wr.cell? ⟨w,1,none⟩=some (aa .i64 0):=by simp[aj,A]
 have s2:wr.cell? ⟨w,2,none⟩=some (aa .i64 0):=by simp[aj,A]
 have s3:wr.cell? ⟨w,3,none⟩=some (ac none 0 0):=by simp[aj,A]
 have sf:∀j,wr.frozen? ⟨w,j,none⟩=false:=λj=>by simp[aP,A]
 go_wp2;rw[va A];have hw5:=aE wr w _ #[ad (cX f k).ok,aa .i64 (cX f k).sum,aa .i64 (cX f k).most,ac (cX f k).a (cX f k).n (cX f k).cap] _ _ A;have jd:=a7 C (agw _) #[ad (cX f k).ok,aa .i64 (cX f k).sum,aa .i64 (cX f k).most,ac (cX f k).a (cX f k).n (cX f k).cap];generalize wr.setRow w #[ad (cX f k).ok,aa .i64 (cX f k).sum,aa .i64 (cX f k).most,ac (cX f k).a (cX f k).n (cX f k).cap]=U at hw5 jd⊢;have q0:U.cell? (w:Nat)=some (ad (cX f k).ok):=xU;have q1:U.cell? ⟨w,1,none⟩=some (aa .i64 (cX f k).sum):=xU;have q2:U.cell? ⟨w,2,none⟩=some (aa .i64 (cX f k).most):=xU;have q3:U.cell? ⟨w,3,none⟩=some (ac (cX f k).a (cX f k).n (cX f k).cap):=xU;refine bodyPost_ret (v:=(cX f k).val) ?_ rfl ⟨rfl,jd⟩;simp[results,Tryz.f189,go_sem,aX.val,q0,q1,q2,q3]
