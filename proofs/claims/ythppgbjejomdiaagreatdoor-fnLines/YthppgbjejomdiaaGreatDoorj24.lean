import Derived.Test.YthppgbjejomdiaaGreatDoorj23
import Derived.Test.YthppgbjejomdiaaGreatDoorj12
set_option linter.all false
set_option maxHeartbeats 8000000
set_option maxRecDepth 10000
open Go renaming cell_of_row->ad,World->aj,block_lt_of_cell->ay,Value->aE,Addr->a3,TypeId->a4,heap_alloc_new->a6,frozen_of_row->a7,wp_region_held_drew->bo,heap_setCell_same->bp,wpAnyH_done->bs
open Go.RowKit renaming Below->ao
open Go.Value renaming int->aa,slice->ac,pointer->aP,agg->a0,string->a2
open Go.World renaming cell?_setCell_other->a9,frozen?_of_block->bi
open List renaming length_append->a5,setIfInBounds_toArray->a8,getElem?_eq_getElem->be,flatMap_append->bj,set_cons_zero->bk,set_cons_succ->bm,range_succ->bn,range->br
open Or renaming inl->aL,inr->a1
namespace Go.Proofs.YthppgbjejomdiaaGreatDoor
open RowKit
variable {now shift:Int}{B x r b cap cap' hi k lo m n:Nat}{g:Nat->ByteArray}{t:Nat->Int}{f:Nat->Mv}{a a':Option a3}{T:a4}{u v D:aE}{W W' w w':aj}
section
variable {d h:Nat}{s:aE}
structure afg (T lo hi)(w w':aj):Prop where
 size:(w:Nat)<=w'
 block:∀k,k<(w:Nat)->(k<lo\/hi<=k\/∃cs T',T'≠T/\w.heap[k]?=some (.cells cs T' (0,0)))->w'.heap[k]?=w.heap[k]?
 below:ao lo w w'
structure Mid (lo hi)(w w':aj):Prop where
 size:(w:Nat)<=w'
 block:∀k,k<(w:Nat)->(k<lo\/hi<=k)->w'.heap[k]?=w.heap[k]?
 below:ao lo w w'
def Zf (w:aj)(b n:Nat)(g:Nat->ByteArray):Prop:=∀i,i<n->w.cell? ⟨b,i,none⟩=some (a2<|g i)
def adz (w:aj)(lo hi:Nat)(v:aE)(n:Nat)(f:Nat->Mv):Prop:=
 (n=0/\∃a c,v=ac a 0 c)\/∃B c cs,v=ac (some ⟨B,0,none⟩) n c/\lo<=B/\B<hi/\hi<=w/\w.heap[B]?=some (.cells cs 30 (0,0))/\n*6<=cs.size/\aM w B 0 n f
def ady (w:aj)(lo hi:Nat)(v:aE)(n:Nat)(g:Nat->Int):Prop:=
 (n=0/\∃a c,v=ac a 0 c)\/∃B c cs,v=ac (some ⟨B,0,none⟩) n c/\lo<=B/\B<hi/\hi<=w/\w.heap[B]?=some (.cells cs 3 (0,0))/\n<=cs.size/\aD w B 0 n g
def adC (w:aj)(lo hi:Nat)(v:aE)(n:Nat)(g:Nat->ByteArray):Prop:=
 (n=0/\∃a c,v=ac a 0 c)\/∃B c cs,v=ac (some ⟨B,0,none⟩) n c/\lo<=B/\B<hi/\hi<=w/\w.heap[B]?=some (.cells cs 9 (0,0))/\n<=cs.size/\Zf w B n g
structure Bks (w lo hi) v n (f) u m (t) s k (g):Prop where
 mv:adz w lo hi v n f
 tk:ady w lo hi u m t
 nm:adC w lo hi s k g
end
def aeG (k:Int)(i:Nat):Mv:=⟨aci<|k+i*6,(k+i*6+1)%3==0,k+i*6+1+1,k+i*6+1+1+1,k+i*6+1+1+1+1,k+i*6+1+1+1+1+1⟩
section
variable {N:Nat}
abbrev Xe (now shift:Int)(v u:aE):Value:=a0 #[now,shift,v,u]
end
section
variable {m:Mv}
def fI (f:Nat->Mv)(n:Nat):List Value:=(br n).flatMap λj=>(f j).cells.toList
def jS (f):∀n,(fI f n).length=n*6
 |0=>rfl
 |n+1=>by
  have:=jS f n;unfold fI at this⊢;rw[bn,bj,a5,this];simp[Nat.add_mul]
def qJ (f) n:fI f (n+1)=fI f n++(f n).cells.toList:=by unfold fI;rw[bn,bj];simp
def uR {g}:∀{n:Nat},(∀j,j<n->f j=g j)->fI f n=fI g n
 |0,_=>rfl
 |n+1,h=>by rw[qJ,qJ,uR (λj J=>h j ab),h n ab]
def tD (f):∀n i k,i<n->k<6->(fI f n)[i*6+k]?=(f i).cells.toList[k]?
 |0,i,k,hi,_=>absurd hi (agA _)
 |n+1,i,k,hi,hk=>by
  rw[qJ];by_cases e:i=n
  .subst e;rw[agI (by rw[jS];omega),jS];congr 1;omega
  .rw[agH (by rw[jS];omega)];exact tD f n i k ab hk
def VB {base c}(h:w.ownsRow base T 6 (ac B n c) n (fI f n)):aM w B 0 n f:=by intro i hi;(have q:∀k,k<6->w.cell? ⟨B,0+i*6+k,none⟩=(f i).cells.toList[k]?:=λk hk=>by rw[Nat.zero_add,h.cellAt _ ab];exact tD f n i k hi hk);exact⟨q 0 ab,q 1 ab,q 2 ab,q 3 ab,q 4 ab,q 5 ab⟩
def dU (w:aj)(b:Nat)(m:Mv):Prop:=w.heap[b]?=some (.cells #[m.name,m.ax,m.aI,m.cj,m.late,m.prom] 30 (0,0))
def dU.at_ (h:dU w b m):vF w b 0 m:=by constructor<;>(rw[ad _ _ _ _ _ _ h];rfl)
def dU.frozen (h:dU w b m) j:w.frozen? ⟨b,j,none⟩=false:=a7 w _ j _ _ h
def EL:(Tz.prog.info? 30).map (λi=>(i.zero,i.size,i.bytes))=some (some<|a0 #[ByteArray.empty,false,(0:Int),(0:Int),(0:Int),(0:Int)],6,56):=aO
def X_ (h:dU W b m):∀j u,m.cells.toList[j]?=some u->W.cell? ((b:a3).add j)=some u:=λj u i=>by
 have e:(b:a3).add j=⟨b,j,none⟩:=by simp[Addr.add];omega
 rw[e,ad _ _ _ _ _ _ h];simpa using i
def Rn (m:Mv):∀u∈m.cells.toList,u.oneCell':=λu i=>by
 simp at i;rcases i with rfl|rfl|rfl|rfl|rfl|rfl<;>rfl
def stay (now:Int)(t:Nat->Int):Nat->List Nat
 |0=>[]
 |k+1=>if t k=now then stay now t k else stay now t k++[k]
def gone (now:Int)(t:Nat->Int):Nat->List Nat
 |0=>[]
 |k+1=>if t k=now then gone now t k++[k]else gone now t k
def AX now (t):∀k,(stay now t k).length<=k
 |0=>agw _
 |k+1=>by have:=AX now t k;simp only[stay];split<;>simp<;>omega
def qs now (t):∀k,(gone now t k).length<=k
 |0=>agw _
 |k+1=>by have:=qs now t k;simp only[gone];split<;>simp<;>omega
def sL (f:Nat->Mv)(t:Nat->Int)(now:Int)(l:List Nat):List Value:=l.flatMap λi=>(bT (f i) (t i)<|now+1).cells.toList
def sM (t:Nat->Int)(l:List Nat):List Value:=l.map λi=>aa .i64<|t i
def nX (f:Nat->Mv)(l:List Nat):List Value:=l.map λi=>a2 (f i).name
def KD (f t) now (l) k:sL f t now (l++[k])=sL f t now l++(bT (f k) (t k)<|now+1).cells.toList:=by simp[sL]
def KE (t l) k:sM t (l++[k])=sM t l++[aa .i64 (t k)]:=by simp[sM]
def Jq (f l) k:nX f (l++[k])=nX f l++[a2 (f k).name]:=by simp[nX]
def nth (l:List Nat)(j:Nat):Nat:=l.getD j 0
def NY (l):(br l.length).map (nth l)=l:=by apply List.ext_getElem;simp;intro i p j;simp[nth,be j]
def Ic (f t) now (l):sL f t now l=fI (λj=>bT (f<|nth l j) (t<|nth l j)<|now+1) l.length:=by
 unfold sL fI;conv=>lhs;rw[<-NY l]
 rw[List.flatMap_map]
theorem On (t l) j (h:j<l.length):(sM t l)[j]?=some (aa .i64<|t<|nth l j):=by simp[sM,nth,be h]
end
section
variable {base size A:Nat}{e:a4}{xs:List aE}{l C:List Nat}
def eQ (h:w.ownsRow base e size v n xs)(hs:∀B,v.ownBlock=some B->w'.heap[B]?=w.heap[B]?):w'.ownsRow base e size v n xs:=by obtain⟨q,z|⟨g,c,p,rfl,J,O,R⟩⟩:=h;exact⟨q,aL z⟩;exact⟨q,a1 ⟨g,c,p,rfl,J,(hs g rfl).trans O,R⟩⟩
def L3 (h:w.ownsRow base e size v n xs) B (q:v.ownBlock=some B):∃cs,w.heap[B]?=some (.cells cs e (0,0)):=by obtain⟨z,J|⟨g,c,p,rfl,O,R,U⟩⟩:=h;all_goals grind [Value.ownBlock]
def De {z q E F i}(h:w.ownsRow base e size v n xs)(G:w.ownsRow z q E D F i)(j:e≠q) B (J:v.ownBlock=some B):D.ownBlock≠some B:=λK=>by
 let⟨P,L⟩:=L3 h B J;let⟨O,p⟩:=L3 G B K;rw[L]at p;simp at p;exact j p.2
def sO.same (h:sO w B now shift a n cap a' m cap')(e:w'.heap[B]?=w.heap[B]?):sO w' B now shift a n cap a' m cap':=
 ⟨(agt e).trans h.c0,(agt e).trans h.c1,(agt e).trans h.c2,(agt e).trans h.c3⟩
structure Nx (w:aj)(x A r base:Nat)(now shift a n cap a' m cap' v u f t l C W):Prop where
 bb:sO W x now shift a n cap a' m cap'
 nx:W.heap[r]?=some (.cells #[aa .i64<|now+1,shift,v,u] 42 (0,0))
 rs:W.heap[A]?=some (.cells #[(0:Int),(0:Int),(),()] 42 (0,0))
 ov:W.ownsRow base 30 6 v l.length (sL f t now l)
 ou:W.ownsRow base 3 1 u C.length (sM t C)
 size:base<=W
 below:ao w w W
 ord:w<=x/\w<=A/\w<=r/\x<base/\A<base/\r<base/\x≠r/\A≠r
def Nx.grow (h:Nx w x A r base now shift a n cap a' m cap' v u f t l C W)(hb:ao W W W'):Nx w x A r base now shift a n cap a' m cap' v u f t l C W':=by have hs:=h.size;have O:=h.ord;exact⟨h.bb.below hb ab,(hb.block r ab).trans h.nx,(hb.block A ab).trans h.rs,eQ h.ov λB J=>hb.block B (h.ov.lt B J).2,eQ h.ou λB J=>hb.block B (h.ou.lt B J).2,agz hs hb.size,h.below.trans<|hb.mono h.below.size,h.ord⟩
def Nx.drew (h:Nx w x A r base now shift a n cap a' m cap' v u f t l C W):Nx w x A r base now shift a n cap a' m cap' v u f t l C W.drew:=h.grow (agn _ _).drew
def Nx.uS (h:Nx w x A r base now shift a n cap a' m cap' v u f t l C W):(W.cell? r=some (aa .i64<|now+1)/\W.cell? ⟨r,2,none⟩=some v/\W.cell? ⟨r,3,none⟩=some u)/\∀j,W.frozen? ⟨r,j,none⟩=false:=
 ⟨⟨by rw[ad _ _ _ _ _ _ h.nx];rfl,by rw[ad _ _ _ _ _ _ h.nx];rfl,by rw[ad _ _ _ _ _ _ h.nx];rfl⟩,λj=>a7 W _ j _ _ h.nx⟩
def Nx.moves (h:Nx w x A r base now shift a n cap a' m cap' v u f t l C W) k (ho:W'.ownsRow base 30 6 D (l.length+1) (sL f t now l++(bT (f k) (t k)<|now+1).cells.toList))(O:W.grownBy W' v.ownBlock):Nx w x A r base now shift a n cap a' m cap' D u f t (l++[k]) C (W'.setCell ⟨r,2,none⟩ D):=by have hs:=h.size;let⟨o1,o2,o3,U,Y,Z,o7,o8⟩:=h.ord;have az:∀B,v.ownBlock=some B->base<=B:=λB J=>(h.ov.lt B J).1;have low:∀k,k<base->W'.heap[k]?=W.heap[k]?:=λk hk=>O.block k ab λe=>f7;have R:∀k,k<base->k≠r->(W'.setCell ⟨r,2,none⟩ D).heap[k]?=W.heap[k]?:=λk hk au=>(agp W' _ _ k ab).trans<|low k hk;have av:=bp W' r 2 _ _ D<|(low r Z).trans h.nx;refine⟨h.bb.same<|R x U o7,zc,(R A Y o8).trans h.rs,?_,eQ h.ou λB J=>(agp W' _ _ B (by have:=(h.ou.lt B J).1;simp;omega)).trans<|O.block B (h.ou.lt B J).2 λe=>De h.ou h.ov bc B J e.symm,f7,(h.below.grown O h.below.size λk hk=>f7).setCell cY _,h.ord⟩;rw[a5,KD];exact eQ ho λB J=>agp W' _ _ B (by have:=(ho.lt B J).1;simp;omega)
def Nx.So {O}(h:Nx w x A r base now shift a n cap a' m cap' v u f t l C W) k (ho:W'.ownsRow base 3 1 O (C.length+1) (sM t C++[aa .i64 (t k)]))(R:W.grownBy W' u.ownBlock):Nx w x A r base now shift a n cap a' m cap' v O f t l (C++[k]) (W'.setCell ⟨r,3,none⟩ O):=by have hs:=h.size;let⟨o1,o2,o3,Y,Z,o6,o7,o8⟩:=h.ord;have az:∀B,u.ownBlock=some B->base<=B:=λB J=>(h.ou.lt B J).1;have low:∀k,k<base->W'.heap[k]?=W.heap[k]?:=λk hk=>R.block k ab λe=>f7;have U:∀k,k<base->k≠r->(W'.setCell ⟨r,3,none⟩ O).heap[k]?=W.heap[k]?:=λk hk au=>(agp W' _ _ k ab).trans<|low k hk;have av:=bp W' r 3 _ _ O<|(low r o6).trans h.nx;refine⟨h.bb.same<|U x Y o7,zc,(U A Z o8).trans h.rs,eQ h.ov λB J=>(agp W' _ _ B (by have:=(h.ov.lt B J).1;simp;omega)).trans<|R.block B (h.ov.lt B J).2 λe=>De h.ov h.ou bc B J e.symm,?_,f7,(h.below.grown R h.below.size λk hk=>f7).setCell cY _,h.ord⟩;rw[a5,KE];exact eQ ho λB J=>agp W' _ _ B (by have:=(ho.lt B J).1;simp;omega)
def mu (h:w.ownsRow base e size v n xs):∃a c,v=ac a n c:=by obtain⟨q,⟨rfl,rfl⟩|⟨g,c,p,rfl,_⟩⟩:=h;all_goals grind
end
section
variable {M y o:Nat}{c:Mv}{sl:aE}{tk nw:Int}
def sO.Q_ (h:w.heap[B]?=some (.cells #[now,shift,ac a n cap,ac a' m cap'] T (0,0))):sO w B now shift a n cap a' m cap':=by constructor<;>(rw[ad _ _ _ _ _ _ h];rfl)
structure S8 (M:Nat)(c:Mv) x sl (y o) tk (r:Nat) nw (W:aj):Prop where
 c0:W.cell? M=some (a2 c.name)
 c1:W.cell? ⟨M,1,none⟩=some (.bool c.ax)
 c2:W.cell? ⟨M,2,none⟩=some (aa .i64 c.aI)
 c3:W.cell? ⟨M,3,none⟩=some (aa .i64 c.cj)
 c4:W.cell? ⟨M,4,none⟩=some (aa .i64 c.late)
 c5:W.cell? ⟨M,5,none⟩=some (aa .i64 c.prom)
 s3:W.cell? ⟨x,3,none⟩=some sl
 tk:W.cell? ⟨y,o,none⟩=some (aa .i64 tk)
 nw:W.cell? r=some (aa .i64 nw)
def S8.keep (h:S8 M c x sl y o tk r nw W)(e:∀B,B=M\/B=x\/B=y\/B=r->W'.heap[B]?=W.heap[B]?):S8 M c x sl y o tk r nw W':=by have q:∀B j,B=M\/B=x\/B=y\/B=r->W'.cell? ⟨B,j,none⟩=W.cell? ⟨B,j,none⟩:=λB j p=>agt<|e B p;exact⟨(q _ _<|aL rfl).trans h.c0,(q _ _<|aL rfl).trans h.c1,(q _ _<|aL rfl).trans h.c2,(q _ _<|aL rfl).trans h.c3,(q _ _<|aL rfl).trans h.c4,(q _ _<|aL rfl).trans h.c5,(q _ _<|a1<|aL rfl).trans h.s3,(q _ _<|a1<|a1<|aL rfl).trans h.tk,(q _ _<|a1<|a1<|a1 rfl).trans h.nw⟩
def S8.set (h:S8 M c x sl y o tk r nw W)(z:M≠r)(J:x≠r)(O:y≠r) j (R:j≠0) v:S8 M c x sl y o tk r nw (W.setCell ⟨r,j,none⟩ v):=by have q:∀B i,B≠r->(W.setCell ⟨r,j,none⟩ v).cell? ⟨B,i,none⟩=W.cell? ⟨B,i,none⟩:=λB i U=>a9 _ _ _ _ cQ;exact⟨(q _ _ z).trans h.c0,(q _ _ z).trans h.c1,(q _ _ z).trans h.c2,(q _ _ z).trans h.c3,(q _ _ z).trans h.c4,(q _ _ z).trans h.c5,(q _ _ J).trans h.s3,(q _ _ O).trans h.tk,(a9 _ _ _ _ cQ).trans h.nw⟩
def S8.below (h:S8 M c x sl y o tk r nw W)(hb:ao W W W'):S8 M c x sl y o tk r nw W':=by have q:=ay h.c0;have C:=ay h.s3;have z:=ay h.tk;have J:=ay h.nw;exact h.keep λB O=>hb.block B f7
def S8.grown {row}(h:S8 M c x sl y o tk r nw W)(q:W.grownBy W' row)(z:∀B,row=some B->B≠M/\B≠x/\B≠y/\B≠r):S8 M c x sl y o tk r nw W':=by have J:=ay h.c0;have C:=ay h.s3;have O:=ay h.tk;have R:=ay h.nw;exact h.keep λB U=>q.block B f7 λe=>cQ
def Q3 (now shift:Int)(b off n cap:Nat)(f:Nat->Mv)(y R cap':Nat)(t:Nat->Int)(w:aj)(hn:n<=6)(h0:0<=now)(h1:now<10000)(bN:b<w)(az:aM w b off n f)(bz:y<w)(aV:aD w y R n t):
  Calls Tz.prog 261 #[a0 #[],a0 #[now,shift,ac (some ⟨b,off,none⟩) n cap,ac (some ⟨y,R,none⟩) n cap']] w λe w'=>(∃v u,e=.returned (.tuple #[Xe (now+1) shift v u,.nilIface])/\w'.ownsRow w 30 6 v (stay now t n).length (sL f t now<|stay now t n)/\w'.ownsRow w 3 1 u (stay now t n).length (sM t<|stay now t n))/\ao w w w':=by
 have bA:¬now=10000:=ab;have CY:IntKind.i64.wrap (now+1)=now+1:=jh;let⟨iM,hI,gE,eI,f8⟩:=info_parts EL;obtain⟨i0,Ln,Nm,IE,JH⟩:∃i0,Tz.prog.info? 3=some i0/\i0.zero=some (aa .i64 0)/\i0.size=1/\i0.bytes=8:=by
  have h:=mh;cases hI:Tz.prog.info? 3 with
  |none=>rw[hI]at h;simp at h
  |some i0=>rw[hI]at h;simp only[Option.map_some,Option.some.injEq,Prod.mk.injEq]at h;exact⟨i0,rfl,h.2.2,h.1,h.2.1⟩
 have Jr:∀o1 o2 o3 o4,ao w w ((((w.alloc o1).alloc o2).alloc o3).alloc o4):=λo1 o2 o3 o4=>((((agn _ w).alloc (agw _) _).alloc aN _).alloc cY _).alloc cY _
 go_enter Tz.func261,Tryz.ntmps261
 go_wp2;have bK:(now==10000)=false:=cY;simp only[bK];clear bK bA;go_loopw [24] (λx W=>∃(k:Nat) (v u:aE),k<=n/\x=aa .i64 k/\Nx w ((w:Nat)+1) ((w:Nat)+1+1) ((w:Nat)+1+1+1) ((w:Nat)+1+1+1+1) now shift (some ⟨b,off,none⟩) n cap (some ⟨y,R,none⟩) n cap' v u f t (stay now t k) (stay now t k) W) (λx _=>n-(intOf x).toNat)
 case atStart=>
  refine⟨0,(),(),agB _,rfl,?_,?_,?_,⟨rfl,aL ⟨rfl,rfl⟩⟩,⟨rfl,aL ⟨rfl,rfl⟩⟩,aN,Jr _ _ _ _,ab⟩
  .refine sO.Q_ (T:=42) ((ago _ _ _ aN).trans<|(ago _ _ _ aN).trans ?_);have:=a6 (w.alloc<|.cells #[] 104)<|.cells #[now,shift,ac (some ⟨b,off,none⟩) n cap,ac (some ⟨y,R,none⟩) n cap'] 42;simpa using this
  .have:=a6 ((((w.alloc<|.cells #[] 104).alloc<|.cells #[now,shift,ac (some ⟨b,off,none⟩) n cap,ac (some ⟨y,R,none⟩) n cap'] 42).alloc<|.cells #[(0:Int),(0:Int),(),()] 42))<|.cells #[aa .i64<|now+1,shift,(),()] 42;simpa using this
  .refine(ago _ _ _ aN).trans ?_;have:=a6 (((w.alloc<|.cells #[] 104).alloc<|.cells #[now,shift,ac (some ⟨b,off,none⟩) n cap,ac (some ⟨y,R,none⟩) n cap'] 42))<|.cells #[(0:Int),(0:Int),(),()] 42;simpa using this
 obtain⟨k,v,u,hk,rfl,Z⟩:=hrel;by_cases aG:k<n
 .have dQ:(k:Int)<n:=by omega
  have iK:=Z.below;let⟨c0,c1,c2,c3,c4,c5⟩:=az.below iK bN k aG;have gm:=aV.below iK bz k aG;have bM:=gJ wr<|f k;have hM:=lZ wr<|f k;have UG:=Z.grow bM;have OU:=AX now t k;have iV:=Z.size;have lz:(wr:Nat)<(dN wr<|f k).heap.size:=aN;have bx:(dN wr<|f k).cell? ⟨y,R+k,none⟩=some (aa .i64<|t k):=(bM.cell (p:=⟨y,R+k,none⟩)<|agx bz iK.size).trans gm;have bB:=aK<|dN wr<|f k;have x0:=λx:am (dN wr<|f k)=>x.cell UG.bb.c0
  have x3:=λx:am (dN wr<|f k)=>x.cell UG.bb.c3
  have y6:=λx:am (dN wr<|f k)=>x.cell bx
  by_cases vC:t k=now
  .have D:Hid ((t k==now)=true):=by
    have h:(t k==now)=true:=by simpa using vC
    exact h
   have Zb:Hid (stay now t (k+1)=stay now t k):=by
    have h:stay now t (k+1)=stay now t k:=by simp only[stay];rw[if_pos vC]
    exact h
   clear vC;go_wp2;have d:=D.out;refine nh ?_;intro w2 dh;have Qb:=UG.grow dh;rw[<-Zb.out]at Qb;go_wp2;exact⟨⟨k+1,v,u,ab,aN,Qb⟩,cD⟩
  have D:Hid ((t k==now)=false):=by
   have h:(t k==now)=false:=by simpa using vC
   exact h
  have Zb:Hid (stay now t (k+1)=stay now t k++[k]):=by
   have h:stay now t (k+1)=stay now t k++[k]:=by simp only[stay];rw[if_neg vC]
   exact h
  clear vC;go_wp2;have d:=D.out;refine nh ?_;intro w2 dh;have Qb:=UG.grow dh;have Qa:=hM.below dh lz;have Tf:=(dh.cell (p:=⟨y,R+k,none⟩)<|agx (agx bz iK.size) bM.size).trans bx;clear x0 x3 y6 bB d UG bM;go_wp2;obtain⟨O,qy⟩:∃O,O=bT (f k) (t k) (now+1):=⟨_,rfl⟩;have bE:Hid (O=bT (f k) (t k) (now+1)):=qy;have HP:∀W,Calls Tz.prog 106 #[a0 #[a2 (f k).name,.bool (f k).ax,aa .i64 (f k).aI,aa .i64 (f k).cj,aa .i64 (f k).late,aa .i64 (f k).prom],aa .i64<|t k,aa .i64<|now+1] W λe w'=>e=.returned (a0 #[O.name,O.ax,O.aI,O.cj,O.late,O.prom])/\ao W W w':=λW=>by
   rw[qy];exact uZ (f k) (t k) (now+1) W ab ab
  clear qy;let⟨q0,q1,q2,q3,q4,q5⟩:=Qa;simp only[Nat.zero_add]at q0 q1 q2 q3 q4 q5;let⟨⟨n0,n2,n3⟩,nf⟩:=Qb.drew.uS;have Xu:S8 wr (f k) ((w:Nat)+1) (ac (some ⟨y,R,none⟩) n cap') y (R+k) (t k) ((w:Nat)+1+1+1) (now+1) w2.drew:=⟨q0,q1,q2,q3,q4,q5,Qb.bb.c3,Tf,n0⟩;clear q0 q1 q2 q3 q4 q5 Tf dh;refine bo aO Xu λJ=>?_;refine ai 0 (aP<|some ⟨(w:Nat)+1+1+1,2,none⟩) 37 rfl KH J ?_;refine ai 2 (a0 #[a2 (f k).name,.bool (f k).ax,aa .i64 (f k).aI,aa .i64 (f k).cj,aa .i64 (f k).late,aa .i64 (f k).prom]) 39 rfl KH J ?_;refine ai 3 (aP<|some ⟨(w:Nat)+1,3,none⟩) 40 rfl KH J ?_;refine ai 4 (ac (some ⟨y,R,none⟩) n cap') 41 rfl KH J ?_;refine ai 5 (aa .i64 (k:Int)) 42 rfl KH J ?_;refine ai 6 (aP<|some ⟨y,R+k,none⟩) 43 rfl KH J ?_;refine ai 7 (aa .i64<|t k) 44 rfl KH J ?_;refine ai 8 (aP<|some ⟨(w:Nat)+1+1+1,0,none⟩) 45 rfl KH J ?_;refine ai 9 (aa .i64<|now+1) 46 rfl KH J ?_;simp[Act.put,a8,bk,bm];refine L9 1 10 rfl rfl (λK hK=>?_) λK hK=>?_;focus
   go_simp
   refine hK.out _ _ Xu λJ=>?_;clear hK K;refine fH 10 rfl λK hK=>?_;go_simp
   go_at_call 106
   apply(HP _).mono;rintro e w3 ⟨rfl,b3⟩;have S5:=Qb.drew.grow b3;have Xv:=Xu.below b3;let⟨⟨n0,n2,n3⟩,nf⟩:=S5.uS;go_wp2_with fail
   refine hK.out _ _ Xv λJ=>?_;clear hK K;refine fH 11 rfl λK hK=>?_;go_simp
   have U:ao w3 w3 (w3.alloc<|.cells #[O.name,O.ax,O.aI,O.cj,O.late,O.prom] 30):=(agn _ _).alloc ab _;have Eo:=S5.grow U;have F3:=Xv.below U;let⟨⟨g0,g2,g3⟩,gf⟩:=Eo.uS;refine hK.out _ _ F3 λJ=>?_;clear hK K
  rotate_left;focus
   go_simp
   go_at_call 106
   refine(HP _).mono ?_;rintro e w3 ⟨rfl,b3⟩;have S5:=Qb.drew.grow b3;have Xv:=Xu.below b3;let⟨⟨n0,n2,n3⟩,nf⟩:=S5.uS;go_wp2_with fail
   refine hK.out _ _ Xv λJ=>?_;clear hK K;refine L9 1 11 rfl rfl (λK hK=>?_) λK hK=>?_;focus
    go_simp
    refine hK.out _ _ Xv λJ=>?_;clear hK K;refine fH 11 rfl λK hK=>?_;go_simp
    have U:ao w3 w3 (w3.alloc<|.cells #[O.name,O.ax,O.aI,O.cj,O.late,O.prom] 30):=(agn _ _).alloc (agw _) _;have Eo:=S5.grow U;have F3:=Xv.below U;let⟨⟨g0,g2,g3⟩,gf⟩:=Eo.uS;refine hK.out _ _ F3 λJ=>?_;clear hK K
   rotate_left;focus
    go_simp
    have U:ao w3 w3 (w3.alloc<|.cells #[O.name,O.ax,O.aI,O.cj,O.late,O.prom] 30):=(agn _ _).alloc (agw _) _;have Eo:=S5.grow U;have F3:=Xv.below U;let⟨⟨g0,g2,g3⟩,gf⟩:=Eo.uS;refine hK.out _ _ F3 λJ=>?_;clear hK K;refine fH 1 rfl λK hK=>?_;go_simp
    refine hK.out _ _ F3 λJ=>?_;clear hK K
  all_goals
   refine fH 12 rfl λK hK=>dM rfl (.tmp 38) (.tmp 48) 39 rfl 30 iM _ 6 56 (Tz.al Tryz.underlying39) hI gE eI f8 rfl bc ((w:Nat)+1+1+1+1) v (stay now t k).length (sL f t now<|stay now t k) bQ Eo.ov _ 1 1 (Mv.cells O).toList bQ rfl (X_<|heap_alloc_new _ _) (Rn _) iR ab Eo.size ?_;intro v4 w4 IC Lr;obtain⟨B4,c4,rfl⟩:=iz IC;have bl:=F3.grown Lr (λB hB=>by have h1:=(S5.ov.lt B hB).1;have h2:=Qb.ov.lt B hB;have h3:=Z.ov.lt B hB;omega);have p2:w4.cell? ⟨(w:Nat)+1+1+1,2,none⟩=some v:=(agt<|Lr.block _ (ay g2) (λe=>by have:=(S5.ov.lt ((w:Nat)+1+1+1) e.symm).1;omega)).trans g2;have pf:w4.frozen? ⟨(w:Nat)+1+1+1,2,none⟩=false:=(bi<|Lr.block _ (ay g2) (λe=>by have:=(S5.ov.lt ((w:Nat)+1+1+1) e.symm).1;omega)).trans<|gf 2;refine hK.out _ _ bl λJ=>?_;clear hK K;refine fH 13 rfl λK hK=>?_;go_simp
   refine hK.out _ _ bl λJ=>?_;clear hK K;refine fH 14 rfl λK hK=>?_;go_simp
   rw[bE.out]at IC;have Y:=Eo.moves k IC Lr;have F4:=bl.set ab ab ab 2 ab<|ac B4 ((stay now t k).length+1) c4;refine hK.out _ _ F4 λJ=>?_;clear hK K;refine bs aO ?_ _;revert Y F4;generalize w4.setCell ⟨(w:Nat)+1+1+1,2,none⟩ (ac (some ⟨B4,0,none⟩) ((stay now t k).length+1) c4)=W5;intro Y F4;clear J bl p2 pf IC Lr S5 Xv n0 n2 n3 nf Eo F3 g0 g2 g3 gf U b3 HP Qb Xu;go_wp2;let⟨⟨n0,n2,n3⟩,nf⟩:=Y.drew.uS;have UI:S8 wr (f k) ((w:Nat)+1) (ac (some ⟨y,R,none⟩) n cap') y (R+k) (t k) ((w:Nat)+1+1+1) (now+1) W5.drew:=F4.keep λ_ _=>rfl;refine bo aO UI λJ=>ai 0 (aP<|some ⟨(w:Nat)+1+1+1,3,none⟩) 51 rfl KH J<|ai 2 (aP<|some ⟨(w:Nat)+1,3,none⟩) 53 rfl KH J<|ai 3 (ac (some ⟨y,R,none⟩) n cap') 54 rfl KH J<|ai 4 (aa .i64 (k:Int)) 55 rfl KH J<|ai 5 (aP<|some ⟨y,R+k,none⟩) 56 rfl KH J<|ai 6 (aa .i64<|t k) 57 rfl KH J ?_;simp only[Act.put,a8,bk,bm];refine L9 1 7 rfl rfl (λK hK=>?_) λK hK=>?_;focus
    go_simp
    refine hK.out _ _ UI λJ=>?_;clear hK K;refine fH 7 rfl λK hK=>?_;go_simp
    have U:ao W5 W5 (W5.alloc<|.cells #[aa .i64<|t k] 3).drew:=((agn _ W5).alloc ab _).drew;have S6:=Y.grow U;have OQ:=F4.below U;let⟨⟨g0,g2,g3⟩,gf⟩:=S6.uS;refine hK.out _ _ OQ λJ=>?_;clear hK K
   rotate_left;focus
    go_simp
    have U:ao W5 W5 (W5.alloc<|.cells #[aa .i64<|t k] 3).drew:=((agn _ W5).alloc (agw _) _).drew;have S6:=Y.grow U;have OQ:=F4.below U;let⟨⟨g0,g2,g3⟩,gf⟩:=S6.uS;refine hK.out _ _ OQ λJ=>?_;clear hK K;refine fH 1 rfl λK hK=>?_;go_simp
    refine hK.out _ _ OQ λJ=>?_;clear hK K
   all_goals
    refine fH 8 rfl λK hK=>dM rfl (.tmp 52) (.tmp 58) 40 rfl 3 i0 (aa .i64 0) 1 8 (Tz.al Tryz.underlying40) Ln Nm IE JH rfl bc ((w:Nat)+1+1+1+1) u (stay now t k).length (sM t<|stay now t k) bQ S6.ou _ 1 1 [aa .i64 (t k)] bQ rfl (fC<|heap_alloc_new W5 _) sU iR ab S6.size ?_;intro u7 w7 bt aZ;obtain⟨B7,c7,rfl⟩:=iz bt;have CO:=OQ.grown aZ (λB hB=>by have h1:=(S6.ou.lt B hB).1;have h3:=Z.ou.lt B hB;omega);have p2:w7.cell? ⟨(w:Nat)+1+1+1,3,none⟩=some u:=(agt<|aZ.block _ (ay g3) (λe=>by have:=(S6.ou.lt ((w:Nat)+1+1+1) e.symm).1;omega)).trans g3;have pf:w7.frozen? ⟨(w:Nat)+1+1+1,3,none⟩=false:=(bi<|aZ.block _ (ay g3) (λe=>by have:=(S6.ou.lt ((w:Nat)+1+1+1) e.symm).1;omega)).trans<|gf 3;refine hK.out _ _ CO λJ=>?_;clear hK K;refine fH 9 rfl λK hK=>?_;go_simp
    refine hK.out _ _ CO λJ=>?_;clear hK K;refine fH 10 rfl λK hK=>?_;go_simp
    have bq:=S6.So k bt aZ;have Xw:=CO.set ab ab ab 3 ab<|ac B7 ((stay now t k).length+1) c7;refine hK.out _ _ Xw λJ=>?_;clear hK K;refine bs aO ?_ _;revert bq;generalize w7.setCell ⟨(w:Nat)+1+1+1,3,none⟩ (ac (some ⟨B7,0,none⟩) ((stay now t k).length+1) c7)=W9;intro bq;clear J Xw CO p2 pf bt aZ S6 OQ UI Y F4 n0 n2 n3 nf g0 g2 g3 gf U;rw[<-Zb.out]at bq;go_wp2;exact⟨⟨k+1,_,_,ab,aN,bq⟩,cD⟩
 have tX:k=n:=by omega
 subst tX;have hx:=Z.nx;have c0:=ad wr _ 0 _ _ _ hx;have c1:=ad wr _ 1 _ _ _ hx;have c2:=ad wr _ 2 _ _ _ hx;have c3:=ad wr _ 3 _ _ _ hx;have hy:=Z.rs;have d0:=ad wr _ 0 _ _ _ hy;have d1:=ad wr _ 1 _ _ _ hy;have d2:=ad wr _ 2 _ _ _ hy;have d3:=ad wr _ 3 _ _ _ hy;have df:=λj=>a7 wr _ j _ _ hy
 simp at c0 c1 c2 c3 d0 d1 d2 d3;have Bf:=Z.ov;have bv:=Z.ou;have hB:=Z.below;have iV:=Z.size;clear Z hx hy;obtain⟨av,cv,rfl⟩:=mu Bf;obtain⟨au,cu,rfl⟩:=mu bv;go_wp2;have eW:∀q,q≠(w:Nat)+1+1->((((wr.setCell ⟨(w:Nat)+1+1,0,none⟩<|aa .i64<|now+1).setCell ⟨(w:Nat)+1+1,1,none⟩ shift).setCell ⟨(w:Nat)+1+1,2,none⟩<|ac av (stay now t k).length cv).setCell ⟨(w:Nat)+1+1,3,none⟩<|ac au (stay now t k).length cu).heap[q]?=wr.heap[q]?:=λq hq=>by
  rw[agp _ _ _ _ TW,agp _ _ _ _ TW,agp _ _ _ _ TW,agp _ _ _ _ TW]
 exact bodyPost_ret (by simp[results,Tryz.results261,go_sem,d0,d1,d2,d3]) rfl ⟨⟨_,_,rfl,mq (eQ Bf λB hB=>eW B (by have:=(Bf.lt B hB).1;omega)) ab,mq (eQ bv λB hB=>eW B (by have:=(bv.lt B hB).1;omega)) ab⟩,(((hB.setCell cY _).setCell cY _).setCell cY _).setCell cY _⟩
end
