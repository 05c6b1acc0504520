import Derived.Test.YtjoalkgmgmmedaaGreatDoorj23
import Derived.Test.YtjoalkgmgmmedaaGreatDoorj09
set_option linter.defProp false
set_option linter.unusedVariables false
set_option maxHeartbeats 8000000
set_option maxRecDepth 10000
open Go renaming block_lt_of_cell->aa,cell_of_row->ad,World->ao,Value->aL,heap_alloc_new->a5,frozen_of_row->a6,wp_region_held_drew->bj,heap_setCell_same->bk,TypeId->bp,Addr->br,wpAnyH_done->bs
open Go.RowKit renaming Below->aN
open Go.Value renaming slice->ac,int->ai,pointer->ay,string->a0,agg->bm
open Go.World renaming cell?_setCell_other->a2,frozen?_of_block->a4
open List renaming length_append->aE,setIfInBounds_toArray->a1,getElem?_eq_getElem->a3,flatMap_append->a7,set_cons_zero->a8,set_cons_succ->a9,range_succ->bi,range->bn
open Or renaming inl->be,inr->bo
namespace Go.Proofs.YtjoalkgmgmmedaaGreatDoor
open RowKit
variable {now p q shift:Int}{B x J O U r R b cap cap' hi k lo m n:Nat}{g:Nat->ByteArray}{t:Nat->Int}{f:Nat->Mv}{a a':Option br}{T:bp}{u v D:aL}{W W' w w':ao}
section
variable {d h:Nat}{s:aL}
structure aey (T lo hi)(w w':ao):Prop where
 size:w.heap.size<=w'
 block:∀k,k<w.heap.size->(k<lo\/hi<=k\/∃cs T',T'≠T/\w.heap[k]?=some (.cells cs T' (0,0)))->w'.heap[k]?=w.heap[k]?
 below:aN lo w w'
structure Mid (lo hi)(w w':ao):Prop where
 size:w.heap.size<=w'
 block:∀k,k<w.heap.size->(k<lo\/hi<=k)->w'.heap[k]?=w.heap[k]?
 below:aN lo w w'
def Ym (w:ao)(b n:Nat)(g:Nat->ByteArray):Prop:=∀i,i<n->w.cell? ⟨b,i,none⟩=some (a0<|g i)
def acK (w:ao)(lo hi:Nat)(v:aL)(n:Nat)(f:Nat->Mv):Prop:=
 (n=0/\∃a c,v=ac a 0 c)\/∃B c cs,v=ac (some ⟨B,0,none⟩) n c/\lo<=B/\B<hi/\hi<=w/\w.heap[B]?=some (.cells cs 55 (0,0))/\n*6<=cs.size/\aK w B 0 n f
def acJ (w:ao)(lo hi:Nat)(v:aL)(n:Nat)(g:Nat->Int):Prop:=
 (n=0/\∃a c,v=ac a 0 c)\/∃B c cs,v=ac (some ⟨B,0,none⟩) n c/\lo<=B/\B<hi/\hi<=w/\w.heap[B]?=some (.cells cs 3 (0,0))/\n<=cs.size/\aD w B 0 n g
def acM (w:ao)(lo hi:Nat)(v:aL)(n:Nat)(g:Nat->ByteArray):Prop:=
 (n=0/\∃a c,v=ac a 0 c)\/∃B c cs,v=ac (some ⟨B,0,none⟩) n c/\lo<=B/\B<hi/\hi<=w/\w.heap[B]?=some (.cells cs 9 (0,0))/\n<=cs.size/\Ym w B n g
structure Bks (w lo hi) v n (f) u m (t) s k (g):Prop where
 mv:acK w lo hi v n f
 tk:acJ w lo hi u m t
 nm:acM w lo hi s k g
end
def adU (k:Int)(i:Nat):Mv:=⟨abt<|k+i*6,(k+i*6+1)%3==0,k+i*6+1+1,k+i*6+1+1+1,k+i*6+1+1+1+1,k+i*6+1+1+1+1+1⟩
section
variable {N:Nat}
abbrev Ta (now shift:Int)(v u:aL):Value:=bm #[now,shift,v,u]
end
section
variable {m:Mv}
def fR (f:Nat->Mv)(n:Nat):List Value:=(bn n).flatMap λj=>(f j).cells.toList
def jN (f):∀n,(fR f n).length=n*6
 |0=>rfl
 |n+1=>by
  have:=jN f n;unfold fR at this⊢;rw[bi,a7,aE,this];simp[Nat.add_mul]
def qC (f) n:fR f (n+1)=fR f n++(f n).cells.toList:=by
 unfold fR;rw[bi,a7];simp
def uC {g}:∀{n:Nat},(∀j,j<n->f j=g j)->fR f n=fR g n
 |0,_=>rfl
 |n+1,h=>by rw[qC,qC,uC (λj Y=>h j ab),h n ab]
def tf (f):∀n i k,i<n->k<6->(fR f n)[i*6+k]?=(f i).cells.toList[k]?
 |0,i,k,hi,_=>absurd hi (afO _)
 |n+1,i,k,hi,hk=>by
  rw[qC];by_cases e:i=n
  .subst e;rw[afW (by rw[jN];omega),jN];congr 1;omega
  .rw[afV (by rw[jN];omega)];exact tf f n i k ab hk
def UW {base c}(h:w.ownsRow base T 6 (ac B n c) n (fR f n)):aK w B 0 n f:=by
 intro i hi;have q:∀k,k<6->w.cell? ⟨B,0+i*6+k,none⟩=(f i).cells.toList[k]?:=λk hk=>by
  rw[Nat.zero_add,h.cellAt _ ab];exact tf f n i k hi hk
 exact⟨q 0 ab,q 1 ab,q 2 ab,q 3 ab,q 4 ab,q 5 ab⟩
def fy (w:ao)(b:Nat)(m:Mv):Prop:=w.heap[b]?=some (.cells #[m.name,m.ax,m.aI,m.cE,m.late,m.prom] 55 (0,0))
def fy.at_ (h:fy w b m):xB w b 0 m:=by
 constructor<;>(rw[ad _ _ _ _ _ _ h];rfl)
def fy.frozen (h:fy w b m) j:w.frozen? ⟨b,j,none⟩=false:=a6 w _ j _ _ h
def Ek:(Tz.prog.info? 55).map (λi=>(i.zero,i.size,i.bytes))=some (some<|bm #[ByteArray.empty,false,(0:Int),(0:Int),(0:Int),(0:Int)],6,56):=aO
def a_ (h:fy W b m):∀j u,m.cells.toList[j]?=some u->W.cell? ((b:br).add j)=some u:=λj u i=>by
 have e:(b:br).add j=⟨b,j,none⟩:=by simp[Addr.add];omega
 rw[e,ad _ _ _ _ _ _ h];simpa using i
def QG (m:Mv):∀u∈m.cells.toList,u.oneCell':=λu i=>by
 simp at i;rcases i with rfl|rfl|rfl|rfl|rfl|rfl<;>rfl
def stay (now:Int)(t:Nat->Int):Nat->List Nat
 |0=>[]
 |k+1=>if t k=now then stay now t k else stay now t k++[k]
def gone (now:Int)(t:Nat->Int):Nat->List Nat
 |0=>[]
 |k+1=>if t k=now then gone now t k++[k]else gone now t k
def AE now (t):∀k,(stay now t k).length<=k
 |0=>afK _
 |k+1=>by have:=AE now t k;simp only[stay];split<;>simp<;>omega
def ql now (t):∀k,(gone now t k).length<=k
 |0=>afK _
 |k+1=>by have:=ql now t k;simp only[gone];split<;>simp<;>omega
def sC (f:Nat->Mv)(t:Nat->Int)(now:Int)(l:List Nat):List Value:=l.flatMap λi=>(bT (f i) (t i)<|now+1).cells.toList
def sD (t:Nat->Int)(l:List Nat):List Value:=l.map λi=>ai .i64<|t i
def nL (f:Nat->Mv)(l:List Nat):List Value:=l.map λi=>a0 (f i).name
def J3 (f t) now (l) k:sC f t now (l++[k])=sC f t now l++(bT (f k) (t k)<|now+1).cells.toList:=by simp[sC]
def J4 (t l) k:sD t (l++[k])=sD t l++[ai .i64 (t k)]:=by simp[sD]
def IQ (f l) k:nL f (l++[k])=nL f l++[a0 (f k).name]:=by simp[nL]
def nth (l:List Nat)(j:Nat):Nat:=l.getD j 0
def Nj (l):(bn l.length).map (nth l)=l:=by
 apply List.ext_getElem
 .simp
 intro i z j;simp[nth,a3 j]
def Hg (f t) now (l):sC f t now l=fR (λj=>bT (f<|nth l j) (t<|nth l j)<|now+1) l.length:=by
 unfold sC fR;conv=>lhs;rw[<-Nj l]
 rw[List.flatMap_map]
theorem NG (t l) j (h:j<l.length):(sD t l)[j]?=some (ai .i64<|t<|nth l j):=by
 simp[sD,nth,a3 h]
end
def SO (w:ao)(b off n:Nat)(c:Nat->Int):Prop:=∀i,i<n->w.cell? ⟨b,off+i,none⟩=some (ai .u8<|c i)
section
variable {m:Mv}
def acH (w:ao)(a:Option br)(n:Nat)(c:Nat->Int):Prop:=n<=maxLen/\(n=0\/∃b z,a=some ⟨b,z,none⟩/\b<w/\SO w b z n c)/\∀i,i<n->0<=c i/\c i<=255
structure aek (m:Mv)(s):Prop where
 name:m.name=s
 aI:1<=m.aI/\m.aI<=3
 span:-1<=m.cE/\m.cE<=m.late/\m.late<=10000
 prom:m.prom=-1
end
def Nms (cs:Array aL):Prop:=∀i,i<6->∃s,cs[i]?=some (a0 s)/\s.size<=8
structure Good (m:Mv):Prop where
 name:m.name.size<=8
 aI:1<=m.aI/\m.aI<=3
 span:-1<=m.cE/\m.cE<=m.late/\m.late<=10000
 prom:-1<=m.prom/\m.prom<=10000
section
variable {m:Mv}
structure acB (m:Mv):Prop where
 name:m.name.size<=8
 aI:-9223372036854775808<=m.aI/\m.aI<=9223372036854775807
 cE:-9223372036854775808<=m.cE/\m.cE<=9223372036854775807
 late:-9223372036854775808<=m.late/\m.late<=9223372036854775807
 prom:-9223372036854775808<=m.prom/\m.prom<=9223372036854775807
def aeo:Nat->ByteArray
 |0=>⟨#[]⟩
 |1=>⟨#[65]⟩
 |2=>⟨#[122,122]⟩
 |_=>⟨#[97,49]⟩
end
section
variable {base size A:Nat}{e:bp}{xs:List aL}{l C:List Nat}
def eK (h:w.ownsRow base e size v n xs)(hs:∀B,v.ownBlock=some B->w'.heap[B]?=w.heap[B]?):w'.ownsRow base e size v n xs:=by
 obtain⟨Y,Z|⟨g,c,z,rfl,h3,h4,h5⟩⟩:=h
 .exact⟨Y,be Z⟩
 exact⟨Y,bo ⟨g,c,z,rfl,h3,(hs g rfl).trans h4,h5⟩⟩
def Ln (h:w.ownsRow base e size v n xs) B (Y:v.ownBlock=some B):∃cs,w.heap[B]?=some (.cells cs e (0,0)):=by
 obtain⟨Z,h2|⟨g,c,z,rfl,h3,h4,h5⟩⟩:=h;all_goals grind [Value.ownBlock]
def CN {F E G K i}(h:w.ownsRow base e size v n xs)(L:w.ownsRow F E G D K i)(j:e≠E) B (P:v.ownBlock=some B):D.ownBlock≠some B:=λQ=>by
 let⟨X,S⟩:=Ln h B P;let⟨V,z⟩:=Ln L B Q;rw[S]at z;simp at z;exact j z.2
def sF.same (h:sF w B now shift a n cap a' m cap')(e:w'.heap[B]?=w.heap[B]?):sF w' B now shift a n cap a' m cap':=
 ⟨(afH e).trans h.c0,(afH e).trans h.c1,(afH e).trans h.c2,(afH e).trans h.c3⟩
structure Nx (w:ao)(x A r base:Nat)(now shift a n cap a' m cap' v u f t l C W):Prop where
 bb:sF W x now shift a n cap a' m cap'
 nx:W.heap[r]?=some (.cells #[ai .i64<|now+1,shift,v,u] 29 (0,0))
 rs:W.heap[A]?=some (.cells #[(0:Int),(0:Int),(),()] 29 (0,0))
 ov:W.ownsRow base 55 6 v l.length (sC f t now l)
 ou:W.ownsRow base 3 1 u C.length (sD t C)
 size:base<=W
 below:aN w w W
 ord:w<=x/\w<=A/\w<=r/\x<base/\A<base/\r<base/\x≠r/\A≠r
def Nx.grow (h:Nx w x A r base now shift a n cap a' m cap' v u f t l C W)(hb:aN W W W'):Nx w x A r base now shift a n cap a' m cap' v u f t l C W':=by
 have hs:=h.size;have Z:=h.ord;exact⟨h.bb.below hb ab,(hb.block r ab).trans h.nx,(hb.block A ab).trans h.rs,eK h.ov λB Y=>hb.block B (h.ov.lt B Y).2,eK h.ou λB Y=>hb.block B (h.ou.lt B Y).2,afN hs hb.size,h.below.trans<|hb.mono h.below.size,h.ord⟩
def Nx.drew (h:Nx w x A r base now shift a n cap a' m cap' v u f t l C W):Nx w x A r base now shift a n cap a' m cap' v u f t l C W.drew:=h.grow (afB _ _).drew
def Nx.uD (h:Nx w x A r base now shift a n cap a' m cap' v u f t l C W):(W.cell? r=some (ai .i64<|now+1)/\W.cell? ⟨r,2,none⟩=some v/\W.cell? ⟨r,3,none⟩=some u)/\∀j,W.frozen? ⟨r,j,none⟩=false:=
 ⟨⟨by rw[ad _ _ _ _ _ _ h.nx];rfl,by rw[ad _ _ _ _ _ _ h.nx];rfl,by rw[ad _ _ _ _ _ _ h.nx];rfl⟩,λj=>a6 W _ j _ _ h.nx⟩
def Nx.moves (h:Nx w x A r base now shift a n cap a' m cap' v u f t l C W) k (ho:W'.ownsRow base 55 6 D (l.length+1) (sC f t now l++(bT (f k) (t k)<|now+1).cells.toList))(Z:W.grownBy W' v.ownBlock):Nx w x A r base now shift a n cap a' m cap' D u f t (l++[k]) C (W'.setCell ⟨r,2,none⟩ D):=by
 have hs:=h.size;let⟨o1,o2,o3,o4,o5,o6,o7,o8⟩:=h.ord;have aB:∀B,v.ownBlock=some B->base<=B:=λB Y=>(h.ov.lt B Y).1
 have low:∀k,k<base->W'.heap[k]?=W.heap[k]?:=λk hk=>Z.block k ab λe=>gC
 have Qr:∀k,k<base->k≠r->(W'.setCell ⟨r,2,none⟩ D).heap[k]?=W.heap[k]?:=λk hk au=>(afD W' _ _ k ab).trans<|low k hk
 have av:=bk W' r 2 _ _ D<|(low r o6).trans h.nx;refine⟨h.bb.same<|Qr x o4 o7,yO,(Qr A o5 o8).trans h.rs,?_,eK h.ou λB Y=>(afD W' _ _ B (by have:=(h.ou.lt B Y).1;simp;omega)).trans<|Z.block B (h.ou.lt B Y).2 λe=>CN h.ou h.ov bh B Y e.symm,gC,(h.below.grown Z h.below.size λk hk=>gC).setCell dj _,h.ord⟩;rw[aE,J3];exact eK ho λB Y=>afD W' _ _ B (by have:=(ho.lt B Y).1;simp;omega)
def Nx.RF {Z}(h:Nx w x A r base now shift a n cap a' m cap' v u f t l C W) k (ho:W'.ownsRow base 3 1 Z (C.length+1) (sD t C++[ai .i64 (t k)]))(hg:W.grownBy W' u.ownBlock):Nx w x A r base now shift a n cap a' m cap' v Z f t l (C++[k]) (W'.setCell ⟨r,3,none⟩ Z):=by
 have hs:=h.size;let⟨o1,o2,o3,o4,o5,o6,o7,o8⟩:=h.ord;have aB:∀B,u.ownBlock=some B->base<=B:=λB Y=>(h.ou.lt B Y).1
 have low:∀k,k<base->W'.heap[k]?=W.heap[k]?:=λk hk=>hg.block k ab λe=>gC
 have Qr:∀k,k<base->k≠r->(W'.setCell ⟨r,3,none⟩ Z).heap[k]?=W.heap[k]?:=λk hk au=>(afD W' _ _ k ab).trans<|low k hk
 have av:=bk W' r 3 _ _ Z<|(low r o6).trans h.nx;refine⟨h.bb.same<|Qr x o4 o7,yO,(Qr A o5 o8).trans h.rs,eK h.ov λB Y=>(afD W' _ _ B (by have:=(h.ov.lt B Y).1;simp;omega)).trans<|hg.block B (h.ov.lt B Y).2 λe=>CN h.ov h.ou bh B Y e.symm,?_,gC,(h.below.grown hg h.below.size λk hk=>gC).setCell dj _,h.ord⟩;rw[aE,J4];exact eK ho λB Y=>afD W' _ _ B (by have:=(ho.lt B Y).1;simp;omega)
def mh (h:w.ownsRow base e size v n xs):∃a c,v=ac a n c:=by
 obtain⟨Y,⟨rfl,rfl⟩|⟨g,c,z,rfl,_⟩⟩:=h;all_goals grind
end
section
variable {M y o:Nat}{c:Mv}{sl:aL}{tk nw:Int}
def sF.Z0 (h:w.heap[B]?=some (.cells #[now,shift,ac a n cap,ac a' m cap'] T (0,0))):sF w B now shift a n cap a' m cap':=by
 constructor<;>(rw[ad _ _ _ _ _ _ h];rfl)
structure S8 (M:Nat)(c:Mv) x sl (y o) tk (r:Nat) nw (W:ao):Prop where
 c0:W.cell? M=some (a0 c.name)
 c1:W.cell? ⟨M,1,none⟩=some (.bool c.ax)
 c2:W.cell? ⟨M,2,none⟩=some (ai .i64 c.aI)
 c3:W.cell? ⟨M,3,none⟩=some (ai .i64 c.cE)
 c4:W.cell? ⟨M,4,none⟩=some (ai .i64 c.late)
 c5:W.cell? ⟨M,5,none⟩=some (ai .i64 c.prom)
 s3:W.cell? ⟨x,3,none⟩=some sl
 tk:W.cell? ⟨y,o,none⟩=some (ai .i64 tk)
 nw:W.cell? r=some (ai .i64 nw)
def S8.keep (h:S8 M c x sl y o tk r nw W)(e:∀B,B=M\/B=x\/B=y\/B=r->W'.heap[B]?=W.heap[B]?):S8 M c x sl y o tk r nw W':=by
 have q:∀B j,B=M\/B=x\/B=y\/B=r->W'.cell? ⟨B,j,none⟩=W.cell? ⟨B,j,none⟩:=λB j z=>afH<|e B z
 exact⟨(q _ _<|be rfl).trans h.c0,(q _ _<|be rfl).trans h.c1,(q _ _<|be rfl).trans h.c2,(q _ _<|be rfl).trans h.c3,(q _ _<|be rfl).trans h.c4,(q _ _<|be rfl).trans h.c5,(q _ _<|bo<|be rfl).trans h.s3,(q _ _<|bo<|bo<|be rfl).trans h.tk,(q _ _<|bo<|bo<|bo rfl).trans h.nw⟩
def S8.set (h:S8 M c x sl y o tk r nw W)(z:M≠r)(Y:x≠r)(Z:y≠r) j (hj:j≠0) v:S8 M c x sl y o tk r nw (W.setCell ⟨r,j,none⟩ v):=by
 have q:∀B i,B≠r->(W.setCell ⟨r,j,none⟩ v).cell? ⟨B,i,none⟩=W.cell? ⟨B,i,none⟩:=λB i hB=>a2 _ _ _ _ cO
 exact⟨(q _ _ z).trans h.c0,(q _ _ z).trans h.c1,(q _ _ z).trans h.c2,(q _ _ z).trans h.c3,(q _ _ z).trans h.c4,(q _ _ z).trans h.c5,(q _ _ Y).trans h.s3,(q _ _ Z).trans h.tk,(a2 _ _ _ _ cO).trans h.nw⟩
def S8.below (h:S8 M c x sl y o tk r nw W)(hb:aN W W W'):S8 M c x sl y o tk r nw W':=by
 have z:=aa h.c0;have C:=aa h.s3;have Y:=aa h.tk;have Z:=aa h.nw;exact h.keep λB hB=>hb.block B gC
def S8.grown {row}(h:S8 M c x sl y o tk r nw W)(z:W.grownBy W' row)(Y:∀B,row=some B->B≠M/\B≠x/\B≠y/\B≠r):S8 M c x sl y o tk r nw W':=by
 have Z:=aa h.c0;have C:=aa h.s3;have l3:=aa h.tk;have l4:=aa h.nw;exact h.keep λB hB=>z.block B gC λe=>cO
def Qs (now shift:Int)(b off n cap:Nat)(f:Nat->Mv)(y bH cap':Nat)(t:Nat->Int)(w:ao)(hn:n<=6)(h0:0<=now)(h1:now<10000)(bN:b<w)(aB:aK w b off n f)(bz:y<w)(aV:aD w y bH n t):
  Calls Tz.prog 254 #[bm #[],bm #[now,shift,ac (some ⟨b,off,none⟩) n cap,ac (some ⟨y,bH,none⟩) n cap']] w λe w'=>(∃v u,e=.returned (.tuple #[Ta (now+1) shift v u,.nilIface])/\w'.ownsRow w 55 6 v (stay now t n).length (sC f t now<|stay now t n)/\w'.ownsRow w 3 1 u (stay now t n).length (sD t<|stay now t n))/\aN w w w':=by
 have adB:¬now=10000:=ab;have H5:IntKind.i64.wrap (now+1)=now+1:=kw;let⟨iM,hI,gK,eO,fZ⟩:=info_parts Ek;obtain⟨i0,KN,MD,I8,I9⟩:∃i0,Tz.prog.info? 3=some i0/\i0.zero=some (ai .i64 0)/\i0.size=1/\i0.bytes=8:=by
  have h:=lY;cases hI:Tz.prog.info? 3 with
  |none=>rw[hI]at h;simp at h
  |some i0=>rw[hI]at h;simp only[Option.map_some,Option.some.injEq,Prod.mk.injEq]at h;exact⟨i0,rfl,h.2.2,h.1,h.2.1⟩
 have IR:∀o1 o2 o3 o4,aN w w ((((w.alloc o1).alloc o2).alloc o3).alloc o4):=λo1 o2 o3 o4=>((((afB _ w).alloc (afK _) _).alloc aP _).alloc dj _).alloc dj _
 go_enter Tz.func254,Tryz.ntmps254
 go_wp2;have bL:(now==10000)=false:=dj;simp only[bL];clear bL adB;go_loopw [24] (λx W=>∃(k:Nat) (v u:aL),k<=n/\x=ai .i64 k/\Nx w (w.heap.size+1) (w.heap.size+1+1) (w.heap.size+1+1+1) (w.heap.size+1+1+1+1) now shift (some ⟨b,off,none⟩) n cap (some ⟨y,bH,none⟩) n cap' v u f t (stay now t k) (stay now t k) W) (λx _=>n-(intOf x).toNat)
 case atStart=>
  refine⟨0,(),(),afP _,rfl,?_,?_,?_,⟨rfl,be ⟨rfl,rfl⟩⟩,⟨rfl,be ⟨rfl,rfl⟩⟩,aP,IR _ _ _ _,ab⟩
  .refine sF.Z0 (T:=29) ((afC _ _ _ aP).trans<|(afC _ _ _ aP).trans ?_);have:=a5 (w.alloc<|.cells #[] 100)<|.cells #[now,shift,ac (some ⟨b,off,none⟩) n cap,ac (some ⟨y,bH,none⟩) n cap'] 29;simpa using this
  .have:=a5 ((((w.alloc<|.cells #[] 100).alloc<|.cells #[now,shift,ac (some ⟨b,off,none⟩) n cap,ac (some ⟨y,bH,none⟩) n cap'] 29).alloc<|.cells #[(0:Int),(0:Int),(),()] 29))<|.cells #[ai .i64<|now+1,shift,(),()] 29;simpa using this
  .refine(afC _ _ _ aP).trans ?_;have:=a5 (((w.alloc<|.cells #[] 100).alloc<|.cells #[now,shift,ac (some ⟨b,off,none⟩) n cap,ac (some ⟨y,bH,none⟩) n cap'] 29))<|.cells #[(0:Int),(0:Int),(),()] 29;simpa using this
 obtain⟨k,v,u,hk,rfl,Oa⟩:=hrel;by_cases aF:k<n
 .have dV:(k:Int)<n:=by omega
  have iY:=Oa.below;let⟨c0,c1,c2,c3,c4,c5⟩:=aB.below iY bN k aF;have gh:=aV.below iY bz k aF;have bM:=gG wr<|f k;have hM:=lP wr<|f k;have T3:=Oa.grow bM;have Ug:=AE now t k;have iP:=Oa.size;have lz:wr.heap.size<(dL wr<|f k).heap.size:=aP;have hrm:(dL wr<|f k).cell? ⟨y,bH+k,none⟩=some (ai .i64<|t k):=(bM.cell (p:=⟨y,bH+k,none⟩)<|afL bz iY.size).trans gh;have hne:=aM<|dL wr<|f k;have x0:=λx:an (dL wr<|f k)=>x.cell T3.bb.c0
  have x3:=λx:an (dL wr<|f k)=>x.cell T3.bb.c3
  have y6:=λx:an (dL wr<|f k)=>x.cell hrm
  by_cases vg:t k=now
  .have D:Hid ((t k==now)=true):=by
    have h:(t k==now)=true:=by simpa using vg
    exact h
   have Yi:Hid (stay now t (k+1)=stay now t k):=by
    have h:stay now t (k+1)=stay now t k:=by simp only[stay];rw[if_pos vg]
    exact h
   clear vg;go_wp2;have d:=D.out;refine nl ?_;intro w2 dg;have Pv:=T3.grow dg;rw[<-Yi.out]at Pv;go_wp2;exact⟨⟨k+1,v,u,ab,aP,Pv⟩,cD⟩
  have D:Hid ((t k==now)=false):=by
   have h:(t k==now)=false:=by simpa using vg
   exact h
  have Yi:Hid (stay now t (k+1)=stay now t k++[k]):=by
   have h:stay now t (k+1)=stay now t k++[k]:=by simp only[stay];rw[if_neg vg]
   exact h
  clear vg;go_wp2;have d:=D.out;refine nl ?_;intro w2 dg;have Pv:=T3.grow dg;have Pt:=hM.below dg lz;have Sv:=(dg.cell (p:=⟨y,bH+k,none⟩)<|afL (afL bz iY.size) bM.size).trans hrm;clear x0 x3 y6 hne d T3 bM;go_wp2;obtain⟨m',qr⟩:∃m',m'=bT (f k) (t k) (now+1):=⟨_,rfl⟩;have HMP:Hid (m'=bT (f k) (t k) (now+1)):=qr;have HP:∀W,Calls Tz.prog 107 #[bm #[a0 (f k).name,.bool (f k).ax,ai .i64 (f k).aI,ai .i64 (f k).cE,ai .i64 (f k).late,ai .i64 (f k).prom],ai .i64<|t k,ai .i64<|now+1] W λe w'=>e=.returned (bm #[m'.name,m'.ax,m'.aI,m'.cE,m'.late,m'.prom])/\aN W.heap.size W w':=λW=>by
   rw[qr];exact uK (f k) (t k) (now+1) W ab ab
  clear qr;let⟨q0,q1,q2,q3,q4,q5⟩:=Pt;simp only[Nat.zero_add]at q0 q1 q2 q3 q4 q5;let⟨⟨n0,n2,n3⟩,nf⟩:=Pv.drew.uD;have Wu:S8 wr.heap.size (f k) (w.heap.size+1) (ac (some ⟨y,bH,none⟩) n cap') y (bH+k) (t k) (w.heap.size+1+1+1) (now+1) w2.drew:=⟨q0,q1,q2,q3,q4,q5,Pv.bb.c3,Sv,n0⟩;clear q0 q1 q2 q3 q4 q5 Sv dg;refine bj aO Wu λhHeld=>?_;refine aj 0 (ay<|some ⟨w.heap.size+1+1+1,2,none⟩) 37 rfl J7 hHeld ?_;refine aj 2 (bm #[a0 (f k).name,.bool (f k).ax,ai .i64 (f k).aI,ai .i64 (f k).cE,ai .i64 (f k).late,ai .i64 (f k).prom]) 39 rfl J7 hHeld ?_;refine aj 3 (ay<|some ⟨w.heap.size+1,3,none⟩) 40 rfl J7 hHeld ?_;refine aj 4 (ac (some ⟨y,bH,none⟩) n cap') 41 rfl J7 hHeld ?_;refine aj 5 (ai .i64 (k:Int)) 42 rfl J7 hHeld ?_;refine aj 6 (ay<|some ⟨y,bH+k,none⟩) 43 rfl J7 hHeld ?_;refine aj 7 (ai .i64<|t k) 44 rfl J7 hHeld ?_;refine aj 8 (ay<|some ⟨w.heap.size+1+1+1,0,none⟩) 45 rfl J7 hHeld ?_;refine aj 9 (ai .i64<|now+1) 46 rfl J7 hHeld ?_;simp only[Act.put,a1,a8,a9];refine Ls 1 10 rfl rfl (λK hK=>?_) λK hK=>?_;focus
   go_simp
   refine hK.out _ _ Wu λhHeld=>?_;clear hK K;refine f8 10 rfl λK hK=>?_;go_simp
   go_at_call 107
   refine(HP _).mono ?_;rintro e w3 ⟨rfl,b3⟩;have Sl:=Pv.drew.grow b3;have Wv:=Wu.below b3;let⟨⟨n0,n2,n3⟩,nf⟩:=Sl.uD;go_wp2_with fail
   refine hK.out _ _ Wv λhHeld=>?_;clear hK K;refine f8 11 rfl λK hK=>?_;go_simp
   have bO:aN w3 w3 (w3.alloc<|.cells #[m'.name,m'.ax,m'.aI,m'.cE,m'.late,m'.prom] 55):=(afB _ _).alloc (afK _) _;have DW:=Sl.grow bO;have FD:=Wv.below bO;let⟨⟨g0,g2,g3⟩,gf⟩:=DW.uD;refine hK.out _ _ FD λhHeld=>?_;clear hK K
  rotate_left;focus
   go_simp
   go_at_call 107
   refine(HP _).mono ?_;rintro e w3 ⟨rfl,b3⟩;have Sl:=Pv.drew.grow b3;have Wv:=Wu.below b3;let⟨⟨n0,n2,n3⟩,nf⟩:=Sl.uD;go_wp2_with fail
   refine hK.out _ _ Wv λhHeld=>?_;clear hK K;refine Ls 1 11 rfl rfl (λK hK=>?_) λK hK=>?_;focus
    go_simp
    refine hK.out _ _ Wv λhHeld=>?_;clear hK K;refine f8 11 rfl λK hK=>?_;go_simp
    have bO:aN w3 w3 (w3.alloc<|.cells #[m'.name,m'.ax,m'.aI,m'.cE,m'.late,m'.prom] 55):=(afB _ _).alloc (afK _) _;have DW:=Sl.grow bO;have FD:=Wv.below bO;let⟨⟨g0,g2,g3⟩,gf⟩:=DW.uD;refine hK.out _ _ FD λhHeld=>?_;clear hK K
   rotate_left;focus
    go_simp
    have bO:aN w3 w3 (w3.alloc<|.cells #[m'.name,m'.ax,m'.aI,m'.cE,m'.late,m'.prom] 55):=(afB _ _).alloc (afK _) _;have DW:=Sl.grow bO;have FD:=Wv.below bO;let⟨⟨g0,g2,g3⟩,gf⟩:=DW.uD;refine hK.out _ _ FD λhHeld=>?_;clear hK K;refine f8 1 rfl λK hK=>?_;go_simp
    refine hK.out _ _ FD λhHeld=>?_;clear hK K
  all_goals
   refine f8 12 rfl λK hK=>?_;refine dK rfl (.tmp 38) (.tmp 48) 26 rfl 55 iM _ 6 56 (Tz.al Tryz.underlying26) hI gK eO fZ rfl bh (w.heap.size+1+1+1+1) v (stay now t k).length (sC f t now<|stay now t k) bQ DW.ov _ 1 1 (Mv.cells m').toList bQ rfl (a_<|heap_alloc_new _ _) (QG _) iN ab DW.size ?_;intro v4 w4 H4 KQ;obtain⟨B4,c4,rfl⟩:=iv H4;have hS4:=FD.grown KQ (λB hB=>by have h1:=(Sl.ov.lt B hB).1;have h2:=Pv.ov.lt B hB;have h3:=Oa.ov.lt B hB;omega);have p2:w4.cell? ⟨w.heap.size+1+1+1,2,none⟩=some v:=(afH (a:=⟨w.heap.size+1+1+1,2,none⟩)<|KQ.block _ (aa g2) (λe=>by have:=(Sl.ov.lt (w.heap.size+1+1+1) e.symm).1;omega)).trans g2;have pf:w4.frozen? ⟨w.heap.size+1+1+1,2,none⟩=false:=(a4 (a:=⟨w.heap.size+1+1+1,2,none⟩)<|KQ.block _ (aa g2) (λe=>by have:=(Sl.ov.lt (w.heap.size+1+1+1) e.symm).1;omega)).trans<|gf 2;refine hK.out _ _ hS4 λhHeld=>?_;clear hK K;refine f8 13 rfl λK hK=>?_;go_simp
   refine hK.out _ _ hS4 λhHeld=>?_;clear hK K;refine f8 14 rfl λK hK=>?_;go_simp
   rw[HMP.out]at H4;have Y':=DW.moves k H4 KQ;have Y3:=hS4.set ab ab ab 2 ab<|ac B4 ((stay now t k).length+1) c4;refine hK.out _ _ Y3 λhHeld=>?_;clear hK K;refine bs aO ?_ _;revert Y' Y3;generalize w4.setCell ⟨w.heap.size+1+1+1,2,none⟩ (ac (some ⟨B4,0,none⟩) ((stay now t k).length+1) c4)=W5;intro Y' Y3;clear hHeld hS4 p2 pf H4 KQ Sl Wv n0 n2 n3 nf DW FD g0 g2 g3 gf bO b3;clear HP Pv Wu;go_wp2;let⟨⟨n0,n2,n3⟩,nf⟩:=Y'.drew.uD;have hS6:S8 wr.heap.size (f k) (w.heap.size+1) (ac (some ⟨y,bH,none⟩) n cap') y (bH+k) (t k) (w.heap.size+1+1+1) (now+1) W5.drew:=Y3.keep λ_ _=>rfl;refine bj (S:=S8 wr.heap.size (f k) (w.heap.size+1) (ac (some ⟨y,bH,none⟩) n cap') y (bH+k) (t k) (w.heap.size+1+1+1)<|now+1) aO hS6 λhHeld=>?_;refine aj 0 (ay<|some ⟨w.heap.size+1+1+1,3,none⟩) 51 rfl J7 hHeld ?_;refine aj 2 (ay<|some ⟨w.heap.size+1,3,none⟩) 53 rfl J7 hHeld ?_;refine aj 3 (ac (some ⟨y,bH,none⟩) n cap') 54 rfl J7 hHeld ?_;refine aj 4 (ai .i64 (k:Int)) 55 rfl J7 hHeld ?_;refine aj 5 (ay<|some ⟨y,bH+k,none⟩) 56 rfl J7 hHeld ?_;refine aj 6 (ai .i64<|t k) 57 rfl J7 hHeld ?_;simp only[Act.put,a1,a8,a9];refine Ls 1 7 rfl rfl (λK hK=>?_) λK hK=>?_;focus
    go_simp
    refine hK.out _ _ hS6 λhHeld=>?_;clear hK K;refine f8 7 rfl λK hK=>?_;go_simp
    have bO:aN W5 W5 (W5.alloc<|.cells #[ai .i64<|t k] 3).drew:=((afB _ W5).alloc (afK _) _).drew;have Sm:=Y'.grow bO;have Y_:=Y3.below bO;let⟨⟨g0,g2,g3⟩,gf⟩:=Sm.uD;refine hK.out _ _ Y_ λhHeld=>?_;clear hK K
   rotate_left;focus
    go_simp
    have bO:aN W5 W5 (W5.alloc<|.cells #[ai .i64<|t k] 3).drew:=((afB _ W5).alloc (afK _) _).drew;have Sm:=Y'.grow bO;have Y_:=Y3.below bO;let⟨⟨g0,g2,g3⟩,gf⟩:=Sm.uD;refine hK.out _ _ Y_ λhHeld=>?_;clear hK K;refine f8 1 rfl λK hK=>?_;go_simp
    refine hK.out _ _ Y_ λhHeld=>?_;clear hK K
   all_goals
    refine f8 8 rfl λK hK=>?_;refine dK rfl (.tmp 52) (.tmp 58) 27 rfl 3 i0 (ai .i64 0) 1 8 (Tz.al Tryz.underlying27) KN MD I8 I9 rfl bh (w.heap.size+1+1+1+1) u (stay now t k).length (sD t<|stay now t k) bQ Sm.ou _ 1 1 [ai .i64 (t k)] bQ rfl (fx<|heap_alloc_new W5 _) sJ iN ab Sm.size ?_;intro u7 w7 ho7 hg7;obtain⟨B7,c7,rfl⟩:=iv ho7;have hS8:=Y_.grown hg7 (λB hB=>by have h1:=(Sm.ou.lt B hB).1;have h3:=Oa.ou.lt B hB;omega);have p2:w7.cell? ⟨w.heap.size+1+1+1,3,none⟩=some u:=(afH (a:=⟨w.heap.size+1+1+1,3,none⟩)<|hg7.block _ (aa g3) (λe=>by have:=(Sm.ou.lt (w.heap.size+1+1+1) e.symm).1;omega)).trans g3;have pf:w7.frozen? ⟨w.heap.size+1+1+1,3,none⟩=false:=(a4 (a:=⟨w.heap.size+1+1+1,3,none⟩)<|hg7.block _ (aa g3) (λe=>by have:=(Sm.ou.lt (w.heap.size+1+1+1) e.symm).1;omega)).trans<|gf 3;refine hK.out _ _ hS8 λhHeld=>?_;clear hK K;refine f8 9 rfl λK hK=>?_;go_simp
    refine hK.out _ _ hS8 λhHeld=>?_;clear hK K;refine f8 10 rfl λK hK=>?_;go_simp
    have hN9:=Sm.RF k ho7 hg7;have hS9:=hS8.set ab ab ab 3 ab<|ac B7 ((stay now t k).length+1) c7;refine hK.out _ _ hS9 λhHeld=>?_;clear hK K;refine bs aO ?_ _;revert hN9;generalize w7.setCell ⟨w.heap.size+1+1+1,3,none⟩ (ac (some ⟨B7,0,none⟩) ((stay now t k).length+1) c7)=W9;intro hN9;clear hHeld hS9 hS8 p2 pf ho7 hg7 Sm Y_ hS6 Y' Y3 n0 n2 n3 nf g0 g2 g3 gf bO;rw[<-Yi.out]at hN9;go_wp2;exact⟨⟨k+1,_,_,ab,aP,hN9⟩,cD⟩
 .have tM:k=n:=by omega
  subst tM;have hx:=Oa.nx;have c0:=ad wr _ 0 _ _ _ hx;have c1:=ad wr _ 1 _ _ _ hx;have c2:=ad wr _ 2 _ _ _ hx;have c3:=ad wr _ 3 _ _ _ hx;have hy:=Oa.rs;have d0:=ad wr _ 0 _ _ _ hy;have d1:=ad wr _ 1 _ _ _ hy;have d2:=ad wr _ 2 _ _ _ hy;have d3:=ad wr _ 3 _ _ _ hy;have df:=λj=>a6 wr _ j _ _ hy
  simp at c0 c1 c2 c3 d0 d1 d2 d3;have AV:=Oa.ov;have hou:=Oa.ou;have hB:=Oa.below;have iP:=Oa.size;clear Oa hx hy;obtain⟨av,cv,rfl⟩:=mh AV;obtain⟨au,cu,rfl⟩:=mh hou;go_wp2;have eW:∀q,q≠w.heap.size+1+1->((((wr.setCell ⟨w.heap.size+1+1,0,none⟩<|ai .i64<|now+1).setCell ⟨w.heap.size+1+1,1,none⟩ shift).setCell ⟨w.heap.size+1+1,2,none⟩<|ac av (stay now t k).length cv).setCell ⟨w.heap.size+1+1,3,none⟩<|ac au (stay now t k).length cu).heap[q]?=wr.heap[q]?:=λq hq=>by
   rw[afD _ _ _ _ Tf,afD _ _ _ _ Tf,afD _ _ _ _ Tf,afD _ _ _ _ Tf]
  refine bodyPost_ret (v:=.tuple #[Ta (now+1) shift (ac av (stay now t k).length cv)<|ac au (stay now t k).length cu,.nilIface]) (by simp[results,Tryz.results254,go_sem,d0,d1,d2,d3]) rfl ⟨⟨_,_,rfl,?_,?_⟩,?_⟩
  .exact mg (eK AV λB hB=>eW B (by have:=(AV.lt B hB).1;omega)) ab
  .exact mg (eK hou λB hB=>eW B (by have:=(hou.lt B hB).1;omega)) ab
  .exact(((hB.setCell dj _).setCell dj _).setCell dj _).setCell dj _
end
