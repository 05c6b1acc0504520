import Derived.Test.YtlmcblcijndipaaGreatDoorj31
import Derived.Test.YtlmcblcijndipaaGreatDoorj26
import Derived.Test.YtlmcblcijndipaaGreatDoorj25
set_option linter.defProp false
set_option linter.unusedVariables false
set_option maxHeartbeats 8000000
set_option maxRecDepth 10000
namespace Go.Proofs.YtlmcblcijndipaaGreatDoor
open ChangeAt ChangeShapes RowKit WideShapes
variable {now shift:Int}{B BB NX b cap cap' hi k lo m n:Nat}{g:Nat->ByteArray}{t:Nat->Int}{f:Nat->Mv}{a a':Option Addr}{T:TypeId}{u v v':Value}{W W' w w':World}
section
variable {K1 nJ:Nat}{s:Value}
structure abW (T:TypeId)(lo hi:Nat)(w w':World):Prop where
 size:w.heap.size<=w'
 block:∀k,k<w.heap.size->(k<lo\/hi<=k\/∃cs T',T'≠T/\w.heap[k]?=some (.cells cs T' (0,0)))->w'.heap[k]?=w.heap[k]?
 below:Below lo w w'
structure Mid (lo hi:Nat)(w w':World):Prop where
 size:w.heap.size<=w'
 block:∀k,k<w.heap.size->(k<lo\/hi<=k)->w'.heap[k]?=w.heap[k]?
 below:Below lo w w'
def Us (w:World)(b n:Nat)(g:Nat->ByteArray):Prop:=∀i,i<n->w.cell? ⟨b,i,none⟩=some (.string<|g i)
def aau (w:World)(lo hi:Nat)(v:Value)(n:Nat)(f:Nat->Mv):Prop:=
 (n=0/\∃a c,v=.slice a 0 c)\/∃B c cs,v=.slice (some ⟨B,0,none⟩) n c/\lo<=B/\B<hi/\hi<=w/\w.heap[B]?=some (.cells cs 31 (0,0))/\n*6<=cs.size/\aJ w B 0 n f
def aat (w:World)(lo hi:Nat)(v:Value)(n:Nat)(g:Nat->Int):Prop:=
 (n=0/\∃a c,v=.slice a 0 c)\/∃B c cs,v=.slice (some ⟨B,0,none⟩) n c/\lo<=B/\B<hi/\hi<=w/\w.heap[B]?=some (.cells cs 3 (0,0))/\n<=cs.size/\aA w B 0 n g
def aaw (w:World)(lo hi:Nat)(v:Value)(n:Nat)(g:Nat->ByteArray):Prop:=
 (n=0/\∃a c,v=.slice a 0 c)\/∃B c cs,v=.slice (some ⟨B,0,none⟩) n c/\lo<=B/\B<hi/\hi<=w/\w.heap[B]?=some (.cells cs 9 (0,0))/\n<=cs.size/\Us w B n g
structure Bks (w:World)(lo hi:Nat)(v:Value)(n:Nat)(f:Nat->Mv)(u:Value)(m:Nat)(t:Nat->Int)(s:Value)(k:Nat)(g:Nat->ByteArray):Prop where
 mv:aau w lo hi v n f
 tk:aat w lo hi u m t
 nm:aaw w lo hi s k g
end
def abu (k:Int)(i:Nat):Mv:=⟨y_<|k+i*6,(k+i*6+1)%3==0,k+i*6+1+1,k+i*6+1+1+1,k+i*6+1+1+1+1,k+i*6+1+1+1+1+1⟩
section
variable {N:Nat}
abbrev QD (now shift:Int)(v u:Value):Value:=.agg #[now,shift,v,u]
end
section
variable {m:Mv}
def eh (f:Nat->Mv)(n:Nat):List Value:=(List.range n).flatMap λj=>(f j).cells.toList
def jq (f:Nat->Mv):∀n,(eh f n).length=n*6
 |0=>rfl
 |n+1=>by
  have:=jq f n;unfold eh at this⊢;rw[List.range_succ,List.flatMap_append,List.length_append,this];simp[Nat.add_mul]
def mf (f:Nat->Mv)(n:Nat):eh f (n+1)=eh f n++(f n).cells.toList:=by
 unfold eh;rw[List.range_succ,List.flatMap_append];simp
def oz {g:Nat->Mv}:∀{n:Nat},(∀j,j<n->f j=g j)->eh f n=eh g n
 |0,_=>rfl
 |n+1,h=>by rw[mf,mf,oz (λj hj=>h j ab),h n ab]
def se (f:Nat->Mv):∀n i k,i<n->k<6->(eh f n)[i*6+k]?=(f i).cells.toList[k]?
 |0,i,k,hi,_=>absurd hi (ac7 _)
 |n+1,i,k,hi,hk=>by
  rw[mf];by_cases e:i=n
  .subst e;rw[adg (by rw[jq];omega),jq];congr 1;omega
  .rw[adf (by rw[jq];omega)];exact se f n i k ab hk
def RZ {base c:Nat}(h:w.ownsRow base T 6 (.slice B n c) n (eh f n)):aJ w B 0 n f:=by
 intro i hi;have q:∀k,k<6->w.cell? ⟨B,0+i*6+k,none⟩=(f i).cells.toList[k]?:=λk hk=>by
  rw[Nat.zero_add,h.cellAt (i*6+k) ab];exact se f n i k hi hk
 exact⟨q 0 ab,q 1 ab,q 2 ab,q 3 ab,q 4 ab,q 5 ab⟩
def dw (w:World)(b:Nat)(m:Mv):Prop:=w.heap[b]?=some (.cells #[m.name,m.ak,m.ap,m.bF,m.late,m.prom] 31 (0,0))
def dw.at_ (h:dw w b m):tW w b 0 m:=by
 constructor<;>(rw[cell_of_row _ _ _ _ _ _ h];rfl)
def dw.frozen (h:dw w b m)(j:Nat):w.frozen? ⟨b,j,none⟩=false:=frozen_of_row w _ j _ _ h
def wj:(Tz.prog.info? 31).map (λi=>(i.zero,i.size,i.bytes))=some (some<|.agg #[ByteArray.empty,false,(0:Int),(0:Int),(0:Int),(0:Int)],6,56):=bj
def CV (h:dw W b m):∀(j:Nat) (u:Value),m.cells.toList[j]?=some u->W.cell? ((b:Addr).add j)=some u:=λj u hu=>by
 have e:(b:Addr).add j=⟨b,j,none⟩:=by simp[Addr.add];omega
 rw[e,cell_of_row _ _ _ _ _ _ h];simpa using hu
def yl (m:Mv):∀u∈m.cells.toList,u.oneCell'=true:=λu hu=>by
 simp at hu;rcases hu with rfl|rfl|rfl|rfl|rfl|rfl<;>rfl
def stay (now:Int)(t:Nat->Int):Nat->List Nat
 |0=>[]
 |k+1=>if t k=now then stay now t k else stay now t k++[k]
def gone (now:Int)(t:Nat->Int):Nat->List Nat
 |0=>[]
 |k+1=>if t k=now then gone now t k++[k]else gone now t k
def yQ (now:Int)(t:Nat->Int):∀k,(stay now t k).length<=k
 |0=>ac3 _
 |k+1=>by have:=yQ now t k;simp only[stay];split<;>simp<;>omega
def D9 (now:Int)(t:Nat->Int):∀k,(gone now t k).length<=k
 |0=>ac3 _
 |k+1=>by have:=D9 now t k;simp only[gone];split<;>simp<;>omega
def rj (f:Nat->Mv)(t:Nat->Int)(now:Int)(l:List Nat):List Value:=l.flatMap λi=>(bf (f i) (t i)<|now+1).cells.toList
def rk (t:Nat->Int)(l:List Nat):List Value:=l.map λi=>.int .i64<|t i
def ng (f:Nat->Mv)(l:List Nat):List Value:=l.map λi=>.string (f i).name
def Iq (f:Nat->Mv)(t:Nat->Int)(now:Int)(l:List Nat)(k:Nat):rj f t now (l++[k])=rj f t now l++(bf (f k) (t k)<|now+1).cells.toList:=by simp[rj]
def Ir (t:Nat->Int)(l:List Nat)(k:Nat):rk t (l++[k])=rk t l++[.int .i64 (t k)]:=by simp[rk]
def GN (f:Nat->Mv)(l:List Nat)(k:Nat):ng f (l++[k])=ng f l++[.string (f k).name]:=by simp[ng]
def qj (l:List Nat)(j:Nat):Nat:=l.getD j 0
def AX (l:List Nat):(List.range l.length).map (qj l)=l:=by
 apply List.ext_getElem
 .simp
 .intro i h1 h2;simp[qj,List.getD_eq_getElem?_getD,List.getElem?_eq_getElem h2]
def FF (f:Nat->Mv)(t:Nat->Int)(now:Int)(l:List Nat):rj f t now l=eh (λj=>bf (f<|qj l j) (t<|qj l j)<|now+1) l.length:=by
 unfold rj eh;conv=>lhs;rw[<-AX l]
 rw[List.flatMap_map]
def LE (t:Nat->Int)(l:List Nat)(j:Nat)(h:j<l.length):(rk t l)[j]?=some (.int .i64<|t<|qj l j):=by
 simp[rk,qj,List.getD_eq_getElem?_getD,List.getElem?_eq_getElem h]
end
section
variable {base size RS:Nat}{e:TypeId}{xs:List Value}{l l2:List Nat}
def ew (h:w.ownsRow base e size v n xs)(hs:∀B,v.ownBlock=some B->w'.heap[B]?=w.heap[B]?):w'.ownsRow base e size v n xs:=by
 obtain⟨h1,h2|⟨g,c,cur,rfl,h3,h4,h5⟩⟩:=h
 .exact⟨h1,.inl h2⟩
 .exact⟨h1,.inr ⟨g,c,cur,rfl,h3,(hs g rfl).trans h4,h5⟩⟩
def JH (h:w.ownsRow base e size v n xs)(B:Nat)(hB:v.ownBlock=some B):∃cs,w.heap[B]?=some (.cells cs e (0,0)):=by
 obtain⟨h1,h2|⟨g,c,cur,rfl,h3,h4,h5⟩⟩:=h
 .rw[h2.1]at hB;cases hB
 .simp[Value.ownBlock]at hB;subst hB;exact⟨cur,h4⟩
def AR {uK:Nat}{e':TypeId}{O1:Nat}{n':Nat}{xs':List Value}(h:w.ownsRow base e size v n xs)(h':w.ownsRow uK e' O1 v' n' xs')(hne:e≠e')(B:Nat)(hB:v.ownBlock=some B):v'.ownBlock≠some B:=λQ9=>by
 let⟨cs,h1⟩:=JH h B hB;let⟨cs',h2⟩:=JH h' B Q9;rw[h1]at h2;simp at h2;exact hne h2.2
def rr.same (h:rr w B now shift a n cap a' m cap')(e:w'.heap[B]?=w.heap[B]?):rr w' B now shift a n cap a' m cap':=
 ⟨(ac0 (a:=B) e).trans h.c0,(ac0 (a:=⟨B,1,none⟩) e).trans h.c1,(ac0 (a:=⟨B,2,none⟩) e).trans h.c2,(ac0 (a:=⟨B,3,none⟩) e).trans h.c3⟩
structure Nx (w:World)(BB RS NX base:Nat)(now shift:Int)(a:Option Addr)(n cap:Nat)(a':Option Addr)(m cap':Nat)(v u:Value)(f:Nat->Mv)(t:Nat->Int)(l l2:List Nat)(W:World):Prop where
 bb:rr W BB now shift a n cap a' m cap'
 nx:W.heap[NX]?=some (.cells #[.int .i64<|now+1,shift,v,u] 29 (0,0))
 rs:W.heap[RS]?=some (.cells #[(0:Int),(0:Int),(),()] 29 (0,0))
 ov:W.ownsRow base 31 6 v l.length (rj f t now l)
 ou:W.ownsRow base 3 1 u l2.length (rk t l2)
 size:base<=W
 below:Below w w W
 ord:w.heap.size<=BB/\w.heap.size<=RS/\w.heap.size<=NX/\BB<base/\RS<base/\NX<base/\BB≠NX/\RS≠NX
def Nx.grow (h:Nx w BB RS NX base now shift a n cap a' m cap' v u f t l l2 W)(hb:Below W W W'):Nx w BB RS NX base now shift a n cap a' m cap' v u f t l l2 W':=by
 have hs:=h.size;have oo:=h.ord;exact⟨h.bb.below hb ab,(hb.block NX ab).trans h.nx,(hb.block RS ab).trans h.rs,ew h.ov λB hB=>hb.block B (h.ov.lt B hB).2,ew h.ou λB hB=>hb.block B (h.ou.lt B hB).2,ac6 hs hb.size,h.below.trans<|hb.mono h.below.size,h.ord⟩
def Nx.drew (h:Nx w BB RS NX base now shift a n cap a' m cap' v u f t l l2 W):Nx w BB RS NX base now shift a n cap a' m cap' v u f t l l2 W.drew:=h.grow (acU _ _).drew
def Nx.tv (h:Nx w BB RS NX base now shift a n cap a' m cap' v u f t l l2 W):(W.cell? NX=some (.int .i64<|now+1)/\W.cell? ⟨NX,2,none⟩=some v/\W.cell? ⟨NX,3,none⟩=some u)/\∀j,W.frozen? ⟨NX,j,none⟩=false:=
 ⟨⟨by rw[cell_of_row _ _ _ _ _ _ h.nx];rfl,by rw[cell_of_row _ _ _ _ _ _ h.nx];rfl,by rw[cell_of_row _ _ _ _ _ _ h.nx];rfl⟩,λj=>frozen_of_row W _ j _ _ h.nx⟩
def Nx.moves (h:Nx w BB RS NX base now shift a n cap a' m cap' v u f t l l2 W)(k:Nat)(ho:W'.ownsRow base 31 6 v' (l.length+1) (rj f t now l++(bf (f k) (t k)<|now+1).cells.toList))(hg:W.grownBy W' v.ownBlock):Nx w BB RS NX base now shift a n cap a' m cap' v' u f t (l++[k]) l2 (W'.setCell ⟨NX,2,none⟩ v'):=by
 have hs:=h.size;let⟨o1,o2,o3,o4,o5,o6,o7,o8⟩:=h.ord;have am:∀B,v.ownBlock=some B->base<=B:=λB hB=>(h.ov.lt B hB).1
 have low:∀k,k<base->W'.heap[k]?=W.heap[k]?:=λk hk=>hg.block k ab (λe=>by have:=am k e.symm;omega)
 have Hp:∀k,k<base->k≠NX->(W'.setCell ⟨NX,2,none⟩ v').heap[k]?=W.heap[k]?:=λk hk hne=>(acW W' _ _ k<|by simpa using hne).trans<|low k hk
 have XG:=heap_setCell_same W' NX 2 _ _ v'<|(low NX o6).trans h.nx;refine⟨h.bb.same<|Hp BB o4 o7,by simpa using XG,(Hp RS o5 o8).trans h.rs,?_,?_,by have:=hg.size;simp;omega,?_,h.ord⟩
 .rw[List.length_append,Iq];exact ew ho λB hB=>acW W' _ _ B (by have:=(ho.lt B hB).1;simp;omega)
 .exact ew h.ou (λB hB=>(acW W' _ _ B (by have:=(h.ou.lt B hB).1;simp;omega)).trans<|hg.block B (h.ou.lt B hB).2 λe=>AR h.ou h.ov bd B hB e.symm)
 .exact(h.below.grown hg h.below.size (λk hk=>by have:=am k hk;omega)).setCell cH _
def Nx.Pt {u':Value}(h:Nx w BB RS NX base now shift a n cap a' m cap' v u f t l l2 W)(k:Nat)(ho:W'.ownsRow base 3 1 u' (l2.length+1) (rk t l2++[.int .i64 (t k)]))(hg:W.grownBy W' u.ownBlock):Nx w BB RS NX base now shift a n cap a' m cap' v u' f t l (l2++[k]) (W'.setCell ⟨NX,3,none⟩ u'):=by
 have hs:=h.size;let⟨o1,o2,o3,o4,o5,o6,o7,o8⟩:=h.ord;have am:∀B,u.ownBlock=some B->base<=B:=λB hB=>(h.ou.lt B hB).1
 have low:∀k,k<base->W'.heap[k]?=W.heap[k]?:=λk hk=>hg.block k ab (λe=>by have:=am k e.symm;omega)
 have Hp:∀k,k<base->k≠NX->(W'.setCell ⟨NX,3,none⟩ u').heap[k]?=W.heap[k]?:=λk hk hne=>(acW W' _ _ k<|by simpa using hne).trans<|low k hk
 have XG:=heap_setCell_same W' NX 3 _ _ u'<|(low NX o6).trans h.nx;refine⟨h.bb.same<|Hp BB o4 o7,by simpa using XG,(Hp RS o5 o8).trans h.rs,?_,?_,by have:=hg.size;simp;omega,?_,h.ord⟩
 .exact ew h.ov (λB hB=>(acW W' _ _ B (by have:=(h.ov.lt B hB).1;simp;omega)).trans<|hg.block B (h.ov.lt B hB).2 λe=>AR h.ov h.ou bd B hB e.symm)
 .rw[List.length_append,Ir];exact ew ho λB hB=>acW W' _ _ B (by have:=(ho.lt B hB).1;simp;omega)
 .exact(h.below.grown hg h.below.size (λk hk=>by have:=am k hk;omega)).setCell cH _
def gr (h:w.ownsRow base e size v n xs):∃a c,v=.slice a n c:=by
 obtain⟨h1,⟨rfl,rfl⟩|⟨g,c,cur,rfl,_⟩⟩:=h
 .exact⟨_,_,rfl⟩
 .exact⟨_,_,rfl⟩
end
section
variable {M b' o:Nat}{mm:Mv}{sl:Value}{tk nw:Int}
def rr.Wp (h:w.heap[B]?=some (.cells #[now,shift,.slice a n cap,.slice a' m cap'] T (0,0))):rr w B now shift a n cap a' m cap':=by
 constructor<;>(rw[cell_of_row _ _ _ _ _ _ h];rfl)
structure S8 (M:Nat)(mm:Mv)(BB:Nat)(sl:Value)(b' o:Nat)(tk:Int)(NX:Nat)(nw:Int)(W:World):Prop where
 c0:W.cell? M=some (.string mm.name)
 c1:W.cell? ⟨M,1,none⟩=some (.bool mm.ak)
 c2:W.cell? ⟨M,2,none⟩=some (.int .i64 mm.ap)
 c3:W.cell? ⟨M,3,none⟩=some (.int .i64 mm.bF)
 c4:W.cell? ⟨M,4,none⟩=some (.int .i64 mm.late)
 c5:W.cell? ⟨M,5,none⟩=some (.int .i64 mm.prom)
 s3:W.cell? ⟨BB,3,none⟩=some sl
 tk:W.cell? ⟨b',o,none⟩=some (.int .i64 tk)
 nw:W.cell? NX=some (.int .i64 nw)
def S8.keep (h:S8 M mm BB sl b' o tk NX nw W)(e:∀B,B=M\/B=BB\/B=b'\/B=NX->W'.heap[B]?=W.heap[B]?):S8 M mm BB sl b' o tk NX nw W':=by
 have q:∀B j,B=M\/B=BB\/B=b'\/B=NX->W'.cell? ⟨B,j,none⟩=W.cell? ⟨B,j,none⟩:=λB j hB=>ac0 (a:=⟨B,j,none⟩)<|e B hB
 exact⟨(q _ _<|.inl rfl).trans h.c0,(q _ _<|.inl rfl).trans h.c1,(q _ _<|.inl rfl).trans h.c2,(q _ _<|.inl rfl).trans h.c3,(q _ _<|.inl rfl).trans h.c4,(q _ _<|.inl rfl).trans h.c5,(q _ _<|.inr<|.inl rfl).trans h.s3,(q _ _<|.inr<|.inr<|.inl rfl).trans h.tk,(q _ _<|.inr<|.inr<|.inr rfl).trans h.nw⟩
def S8.set (h:S8 M mm BB sl b' o tk NX nw W)(h1:M≠NX)(h2:BB≠NX)(h3:b'≠NX)(j:Nat)(hj:j≠0)(v:Value):S8 M mm BB sl b' o tk NX nw (W.setCell ⟨NX,j,none⟩ v):=by
 have q:∀B i,B≠NX->(W.setCell ⟨NX,j,none⟩ v).cell? ⟨B,i,none⟩=W.cell? ⟨B,i,none⟩:=λB i hB=>World.cell?_setCell_other _ _ _ _ (by intro e;cases e;exact hB rfl)
 exact⟨(q _ _ h1).trans h.c0,(q _ _ h1).trans h.c1,(q _ _ h1).trans h.c2,(q _ _ h1).trans h.c3,(q _ _ h1).trans h.c4,(q _ _ h1).trans h.c5,(q _ _ h2).trans h.s3,(q _ _ h3).trans h.tk,(World.cell?_setCell_other _ _ _ _ (by intro e;cases e;exact hj rfl)).trans h.nw⟩
def S8.below (h:S8 M mm BB sl b' o tk NX nw W)(hb:Below W W W'):S8 M mm BB sl b' o tk NX nw W':=by
 have l1:=block_lt_of_cell h.c0;have l2:=block_lt_of_cell h.s3;have l3:=block_lt_of_cell h.tk;have l4:=block_lt_of_cell h.nw;exact h.keep λB hB=>hb.block B (by rcases hB with rfl|rfl|rfl|rfl<;>assumption)
def S8.grown {row:Option Nat}(h:S8 M mm BB sl b' o tk NX nw W)(hg:W.grownBy W' row)(hr:∀B,row=some B->B≠M/\B≠BB/\B≠b'/\B≠NX):S8 M mm BB sl b' o tk NX nw W':=by
 have l1:=block_lt_of_cell h.c0;have l2:=block_lt_of_cell h.s3;have l3:=block_lt_of_cell h.tk;have l4:=block_lt_of_cell h.nw;exact h.keep λB hB=>hg.block B (by rcases hB with rfl|rfl|rfl|rfl<;>assumption) (λe=>by have:=hr B e.symm;rcases hB with rfl|rfl|rfl|rfl<;>simp_all)
def Oo (now shift:Int)(b off n cap:Nat)(f:Nat->Mv)(b' aZ cap':Nat)(t:Nat->Int)(w:World)(hn:n<=6)(h0:0<=now)(h1:now<10000)(bz:b<w)(am:aJ w b off n f)(bu:b'<w)(aP:aA w b' aZ n t):
  Calls Tz.prog 291 #[.agg #[],.agg #[now,shift,.slice (some ⟨b,off,none⟩) n cap,.slice (some ⟨b',aZ,none⟩) n cap']] w λe w'=>(∃v u,e=.returned (.tuple #[QD (now+1) shift v u,.nilIface])/\w'.ownsRow w.heap.size 31 6 v (stay now t n).length (rj f t now<|stay now t n)/\w'.ownsRow w.heap.size 3 1 u (stay now t n).length (rk t<|stay now t n))/\Below w w w':=by
 have abe:¬now=10000:=ab;have xP:IntKind.i64.wrap (now+1)=now+1:=ia;let⟨iM,hI,gE,eG,ga⟩:=info_parts wj;obtain⟨i0,I4,KP,F8,G8⟩:∃i0,Tz.prog.info? 3=some i0/\i0.zero=some (.int .i64 0)/\i0.size=1/\i0.bytes=8:=by
  have h:=li;cases hI:Tz.prog.info? 3 with
  |none=>rw[hI]at h;simp at h
  |some i0=>rw[hI]at h;simp only[Option.map_some,Option.some.injEq,Prod.mk.injEq]at h;exact⟨i0,rfl,h.2.2,h.1,h.2.1⟩
 have YN:∀o1 o2 o3 o4,Below w w ((((w.alloc o1).alloc o2).alloc o3).alloc o4):=λo1 o2 o3 o4=>((((acU _ w).alloc (ac3 _) _).alloc aG _).alloc cH _).alloc cH _
 go_enter Tz.func291,Tryz.ntmps291
 go_wp2;have bI:(now==10000)=false:=cH;simp only[bI];clear bI abe;go_loopw [24] (λx W=>∃(k:Nat) (v u:Value),k<=n/\x=.int .i64 k/\Nx w (w.heap.size+1) (w.heap.size+1+1) (w.heap.size+1+1+1) (w.heap.size+1+1+1+1) now shift (some ⟨b,off,none⟩) n cap (some ⟨b',aZ,none⟩) n cap' v u f t (stay now t k) (stay now t k) W) (λx _=>n-(intOf x).toNat)
 case atStart=>
  refine⟨0,(),(),ac8 _,rfl,?_,?_,?_,⟨rfl,.inl ⟨rfl,rfl⟩⟩,⟨rfl,.inl ⟨rfl,rfl⟩⟩,aG,YN _ _ _ _,ab⟩
  .refine rr.Wp (T:=29) ((acV _ _ _ aG).trans<|(acV _ _ _ aG).trans ?_);have:=heap_alloc_new (w.alloc<|.cells #[] 71)<|.cells #[now,shift,.slice (some ⟨b,off,none⟩) n cap,.slice (some ⟨b',aZ,none⟩) n cap'] 29;simpa using this
  .have:=heap_alloc_new ((((w.alloc<|.cells #[] 71).alloc<|.cells #[now,shift,.slice (some ⟨b,off,none⟩) n cap,.slice (some ⟨b',aZ,none⟩) n cap'] 29).alloc<|.cells #[(0:Int),(0:Int),(),()] 29))<|.cells #[.int .i64<|now+1,shift,(),()] 29;simpa using this
  .refine(acV _ _ _ aG).trans ?_;have:=heap_alloc_new (((w.alloc<|.cells #[] 71).alloc<|.cells #[now,shift,.slice (some ⟨b,off,none⟩) n cap,.slice (some ⟨b',aZ,none⟩) n cap'] 29))<|.cells #[(0:Int),(0:Int),(),()] 29;simpa using this
 case round=>
  obtain⟨k,v,u,hk,rfl,L3⟩:=hrel;by_cases ay:k<n
  .have dq:(k:Int)<n:=by omega
   have gD:=L3.below;let⟨c0,c1,c2,c3,c4,c5⟩:=am.below gD bz k ay;have fH:=aP.below gD bu k ay;have bM:=fG wr<|f k;have hM:=jH wr<|f k;have Rf:=L3.grow bM;have Je:=yQ now t k;have jw:=L3.size;have lz:wr.heap.size<(cR wr<|f k).heap.size:=aG;have hrm:(cR wr<|f k).cell? ⟨b',aZ+k,none⟩=some (.int .i64<|t k):=(bM.cell (p:=⟨b',aZ+k,none⟩)<|ac4 bu gD.size).trans fH;have hne:=aF<|cR wr<|f k;have x0:=λx:ai (cR wr<|f k)=>x.cell Rf.bb.c0
   have x3:=λx:ai (cR wr<|f k)=>x.cell Rf.bb.c3
   have y6:=λx:ai (cR wr<|f k)=>x.cell hrm
   by_cases qU:t k=now
   .have D:Hid ((t k==now)=true):=by
     have h:(t k==now)=true:=by simpa using qU
     exact h
    have Un:Hid (stay now t (k+1)=stay now t k):=by
     have h:stay now t (k+1)=stay now t k:=by simp only[stay];rw[if_pos qU]
     exact h
    clear qU;go_wp2;have d:=D.out;refine jR ?_;intro w2 cj;have Nu:=Rf.grow cj;rw[<-Un.out]at Nu;go_wp2;exact⟨⟨k+1,v,u,ab,aG,Nu⟩,bZ⟩
   .have D:Hid ((t k==now)=false):=by
     have h:(t k==now)=false:=by simpa using qU
     exact h
    have Un:Hid (stay now t (k+1)=stay now t k++[k]):=by
     have h:stay now t (k+1)=stay now t k++[k]:=by simp only[stay];rw[if_neg qU]
     exact h
    clear qU;go_wp2;have d:=D.out;refine jR ?_;intro w2 cj;have Nu:=Rf.grow cj;have KB:=hM.below cj lz;have TG:=(cj.cell (p:=⟨b',aZ+k,none⟩)<|ac4 (ac4 bu gD.size) bM.size).trans hrm;clear x0 x3 y6 hne d Rf bM;go_wp2;obtain⟨m',rJ⟩:∃m',m'=bf (f k) (t k) (now+1):=⟨_,rfl⟩;have HMP:Hid (m'=bf (f k) (t k) (now+1)):=rJ;have HP:∀W,Calls Tz.prog 79 #[.agg #[.string (f k).name,.bool (f k).ak,.int .i64 (f k).ap,.int .i64 (f k).bF,.int .i64 (f k).late,.int .i64 (f k).prom],.int .i64<|t k,.int .i64<|now+1] W λe w'=>e=.returned (.agg #[m'.name,m'.ak,m'.ap,m'.bF,m'.late,m'.prom])/\Below W.heap.size W w':=λW=>by
     rw[rJ];exact tC (f k) (t k) (now+1) W ab ab
    clear rJ;let⟨q0,q1,q2,q3,q4,q5⟩:=KB;simp only[Nat.zero_add]at q0 q1 q2 q3 q4 q5;let⟨⟨n0,n2,n3⟩,nf⟩:=Nu.drew.tv;have S7:S8 wr.heap.size (f k) (w.heap.size+1) (.slice (some ⟨b',aZ,none⟩) n cap') b' (aZ+k) (t k) (w.heap.size+1+1+1) (now+1) w2.drew:=⟨q0,q1,q2,q3,q4,q5,Nu.bb.c3,TG,n0⟩;clear q0 q1 q2 q3 q4 q5 TG cj;refine wp_region_held_drew (S:=S8 wr.heap.size (f k) (w.heap.size+1) (.slice (some ⟨b',aZ,none⟩) n cap') b' (aZ+k) (t k) (w.heap.size+1+1+1)<|now+1) bj S7 λhHeld=>?_;refine aq 0 (.pointer<|some ⟨w.heap.size+1+1+1,2,none⟩) 37 rfl Iv hHeld ?_;refine aq 2 (.agg #[.string (f k).name,.bool (f k).ak,.int .i64 (f k).ap,.int .i64 (f k).bF,.int .i64 (f k).late,.int .i64 (f k).prom]) 39 rfl Iv hHeld ?_;refine aq 3 (.pointer<|some ⟨w.heap.size+1,3,none⟩) 40 rfl Iv hHeld ?_;refine aq 4 (.slice (some ⟨b',aZ,none⟩) n cap') 41 rfl Iv hHeld ?_;refine aq 5 (.int .i64 (k:Int)) 42 rfl Iv hHeld ?_;refine aq 6 (.pointer<|some ⟨b',aZ+k,none⟩) 43 rfl Iv hHeld ?_;refine aq 7 (.int .i64<|t k) 44 rfl Iv hHeld ?_;refine aq 8 (.pointer<|some ⟨w.heap.size+1+1+1,0,none⟩) 45 rfl Iv hHeld ?_;refine aq 9 (.int .i64<|now+1) 46 rfl Iv hHeld ?_;simp only[Act.put,List.setIfInBounds_toArray,List.set_cons_zero,List.set_cons_succ];refine Qb 1 10 rfl rfl (λK hK=>?_) λK hK=>?_;focus
     go_simp
     refine hK.out _ _ S7 λhHeld=>?_;clear hK K;refine iT 10 rfl λK hK=>?_;go_simp
     go_at_call 79
     refine(HP _).mono ?_;rintro e w3 ⟨rfl,b3⟩;have PS:=Nu.drew.grow b3;have S9:=S7.below b3;let⟨⟨n0,n2,n3⟩,nf⟩:=PS.tv;go_wp2_with fail
     refine hK.out _ _ S9 λhHeld=>?_;clear hK K;refine iT 11 rfl λK hK=>?_;go_simp
     have bO:Below w3 w3 (w3.alloc<|.cells #[m'.name,m'.ak,m'.ap,m'.bF,m'.late,m'.prom] 31):=(acU _ _).alloc (ac3 _) _;have Cf:=PS.grow bO;have Ec:=S9.below bO;let⟨⟨g0,g2,g3⟩,gf⟩:=Cf.tv;refine hK.out _ _ Ec λhHeld=>?_;clear hK K
    rotate_left;focus
     go_simp
     go_at_call 79
     refine(HP _).mono ?_;rintro e w3 ⟨rfl,b3⟩;have PS:=Nu.drew.grow b3;have S9:=S7.below b3;let⟨⟨n0,n2,n3⟩,nf⟩:=PS.tv;go_wp2_with fail
     refine hK.out _ _ S9 λhHeld=>?_;clear hK K;refine Qb 1 11 rfl rfl (λK hK=>?_) λK hK=>?_;focus
      go_simp
      refine hK.out _ _ S9 λhHeld=>?_;clear hK K;refine iT 11 rfl λK hK=>?_;go_simp
      have bO:Below w3 w3 (w3.alloc<|.cells #[m'.name,m'.ak,m'.ap,m'.bF,m'.late,m'.prom] 31):=(acU _ _).alloc (ac3 _) _;have Cf:=PS.grow bO;have Ec:=S9.below bO;let⟨⟨g0,g2,g3⟩,gf⟩:=Cf.tv;refine hK.out _ _ Ec λhHeld=>?_;clear hK K
     rotate_left;focus
      go_simp
      have bO:Below w3 w3 (w3.alloc<|.cells #[m'.name,m'.ak,m'.ap,m'.bF,m'.late,m'.prom] 31):=(acU _ _).alloc (ac3 _) _;have Cf:=PS.grow bO;have Ec:=S9.below bO;let⟨⟨g0,g2,g3⟩,gf⟩:=Cf.tv;refine hK.out _ _ Ec λhHeld=>?_;clear hK K;refine iT 1 rfl λK hK=>?_;go_simp
      refine hK.out _ _ Ec λhHeld=>?_;clear hK K
    all_goals
     refine iT 12 rfl λK hK=>?_;refine dB rfl (.tmp 38) (.tmp 48) 23 rfl 31 iM _ 6 56 (Tz.aE Tryz.underlying23) hI gE eG ga rfl bd (w.heap.size+1+1+1+1) v (stay now t k).length (rj f t now<|stay now t k) bD Cf.ov _ 1 1 (Mv.cells m').toList bD rfl (CV<|heap_alloc_new _ _) (yl _) ie ab Cf.size ?_;intro v4 w4 F6 I9;obtain⟨B4,c4,rfl⟩:=lq F6;have hS4:=Ec.grown I9 (λB hB=>by have h1:=(PS.ov.lt B hB).1;have h2:=Nu.ov.lt B hB;have h3:=L3.ov.lt B hB;omega);have p2:w4.cell? ⟨w.heap.size+1+1+1,2,none⟩=some v:=(ac0 (a:=⟨w.heap.size+1+1+1,2,none⟩)<|I9.block _ (block_lt_of_cell g2) (λe=>by have:=(PS.ov.lt (w.heap.size+1+1+1) e.symm).1;omega)).trans g2;have pf:w4.frozen? ⟨w.heap.size+1+1+1,2,none⟩=false:=(World.frozen?_of_block (a:=⟨w.heap.size+1+1+1,2,none⟩)<|I9.block _ (block_lt_of_cell g2) (λe=>by have:=(PS.ov.lt (w.heap.size+1+1+1) e.symm).1;omega)).trans<|gf 2;refine hK.out _ _ hS4 λhHeld=>?_;clear hK K;refine iT 13 rfl λK hK=>?_;go_simp
     refine hK.out _ _ hS4 λhHeld=>?_;clear hK K;refine iT 14 rfl λK hK=>?_;go_simp
     rw[HMP.out]at F6;have Xv:=Cf.moves k F6 I9;have Ed:=hS4.set ab ab ab 2 ab<|.slice B4 ((stay now t k).length+1) c4;refine hK.out _ _ Ed λhHeld=>?_;clear hK K;refine wpAnyH_done bj ?_ _;revert Xv Ed;generalize w4.setCell ⟨w.heap.size+1+1+1,2,none⟩ (.slice (some ⟨B4,0,none⟩) ((stay now t k).length+1) c4)=W5;intro Xv Ed;clear hHeld hS4 p2 pf F6 I9 PS S9 n0 n2 n3 nf Cf Ec g0 g2 g3 gf bO b3;clear HP Nu S7;go_wp2;let⟨⟨n0,n2,n3⟩,nf⟩:=Xv.drew.tv;have Rh:S8 wr.heap.size (f k) (w.heap.size+1) (.slice (some ⟨b',aZ,none⟩) n cap') b' (aZ+k) (t k) (w.heap.size+1+1+1) (now+1) W5.drew:=Ed.keep λ_ _=>rfl;refine wp_region_held_drew (S:=S8 wr.heap.size (f k) (w.heap.size+1) (.slice (some ⟨b',aZ,none⟩) n cap') b' (aZ+k) (t k) (w.heap.size+1+1+1)<|now+1) bj Rh λhHeld=>?_;refine aq 0 (.pointer<|some ⟨w.heap.size+1+1+1,3,none⟩) 51 rfl Iv hHeld ?_;refine aq 2 (.pointer<|some ⟨w.heap.size+1,3,none⟩) 53 rfl Iv hHeld ?_;refine aq 3 (.slice (some ⟨b',aZ,none⟩) n cap') 54 rfl Iv hHeld ?_;refine aq 4 (.int .i64 (k:Int)) 55 rfl Iv hHeld ?_;refine aq 5 (.pointer<|some ⟨b',aZ+k,none⟩) 56 rfl Iv hHeld ?_;refine aq 6 (.int .i64<|t k) 57 rfl Iv hHeld ?_;simp only[Act.put,List.setIfInBounds_toArray,List.set_cons_zero,List.set_cons_succ];refine Qb 1 7 rfl rfl (λK hK=>?_) λK hK=>?_;focus
      go_simp
      refine hK.out _ _ Rh λhHeld=>?_;clear hK K;refine iT 7 rfl λK hK=>?_;go_simp
      have bO:Below W5 W5 (W5.alloc<|.cells #[.int .i64<|t k] 3).drew:=((acU _ W5).alloc (ac3 _) _).drew;have PU:=Xv.grow bO;have L5:=Ed.below bO;let⟨⟨g0,g2,g3⟩,gf⟩:=PU.tv;refine hK.out _ _ L5 λhHeld=>?_;clear hK K
     rotate_left;focus
      go_simp
      have bO:Below W5 W5 (W5.alloc<|.cells #[.int .i64<|t k] 3).drew:=((acU _ W5).alloc (ac3 _) _).drew;have PU:=Xv.grow bO;have L5:=Ed.below bO;let⟨⟨g0,g2,g3⟩,gf⟩:=PU.tv;refine hK.out _ _ L5 λhHeld=>?_;clear hK K;refine iT 1 rfl λK hK=>?_;go_simp
      refine hK.out _ _ L5 λhHeld=>?_;clear hK K
     all_goals
      refine iT 8 rfl λK hK=>?_;refine dB rfl (.tmp 52) (.tmp 58) 27 rfl 3 i0 (.int .i64 0) 1 8 (Tz.aE Tryz.underlying27) I4 KP F8 G8 rfl bd (w.heap.size+1+1+1+1) u (stay now t k).length (rk t<|stay now t k) bD PU.ou _ 1 1 [.int .i64 (t k)] bD rfl (fN<|heap_alloc_new W5 _) t9 ie ab PU.size ?_;intro u7 w7 Ry NI;obtain⟨B7,c7,rfl⟩:=lq Ry;have Az:=L5.grown NI (λB hB=>by have h1:=(PU.ou.lt B hB).1;have h3:=L3.ou.lt B hB;omega);have p2:w7.cell? ⟨w.heap.size+1+1+1,3,none⟩=some u:=(ac0 (a:=⟨w.heap.size+1+1+1,3,none⟩)<|NI.block _ (block_lt_of_cell g3) (λe=>by have:=(PU.ou.lt (w.heap.size+1+1+1) e.symm).1;omega)).trans g3;have pf:w7.frozen? ⟨w.heap.size+1+1+1,3,none⟩=false:=(World.frozen?_of_block (a:=⟨w.heap.size+1+1+1,3,none⟩)<|NI.block _ (block_lt_of_cell g3) (λe=>by have:=(PU.ou.lt (w.heap.size+1+1+1) e.symm).1;omega)).trans<|gf 3;refine hK.out _ _ Az λhHeld=>?_;clear hK K;refine iT 9 rfl λK hK=>?_;go_simp
      refine hK.out _ _ Az λhHeld=>?_;clear hK K;refine iT 10 rfl λK hK=>?_;go_simp
      have hN9:=PU.Pt k Ry NI;have Ta:=Az.set ab ab ab 3 ab<|.slice B7 ((stay now t k).length+1) c7;refine hK.out _ _ Ta λhHeld=>?_;clear hK K;refine wpAnyH_done bj ?_ _;revert hN9;generalize w7.setCell ⟨w.heap.size+1+1+1,3,none⟩ (.slice (some ⟨B7,0,none⟩) ((stay now t k).length+1) c7)=W9;intro hN9;clear hHeld Ta Az p2 pf Ry NI PU L5 Rh Xv Ed n0 n2 n3 nf g0 g2 g3 gf bO;rw[<-Un.out]at hN9;go_wp2;exact⟨⟨k+1,_,_,ab,aG,hN9⟩,bZ⟩
  .have tS:k=n:=by omega
   subst tS;have hx:=L3.nx;have c0:=cell_of_row wr _ 0 _ _ _ hx;have c1:=cell_of_row wr _ 1 _ _ _ hx;have c2:=cell_of_row wr _ 2 _ _ _ hx;have c3:=cell_of_row wr _ 3 _ _ _ hx;have hy:=L3.rs;have d0:=cell_of_row wr _ 0 _ _ _ hy;have d1:=cell_of_row wr _ 1 _ _ _ hy;have d2:=cell_of_row wr _ 2 _ _ _ hy;have d3:=cell_of_row wr _ 3 _ _ _ hy;have df:=λj=>frozen_of_row wr _ j _ _ hy
   simp at c0 c1 c2 c3 d0 d1 d2 d3;have vP:=L3.ov;have hou:=L3.ou;have hB:=L3.below;have jw:=L3.size;clear L3 hx hy;obtain⟨av,cv,rfl⟩:=gr vP;obtain⟨au,cu,rfl⟩:=gr hou;go_wp2;have eW:∀q,q≠w.heap.size+1+1->((((wr.setCell ⟨w.heap.size+1+1,0,none⟩<|.int .i64<|now+1).setCell ⟨w.heap.size+1+1,1,none⟩ shift).setCell ⟨w.heap.size+1+1,2,none⟩<|.slice av (stay now t k).length cv).setCell ⟨w.heap.size+1+1,3,none⟩<|.slice au (stay now t k).length cu).heap[q]?=wr.heap[q]?:=λq hq=>by
    rw[acW _ _ _ _ QF,acW _ _ _ _ QF,acW _ _ _ _ QF,acW _ _ _ _ QF]
   refine bodyPost_ret (v:=.tuple #[QD (now+1) shift (.slice av (stay now t k).length cv)<|.slice au (stay now t k).length cu,.nilIface]) (by simp[results,Tryz.results291,go_sem,d0,d1,d2,d3]) rfl ⟨⟨_,_,rfl,?_,?_⟩,?_⟩
   .exact iQ (ew vP λB hB=>eW B (by have:=(vP.lt B hB).1;omega)) ab
   .exact iQ (ew hou λB hB=>eW B (by have:=(hou.lt B hB).1;omega)) ab
   .exact(((hB.setCell cH _).setCell cH _).setCell cH _).setCell cH _
end
