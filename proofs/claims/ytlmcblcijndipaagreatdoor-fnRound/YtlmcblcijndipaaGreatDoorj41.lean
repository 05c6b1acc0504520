import Derived.Test.YtlmcblcijndipaaGreatDoorj38
import Derived.Test.YtlmcblcijndipaaGreatDoorj28
set_option linter.unusedVariables false
set_option maxHeartbeats 8000000
set_option maxRecDepth 10000
namespace Go.Proofs.YtlmcblcijndipaaGreatDoor
section
open RowKit
variable {f:Nat->Mv}{w:World}{b:Nat}{m:Mv}
def fh (f:Nat->Mv)(n:Nat):List Value:=(List.range n).flatMap λj=>(f j).cells.toList
theorem jc (f:Nat->Mv):∀n,(fh f n).length=n*6
 |0=>rfl
 |n+1=>by
  have:=jc f n;unfold fh at this⊢;rw[List.range_succ,List.flatMap_append,List.length_append,this];simp[Nat.add_mul]
theorem pn (f:Nat->Mv)(n:Nat):fh f (n+1)=fh f n++(f n).cells.toList:=by
 unfold fh;rw[List.range_succ,List.flatMap_append];simp
theorem sG {g:Nat->Mv}:∀{n:Nat},(∀j,j<n->f j=g j)->fh f n=fh g n
 |0,_=>rfl
 |n+1,h=>by rw[pn,pn,sG (λj hj=>h j ab),h n ab]
theorem rh (f:Nat->Mv):∀n i k,i<n->k<6->(fh f n)[i*6+k]?=(f i).cells.toList[k]?
 |0,i,k,hi,_=>absurd hi (aco _)
 |n+1,i,k,hi,hk=>by
  rw[pn];by_cases e:i=n
  .subst e;rw[acy (by rw[jc];omega),jc];congr 1;omega
  .rw[acx (by rw[jc];omega)];exact rh f n i k ab hk
theorem Pi {base B n c:Nat}{T:TypeId}(h:w.ownsRow base T 6 (.slice B n c) n (fh f n)):aM w B 0 n f:=by
 intro i hi;have q:∀k,k<6->w.cell? ⟨B,0+i*6+k,none⟩=(f i).cells.toList[k]?:=λk hk=>by
  rw[Nat.zero_add,h.cellAt (i*6+k) ab];exact rh f n i k hi hk
 exact⟨q 0 ab,q 1 ab,q 2 ab,q 3 ab,q 4 ab,q 5 ab⟩
def cJ (w:World)(b:Nat)(m:Mv):Prop:=w.heap[b]?=some (.cells #[m.name,m.an,m.aD,m.ba,m.late,m.prom] 31 (0,0))
theorem cJ.at_ (h:cJ w b m):ti w b 0 m:=by
 constructor<;>(rw[cell_of_row _ _ _ _ _ _ h];rfl)
theorem cJ.frozen (h:cJ w b m)(j:Nat):w.frozen? ⟨b,j,none⟩=false:=frozen_of_row w _ j _ _ h
theorem Ay:(Tz.prog.info? 31).map (λi=>(i.zero,i.size,i.bytes))=some (some (.agg #[ByteArray.empty,false,.int .i64 0,.int .i64 0,.int .i64 0,.int .i64 0]),6,56):=bR
theorem TL {W:World}(h:cJ W b m):∀(j:Nat) (u:Value),m.cells.toList[j]?=some u->W.cell? ((b:Addr).add j)=some u:=λj u hu=>by
 have e:(b:Addr).add j=⟨b,j,none⟩:=by simp[Addr.add];omega
 rw[e,cell_of_row _ _ _ _ _ _ h];simpa using hu
theorem L3 (m:Mv):∀u∈m.cells.toList,u.oneCell'=true:=λu hu=>by
 simp at hu;rcases hu with rfl|rfl|rfl|rfl|rfl|rfl<;>rfl
def stay (now:Int)(t:Nat->Int):Nat->List Nat
 |0=>[]
 |k+1=>if t k=now then stay now t k else stay now t k++[k]
def gone (now:Int)(t:Nat->Int):Nat->List Nat
 |0=>[]
 |k+1=>if t k=now then gone now t k++[k]else gone now t k
theorem sW (now:Int)(t:Nat->Int):∀k,(stay now t k).length<=k
 |0=>ack _
 |k+1=>by have:=sW now t k;simp only[stay];split<;>simp<;>omega
theorem BV (now:Int)(t:Nat->Int):∀k,(gone now t k).length<=k
 |0=>ack _
 |k+1=>by have:=BV now t k;simp only[gone];split<;>simp<;>omega
def qy (f:Nat->Mv)(t:Nat->Int)(now:Int)(l:List Nat):List Value:=l.flatMap λi=>(aX (f i) (t i) (now+1)).cells.toList
def qz (t:Nat->Int)(l:List Nat):List Value:=l.map λi=>.int .i64 (t i)
def jM (f:Nat->Mv)(l:List Nat):List Value:=l.map λi=>.string (f i).name
theorem F0 (f:Nat->Mv)(t:Nat->Int)(now:Int)(l:List Nat)(k:Nat):qy f t now (l++[k])=qy f t now l++(aX (f k) (t k) (now+1)).cells.toList:=by simp[qy]
theorem F1 (t:Nat->Int)(l:List Nat)(k:Nat):qz t (l++[k])=qz t l++[.int .i64 (t k)]:=by simp[qz]
theorem EL (f:Nat->Mv)(l:List Nat)(k:Nat):jM f (l++[k])=jM f l++[.string (f k).name]:=by simp[jM]
def oe (l:List Nat)(j:Nat):Nat:=l.getD j 0
theorem zj (l:List Nat):(List.range l.length).map (oe l)=l:=by
 apply List.ext_getElem
 .simp
 .intro i h1 h2;simp[oe,List.getD_eq_getElem?_getD,List.getElem?_eq_getElem h2]
theorem Dw (f:Nat->Mv)(t:Nat->Int)(now:Int)(l:List Nat):qy f t now l=fh (λj=>aX (f (oe l j)) (t (oe l j)) (now+1)) l.length:=by
 unfold qy fh;conv=>lhs;rw[<-zj l]
 rw[List.flatMap_map]
theorem Jp (t:Nat->Int)(l:List Nat)(j:Nat)(h:j<l.length):(qz t l)[j]?=some (.int .i64 (t (oe l j))):=by
 simp[qz,oe,List.getD_eq_getElem?_getD,List.getElem?_eq_getElem h]
theorem Im (f:Nat->Mv)(l:List Nat)(j:Nat)(h:j<l.length):(jM f l)[j]?=some (.string (f (oe l j)).name):=by
 simp[jM,oe,List.getD_eq_getElem?_getD,List.getElem?_eq_getElem h]
end
section
open RowKit
variable {w w' W W':World}{base size n B cap m cap' BB RS NX:Nat}{e:TypeId}{v v' u:Value}{xs:List Value}{now shift:Int}{a a':Option Addr}{f:Nat->Mv}{t:Nat->Int}{l l2:List Nat}
theorem dT (h:w.ownsRow base e size v n xs)(hs:∀B,v.ownBlock=some B->w'.heap[B]?=w.heap[B]?):w'.ownsRow base e size v n xs:=by
 obtain⟨h1,h2|⟨g,c,cur,rfl,h3,h4,h5⟩⟩:=h
 .exact⟨h1,.inl h2⟩
 .exact⟨h1,.inr ⟨g,c,cur,rfl,h3,(hs g rfl).trans h4,h5⟩⟩
theorem G6 (h:w.ownsRow base e size v n xs)(B:Nat)(hB:v.ownBlock=some B):∃cs,w.heap[B]?=some (.cells cs e (0,0)):=by
 obtain⟨h1,h2|⟨g,c,cur,rfl,h3,h4,h5⟩⟩:=h
 .rw[h2.1]at hB;cases hB
 .simp[Value.ownBlock]at hB;subst hB;exact⟨cur,h4⟩
theorem zf {tX:Nat}{e':TypeId}{Mq:Nat}{n':Nat}{xs':List Value}(h:w.ownsRow base e size v n xs)(h':w.ownsRow tX e' Mq v' n' xs')(hne:e≠e')(B:Nat)(hB:v.ownBlock=some B):v'.ownBlock≠some B:=λSi=>by
 obtain⟨cs,h1⟩:=G6 h B hB;obtain⟨cs',h2⟩:=G6 h' B Si;rw[h1]at h2;simp at h2;exact hne h2.2
theorem qC.same (h:qC w B now shift a n cap a' m cap')(e:w'.heap[B]?=w.heap[B]?):qC w' B now shift a n cap a' m cap':=
 ⟨(ach (a:=B) e).trans h.c0,(ach (a:=⟨B,1,none⟩) e).trans h.c1,(ach (a:=⟨B,2,none⟩) e).trans h.c2,(ach (a:=⟨B,3,none⟩) e).trans h.c3⟩
structure Nx (w:World)(BB RS NX base:Nat)(now shift:Int)(a:Option Addr)(n cap:Nat)(a':Option Addr)(m cap':Nat)(v u:Value)(f:Nat->Mv)(t:Nat->Int)(l l2:List Nat)(W:World):Prop where
 bb:qC W BB now shift a n cap a' m cap'
 nx:W.heap[NX]?=some (.cells #[.int .i64 (now+1),shift,v,u] 29 (0,0))
 rs:W.heap[RS]?=some (.cells #[.int .i64 0,.int .i64 0,(),()] 29 (0,0))
 ov:W.ownsRow base 31 6 v l.length (qy f t now l)
 ou:W.ownsRow base 3 1 u l2.length (qz t l2)
 size:base<=W
 below:Below w w W
 ord:w.heap.size<=BB/\w.heap.size<=RS/\w.heap.size<=NX/\BB<base/\RS<base/\NX<base/\BB≠NX/\RS≠NX
theorem Nx.grow (h:Nx w BB RS NX base now shift a n cap a' m cap' v u f t l l2 W)(hb:Below W W W'):Nx w BB RS NX base now shift a n cap a' m cap' v u f t l l2 W':=by
 have hs:=h.size;obtain⟨o1,o2,o3,o4,o5,o6,o7,o8⟩:=h.ord;exact⟨h.bb.below hb ab,(hb.block NX ab).trans h.nx,(hb.block RS ab).trans h.rs,dT h.ov (λB hB=>hb.block B (h.ov.lt B hB).2),dT h.ou (λB hB=>hb.block B (h.ou.lt B hB).2),acn hs hb.size,h.below.trans (hb.mono h.below.size),h.ord⟩
theorem Nx.drew (h:Nx w BB RS NX base now shift a n cap a' m cap' v u f t l l2 W):Nx w BB RS NX base now shift a n cap a' m cap' v u f t l l2 W.drew:=h.grow (aca _ _).drew
theorem Nx.sI (h:Nx w BB RS NX base now shift a n cap a' m cap' v u f t l l2 W):(W.cell? NX=some (.int .i64 (now+1))/\W.cell? ⟨NX,2,none⟩=some v/\W.cell? ⟨NX,3,none⟩=some u)/\∀j,W.frozen? ⟨NX,j,none⟩=false:=
 ⟨⟨by rw[cell_of_row _ _ _ _ _ _ h.nx];rfl,by rw[cell_of_row _ _ _ _ _ _ h.nx];rfl,by rw[cell_of_row _ _ _ _ _ _ h.nx];rfl⟩,λj=>frozen_of_row W _ j _ _ h.nx⟩
theorem Nx.moves (h:Nx w BB RS NX base now shift a n cap a' m cap' v u f t l l2 W)(k:Nat)(ho:W'.ownsRow base 31 6 v' (l.length+1) (qy f t now l++(aX (f k) (t k) (now+1)).cells.toList))(hg:W.grownBy W' v.ownBlock):Nx w BB RS NX base now shift a n cap a' m cap' v' u f t (l++[k]) l2 (W'.setCell ⟨NX,2,none⟩ v'):=by
 have hs:=h.size;obtain⟨o1,o2,o3,o4,o5,o6,o7,o8⟩:=h.ord;have aq:∀B,v.ownBlock=some B->base<=B:=λB hB=>(h.ov.lt B hB).1
 have low:∀k,k<base->W'.heap[k]?=W.heap[k]?:=λk hk=>hg.block k ab (λe=>by have:=aq k e.symm;omega)
 have LN:∀k,k<base->k≠NX->(W'.setCell ⟨NX,2,none⟩ v').heap[k]?=W.heap[k]?:=λk hk hne=>(acd W' _ _ k (by simpa using hne)).trans (low k hk)
 have UI:=heap_setCell_same W' NX 2 _ _ v' ((low NX o6).trans h.nx);refine⟨h.bb.same (LN BB o4 o7),by simpa using UI,(LN RS o5 o8).trans h.rs,?_,?_,by have:=hg.size;simp;omega,?_,h.ord⟩
 .rw[List.length_append,F0];exact dT ho (λB hB=>acd W' _ _ B (by have:=(ho.lt B hB).1;simp;omega))
 .exact dT h.ou (λB hB=>(acd W' _ _ B (by have:=(h.ou.lt B hB).1;simp;omega)).trans (hg.block B (h.ou.lt B hB).2 (λe=>zf h.ou h.ov bK B hB e.symm)))
 .exact(h.below.grown hg h.below.size (λk hk=>by have:=aq k hk;omega)).setCell cC _
theorem Nx.MX {u':Value}(h:Nx w BB RS NX base now shift a n cap a' m cap' v u f t l l2 W)(k:Nat)(ho:W'.ownsRow base 3 1 u' (l2.length+1) (qz t l2++[.int .i64 (t k)]))(hg:W.grownBy W' u.ownBlock):Nx w BB RS NX base now shift a n cap a' m cap' v u' f t l (l2++[k]) (W'.setCell ⟨NX,3,none⟩ u'):=by
 have hs:=h.size;obtain⟨o1,o2,o3,o4,o5,o6,o7,o8⟩:=h.ord;have aq:∀B,u.ownBlock=some B->base<=B:=λB hB=>(h.ou.lt B hB).1
 have low:∀k,k<base->W'.heap[k]?=W.heap[k]?:=λk hk=>hg.block k ab (λe=>by have:=aq k e.symm;omega)
 have LN:∀k,k<base->k≠NX->(W'.setCell ⟨NX,3,none⟩ u').heap[k]?=W.heap[k]?:=λk hk hne=>(acd W' _ _ k (by simpa using hne)).trans (low k hk)
 have UI:=heap_setCell_same W' NX 3 _ _ u' ((low NX o6).trans h.nx);refine⟨h.bb.same (LN BB o4 o7),by simpa using UI,(LN RS o5 o8).trans h.rs,?_,?_,by have:=hg.size;simp;omega,?_,h.ord⟩
 .exact dT h.ov (λB hB=>(acd W' _ _ B (by have:=(h.ov.lt B hB).1;simp;omega)).trans (hg.block B (h.ov.lt B hB).2 (λe=>zf h.ov h.ou bK B hB e.symm)))
 .rw[List.length_append,F1];exact dT ho (λB hB=>acd W' _ _ B (by have:=(ho.lt B hB).1;simp;omega))
 .exact(h.below.grown hg h.below.size (λk hk=>by have:=aq k hk;omega)).setCell cC _
theorem je (h:w.ownsRow base e size v n xs):∃a c,v=.slice a n c:=by
 obtain⟨h1,⟨rfl,rfl⟩|⟨g,c,cur,rfl,_⟩⟩:=h
 .exact⟨_,_,rfl⟩
 .exact⟨_,_,rfl⟩
end
section
open RowKit
variable {w:World}{b off n base:Nat}{f:Nat->Mv}{v:Value}{xs:List Value}
theorem Fs (f:Nat->Mv)(n:Nat):∀u∈fh f n,u.oneCell'=true:=λu hu=>by
 unfold fh at hu;rw[List.mem_flatMap]at hu;obtain⟨j,_,hj⟩:=hu;exact L3 (f j) u hj
theorem Fh {T:Nat->Int}(h:aB w b off n T):∀(j:Nat) (u:Value),(eN T n)[j]?=some u->w.cell? ((⟨b,off,none⟩:Addr).add j)=some u:=λj u hu=>by
 have hj:j<n:=by rcases acu j n with h|h;exact h;rw[acw (by rw[jb];exact h)]at hu;cases hu
 rw[f8 hj]at hu;rw[oG,h j hj];exact hu
theorem Ft (h:aM w b off n f):∀(j:Nat) (u:Value),(fh f n)[j]?=some u->w.cell? ((⟨b,off,none⟩:Addr).add j)=some u:=λj u hu=>by
 have hj:j<n*6:=by rcases acu j (n*6)with h|h;exact h;rw[acw (by rw[jc];exact h)]at hu;cases hu
 have h1:j/6<n:=ab;have h2:j%6<6:=Nat.mod_lt _ ab;have h3:j=j/6*6+j%6:=ab;rw[h3,rh f n _ _ h1 h2]at hu;rw[oG];obtain⟨c0,c1,c2,c3,c4,c5⟩:=h (j/6) h1;have key:∀r,r=j%6->(f (j/6)).cells.toList[r]?=some u->w.cell? ⟨b,off+j/6*6+r,none⟩=some u:=λr hr UT=>by
  have Zm:r<6:=ab;match r,Zm with
  |0,_=>rw[Nat.add_zero,c0];exact UT
  |1,_=>rw[c1];exact UT
  |2,_=>rw[c2];exact UT
  |3,_=>rw[c3];exact UT
  |4,_=>rw[c4];exact UT
  |5,_=>rw[c5];exact UT
 have:=key (j%6) rfl hu;rw[show off+j=off+j/6*6+j%6 by omega];exact this
theorem LG:(Tz.prog.info? 9).map (λi=>(i.zero,i.size,i.bytes))=some (some (.string ByteArray.empty),1,16):=bR
theorem LF:(Tz.prog.info? 3).map (λi=>(i.zero,i.size,i.bytes))=some (some (.int .i64 0),1,8):=bR
theorem ED (now shift:Int)(b off n cap:Nat)(f:Nat->Mv)(b' aW m cap':Nat)(t:Nat->Int)(w:World)(hn:n<=1048576)(hm:m<=1048576)(bw:b<w)(aq:aM w b off n f)(bc:b'<w)(aK:aB w b' aW m t):
  Calls Tz.prog 69 #[N6 now shift (.slice (some ⟨b,off,none⟩) n cap) (.slice (some ⟨b',aW,none⟩) m cap')] w λe w'=>(∃v u,e=.returned (N6 now shift v u)/\w'.ownsRow w.heap.size 31 6 v n (fh f n)/\w'.ownsRow w.heap.size 3 1 u m (eN t m))/\Below w w w':=by
 obtain⟨iM,hI,gI,fq,iF⟩:=info_parts Ay;obtain⟨i0,GB,ID,D0,E9⟩:=info_parts LF;have qI:∀o1 o2,Below w w ((w.alloc o1).alloc o2):=λo1 o2=>((aca _ w).alloc (ack _) _).alloc aH _
 have hN1:∀c2 T2 o3,((w.alloc (.cells c2 T2)).alloc o3).heap[w.heap.size]?=some (.cells c2 T2 (0,0)):=λc2 T2 o3=>(acb _ _ _ aH).trans (heap_alloc_new w (.cells c2 T2))
 have K1:∀o1 c2 T2,((w.alloc o1).alloc (.cells c2 T2)).heap[w.heap.size+1]?=some (.cells c2 T2 (0,0)):=λo1 c2 T2=>by have:=heap_alloc_new (w.alloc o1) (.cells c2 T2);simpa using this
 go_enter Tz.func69,Tryz.ntmps69
 go_wp2_with(first
  |(at_builtin;refine wpList_append_own _ rfl (.const (.slice none 0 0)) (.tmp 4) 23 rfl (w.heap.size+1+1) 31 iM _ 6 56 (Tz.az Tryz.underlying23) hI gI fq iF rfl bK (.slice none 0 0) 0 [] bU ⟨rfl,.inl ⟨rfl,rfl⟩⟩ ⟨b,off,none⟩ n cap (fh f n) bU (by rw[jc]) (Ft (aq.below (qI _ _) bw)) (Fs f n) iI ab aH ?_;intro v1 w1 DV yR _;simp only[Nat.zero_add,List.nil_append]at DV;obtain⟨av,cv,rfl⟩:=je DV;have g0:=(yR.block w.heap.size cC Et).trans (hN1 _ _ _);have g1:=(yR.block (w.heap.size+1) aH Et).trans (K1 _ _ _);have B1:=(qI _ _).grown yR (qI _ _).size (λq hq=>by simp[Value.ownBlock]at hq);have s1:=yR.size;simp at s1;have k2:=cell_of_row w1 _ 2 _ _ _ g0;have k3:=cell_of_row w1 _ 3 _ _ _ g0;have kf:=λj=>frozen_of_row w1 _ j _ _ g0;simp at k2 k3;have g0':=heap_setCell_same w1 _ 2 _ _ (.slice av n cv) g0;simp at g0';have o1':=dT (w':=w1.setCell ⟨w.heap.size,2,none⟩ (.slice av n cv)) DV (λB hB=>acd w1 _ _ B (by have:=(DV.lt B hB).1;simp;omega));have Ov:=(acd w1 ⟨w.heap.size,2,none⟩ (.slice av n cv) (w.heap.size+1) aH).trans g1;have ZI:=B1.setCell (p:=⟨w.heap.size,2,none⟩) aH (.slice av n cv))
  |(at_builtin;refine wpList_append_own _ rfl (.const (.slice none 0 0)) (.tmp 8) 27 rfl (w.heap.size+1+1) 3 i0 _ 1 8 (Tz.az Tryz.underlying27) GB ID D0 E9 rfl bK (.slice none 0 0) 0 [] bU ⟨rfl,.inl ⟨rfl,rfl⟩⟩ ⟨b',aW,none⟩ m cap' (eN t m) bU BJ (Fh (aK.below ZI bc)) (j0 t m) iI ab cC ?_;intro u2 w2 uS oR _;simp only[Nat.zero_add,List.nil_append]at uS;obtain⟨au,cu,rfl⟩:=je uS;have h0:=(oR.block w.heap.size cC Et).trans g0';have h1:=(oR.block (w.heap.size+1) cC Et).trans Ov;have B2:=ZI.grown oR ZI.size (λq hq=>by simp[Value.ownBlock]at hq);have s2:=oR.size;simp at s2;have o2:=dT (w':=w2) o1' (λB hB=>oR.block B (o1'.lt B hB).2 Et);have p0:=cell_of_row w2 _ 0 _ _ _ h0;have p1:=cell_of_row w2 _ 1 _ _ _ h0;have p2:=cell_of_row w2 _ 2 _ _ _ h0;have p3:=cell_of_row w2 _ 3 _ _ _ h0;have pf:=λj=>frozen_of_row w2 _ j _ _ h0;have r0:=cell_of_row w2 _ 0 _ _ _ h1;have r1:=cell_of_row w2 _ 1 _ _ _ h1;have r2:=cell_of_row w2 _ 2 _ _ _ h1;have r3:=cell_of_row w2 _ 3 _ _ _ h1;have rf:=λj=>frozen_of_row w2 _ j _ _ h1;simp at p0 p1 p2 p3 r0 r1 r2 r3))
 have eW:∀q,q≠w.heap.size->q≠w.heap.size+1->(((((w2.setCell ⟨w.heap.size,3,none⟩ (.slice au m cu)).setCell ⟨w.heap.size+1,0,none⟩ now).setCell ⟨w.heap.size+1,1,none⟩ shift).setCell ⟨w.heap.size+1,2,none⟩ (.slice av n cv)).setCell ⟨w.heap.size+1,3,none⟩ (.slice au m cu)).heap[q]?=w2.heap[q]?:=λq h1 h2=>by
  rw[acd _ _ _ _ (by simpa using h2),acd _ _ _ _ (by simpa using h2),acd _ _ _ _ (by simpa using h2),acd _ _ _ _ (by simpa using h2),acd _ _ _ _ (by simpa using h1)]
 refine bodyPost_ret (v:=N6 now shift (.slice av n cv) (.slice au m cu)) (by simp[results,Tryz.results69,go_sem,r0,r1,r2,r3]) rfl ⟨⟨_,_,rfl,?_,?_⟩,?_⟩
 .exact kR (dT o2 (λB hB=>eW B (by have:=(o2.lt B hB).1;omega) (by have:=(o2.lt B hB).1;omega))) ab
 .exact kR (dT uS (λB hB=>eW B (by have:=(uS.lt B hB).1;omega) (by have:=(uS.lt B hB).1;omega))) ab
 .exact((((B2.setCell aH _).setCell aH _).setCell aH _).setCell aH _).setCell aH _
theorem CE (now shift tick:Int)(b off n cap:Nat)(f:Nat->Mv)(b' aW cap':Nat)(t:Nat->Int)(w:World)(hn:n<=6)(bw:b<w)(aq:aM w b off n f)(bc:b'<w)(aK:aB w b' aW n t):
  Calls Tz.prog 47 #[N6 now shift (.slice (some ⟨b,off,none⟩) n cap) (.slice (some ⟨b',aW,none⟩) n cap'),tick] w λe w'=>(∃s,e=.returned s/\w'.ownsRow w.heap.size 9 1 s (gone tick t n).length (jM f (gone tick t n)))/\Below w w w':=by
 obtain⟨iS,hI,gI,fq,iF⟩:=info_parts LG;have bA:=jt w now shift (some ⟨b,off,none⟩) n cap (some ⟨b',aW,none⟩) n cap';have hA:=oJ w now shift (some ⟨b,off,none⟩) n cap (some ⟨b',aW,none⟩) n cap';go_enter Tz.func47,Tryz.ntmps47
 go_wp2;go_loopw [5,11] (λs x W=>∃k:Nat,k<=n/\x=.int .i64 k/\qC W w.heap.size now shift (some ⟨b,off,none⟩) n cap (some ⟨b',aW,none⟩) n cap'/\W.ownsRow (w.heap.size+1) 9 1 s (gone tick t k).length (jM f (gone tick t k))/\w.heap.size+1<=W.heap.size/\Below w w W) (λ_ x _=>n-(intOf x).toNat)
 case atStart=>exact⟨0,acp _,rfl,hA,⟨rfl,.inl ⟨rfl,rfl⟩⟩,aH,bA⟩
 case round=>
  obtain⟨k,hk,rfl,hb,ho,hs,hB⟩:=hrel;by_cases aI:k<n
  .have dG:(k:Int)<n:=by omega
   obtain⟨c0,c1,c2,c3,c4,c5⟩:=aq.below hB bw k aI;have eM:=aK.below hB bc k aI;have JS:=BV tick t k;have bM:=fO wr (f k);obtain⟨m0,m1,m2,m3,m4,m5⟩:=kC wr (f k);simp only[Nat.zero_add]at m0 m1 m2 m3 m4 m5;have hbm:=hb.below bM ab;have hrm:(dj wr (f k)).cell? ⟨b',aW+k,none⟩=some (.int .i64 (t k)):=(bM.cell (p:=⟨b',aW+k,none⟩) (acl bc hB.size)).trans eM;have hom:=dT (w':=dj wr (f k)) ho (λB Si=>bM.block B (ho.lt B Si).2);obtain⟨g0,g1,g2,g3⟩:=hbm;by_cases pa:t k=tick
   .have D:(t k==tick)=true:=by simpa using pa
    have Rr:Hid (gone tick t (k+1)=gone tick t k++[k]):=by
     have h:gone tick t (k+1)=gone tick t k++[k]:=by simp only[gone];rw[if_pos pa]
     exact h
    have bO:Below (dj wr (f k)).heap.size (dj wr (f k)) ((dj wr (f k)).alloc (.cells #[.string (f k).name] 9)):=(aca _ _).alloc (ack _) _;have Lm:=dT (w':=(dj wr (f k)).alloc (.cells #[.string (f k).name] 9)) hom (λB Si=>bO.block B (hom.lt B Si).2);have hcl:((dj wr (f k)).alloc (.cells #[.string (f k).name] 9)).heap[wr.heap.size+1]?=some (.cells #[.string (f k).name] 9 (0,0)):=by have:=heap_alloc_new (dj wr (f k)) (.cells #[.string (f k).name] 9);simpa using this
    clear pa;go_wp2_with(at_builtin;refine wpList_append_own _ rfl (.tmp 23) (.tmp 26) 24 rfl (w.heap.size+1) 9 iS _ 1 16 (Tz.az Tryz.underlying24) hI gI fq iF rfl bK _ (gone tick t k).length (jM f (gone tick t k)) bU Lm _ 1 1 [.string (f k).name] bU rfl (gj hcl) vC iI ab cC ?_;intro s5 w5 DX GH _)
    have QL:∀B,Value.ownBlock _=some B->w.heap.size+1<=B:=λB Si=>(ho.lt B Si).1
    have BO:Below w w ((dj wr (f k)).alloc (.cells #[.string (f k).name] 9)):=(hB.trans (bM.mono hB.size)).trans (bO.mono (by have:=hB.size;simp;omega));have gi:=(((qC.mk g0 g1 g2 g3).below bO cC).same (w':=w5) (GH.block w.heap.size cC (λe=>by have:=QL w.heap.size e.symm;omega)));refine⟨⟨k+1,ab,aH,gi,by rw[Rr.out,List.length_append,EL];exact DX,by have:=GH.size;simp at this;omega,BO.grown GH BO.size (λq hq=>by have:=QL q hq;omega)⟩,cf⟩
   .have D:(t k==tick)=false:=by simpa using pa
    have Rr:Hid (gone tick t (k+1)=gone tick t k):=by
     have h:gone tick t (k+1)=gone tick t k:=by simp only[gone];rw[if_neg pa]
     exact h
    clear pa;go_wp2;refine⟨⟨k+1,ab,aH,⟨g0,g1,g2,g3⟩,by rw[Rr.out];exact hom,cC,hB.trans (bM.mono hB.size)⟩,cf⟩
  .have qo:k=n:=by omega
   subst qo;go_wp2;go_ret;exact⟨⟨_,rfl,kR ho ab⟩,hB⟩
end
section
open RowKit
variable {M BB b' o NX:Nat}{mm:Mv}{sl:Value}{tk nw:Int}{W W':World}
theorem qC.Ty {w:World}{B:Nat}{now shift:Int}{a:Option Addr}{n cap:Nat}{a':Option Addr}{m cap':Nat}{T:TypeId}(h:w.heap[B]?=some (.cells #[now,shift,.slice a n cap,.slice a' m cap'] T (0,0))):qC w B now shift a n cap a' m cap':=by
 constructor<;>(rw[cell_of_row _ _ _ _ _ _ h];rfl)
structure S8 (M:Nat)(mm:Mv)(BB:Nat)(sl:Value)(b' o:Nat)(tk:Int)(NX:Nat)(nw:Int)(W:World):Prop where
 c0:W.cell? M=some (.string mm.name)
 c1:W.cell? ⟨M,1,none⟩=some (.bool mm.an)
 c2:W.cell? ⟨M,2,none⟩=some (.int .i64 mm.aD)
 c3:W.cell? ⟨M,3,none⟩=some (.int .i64 mm.ba)
 c4:W.cell? ⟨M,4,none⟩=some (.int .i64 mm.late)
 c5:W.cell? ⟨M,5,none⟩=some (.int .i64 mm.prom)
 s3:W.cell? ⟨BB,3,none⟩=some sl
 tk:W.cell? ⟨b',o,none⟩=some (.int .i64 tk)
 nw:W.cell? NX=some (.int .i64 nw)
theorem S8.keep (h:S8 M mm BB sl b' o tk NX nw W)(e:∀B,B=M\/B=BB\/B=b'\/B=NX->W'.heap[B]?=W.heap[B]?):S8 M mm BB sl b' o tk NX nw W':=by
 have q:∀B j,B=M\/B=BB\/B=b'\/B=NX->W'.cell? ⟨B,j,none⟩=W.cell? ⟨B,j,none⟩:=λB j hB=>ach (a:=⟨B,j,none⟩) (e B hB)
 exact⟨(q _ _ (.inl rfl)).trans h.c0,(q _ _ (.inl rfl)).trans h.c1,(q _ _ (.inl rfl)).trans h.c2,(q _ _ (.inl rfl)).trans h.c3,(q _ _ (.inl rfl)).trans h.c4,(q _ _ (.inl rfl)).trans h.c5,(q _ _ (.inr (.inl rfl))).trans h.s3,(q _ _ (.inr (.inr (.inl rfl)))).trans h.tk,(q _ _ (.inr (.inr (.inr rfl)))).trans h.nw⟩
theorem S8.set (h:S8 M mm BB sl b' o tk NX nw W)(h1:M≠NX)(h2:BB≠NX)(h3:b'≠NX)(j:Nat)(hj:j≠0)(v:Value):S8 M mm BB sl b' o tk NX nw (W.setCell ⟨NX,j,none⟩ v):=by
 have q:∀B i,B≠NX->(W.setCell ⟨NX,j,none⟩ v).cell? ⟨B,i,none⟩=W.cell? ⟨B,i,none⟩:=λB i hB=>World.cell?_setCell_other _ _ _ _ (by intro e;cases e;exact hB rfl)
 exact⟨(q _ _ h1).trans h.c0,(q _ _ h1).trans h.c1,(q _ _ h1).trans h.c2,(q _ _ h1).trans h.c3,(q _ _ h1).trans h.c4,(q _ _ h1).trans h.c5,(q _ _ h2).trans h.s3,(q _ _ h3).trans h.tk,(World.cell?_setCell_other _ _ _ _ (by intro e;cases e;exact hj rfl)).trans h.nw⟩
theorem S8.below (h:S8 M mm BB sl b' o tk NX nw W)(hb:Below W W W'):S8 M mm BB sl b' o tk NX nw W':=by
 have l1:=block_lt_of_cell h.c0;have l2:=block_lt_of_cell h.s3;have l3:=block_lt_of_cell h.tk;have l4:=block_lt_of_cell h.nw;exact h.keep (λB hB=>hb.block B (by rcases hB with rfl|rfl|rfl|rfl<;>assumption))
theorem S8.grown {row:Option Nat}(h:S8 M mm BB sl b' o tk NX nw W)(hg:W.grownBy W' row)(hr:∀B,row=some B->B≠M/\B≠BB/\B≠b'/\B≠NX):S8 M mm BB sl b' o tk NX nw W':=by
 have l1:=block_lt_of_cell h.c0;have l2:=block_lt_of_cell h.s3;have l3:=block_lt_of_cell h.tk;have l4:=block_lt_of_cell h.nw;exact h.keep (λB hB=>hg.block B (by rcases hB with rfl|rfl|rfl|rfl<;>assumption) (λe=>by have:=hr B e.symm;rcases hB with rfl|rfl|rfl|rfl<;>simp_all))
theorem LO (now shift:Int)(b off n cap:Nat)(f:Nat->Mv)(b' aW cap':Nat)(t:Nat->Int)(w:World)(hn:n<=6)(h0:0<=now)(h1:now<10000)(bw:b<w)(aq:aM w b off n f)(bc:b'<w)(aK:aB w b' aW n t):
  Calls Tz.prog 291 #[.agg #[],.agg #[now,shift,.slice (some ⟨b,off,none⟩) n cap,.slice (some ⟨b',aW,none⟩) n cap']] w λe w'=>(∃v u,e=.returned (.tuple #[N6 (now+1) shift v u,.nilIface])/\w'.ownsRow w.heap.size 31 6 v (stay now t n).length (qy f t now (stay now t n))/\w'.ownsRow w.heap.size 3 1 u (stay now t n).length (qz t (stay now t n)))/\Below w w w':=by
 have aaq:¬now=10000:=ab;have Ao:IntKind.i64.wrap (now+1)=now+1:=gH;obtain⟨iM,hI,gI,fq,iF⟩:=info_parts Ay;obtain⟨i0,GB,ID,D0,E9⟩:∃i0,Tz.prog.info? 3=some i0/\i0.zero=some (.int .i64 0)/\i0.size=1/\i0.bytes=8:=by
  have h:=kN;cases hI:Tz.prog.info? 3 with
  |none=>rw[hI]at h;simp at h
  |some i0=>rw[hI]at h;simp only[Option.map_some,Option.some.injEq,Prod.mk.injEq]at h;exact⟨i0,rfl,h.2.2,h.1,h.2.1⟩
 have VI:∀o1 o2 o3 o4,Below w w ((((w.alloc o1).alloc o2).alloc o3).alloc o4):=λo1 o2 o3 o4=>((((aca _ w).alloc (ack _) _).alloc aH _).alloc cC _).alloc cC _
 go_enter Tz.func291,Tryz.ntmps291
 go_wp2;have bF:(now==10000)=false:=cC;simp only[bF];clear bF aaq;go_loopw [24] (λx W=>∃(k:Nat) (v u:Value),k<=n/\x=.int .i64 k/\Nx w (w.heap.size+1) (w.heap.size+1+1) (w.heap.size+1+1+1) (w.heap.size+1+1+1+1) now shift (some ⟨b,off,none⟩) n cap (some ⟨b',aW,none⟩) n cap' v u f t (stay now t k) (stay now t k) W) (λx _=>n-(intOf x).toNat)
 case atStart=>
  refine⟨0,(),(),acp _,rfl,?_,?_,?_,⟨rfl,.inl ⟨rfl,rfl⟩⟩,⟨rfl,.inl ⟨rfl,rfl⟩⟩,aH,VI _ _ _ _,ab⟩
  .refine qC.Ty (T:=29) ((acb _ _ _ aH).trans ((acb _ _ _ aH).trans ?_));have:=heap_alloc_new (w.alloc (.cells #[] 71)) (.cells #[now,shift,.slice (some ⟨b,off,none⟩) n cap,.slice (some ⟨b',aW,none⟩) n cap'] 29);simpa using this
  .have:=heap_alloc_new ((((w.alloc (.cells #[] 71)).alloc (.cells #[now,shift,.slice (some ⟨b,off,none⟩) n cap,.slice (some ⟨b',aW,none⟩) n cap'] 29)).alloc (.cells #[.int .i64 0,.int .i64 0,(),()] 29))) (.cells #[.int .i64 (now+1),shift,(),()] 29);simpa using this
  .refine(acb _ _ _ aH).trans ?_;have:=heap_alloc_new (((w.alloc (.cells #[] 71)).alloc (.cells #[now,shift,.slice (some ⟨b,off,none⟩) n cap,.slice (some ⟨b',aW,none⟩) n cap'] 29))) (.cells #[.int .i64 0,.int .i64 0,(),()] 29);simpa using this
 case round=>
  obtain⟨k,v,u,hk,rfl,JM⟩:=hrel;by_cases aI:k<n
  .have dG:(k:Int)<n:=by omega
   have fK:=JM.below;obtain⟨c0,c1,c2,c3,c4,c5⟩:=aq.below fK bw k aI;have eM:=aK.below fK bc k aI;have bM:=fO wr (f k);have hM:=kC wr (f k);have OD:=JM.grow bM;have JS:=sW now t k;have iZ:=JM.size;have lz:wr.heap.size<(dj wr (f k)).heap.size:=aH;have hrm:(dj wr (f k)).cell? ⟨b',aW+k,none⟩=some (.int .i64 (t k)):=(bM.cell (p:=⟨b',aW+k,none⟩) (acl bc fK.size)).trans eM;have hne:=aE (dj wr (f k));have x0:=λx:aj (dj wr (f k))=>x.cell OD.bb.c0
   have x3:=λx:aj (dj wr (f k))=>x.cell OD.bb.c3
   have y6:=λx:aj (dj wr (f k))=>x.cell hrm
   by_cases pa:t k=now
   .have D:Hid ((t k==now)=true):=by
     have h:(t k==now)=true:=by simpa using pa
     exact h
    have Rr:Hid (stay now t (k+1)=stay now t k):=by
     have h:stay now t (k+1)=stay now t k:=by simp only[stay];rw[if_pos pa]
     exact h
    clear pa;go_wp2;have d:=D.out;refine ah ?_;repeat(go_big_quiet_step (fail))
    refine wpQuiet_nil (ak ?_);intro w2 cH;have K1:=OD.grow cH;rw[<-Rr.out]at K1;go_wp2;exact⟨⟨k+1,v,u,ab,aH,K1⟩,cf⟩
   .have D:Hid ((t k==now)=false):=by
     have h:(t k==now)=false:=by simpa using pa
     exact h
    have Rr:Hid (stay now t (k+1)=stay now t k++[k]):=by
     have h:stay now t (k+1)=stay now t k++[k]:=by simp only[stay];rw[if_neg pa]
     exact h
    clear pa;go_wp2;have d:=D.out;refine ah ?_;repeat(go_big_quiet_step (fail))
    refine wpQuiet_nil (ak ?_);intro w2 cH;have K1:=OD.grow cH;have Sr:=hM.below cH lz;have UM:=(cH.cell (p:=⟨b',aW+k,none⟩) (acl (acl bc fK.size) bM.size)).trans hrm;clear x0 x3 y6 hne d OD bM;go_wp2;obtain⟨m',rX⟩:∃m',m'=aX (f k) (t k) (now+1):=⟨_,rfl⟩;have HMP:Hid (m'=aX (f k) (t k) (now+1)):=rX;have HP:∀W,Calls Tz.prog 79 #[.agg #[.string (f k).name,.bool (f k).an,.int .i64 (f k).aD,.int .i64 (f k).ba,.int .i64 (f k).late,.int .i64 (f k).prom],.int .i64 (t k),.int .i64 (now+1)] W λe w'=>e=.returned (.agg #[m'.name,m'.an,m'.aD,m'.ba,m'.late,m'.prom])/\Below W.heap.size W w':=λW=>by
     rw[rX];exact sL (f k) (t k) (now+1) W ab ab
    clear rX;obtain⟨q0,q1,q2,q3,q4,q5⟩:=Sr;simp only[Nat.zero_add]at q0 q1 q2 q3 q4 q5;obtain⟨⟨n0,n2,n3⟩,nf⟩:=K1.drew.sI;have mu:S8 wr.heap.size (f k) (w.heap.size+1) (.slice (some ⟨b',aW,none⟩) n cap') b' (aW+k) (t k) (w.heap.size+1+1+1) (now+1) w2.drew:=⟨q0,q1,q2,q3,q4,q5,K1.bb.c3,UM,n0⟩;clear q0 q1 q2 q3 q4 q5 UM cH;refine wp_region_held_drew (S:=S8 wr.heap.size (f k) (w.heap.size+1) (.slice (some ⟨b',aW,none⟩) n cap') b' (aW+k) (t k) (w.heap.size+1+1+1) (now+1)) bR mu (λhHeld=>?_);refine aS 0 (.pointer (some ⟨w.heap.size+1+1+1,2,none⟩)) 37 rfl F4 hHeld ?_;refine aS 2 (.agg #[.string (f k).name,.bool (f k).an,.int .i64 (f k).aD,.int .i64 (f k).ba,.int .i64 (f k).late,.int .i64 (f k).prom]) 39 rfl F4 hHeld ?_;refine aS 3 (.pointer (some ⟨w.heap.size+1,3,none⟩)) 40 rfl F4 hHeld ?_;refine aS 4 (.slice (some ⟨b',aW,none⟩) n cap') 41 rfl F4 hHeld ?_;refine aS 5 (.int .i64 (k:Int)) 42 rfl F4 hHeld ?_;refine aS 6 (.pointer (some ⟨b',aW+k,none⟩)) 43 rfl F4 hHeld ?_;refine aS 7 (.int .i64 (t k)) 44 rfl F4 hHeld ?_;refine aS 8 (.pointer (some ⟨w.heap.size+1+1+1,0,none⟩)) 45 rfl F4 hHeld ?_;refine aS 9 (.int .i64 (now+1)) 46 rfl F4 hHeld ?_;simp only[Act.put,List.setIfInBounds_toArray,List.set_cons_zero,List.set_cons_succ];refine Po 1 10 rfl rfl (λK hK=>?_) (λK hK=>?_);focus
     go_simp
     refine hK.out _ _ mu (λhHeld=>?_);clear hK K;refine jE 10 rfl (λK hK=>?_);go_simp
     go_at_call 79
     refine(HP _).mono ?_;rintro e w3 ⟨rfl,b3⟩;have Nm:=K1.drew.grow b3;have pO:=mu.below b3;obtain⟨⟨n0,n2,n3⟩,nf⟩:=Nm.sI;go_wp2_with fail
     refine hK.out _ _ pO (λhHeld=>?_);clear hK K;refine jE 11 rfl (λK hK=>?_);go_simp
     have bO:Below w3 w3 (w3.alloc (.cells #[m'.name,m'.an,m'.aD,m'.ba,m'.late,m'.prom] 31)):=(aca _ _).alloc (ack _) _;have Af:=Nm.grow bO;have BY:=pO.below bO;obtain⟨⟨g0,g2,g3⟩,gf⟩:=Af.sI;refine hK.out _ _ BY (λhHeld=>?_);clear hK K
    rotate_left;focus
     go_simp
     go_at_call 79
     refine(HP _).mono ?_;rintro e w3 ⟨rfl,b3⟩;have Nm:=K1.drew.grow b3;have pO:=mu.below b3;obtain⟨⟨n0,n2,n3⟩,nf⟩:=Nm.sI;go_wp2_with fail
     refine hK.out _ _ pO (λhHeld=>?_);clear hK K;refine Po 1 11 rfl rfl (λK hK=>?_) (λK hK=>?_);focus
      go_simp
      refine hK.out _ _ pO (λhHeld=>?_);clear hK K;refine jE 11 rfl (λK hK=>?_);go_simp
      have bO:Below w3 w3 (w3.alloc (.cells #[m'.name,m'.an,m'.aD,m'.ba,m'.late,m'.prom] 31)):=(aca _ _).alloc (ack _) _;have Af:=Nm.grow bO;have BY:=pO.below bO;obtain⟨⟨g0,g2,g3⟩,gf⟩:=Af.sI;refine hK.out _ _ BY (λhHeld=>?_);clear hK K
     rotate_left;focus
      go_simp
      have bO:Below w3 w3 (w3.alloc (.cells #[m'.name,m'.an,m'.aD,m'.ba,m'.late,m'.prom] 31)):=(aca _ _).alloc (ack _) _;have Af:=Nm.grow bO;have BY:=pO.below bO;obtain⟨⟨g0,g2,g3⟩,gf⟩:=Af.sI;refine hK.out _ _ BY (λhHeld=>?_);clear hK K;refine jE 1 rfl (λK hK=>?_);go_simp
      refine hK.out _ _ BY (λhHeld=>?_);clear hK K
    all_goals
     refine jE 12 rfl (λK hK=>?_);refine dy rfl (.tmp 38) (.tmp 48) 23 rfl 31 iM _ 6 56 (Tz.az Tryz.underlying23) hI gI fq iF rfl bK (w.heap.size+1+1+1+1) v (stay now t k).length (qy f t now (stay now t k)) bU Af.ov _ 1 1 (Mv.cells m').toList bU rfl (TL (heap_alloc_new _ _)) (L3 _) iI ab Af.size ?_;intro v4 w4 DW GG;obtain⟨B4,c4,rfl⟩:=kS DW;have eu:=BY.grown GG (λB hB=>by have h1:=(Nm.ov.lt B hB).1;have h2:=K1.ov.lt B hB;have h3:=JM.ov.lt B hB;omega);have p2:w4.cell? ⟨w.heap.size+1+1+1,2,none⟩=some v:=(ach (a:=⟨w.heap.size+1+1+1,2,none⟩) (GG.block _ (block_lt_of_cell g2) (λe=>by have:=(Nm.ov.lt (w.heap.size+1+1+1) e.symm).1;omega))).trans g2;have pf:w4.frozen? ⟨w.heap.size+1+1+1,2,none⟩=false:=(World.frozen?_of_block (a:=⟨w.heap.size+1+1+1,2,none⟩) (GG.block _ (block_lt_of_cell g2) (λe=>by have:=(Nm.ov.lt (w.heap.size+1+1+1) e.symm).1;omega))).trans (gf 2);refine hK.out _ _ eu (λhHeld=>?_);clear hK K;refine jE 13 rfl (λK hK=>?_);go_simp
     refine hK.out _ _ eu (λhHeld=>?_);clear hK K;refine jE 14 rfl (λK hK=>?_);go_simp
     rw[HMP.out]at DW;have Uw:=Af.moves k DW GG;have fM:=eu.set ab ab ab 2 ab (.slice B4 ((stay now t k).length+1) c4);refine hK.out _ _ fM (λhHeld=>?_);clear hK K;refine wpAnyH_done bR ?_ _;revert Uw fM;generalize w4.setCell ⟨w.heap.size+1+1+1,2,none⟩ (.slice (some ⟨B4,0,none⟩) ((stay now t k).length+1) c4)=W5;intro Uw fM;clear hHeld eu p2 pf DW GG Nm pO n0 n2 n3 nf Af BY g0 g2 g3 gf bO b3;clear HP K1 mu;go_wp2;obtain⟨⟨n0,n2,n3⟩,nf⟩:=Uw.drew.sI;have mT:S8 wr.heap.size (f k) (w.heap.size+1) (.slice (some ⟨b',aW,none⟩) n cap') b' (aW+k) (t k) (w.heap.size+1+1+1) (now+1) W5.drew:=fM.keep (λ_ _=>rfl);refine wp_region_held_drew (S:=S8 wr.heap.size (f k) (w.heap.size+1) (.slice (some ⟨b',aW,none⟩) n cap') b' (aW+k) (t k) (w.heap.size+1+1+1) (now+1)) bR mT (λhHeld=>?_);refine aS 0 (.pointer (some ⟨w.heap.size+1+1+1,3,none⟩)) 51 rfl F4 hHeld ?_;refine aS 2 (.pointer (some ⟨w.heap.size+1,3,none⟩)) 53 rfl F4 hHeld ?_;refine aS 3 (.slice (some ⟨b',aW,none⟩) n cap') 54 rfl F4 hHeld ?_;refine aS 4 (.int .i64 (k:Int)) 55 rfl F4 hHeld ?_;refine aS 5 (.pointer (some ⟨b',aW+k,none⟩)) 56 rfl F4 hHeld ?_;refine aS 6 (.int .i64 (t k)) 57 rfl F4 hHeld ?_;simp only[Act.put,List.setIfInBounds_toArray,List.set_cons_zero,List.set_cons_succ];refine Po 1 7 rfl rfl (λK hK=>?_) (λK hK=>?_);focus
      go_simp
      refine hK.out _ _ mT (λhHeld=>?_);clear hK K;refine jE 7 rfl (λK hK=>?_);go_simp
      have bO:Below W5 W5 (W5.alloc (.cells #[.int .i64 (t k)] 3)).drew:=((aca _ W5).alloc (ack _) _).drew;have Nn:=Uw.grow bO;have vW:=fM.below bO;obtain⟨⟨g0,g2,g3⟩,gf⟩:=Nn.sI;refine hK.out _ _ vW (λhHeld=>?_);clear hK K
     rotate_left;focus
      go_simp
      have bO:Below W5 W5 (W5.alloc (.cells #[.int .i64 (t k)] 3)).drew:=((aca _ W5).alloc (ack _) _).drew;have Nn:=Uw.grow bO;have vW:=fM.below bO;obtain⟨⟨g0,g2,g3⟩,gf⟩:=Nn.sI;refine hK.out _ _ vW (λhHeld=>?_);clear hK K;refine jE 1 rfl (λK hK=>?_);go_simp
      refine hK.out _ _ vW (λhHeld=>?_);clear hK K
     all_goals
      refine jE 8 rfl (λK hK=>?_);refine dy rfl (.tmp 52) (.tmp 58) 27 rfl 3 i0 (.int .i64 0) 1 8 (Tz.az Tryz.underlying27) GB ID D0 E9 rfl bK (w.heap.size+1+1+1+1) u (stay now t k).length (qz t (stay now t k)) bU Nn.ou _ 1 1 [.int .i64 (t k)] bU rfl (gj (heap_alloc_new W5 _)) vC iI ab Nn.size ?_;intro u7 w7 ho7 Wx;obtain⟨B7,c7,rfl⟩:=kS ho7;have yO:=vW.grown Wx (λB hB=>by have h1:=(Nn.ou.lt B hB).1;have h3:=JM.ou.lt B hB;omega);have p2:w7.cell? ⟨w.heap.size+1+1+1,3,none⟩=some u:=(ach (a:=⟨w.heap.size+1+1+1,3,none⟩) (Wx.block _ (block_lt_of_cell g3) (λe=>by have:=(Nn.ou.lt (w.heap.size+1+1+1) e.symm).1;omega))).trans g3;have pf:w7.frozen? ⟨w.heap.size+1+1+1,3,none⟩=false:=(World.frozen?_of_block (a:=⟨w.heap.size+1+1+1,3,none⟩) (Wx.block _ (block_lt_of_cell g3) (λe=>by have:=(Nn.ou.lt (w.heap.size+1+1+1) e.symm).1;omega))).trans (gf 3);refine hK.out _ _ yO (λhHeld=>?_);clear hK K;refine jE 9 rfl (λK hK=>?_);go_simp
      refine hK.out _ _ yO (λhHeld=>?_);clear hK K;refine jE 10 rfl (λK hK=>?_);go_simp
      have YZ:=Nn.MX k ho7 Wx;have Qk:=yO.set ab ab ab 3 ab (.slice B7 ((stay now t k).length+1) c7);refine hK.out _ _ Qk (λhHeld=>?_);clear hK K;refine wpAnyH_done bR ?_ _;revert YZ;generalize w7.setCell ⟨w.heap.size+1+1+1,3,none⟩ (.slice (some ⟨B7,0,none⟩) ((stay now t k).length+1) c7)=W9;intro YZ;clear hHeld Qk yO p2 pf ho7 Wx Nn vW mT Uw fM n0 n2 n3 nf g0 g2 g3 gf bO;rw[<-Rr.out]at YZ;go_wp2;exact⟨⟨k+1,_,_,ab,aH,YZ⟩,cf⟩
  .have qo:k=n:=by omega
   subst qo;have hx:=JM.nx;have c0:=cell_of_row wr _ 0 _ _ _ hx;have c1:=cell_of_row wr _ 1 _ _ _ hx;have c2:=cell_of_row wr _ 2 _ _ _ hx;have c3:=cell_of_row wr _ 3 _ _ _ hx;have hy:=JM.rs;have d0:=cell_of_row wr _ 0 _ _ _ hy;have d1:=cell_of_row wr _ 1 _ _ _ hy;have d2:=cell_of_row wr _ 2 _ _ _ hy;have d3:=cell_of_row wr _ 3 _ _ _ hy;have df:=λj=>frozen_of_row wr _ j _ _ hy
   simp at c0 c1 c2 c3 d0 d1 d2 d3;have UK:=JM.ov;have hou:=JM.ou;have hB:=JM.below;have iZ:=JM.size;clear JM hx hy;obtain⟨av,cv,rfl⟩:=je UK;obtain⟨au,cu,rfl⟩:=je hou;go_wp2;have eW:∀q,q≠w.heap.size+1+1->((((wr.setCell ⟨w.heap.size+1+1,0,none⟩ (.int .i64 (now+1))).setCell ⟨w.heap.size+1+1,1,none⟩ shift).setCell ⟨w.heap.size+1+1,2,none⟩ (.slice av (stay now t k).length cv)).setCell ⟨w.heap.size+1+1,3,none⟩ (.slice au (stay now t k).length cu)).heap[q]?=wr.heap[q]?:=λq hq=>by
    rw[acd _ _ _ _ N9,acd _ _ _ _ N9,acd _ _ _ _ N9,acd _ _ _ _ N9]
   refine bodyPost_ret (v:=.tuple #[N6 (now+1) shift (.slice av (stay now t k).length cv) (.slice au (stay now t k).length cu),.nilIface]) (by simp[results,Tryz.results291,go_sem,d0,d1,d2,d3]) rfl ⟨⟨_,_,rfl,?_,?_⟩,?_⟩
   .exact kR (dT UK (λB hB=>eW B (by have:=(UK.lt B hB).1;omega))) ab
   .exact kR (dT hou (λB hB=>eW B (by have:=(hou.lt B hB).1;omega))) ab
   .exact(((hB.setCell cC _).setCell cC _).setCell cC _).setCell cC _
end
