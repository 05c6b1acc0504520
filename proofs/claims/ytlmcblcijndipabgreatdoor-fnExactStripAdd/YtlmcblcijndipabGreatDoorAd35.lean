import Derived.Test.YtlmcblcijndipabGreatDoorAd29
import Derived.Test.YtlmcblcijndipabGreatDoorAd26
import Derived.Test.YtlmcblcijndipabGreatDoorAd31
set_option linter.unusedVariables false
set_option maxHeartbeats 1000000
set_option maxRecDepth 10000
namespace Go.Proofs.YtlmcblcijndipabGreatDoor
open Go.RowKit
def eC (f:Nat->Mv)(n:Nat):List Value:=(List.range n).flatMap λj=>(f j).cells.toList
theorem eU (f:Nat->Mv):∀n,(eC f n).length=n*6
 |0=>rfl
 |n+1=>by
  have:=eU f n;unfold eC at this⊢;rw[List.range_succ,List.flatMap_append,List.length_append,this];simp[Nat.add_mul]
theorem ui (f:Nat->Mv)(n:Nat):eC f (n+1)=eC f n++(f n).cells.toList:=by
 unfold eC;rw[List.range_succ,List.flatMap_append];simp
theorem kL (f:Nat->Mv):∀n i k,i<n->k<6->(eC f n)[i*6+k]?=(f i).cells.toList[k]?
 |0,i,k,hi,_=>absurd hi (Gr _)
 |n+1,i,k,hi,hk=>by
  rw[ui];by_cases e:i=n
  .subst e;rw[Gz (by rw[eU];omega),eU];congr 1;omega
  .rw[Gy (by rw[eU];omega)];exact kL f n i k (by omega) hk
theorem Ch {w:World}{base B n c:Nat}{T:TypeId}{f:Nat->Mv}(h:w.ownsRow base T 6 (.slice (some ⟨B,0,none⟩) n c) n (eC f n)):ak w B 0 n f:=by
 intro i hi;have q:∀k,k<6->w.cell? ⟨B,0+i*6+k,none⟩=(f i).cells.toList[k]?:=λk hk=>by
  rw[Nat.zero_add,h.cellAt (i*6+k) (by omega)];exact kL f n i k hi hk
 exact⟨q 0 (by omega),q 1 (by omega),q 2 (by omega),q 3 (by omega),q 4 (by omega),q 5 (by omega)⟩
def dL (w:World)(b:Nat)(m:Mv):Prop:=w.heap[b]?=some (.cells #[.string m.name,.bool m.lands,.int .i64 m.wake,.int .i64 m.est,.int .i64 m.late,.int .i64 m.prom] 36 (0,0))
theorem dL.at_ {w:World}{b:Nat}{m:Mv}(h:dL w b m):lF w b 0 m:=by
 constructor<;>(rw[cell_of_row _ _ _ _ _ _ h];rfl)
theorem Ci:(Tz.prog.info? 36).map (λi=>(i.zero,i.size,i.bytes))=some (some (.agg #[.string ByteArray.empty,.bool false,.int .i64 0,.int .i64 0,.int .i64 0,.int .i64 0]),6,56):=by kernel_rfl
theorem DC (m:Mv):∀u∈m.cells.toList,u.oneCell'=true:=λu hu=>by
 simp at hu;rcases hu with rfl|rfl|rfl|rfl|rfl|rfl<;>rfl
def stay (now:Int)(t:Nat->Int):Nat->List Nat
 |0=>[]
 |k+1=>if t k=now then stay now t k else stay now t k++[k]
def Ea (now:Int)(t:Nat->Int):Nat->List Nat
 |0=>[]
 |k+1=>if t k=now then Ea now t k++[k]else Ea now t k
def Eb (f:Nat->Mv)(t:Nat->Int)(now:Int)(l:List Nat):List Value:=l.flatMap λi=>(bV (f i) (t i) (now+1)).cells.toList
def Ec (t:Nat->Int)(l:List Nat):List Value:=l.map λi=>.int .i64 (t i)
def EJ (f:Nat->Mv)(l:List Nat):List Value:=l.map λi=>.string (f i).name
def E0 (l:List Nat)(j:Nat):Nat:=l.getD j 0
theorem dM {w w':World}{base:Nat}{e:TypeId}{size:Nat}{v:Value}{n:Nat}{xs:List Value}(h:w.ownsRow base e size v n xs)(hs:∀B,v.ownBlock=some B->w'.heap[B]?=w.heap[B]?):w'.ownsRow base e size v n xs:=by
 obtain⟨h1,h2|⟨g,c,cur,rfl,h3,h4,h5⟩⟩:=h
 .exact⟨h1,.inl h2⟩
 .exact⟨h1,.inr ⟨g,c,cur,rfl,h3,(hs g rfl).trans h4,h5⟩⟩
structure Nx (w:World)(BB RS NX base:Nat)(now shift:Int)(a:Option Addr)(n cap:Nat)(a':Option Addr)(m cap':Nat)(v u:Value)(f:Nat->Mv)(t:Nat->Int)(l l2:List Nat)(W:World):Prop where
 bb:vB W BB now shift a n cap a' m cap'
 nx:W.heap[NX]?=some (.cells #[.int .i64 (now+1),.int .i64 shift,v,u] 32 (0,0))
 rs:W.heap[RS]?=some (.cells #[.int .i64 0,.int .i64 0,.slice none 0 0,.slice none 0 0] 32 (0,0))
 ov:W.ownsRow base 36 6 v l.length (Eb f t now l)
 ou:W.ownsRow base 3 1 u l2.length (Ec t l2)
 size:base<=W.heap.size
 below:Below w.heap.size w W
 ord:w.heap.size<=BB/\w.heap.size<=RS/\w.heap.size<=NX/\BB<base/\RS<base/\NX<base/\BB≠NX/\RS≠NX
theorem mu {w:World}{base:Nat}{e:TypeId}{size:Nat}{v:Value}{n:Nat}{xs:List Value}(h:w.ownsRow base e size v n xs):∃a c,v=.slice a n c:=by
 obtain⟨h1,⟨rfl,rfl⟩|⟨g,c,cur,rfl,_⟩⟩:=h
 .exact⟨_,_,rfl⟩
 .exact⟨_,_,rfl⟩
theorem vQ (f:Nat->Mv)(n:Nat):∀u∈eC f n,u.oneCell'=true:=λu hu=>by
 unfold eC at hu;rw[List.mem_flatMap]at hu;obtain⟨j,_,hj⟩:=hu;exact DC (f j) u hj
theorem vR {w:World}{b off n:Nat}{T:Nat->Int}(h:al w b off n T):∀(j:Nat) (u:Value),(dR T n)[j]?=some u->w.cell? ((⟨b,off,none⟩:Addr).add j)=some u:=λj u hu=>by
 have hj:j<n:=by rcases Gv j n with h|h;exact h;rw[Gx (by rw[fE];exact h)]at hu;cases hu
 rw[gG hj]at hu;rw[js,h j hj];exact hu
theorem vS {w:World}{b off n:Nat}{f:Nat->Mv}(h:ak w b off n f):∀(j:Nat) (u:Value),(eC f n)[j]?=some u->w.cell? ((⟨b,off,none⟩:Addr).add j)=some u:=λj u hu=>by
 have hj:j<n*6:=by rcases Gv j (n*6)with h|h;exact h;rw[Gx (by rw[eU];exact h)]at hu;cases hu
 have h1:j/6<n:=by omega
 have h2:j%6<6:=Nat.mod_lt _ (by omega);have h3:j=j/6*6+j%6:=by omega
 rw[h3,kL f n _ _ h1 h2]at hu;rw[js];obtain⟨c0,c1,c2,c3,c4,c5⟩:=h (j/6) h1;have key:∀r,r=j%6->(f (j/6)).cells.toList[r]?=some u->w.cell? ⟨b,off+j/6*6+r,none⟩=some u:=λr hr hu'=>by
  have hr6:r<6:=by omega
  match r,hr6 with
  |0,_=>rw[Nat.add_zero,c0];exact hu'
  |1,_=>rw[c1];exact hu'
  |2,_=>rw[c2];exact hu'
  |3,_=>rw[c3];exact hu'
  |4,_=>rw[c4];exact hu'
  |5,_=>rw[c5];exact hu'
 have:=key (j%6) rfl hu;rw[show off+j=off+j/6*6+j%6 by omega];exact this
theorem CP {w:World}{base:Nat}{v:Value}{n:Nat}{f:Nat->Mv}(h:w.ownsRow base 36 6 v n (eC f n)):cP w base w.heap.size v n f:=by
 obtain⟨h1,⟨rfl,rfl⟩|⟨g,c,cur,rfl,h3,h4,h5,h6,h7,h8⟩⟩:=h
 .exact .inl ⟨rfl,_,_,rfl⟩
 .exact .inr ⟨g,c,cur,rfl,h3,(Gp.1 h4).1,Gm _,h4,by rw[h7];exact Nat.mul_le_mul_right _ h5,Ch ⟨h1,.inr ⟨g,c,cur,rfl,h3,h4,h5,h6,h7,h8⟩⟩⟩
theorem CQ {w:World}{base:Nat}{v:Value}{n:Nat}{t:Nat->Int}{xs:List Value}(h:w.ownsRow base 3 1 v n xs)(hx:∀j,j<n->xs[j]?=some (.int .i64 (t j))):cO w base w.heap.size v n t:=by
 have hh:=h;obtain⟨h1,⟨rfl,rfl⟩|⟨g,c,cur,rfl,h3,h4,h5,h6,h7,h8⟩⟩:=h
 .exact .inl ⟨rfl,_,_,rfl⟩
 .exact .inr ⟨g,c,cur,rfl,h3,(Gp.1 h4).1,Gm _,h4,by omega,λj hj=>by rw[Nat.zero_add,hh.cellAt j (by omega)];exact hx j hj⟩
theorem DE:(Tz.prog.info? 3).map (λi=>(i.zero,i.size,i.bytes))=some (some (.int .i64 0),1,8):=by kernel_rfl
theorem vT (now shift:Int)(b off n cap:Nat)(f:Nat->Mv)(b' off' m cap':Nat)(t:Nat->Int)(w:World)(hn:n<=1048576)(hm:m<=1048576)(hbs:b<w.heap.size)(hrow:ak w b off n f)(hbs':b'<w.heap.size)(hrow':al w b' off' m t):
  Calls Tz.prog 66 #[yD now shift (.slice (some ⟨b,off,none⟩) n cap) (.slice (some ⟨b',off',none⟩) m cap')] w λe w'=>(∃v u,e=.returned (yD now shift v u)/\w'.ownsRow w.heap.size 36 6 v n (eC f n)/\w'.ownsRow w.heap.size 3 1 u m (dR t m))/\Below w.heap.size w w':=by
 obtain⟨iM,hI,hz0,hz1,hz2⟩:=info_parts Ci;obtain⟨i0,hI',hy0,hy1,hy2⟩:=info_parts DE;have hB2:∀o1 o2,Below w.heap.size w ((w.alloc o1).alloc o2):=λo1 o2=>((Gb _ w).alloc (Gm _) _).alloc (by simp) _
 have hN1:∀c2 T2 o3,((w.alloc (.cells c2 T2)).alloc o3).heap[w.heap.size]?=some (.cells c2 T2 (0,0)):=λc2 T2 o3=>(Gc _ _ _ (by simp)).trans (heap_alloc_new w (.cells c2 T2))
 have hN2:∀o1 c2 T2,((w.alloc o1).alloc (.cells c2 T2)).heap[w.heap.size+1]?=some (.cells c2 T2 (0,0)):=λo1 c2 T2=>by have:=heap_alloc_new (w.alloc o1) (.cells c2 T2);simpa using this
 go_enter Tz.func66,Tryz.ntmps66
 go_wp2_with(first
  |(at_builtin;refine wpList_append_own _ rfl (.const (.slice none 0 0)) (.tmp 4) 30 rfl (w.heap.size+1+1) 36 iM _ 6 56 (Tz.tr_underlying Tryz.underlying30) hI hz0 hz1 hz2 rfl (by decide) (.slice none 0 0) 0 [] (by rfl) ⟨rfl,.inl ⟨rfl,rfl⟩⟩ ⟨b,off,none⟩ n cap (eC f n) (by rfl) (by rw[eU]) (vS (hrow.below (hB2 _ _) hbs)) (vQ f n) (by unfold maxLen;omega) (by omega) (by simp) ?_;intro v1 w1 ho1 hg1 _;simp only[Nat.zero_add,List.nil_append]at ho1;obtain⟨av,cv,rfl⟩:=mu ho1;have g0:=(hg1.block w.heap.size (by simp;omega) (by simp[Value.ownBlock])).trans (hN1 _ _ _);have g1:=(hg1.block (w.heap.size+1) (by simp) (by simp[Value.ownBlock])).trans (hN2 _ _ _);have B1:=(hB2 _ _).grown hg1 (hB2 _ _).size (λq hq=>by simp[Value.ownBlock]at hq);have s1:=hg1.size;simp at s1;have k2:=cell_of_row w1 _ 2 _ _ _ g0;have k3:=cell_of_row w1 _ 3 _ _ _ g0;have kf:=λj=>frozen_of_row w1 _ j _ _ g0;simp at k2 k3;have g0':=heap_setCell_same w1 _ 2 _ _ (.slice av n cv) g0;simp at g0';have o1':=dM (w':=w1.setCell ⟨w.heap.size,2,none⟩ (.slice av n cv)) ho1 (λB hB=>Gd w1 _ _ B (by have:=(ho1.lt B hB).1;simp;omega));have g1':=(Gd w1 ⟨w.heap.size,2,none⟩ (.slice av n cv) (w.heap.size+1) (by simp)).trans g1;have B1':=B1.setCell (p:=⟨w.heap.size,2,none⟩) (by simp) (.slice av n cv))
  |(at_builtin;refine wpList_append_own _ rfl (.const (.slice none 0 0)) (.tmp 8) 23 rfl (w.heap.size+1+1) 3 i0 _ 1 8 (Tz.tr_underlying Tryz.underlying23) hI' hy0 hy1 hy2 rfl (by decide) (.slice none 0 0) 0 [] (by rfl) ⟨rfl,.inl ⟨rfl,rfl⟩⟩ ⟨b',off',none⟩ m cap' (dR t m) (by rfl) (by rw[fE];omega) (vR (hrow'.below B1' hbs')) (jC t m) (by unfold maxLen;omega) (by omega) (by simp;omega) ?_;intro u2 w2 ho2 hg2 _;simp only[Nat.zero_add,List.nil_append]at ho2;obtain⟨au,cu,rfl⟩:=mu ho2;have h0:=(hg2.block w.heap.size (by simp;omega) (by simp[Value.ownBlock])).trans g0';have h1:=(hg2.block (w.heap.size+1) (by simp;omega) (by simp[Value.ownBlock])).trans g1';have B2:=B1'.grown hg2 B1'.size (λq hq=>by simp[Value.ownBlock]at hq);have s2:=hg2.size;simp at s2;have o2:=dM (w':=w2) o1' (λB hB=>hg2.block B (o1'.lt B hB).2 (by simp[Value.ownBlock]));have p0:=cell_of_row w2 _ 0 _ _ _ h0;have p1:=cell_of_row w2 _ 1 _ _ _ h0;have p2:=cell_of_row w2 _ 2 _ _ _ h0;have p3:=cell_of_row w2 _ 3 _ _ _ h0;have pf:=λj=>frozen_of_row w2 _ j _ _ h0;have r0:=cell_of_row w2 _ 0 _ _ _ h1;have r1:=cell_of_row w2 _ 1 _ _ _ h1;have r2:=cell_of_row w2 _ 2 _ _ _ h1;have r3:=cell_of_row w2 _ 3 _ _ _ h1;have rf:=λj=>frozen_of_row w2 _ j _ _ h1;simp at p0 p1 p2 p3 r0 r1 r2 r3))
 have eW:∀q,q≠w.heap.size->q≠w.heap.size+1->(((((w2.setCell ⟨w.heap.size,3,none⟩ (.slice au m cu)).setCell ⟨w.heap.size+1,0,none⟩ (.int .i64 now)).setCell ⟨w.heap.size+1,1,none⟩ (.int .i64 shift)).setCell ⟨w.heap.size+1,2,none⟩ (.slice av n cv)).setCell ⟨w.heap.size+1,3,none⟩ (.slice au m cu)).heap[q]?=w2.heap[q]?:=λq h1 h2=>by
  rw[Gd _ _ _ _ (by simpa using h2),Gd _ _ _ _ (by simpa using h2),Gd _ _ _ _ (by simpa using h2),Gd _ _ _ _ (by simpa using h2),Gd _ _ _ _ (by simpa using h1)]
 refine bodyPost_ret (v:=yD now shift (.slice av n cv) (.slice au m cu)) (by simp[results,Tryz.results66,go_sem,r0,r1,r2,r3]) rfl ⟨⟨_,_,rfl,?_,?_⟩,?_⟩
 .exact fj (dM o2 (λB hB=>eW B (by have:=(o2.lt B hB).1;omega) (by have:=(o2.lt B hB).1;omega))) (by omega)
 .exact fj (dM ho2 (λB hB=>eW B (by have:=(ho2.lt B hB).1;omega) (by have:=(ho2.lt B hB).1;omega))) (by omega)
 .exact((((B2.setCell (by simp) _).setCell (by simp) _).setCell (by simp) _).setCell (by simp) _).setCell (by simp) _
