import Derived.Test.YtlmcblcijndipabGreatDoorM26
import Derived.Test.YtlmcblcijndipabGreatDoorM18
import Derived.Test.YtlmcblcijndipabGreatDoorM17
set_option linter.unusedVariables false
set_option maxHeartbeats 2000000
set_option maxRecDepth 100000
namespace Go.Proofs.YtlmcblcijndipabGreatDoor
open Go.RowKit
theorem an.same {w w':World}{b off n:Nat}{f:Nat->Mv}(h:an w b off n f)(e:w'.heap[b]?=w.heap[b]?):an w' b off n f:=λi hi=>by
 obtain⟨c0,c1,c2,c3,c4,c5⟩:=h i hi;have o:∀j,w'.cell? ⟨b,j,none⟩=w.cell? ⟨b,j,none⟩:=λj=>World.cell?_of_block (a:=⟨b,j,none⟩) e
 exact⟨(o _).trans c0,(o _).trans c1,(o _).trans c2,(o _).trans c3,(o _).trans c4,(o _).trans c5⟩
theorem eD.same {w w':World}{b n:Nat}(h:eD w b n)(e:w'.heap[b]?=w.heap[b]?):eD w' b n:=by
 obtain⟨cs,h1,h2⟩:=h;exact⟨cs,e.trans h1,h2⟩
theorem ah.same {w w':World}{b n:Nat}{g:Nat->Int}(h:ah w b n g)(e:w'.heap[b]?=w.heap[b]?):ah w' b n g:=by
 obtain⟨⟨cs,h1,h2⟩,h3⟩:=h;exact⟨⟨cs,e.trans h1,h2⟩,λi hi=>(World.cell?_of_block (a:=⟨b,0+i,none⟩) e).trans (h3 i hi)⟩
theorem jB (now shift:Int)(a:Option Addr)(n cap:Nat)(f:Nat->Mv)(a':Option Addr)(m cap':Nat)(t:Nat->Int)(w:World)(h:dR w a n cap f)(hn:n<=1048576)(h':cI w a' m t)(hm:m<=1048576):
  Calls Tryz0.prog 11 #[.agg #[.int .i64 now,.int .i64 shift,.slice a n cap,.slice a' m cap']] w λe w'=>(∃BM BT,e=.returned (.agg #[.int .i64 now,.int .i64 shift,.slice (some ⟨BM,0,none⟩) n n,.slice (some ⟨BT,0,none⟩) m m])/\w.heap.size<=BM/\BM<BT/\an w' BM 0 n f/\eD w' BM n/\ah w' BT m t)/\Below w.heap.size w w':=by
 have hB0:∀o1 o2 o3,Below w.heap.size w (((w.alloc o1).alloc o2).alloc o3):=λo1 o2 o3=>(((Below.refl _ w).alloc (Nat.le_refl _) _).alloc (by simp) _).alloc (by simp;omega) _
 have hN:∀o1 o2 c3 T3,(((w.alloc o1).alloc o2).alloc (.cells c3 T3)).heap[w.heap.size+1+1]?=some (.cells c3 T3 (0,0)):=λo1 o2 c3 T3=>by have:=heap_alloc_new ((w.alloc o1).alloc o2) (.cells c3 T3);simpa using this
 have hN1:∀o1 c2 T2 o3,(((w.alloc o1).alloc (.cells c2 T2)).alloc o3).heap[w.heap.size+1]?=some (.cells c2 T2 (0,0)):=λo1 c2 T2 o3=>(Below.heap_alloc _ _ _ (by simp)).trans (by have:=heap_alloc_new (w.alloc o1) (.cells c2 T2);simpa using this)
 have HS:∀W,Below w.heap.size w W->Calls Tryz0.prog 37 #[.slice a n cap] W λe w'=>e=.returned (.slice (some ⟨W.heap.size,0,none⟩) n n)/\an w' W.heap.size 0 n f/\eD w' W.heap.size n/\Below W.heap.size W w':=λW hW=>tl a n cap f W (h.below hW) hn
 have HI:∀W,Below w.heap.size w W->Calls Tryz0.prog 38 #[.slice a' m cap'] W λe w'=>e=.returned (.slice (some ⟨W.heap.size,0,none⟩) m m)/\ah w' W.heap.size m t/\Below W.heap.size W w':=λW hW=>yC a' m cap' t W (h'.below hW) hm
 clear h h';go_enter Tryz0.func11,Tryz.ntmps11
 go_wp2_with(first
  |(go_at_call 37;refine(HS _ (hB0 _ _ _)).mono ?_;clear HS;rintro e w1 ⟨rfl,r1,o1,b1⟩;have B1:=(hB0 _ _ _).trans (b1.mono (hB0 _ _ _).size);have z1:=o1.lt;have g2:=(b1.block (w.heap.size+1+1) (by simp)).trans (hN _ _ _ _);have g1:=(b1.block (w.heap.size+1) (by simp)).trans (hN1 _ _ _ _);have g0:=b1.cell (p:=⟨w.heap.size,3,none⟩) (by simp;omega);simp at z1 g0 r1 o1;clear b1 hB0 hN hN1;have p2:=cell_of_row w1 _ 2 _ _ _ g2;have p2f:=frozen_of_row w1 _ 2 _ _ g2;simp at p2;have g2':=heap_setCell_same w1 _ 2 _ _ (.slice (some ⟨w.heap.size+1+1+1,0,none⟩) n n) g2;simp at g2')
  |(go_at_call 38;refine(HI _ (B1.setCell (by simp;omega) _)).mono ?_;clear HI;rintro e w2 ⟨rfl,i2,b2⟩;have z2:=i2.lt;have B2:=(B1.setCell (by simp;omega) _).trans (b2.mono (by have:=B1.size;simpa using this));have k2:=(b2.block (w.heap.size+1+1) (by simp;omega)).trans g2';have k1:=(b2.block (w.heap.size+1) (by simp;omega)).trans ((Below.heap_setCell w1 _ _ _ (by simp)).trans g1);simp at z2 i2;have e1:w2.heap[w.heap.size+1+1+1]?=w1.heap[w.heap.size+1+1+1]?:=(b2.block _ (by simp;omega)).trans (Below.heap_setCell w1 _ _ _ (by simp));clear b2;have f2:=λj=>frozen_of_row w2 _ j _ _ k2;have f1:=λj=>frozen_of_row w2 _ j _ _ k1;have x0:=cell_of_row w2 _ 0 _ _ _ k2;have x1:=cell_of_row w2 _ 1 _ _ _ k2;have x2:=cell_of_row w2 _ 2 _ _ _ k2;have x3:=cell_of_row w2 _ 3 _ _ _ k2;have y0:=cell_of_row w2 _ 0 _ _ _ k1;have y1:=cell_of_row w2 _ 1 _ _ _ k1;have y2:=cell_of_row w2 _ 2 _ _ _ k1;have y3:=cell_of_row w2 _ 3 _ _ _ k1;simp at x0 x1 x2 x3 y0 y1 y2 y3))
 have eW:∀k,k≠w.heap.size+1->k≠w.heap.size+1+1->(((((w2.setCell ⟨w.heap.size+1+1,3,none⟩ (.slice (some ⟨w1.heap.size,0,none⟩) m m)).setCell ⟨w.heap.size+1,0,none⟩ (.int .i64 now)).setCell ⟨w.heap.size+1,1,none⟩ (.int .i64 shift)).setCell ⟨w.heap.size+1,2,none⟩ (.slice (some ⟨w.heap.size+1+1+1,0,none⟩) n n)).setCell ⟨w.heap.size+1,3,none⟩ (.slice (some ⟨w1.heap.size,0,none⟩) m m)).heap[k]?=w2.heap[k]?:=λk h1 h2=>by
  rw[Below.heap_setCell _ _ _ _ (by simpa using h1),Below.heap_setCell _ _ _ _ (by simpa using h1),Below.heap_setCell _ _ _ _ (by simpa using h1),Below.heap_setCell _ _ _ _ (by simpa using h1),Below.heap_setCell _ _ _ _ (by simpa using h2)]
 refine bodyPost_ret (v:=.agg #[.int .i64 now,.int .i64 shift,.slice (some ⟨w.heap.size+1+1+1,0,none⟩) n n,.slice (some ⟨w1.heap.size,0,none⟩) m m]) (by simp[results,Tryz.results11,go_sem,y0,y1,y2,y3]) rfl ⟨⟨w.heap.size+1+1+1,w1.heap.size,rfl,by omega,z1,?_,?_,?_⟩,?_⟩
 .exact(r1.same e1).same (eW _ (by omega) (by omega))
 .exact(o1.same e1).same (eW _ (by omega) (by omega))
 .exact i2.same (eW _ (by omega) (by omega))
 .exact((((B2.setCell (by simp;omega) _).setCell (by simp) _).setCell (by simp) _).setCell (by simp) _).setCell (by simp) _
theorem za (a:Option Addr)(n cap:Nat)(left:Int)(w:World)(hn:n<=maxLen)(h0:0<=left)(h1:left<=1048576):
  Calls Tryz0.prog 29 #[.slice a n cap,.int .i64 left] w λe w'=>e=.returned (.int .i64 (if left<n then -1 else left-n))/\w'=w:=by
 unfold maxLen at hn;by_cases hl:left<n
 .rw[if_pos hl];go_enter Tryz0.func29,Tryz.ntmps29
  go_wp2;go_ret;exact⟨rfl,rfl⟩
 .rw[if_neg hl];go_enter Tryz0.func29,Tryz.ntmps29
  go_wp2;go_ret;exact⟨rfl,rfl⟩
theorem tq (now shift:Int)(a:Option Addr)(n cap:Nat)(f:Nat->Mv)(a':Option Addr)(m cap':Nat)(t:Nat->Int)(left:Int)(w:World)(h:dR w a n cap f)(h':cI w a' m t)(h0:0<=left)(h1:left<=1048576):
  Calls Tryz0.prog 8 #[.agg #[.int .i64 now,.int .i64 shift,.slice a n cap,.slice a' m cap'],.int .i64 left] w λe w'=>(∃r:Int,e=.returned (.int .i64 r)/\(r=-1\/0<=r/\r+n<=left/\r+m<=left))/\Below w.heap.size w w':=by
 have bA:∀o,Below w.heap.size w (w.alloc o):=λo=>(Below.refl _ w).alloc (Nat.le_refl _) _
 have hm:=h'.1;have H1:∀o,Calls Tryz0.prog 28 #[.slice a n cap,.int .i64 left] (w.alloc o) λe w'=>(∃r:Int,e=.returned (.int .i64 r)/\(r=-1\/0<=r/\r+n<=left))/\Below (w.alloc o).heap.size (w.alloc o) w':=λo=>y9 a n cap f left _ (h.below (bA o)) h0 h1
 go_enter Tryz0.func8,Tryz.ntmps8
 go_wp2_with(first
  |(go_at_call 28;refine(H1 _).mono ?_;clear H1;rintro e w1 ⟨⟨r,rfl,hr⟩,b1⟩;obtain⟨hc1,hf1⟩:=dl b1)
  |(go_at_call 29;refine(za _ _ _ _ _ hm (by omega) (by omega)).mono ?_;rintro e w' ⟨rfl,rfl⟩))
 .go_ret;exact⟨⟨-1,rfl,.inl rfl⟩,(bA _).trans (b1.mono (bA _).size)⟩
 .go_ret;exact⟨⟨-1,rfl,.inl rfl⟩,(bA _).trans (b1.mono (bA _).size)⟩
 .go_ret;exact⟨⟨_,rfl,.inr (by omega)⟩,(bA _).trans (b1.mono (bA _).size)⟩
structure kg (T:TypeId)(lo hi:Nat)(w w':World):Prop where
 size:w.heap.size<=w'.heap.size
 block:∀k,k<w.heap.size->(k<lo\/hi<=k\/∃cs T',T'≠T/\w.heap[k]?=some (.cells cs T' (0,0)))->w'.heap[k]?=w.heap[k]?
 below:Below lo w w'
structure vH (lo hi:Nat)(w w':World):Prop where
 size:w.heap.size<=w'.heap.size
 block:∀k,k<w.heap.size->(k<lo\/hi<=k)->w'.heap[k]?=w.heap[k]?
 below:Below lo w w'
theorem kg.mid {T:TypeId}{lo hi:Nat}{w w':World}(h:kg T lo hi w w'):vH lo hi w w':=⟨h.size,λk hk h'=>h.block k hk (h'.elim .inl (λx=>.inr (.inl x))),h.below⟩
theorem vH.trans {lo hi:Nat}{a b c:World}(h:vH lo hi a b)(k:vH lo hi b c):vH lo hi a c:=⟨Nat.le_trans h.size k.size,λi hi' h'=>(k.block i (Nat.lt_of_lt_of_le hi' h.size) h').trans (h.block i hi' h'),h.below.trans k.below⟩
theorem vH.of {lo hi:Nat}{w w':World}(h:Below w.heap.size w w')(hlo:lo<=w.heap.size):vH lo hi w w':=⟨h.size,λk hk _=>h.block k hk,h.mono hlo⟩
theorem kg.refl (T:TypeId)(lo hi:Nat)(w:World):kg T lo hi w w:=⟨Nat.le_refl _,λ_ _ _=>rfl,Below.refl _ _⟩
def qc (w:World)(b n:Nat)(g:Nat->ByteArray):Prop:=∀i,i<n->w.cell? ⟨b,i,none⟩=some (.string (g i))
def cV (w:World)(lo hi:Nat)(v:Value)(n:Nat)(f:Nat->Mv):Prop:=
 (n=0/\∃a c,v=.slice a 0 c)\/∃B c cs,v=.slice (some ⟨B,0,none⟩) n c/\lo<=B/\B<hi/\hi<=w.heap.size/\w.heap[B]?=some (.cells cs 36 (0,0))/\n*6<=cs.size/\an w B 0 n f
def cP (w:World)(lo hi:Nat)(v:Value)(n:Nat)(g:Nat->Int):Prop:=
 (n=0/\∃a c,v=.slice a 0 c)\/∃B c cs,v=.slice (some ⟨B,0,none⟩) n c/\lo<=B/\B<hi/\hi<=w.heap.size/\w.heap[B]?=some (.cells cs 3 (0,0))/\n<=cs.size/\al w B 0 n g
def lE (w:World)(lo hi:Nat)(v:Value)(n:Nat)(g:Nat->ByteArray):Prop:=
 (n=0/\∃a c,v=.slice a 0 c)\/∃B c cs,v=.slice (some ⟨B,0,none⟩) n c/\lo<=B/\B<hi/\hi<=w.heap.size/\w.heap[B]?=some (.cells cs 9 (0,0))/\n<=cs.size/\qc w B n g
theorem qc.same {w w':World}{b n:Nat}{g:Nat->ByteArray}(h:qc w b n g)(e:w'.heap[b]?=w.heap[b]?):qc w' b n g:=λi hi=>(World.cell?_of_block (a:=⟨b,i,none⟩) e).trans (h i hi)
theorem cV.keep {w w':World}{lo hi:Nat}{v:Value}{n:Nat}{f:Nat->Mv}(h:cV w lo hi v n f)(hz:w.heap.size<=w'.heap.size)(e:hi<=w.heap.size->∀B cs,lo<=B->B<hi->w.heap[B]?=some (.cells cs 36 (0,0))->w'.heap[B]?=w.heap[B]?):cV w' lo hi v n f:=by
 rcases h with h|⟨B,c,cs,h1,h3,h4,h5,h6,h7,h8⟩
 .exact .inl h
 .have:=e h5 B cs h3 h4 h6;exact .inr ⟨B,c,cs,h1,h3,h4,Nat.le_trans h5 hz,this.trans h6,h7,h8.same this⟩
theorem cP.keep {w w':World}{lo hi:Nat}{v:Value}{n:Nat}{g:Nat->Int}(h:cP w lo hi v n g)(hz:w.heap.size<=w'.heap.size)(e:hi<=w.heap.size->∀B cs,lo<=B->B<hi->w.heap[B]?=some (.cells cs 3 (0,0))->w'.heap[B]?=w.heap[B]?):cP w' lo hi v n g:=by
 rcases h with h|⟨B,c,cs,h1,h3,h4,h5,h6,h7,h8⟩
 .exact .inl h
 .have:=e h5 B cs h3 h4 h6;exact .inr ⟨B,c,cs,h1,h3,h4,Nat.le_trans h5 hz,this.trans h6,h7,h8.same this⟩
theorem lE.keep {w w':World}{lo hi:Nat}{v:Value}{n:Nat}{g:Nat->ByteArray}(h:lE w lo hi v n g)(hz:w.heap.size<=w'.heap.size)(e:hi<=w.heap.size->∀B cs,lo<=B->B<hi->w.heap[B]?=some (.cells cs 9 (0,0))->w'.heap[B]?=w.heap[B]?):lE w' lo hi v n g:=by
 rcases h with h|⟨B,c,cs,h1,h3,h4,h5,h6,h7,h8⟩
 .exact .inl h
 .have:=e h5 B cs h3 h4 h6;exact .inr ⟨B,c,cs,h1,h3,h4,Nat.le_trans h5 hz,this.trans h6,h7,h8.same this⟩
structure BJ (w:World)(lo hi:Nat)(v:Value)(n:Nat)(f:Nat->Mv)(u:Value)(m:Nat)(t:Nat->Int)(s:Value)(k:Nat)(g:Nat->ByteArray):Prop where
 mv:cV w lo hi v n f
 tk:cP w lo hi u m t
 nm:lE w lo hi s k g
theorem nv (a a':Option Addr)(cap cap':Nat)(w:World):
  Calls Tryz0.prog 40 #[.slice a 0 cap,.slice a' 0 cap'] w λe w'=>e=.returned (.bool true)/\Below w.heap.size w w':=by
 go_enter Tryz0.func40,Tryz.ntmps40
 go_wp2;go_loopw [5] (λi w'=>i=.int .i64 0/\Below w.heap.size w w') (λ_ _=>0)
 case atStart=>exact⟨rfl,Below.refl _ _⟩
 case round=>
  obtain⟨rfl,hB⟩:=hrel;go_wp2;go_ret;exact⟨rfl,hB⟩
theorem zb {w:World}{lo hi lo' hi':Nat}{v v':Value}{n:Nat}{f:Nat->Mv}(hn:n<=1048576)(h:cV w lo hi v n f)(h':cV w lo' hi' v' n f):
  Calls Tryz0.prog 40 #[v,v'] w λe w'=>e=.returned (.bool true)/\Below w.heap.size w w':=by
 rcases h with⟨rfl,a,c,rfl⟩|⟨B,c,cs,rfl,_,hB,hz,hg,_,hr⟩
 .rcases h' with⟨_,a',c',rfl⟩|⟨B',c',cs',rfl,_⟩
  .exact nv _ _ _ _ _
  .exact nv _ _ _ _ _
 .rcases h' with⟨rfl,a',c',rfl⟩|⟨B',c',cs',rfl,_,hB',hz',hg',_,hr'⟩
  .exact nv _ _ _ _ _
  .exact xJ B 0 c B' 0 c' n f w hn (by omega) hr (by omega) hr'
theorem zc {w:World}{lo hi lo' hi':Nat}{v v':Value}{n:Nat}{g:Nat->Int}(hn:n<=1048576)(h:cP w lo hi v n g)(h':cP w lo' hi' v' n g):
  Calls Tryz0.prog 41 #[v,v'] w λe w'=>e=.returned (.bool true)/\Below w.heap.size w w':=by
 rcases h with⟨rfl,a,c,rfl⟩|⟨B,c,cs,rfl,_,hB,hz,hg,_,hr⟩
 .rcases h' with⟨_,a',c',rfl⟩|⟨B',c',cs',rfl,_⟩
  .exact mz _ _ _ _ _
  .exact mz _ _ _ _ _
 .rcases h' with⟨rfl,a',c',rfl⟩|⟨B',c',cs',rfl,_,hB',hz',hg',_,hr'⟩
  .exact mz _ _ _ _ _
  .exact wJ B 0 c B' 0 c' n g w hn (by omega) hr (by omega) hr'
theorem zd {w:World}{B n k:Nat}{f:Nat->Mv}{cur:Array Value}{T:TypeId}(h:an w B 0 n f)(hg:w.heap[B]?=some (.cells cur T (0,0)))(hs:n*6<=cur.size)(hk:k<n)(m:Mv):an (gQ w B (k*6) m) B 0 n (λj=>if j=k then m else f j):=by
 intro i hi;by_cases e:i=k
 .subst e;simp only[if_true];rw[Nat.zero_add];exact qP w B (i*6) m cur T hg (by omega)
 .simp only[if_neg e];obtain⟨c0,c1,c2,c3,c4,c5⟩:=h i hi;have o:∀j,j<6->(gQ w B (k*6) m).cell? ⟨B,0+i*6+j,none⟩=w.cell? ⟨B,0+i*6+j,none⟩:=λj hj=>cJ w B (k*6) m _ (by omega)
  exact⟨(o 0 (by omega)).trans c0,(o 1 (by omega)).trans c1,(o 2 (by omega)).trans c2,(o 3 (by omega)).trans c3,(o 4 (by omega)).trans c4,(o 5 (by omega)).trans c5⟩
theorem an.congr {w:World}{b off n:Nat}{f f':Nat->Mv}(h:an w b off n f)(e:∀i,i<n->f i=f' i):an w b off n f':=λi hi=>by rw[<-e i hi];exact h i hi
def cW (k:Int)(i:Nat):Mv:=⟨ge (k+i*6),(k+i*6+1)%3==0,k+i*6+1+1,k+i*6+1+1+1,k+i*6+1+1+1+1,k+i*6+1+1+1+1+1⟩
theorem rF {T:TypeId}{lo hi B:Nat}{w w':World}{cs:Array Value}(h:fe B w w')(h1:lo<=B)(h2:B<hi)(hg:w.heap[B]?=some (.cells cs T (0,0)))(hb:Below lo w w'):kg T lo hi w w':=
 ⟨h.size,λk hk h'=>h.block k hk (λe=>by
  subst e;rcases h' with h'|h'|⟨cs',T',hne,h'⟩
  .omega
  .omega
  .rw[hg]at h';simp at h';exact hne h'.2.symm),hb⟩
theorem vw {w:World}{lo hi:Nat}{v:Value}{n:Nat}{f:Nat->Mv}(k:Int)(hn:n<=1048576)(h0:0<=k)(h1:k<=10000000)(h:cV w lo hi v n f):
  Calls Tryz0.prog 42 #[v,.int .i64 k] w λe w'=>e=.returned (.int .i64 (k+n*6))/\cV w' lo hi v n (cW k)/\kg 36 lo hi w w':=by
 rcases h with⟨rfl,a,c,rfl⟩|⟨B,c,cs,rfl,hlo,hhi,hz,hg,hs,hr⟩
 .go_enter Tryz0.func42,Tryz.ntmps42
  go_wp2;go_loopw [1,5] (λx i wr=>i=.int .i64 0/\x=.int .i64 k/\wr=w) (λ_ _ _=>0)
  case atStart=>exact⟨rfl,rfl,rfl⟩
  case round=>
   obtain⟨rfl,rfl,rfl⟩:=hrel;go_wp2;go_ret;exact⟨by simp,.inl ⟨rfl,a,c,rfl⟩,kg.refl _ _ _ _⟩
 .go_enter Tryz0.func42,Tryz.ntmps42
  go_wp2;go_loopw [1,5] (λx i wr=>∃j:Nat,j<=n/\i=.int .i64 j/\x=.int .i64 (k+j*6)/\(∃cs,wr.heap[B]?=some (.cells cs 36 (0,0))/\n*6<=cs.size)/\an wr B 0 n (λi=>if i<j then cW k i else f i)/\fe B w wr/\Below lo w wr) (λ_ i _=>n-(intOf i).toNat)
  case atStart=>exact⟨0,Nat.zero_le _,rfl,by simp,⟨cs,hg,hs⟩,hr.congr (λi hi=>by simp),fe.refl _ _,Below.refl _ _⟩
  case round=>
   obtain⟨j,hj,rfl,rfl,⟨cs',hg',hs'⟩,hr',hbut,hB⟩:=hrel;by_cases hlt:j<n
   .have hlt':(j:Int)<n:=by omega
    have HT:=lu (k+j*6) wr (by omega) (by omega);obtain⟨mb,hmb⟩:∃mb,mb=ge (k+j*6):=⟨_,rfl⟩;rw[<-hmb]at HT;have HMB:Hid (mb=ge (k+j*6)):=hmb;clear hmb;have hzb:B<wr.heap.size:=(Array.getElem?_eq_some_iff.1 hg').1;go_wp2_with(go_at_call 50;refine HT.mono ?_;clear HT;rintro e w1 ⟨rfl,hb1⟩;have hg1:=(hb1.block B hzb).trans hg';have hr1:=hr'.below hb1 hzb;obtain⟨e0,e1,e2,e3,e4,e5⟩:=hr1 j hlt;simp only[Nat.zero_add]at e0 e1 e2 e3 e4 e5;have hfz:=λi=>frozen_of_row w1 B i _ _ hg1)
    have hbut1:fe B w w1:=hbut.trans (fe.of hb1);have hB1:Below lo w w1:=hB.trans (hb1.mono (by omega));obtain⟨m',hm'⟩:∃m':Mv,m'=⟨mb,(k+j*6+1)%3==0,k+j*6+1+1,k+j*6+1+1+1,k+j*6+1+1+1+1,k+j*6+1+1+1+1+1⟩:=⟨_,rfl⟩;have hmk:m'=cW k j:=by rw[hm',HMB.out];rfl
    have hW:((((((w1.setCell ⟨B,j*6,none⟩ (.string mb)).setCell ⟨B,j*6+1,none⟩ (.bool ((k+j*6+1)%3==0))).setCell ⟨B,j*6+2,none⟩ (.int .i64 (k+j*6+1+1))).setCell ⟨B,j*6+3,none⟩ (.int .i64 (k+j*6+1+1+1))).setCell ⟨B,j*6+4,none⟩ (.int .i64 (k+j*6+1+1+1+1))).setCell ⟨B,j*6+5,none⟩ (.int .i64 (k+j*6+1+1+1+1+1)))=gQ w1 B (j*6) m':=by rw[hm'];rfl
    rw[hW];obtain⟨cs2,hg2,hs2⟩:=mJ w1 B (j*6) m' _ _ hg1;have hr2:=zd hr1 hg1 hs' hlt m';have hbut2:fe B w (gQ w1 B (j*6) m'):=(((((hbut1.setCell _ _).setCell _ _).setCell _ _).setCell _ _).setCell _ _).setCell _ _;have hB2:Below lo w (gQ w1 B (j*6) m'):=ld hB1 hlo _ _;refine⟨⟨j+1,by omega,by simp,congrArg (Value.int .i64) (by omega),⟨cs2,hg2,by omega⟩,hr2.congr (λi hi=>?_),hbut2,hB2⟩,by simp[intOf];omega⟩;by_cases e:i=j
    .subst e;rw[if_pos rfl,if_pos (by omega)];exact hmk
    .simp only[if_neg e];by_cases h:i<j
     .rw[if_pos h,if_pos (by omega)]
     .rw[if_neg h,if_neg (by omega)]
   .have hjn:j=n:=by omega
    subst hjn;go_wp2;go_ret;exact⟨rfl,.inr ⟨B,c,cs',rfl,hlo,hhi,Nat.le_trans hz hbut.size,hg',hs',hr'.congr (λi hi=>by rw[if_pos hi])⟩,rF hbut hlo hhi hg hB⟩
theorem al.put {w:World}{b n k:Nat}{t:Nat->Int}(h:al w b 0 n t)(hk:k<n)(x:Int):al (w.setCell ⟨b,k,none⟩ (.int .i64 x)) b 0 n (λp=>if p=k then x else t p):=λi hi=>by
 rw[Nat.zero_add];by_cases e:i=k
 .subst e;have h1:=h i hi;rw[Nat.zero_add]at h1;simp only[if_true];exact World.cell?_setCell_same' _ _ _ (by rw[h1];rfl)
 .rw[World.cell?_setCell_other _ _ _ _ (by intro e';cases e';exact e rfl)];simp only[if_neg e];have h1:=h i hi;rw[Nat.zero_add]at h1;exact h1
theorem al.cong {w:World}{b off n:Nat}{g g':Nat->Int}(h:al w b off n g)(e:∀i,i<n->g i=g' i):al w b off n g':=λi hi=>by rw[<-e i hi];exact h i hi
theorem vy {w:World}{lo hi:Nat}{v:Value}{n:Nat}{g:Nat->Int}(k:Int)(hn:n<=1048576)(h0:0<=k)(h1:k<=100000000)(h:cP w lo hi v n g):
  Calls Tryz0.prog 43 #[v,.int .i64 k] w λe w'=>e=.returned (.int .i64 (k+n))/\cP w' lo hi v n (λi=>k+i)/\kg 3 lo hi w w':=by
 rcases h with⟨rfl,a,c,rfl⟩|⟨B,c,cs,rfl,hlo,hhi,hz,hg,hs,hr⟩
 .go_enter Tryz0.func43,Tryz.ntmps43
  go_wp2;go_loopw [1,5] (λx i wr=>i=.int .i64 0/\x=.int .i64 k/\wr=w) (λ_ _ _=>0)
  case atStart=>exact⟨rfl,rfl,rfl⟩
  case round=>
   obtain⟨rfl,rfl,rfl⟩:=hrel;go_wp2;go_ret;exact⟨by simp,.inl ⟨rfl,a,c,rfl⟩,kg.refl _ _ _ _⟩
 .go_enter Tryz0.func43,Tryz.ntmps43
  go_wp2;go_loopw [1,5] (λx i wr=>∃j:Nat,j<=n/\i=.int .i64 j/\x=.int .i64 (k+j)/\(∃cs,wr.heap[B]?=some (.cells cs 3 (0,0))/\n<=cs.size)/\al wr B 0 n (λi=>if i<j then k+i else g i)/\fe B w wr/\Below lo w wr) (λ_ i _=>n-(intOf i).toNat)
  case atStart=>exact⟨0,Nat.zero_le _,rfl,by simp,⟨cs,hg,hs⟩,hr.cong (λi hi=>by simp),fe.refl _ _,Below.refl _ _⟩
  case round=>
   obtain⟨j,hj,rfl,rfl,⟨cs',hg',hs'⟩,hr',hbut,hB⟩:=hrel;by_cases hlt:j<n
   .have hlt':(j:Int)<n:=by omega
    have hd:=hr' j hlt;simp only[Nat.zero_add]at hd;have hfz:=frozen_of_row wr B j _ _ hg';have hg2:=heap_setCell_same wr B j _ _ (.int .i64 (k+j)) hg';go_wp2;go_roundw
    case rel=>exact⟨j+1,by omega,by go_num,by go_num,⟨_,hg2,by simpa using hs'⟩,(hr'.put hlt (k+j)).cong (λi hi=>by
     by_cases e:i=j
     .subst e;rw[if_pos rfl,if_pos (by omega)]
     .simp only[if_neg e];by_cases h:i<j
      .rw[if_pos h,if_pos (by omega)]
      .rw[if_neg h,if_neg (by omega)]),hbut.setCell _ _,hB.setCell hlo _⟩
    case measure=>simp[intOf];omega
   .have hjn:j=n:=by omega
    subst hjn;go_wp2;go_ret;exact⟨rfl,.inr ⟨B,c,cs',rfl,hlo,hhi,Nat.le_trans hz hbut.size,hg',hs',hr'.cong (λi hi=>by rw[if_pos hi])⟩,rF hbut hlo hhi hg hB⟩
theorem vz {w:World}{lo hi:Nat}{v:Value}{n:Nat}(k:Int)(hn:n<=1048576)(h0:0<=k)(h1:k<=100000000)(h:cP w lo hi v n (λi=>k+i)):
  Calls Tryz0.prog 45 #[v,.int .i64 k] w λe w'=>e=.returned (.int .i64 (k+n))/\Below w.heap.size w w':=by
 rcases h with⟨rfl,a,c,rfl⟩|⟨B,c,cs,rfl,hlo,hhi,hz,hg,hs,hr⟩
 .go_enter Tryz0.func45,Tryz.ntmps45
  go_wp2;go_loopw [1,5] (λx i wr=>i=.int .i64 0/\x=.int .i64 k/\wr=w) (λ_ _ _=>0)
  case atStart=>exact⟨rfl,rfl,rfl⟩
  case round=>
   obtain⟨rfl,rfl,rfl⟩:=hrel;go_wp2;go_ret;exact⟨by simp,Below.refl _ _⟩
 .go_enter Tryz0.func45,Tryz.ntmps45
  go_wp2;go_loopw [1,5] (λx i wr=>∃j:Nat,j<=n/\i=.int .i64 j/\x=.int .i64 (k+j)/\Below w.heap.size w wr) (λ_ i _=>n-(intOf i).toNat)
  case atStart=>exact⟨0,Nat.zero_le _,rfl,by simp,Below.refl _ _⟩
  case round=>
   obtain⟨j,hj,rfl,rfl,hB⟩:=hrel;by_cases hlt:j<n
   .have hlt':(j:Int)<n:=by omega
    have hd:=(hr.below hB (by omega)) j hlt;simp only[Nat.zero_add]at hd;go_wp2;go_roundw
    case rel=>exact⟨j+1,by omega,by go_num,by go_num,hB⟩
    case measure=>simp[intOf];omega
   .have hjn:j=n:=by omega
    subst hjn;go_wp2;go_ret;exact⟨rfl,hB⟩
theorem vA {w:World}{lo hi:Nat}{v:Value}{n:Nat}(k:Int)(hn:n<=1048576)(h0:0<=k)(h1:k<=10000000)(h:cV w lo hi v n (cW k)):
  Calls Tryz0.prog 44 #[v,.int .i64 k] w λe w'=>e=.returned (.int .i64 (k+n*6))/\Below w.heap.size w w':=by
 rcases h with⟨rfl,a,c,rfl⟩|⟨B,c,cs,rfl,hlo,hhi,hz,hg,hs,hr⟩
 .go_enter Tryz0.func44,Tryz.ntmps44
  go_wp2;go_loopw [1,5] (λx i wr=>i=.int .i64 0/\x=.int .i64 k/\wr=w) (λ_ _ _=>0)
  case atStart=>exact⟨rfl,rfl,rfl⟩
  case round=>
   obtain⟨rfl,rfl,rfl⟩:=hrel;go_wp2;go_ret;exact⟨by simp,Below.refl _ _⟩
 .go_enter Tryz0.func44,Tryz.ntmps44
  go_wp2;go_loopw [1,5] (λx i wr=>∃j:Nat,j<=n/\i=.int .i64 j/\x=.int .i64 (k+j*6)/\Below w.heap.size w wr) (λ_ i _=>n-(intOf i).toNat)
  case atStart=>exact⟨0,Nat.zero_le _,rfl,by simp,Below.refl _ _⟩
  case round=>
   obtain⟨j,hj,rfl,rfl,hB⟩:=hrel;by_cases hlt:j<n
   .have hlt':(j:Int)<n:=by omega
    obtain⟨d0,d1,d2,d3,d4,d5⟩:=(hr.below hB (by omega)) j hlt;simp only[Nat.zero_add,cW]at d0 d1 d2 d3 d4 d5;obtain⟨mb,hmb⟩:∃mb,mb=ge (k+j*6):=⟨_,rfl⟩;have HT:∀x:ag wr,Calls Tryz0.prog 50 #[.int .i64 (k+j*6)] x.at_ λe w'=>e=.returned (.string mb)/\Below x.at_.heap.size x.at_ w':=λx=>by
     rw[hmb];exact lu (k+j*6) x.at_ (by omega) (by omega)
    rw[<-hmb]at d0;clear hmb;have hne:=aq wr;have c0:=λx:ag wr=>x.cell d0
    go_wp2;refine ae (by kernel_rfl) (by kernel_rfl) ?_;repeat(go_big_quiet_step ((go_at_call 50;exact aA (HT _))))
    refine wpQuiet_nil (ak ?_);intro w1 hb1;have lB:B<wr.heap.size:=Nat.lt_of_lt_of_le (by omega) hB.size;have e1:=(hb1.cell (p:=⟨B,j*6+1,none⟩) lB).trans d1;have e2:=(hb1.cell (p:=⟨B,j*6+2,none⟩) lB).trans d2;have e3:=(hb1.cell (p:=⟨B,j*6+3,none⟩) lB).trans d3;have e4:=(hb1.cell (p:=⟨B,j*6+4,none⟩) lB).trans d4;have e5:=(hb1.cell (p:=⟨B,j*6+5,none⟩) lB).trans d5;clear c0 hne d0 d1 d2 d3 d4 d5 HT;go_wp2;go_roundw
    case rel=>exact⟨j+1,by omega,by go_num,congrArg (Value.int .i64) (by omega),hB.trans (hb1.mono hB.size)⟩
    case measure=>simp[intOf];omega
   .have hjn:j=n:=by omega
    subst hjn;go_wp2;go_ret;exact⟨rfl,hB⟩
abbrev xK (now shift:Int)(v u:Value):Value:=.agg #[.int .i64 now,.int .i64 shift,v,u]
theorem cV.sl {w:World}{lo hi:Nat}{v:Value}{n:Nat}{f:Nat->Mv}(h:cV w lo hi v n f):∃a c,v=.slice a n c:=by
 rcases h with⟨rfl,a,c,rfl⟩|⟨B,c,cs,rfl,_⟩
 .exact⟨a,c,rfl⟩
 .exact⟨_,c,rfl⟩
theorem cP.sl {w:World}{lo hi:Nat}{v:Value}{n:Nat}{g:Nat->Int}(h:cP w lo hi v n g):∃a c,v=.slice a n c:=by
 rcases h with⟨rfl,a,c,rfl⟩|⟨B,c,cs,rfl,_⟩
 .exact⟨a,c,rfl⟩
 .exact⟨_,c,rfl⟩
theorem cV.below {w w':World}{N lo hi:Nat}{v:Value}{n:Nat}{f:Nat->Mv}(h:cV w lo hi v n f)(hb:Below N w w')(hN:hi<=N):cV w' lo hi v n f:=h.keep hb.size (λ_ B _ _ hB _=>hb.block B (by omega))
theorem cP.below {w w':World}{N lo hi:Nat}{v:Value}{n:Nat}{f:Nat->Int}(h:cP w lo hi v n f)(hb:Below N w w')(hN:hi<=N):cP w' lo hi v n f:=h.keep hb.size (λ_ B _ _ hB _=>hb.block B (by omega))
theorem lE.below {w w':World}{N lo hi:Nat}{v:Value}{n:Nat}{f:Nat->ByteArray}(h:lE w lo hi v n f)(hb:Below N w w')(hN:hi<=N):lE w' lo hi v n f:=h.keep hb.size (λ_ B _ _ hB _=>hb.block B (by omega))
theorem cV.midT {w w':World}{T:TypeId}{lo hi:Nat}{v:Value}{n:Nat}{f:Nat->Mv}(h:cV w lo hi v n f)(hm:kg T lo hi w w')(hT:36≠T):cV w' lo hi v n f:=h.keep hm.size (λh5 B cs _ hB hg=>hm.block B (by omega) (.inr (.inr ⟨cs,_,hT,hg⟩)))
theorem cP.midT {w w':World}{T:TypeId}{lo hi:Nat}{v:Value}{n:Nat}{f:Nat->Int}(h:cP w lo hi v n f)(hm:kg T lo hi w w')(hT:3≠T):cP w' lo hi v n f:=h.keep hm.size (λh5 B cs _ hB hg=>hm.block B (by omega) (.inr (.inr ⟨cs,_,hT,hg⟩)))
theorem lE.midT {w w':World}{T:TypeId}{lo hi:Nat}{v:Value}{n:Nat}{f:Nat->ByteArray}(h:lE w lo hi v n f)(hm:kg T lo hi w w')(hT:9≠T):lE w' lo hi v n f:=h.keep hm.size (λh5 B cs _ hB hg=>hm.block B (by omega) (.inr (.inr ⟨cs,_,hT,hg⟩)))
theorem rG (now shift:Int){w:World}{lo hi lo' hi':Nat}{v v' u u':Value}{n m:Nat}{f:Nat->Mv}{t:Nat->Int}(hn:n<=1048576)(hm:m<=1048576)(h1:cV w lo hi v n f)(h2:cV w lo' hi' v' n f)(h3:cP w lo hi u m t)(h4:cP w lo' hi' u' m t)(hh:hi<=w.heap.size)(hh':hi'<=w.heap.size):
  Calls Tryz0.prog 14 #[xK now shift v u,xK now shift v' u'] w λe w'=>e=.returned (.bool true)/\Below w.heap.size w w':=by
 have bA:∀o1 o2,Below w.heap.size w ((w.alloc o1).alloc o2):=λo1 o2=>((Below.refl _ w).alloc (Nat.le_refl _) _).alloc (by simp) _
 have H1:∀W,Below w.heap.size w W->Calls Tryz0.prog 40 #[v,v'] W λe w'=>e=.returned (.bool true)/\Below W.heap.size W w':=λW hW=>zb hn (h1.below hW hh) (h2.below hW hh')
 have H2:∀W,Below w.heap.size w W->Calls Tryz0.prog 41 #[u,u'] W λe w'=>e=.returned (.bool true)/\Below W.heap.size W w':=λW hW=>zc hm (h3.below hW hh) (h4.below hW hh')
 obtain⟨a1,c1,rfl⟩:=h1.sl;obtain⟨a2,c2,rfl⟩:=h2.sl;obtain⟨a3,c3,rfl⟩:=h3.sl;obtain⟨a4,c4,rfl⟩:=h4.sl;clear h1 h2 h3 h4;go_enter Tryz0.func14,Tryz.ntmps14
 go_wp2_with(first
  |(go_at_call 40;refine(H1 _ (bA _ _)).mono ?_;clear H1;rintro e w1 ⟨rfl,b1⟩;have B1:=(bA _ _).trans (b1.mono (bA _ _).size);obtain⟨hc1,hf1⟩:=dl b1)
  |(go_at_call 41;refine(H2 _ B1).mono ?_;clear H2;rintro e w2 ⟨rfl,b2⟩))
 go_ret;exact⟨rfl,B1.trans (b2.mono B1.size)⟩
theorem tt (now shift:Int)(k:Int){w:World}{lo hi:Nat}{v u:Value}{n m:Nat}(hn:n<=1048576)(hm:m<=1048576)(h0:0<=k)(hk:k<=1000000)(h1:cV w lo hi v n (cW k))(h3:cP w lo hi u m (λi=>k+n*6+i))(hh:hi<=w.heap.size):
  Calls Tryz0.prog 16 #[xK now shift v u,.int .i64 k] w λe w'=>e=.returned (.int .i64 (k+n*6+m))/\Below w.heap.size w w':=by
 have bA:∀o,Below w.heap.size w (w.alloc o):=λo=>(Below.refl _ w).alloc (Nat.le_refl _) _
 obtain⟨a1,c1,rfl⟩:=h1.sl;obtain⟨a3,c3,rfl⟩:=h3.sl;have H1:∀o,Calls Tryz0.prog 44 #[.slice a1 n c1,.int .i64 k] (w.alloc o) λe w'=>e=.returned (.int .i64 (k+n*6))/\Below (w.alloc o).heap.size (w.alloc o) w':=λo=>vA k hn h0 (by omega) (h1.below (bA o) hh)
 have H2:∀W,Below w.heap.size w W->Calls Tryz0.prog 45 #[.slice a3 m c3,.int .i64 (k+n*6)] W λe w'=>e=.returned (.int .i64 (k+n*6+m))/\Below W.heap.size W w':=λW hW=>vz (k+n*6) hm (by omega) (by omega) (h3.below hW hh)
 clear h1 h3;go_enter Tryz0.func16,Tryz.ntmps16
 go_wp2_with(first
  |(go_at_call 44;refine(H1 _).mono ?_;clear H1;rintro e w1 ⟨rfl,b1⟩;have B1:=(bA _).trans (b1.mono (bA _).size);obtain⟨hc1,hf1⟩:=dl b1)
  |(go_at_call 45;refine(H2 _ B1).mono ?_;clear H2;rintro e w2 ⟨rfl,b2⟩))
 all_goals first|(exfalso;omega)|skip
 go_ret;exact⟨rfl,B1.trans (b2.mono B1.size)⟩
theorem um {w:World}{lo hi B n:Nat}{f:Nat->Mv}(h:eD w B n)(hr:an w B 0 n f)(hl:lo<=B)(hh:hi=w.heap.size):cV w lo hi (.slice (some ⟨B,0,none⟩) n n) n f:=by
 have hlt:=h.lt;obtain⟨cs,h1,h2⟩:=h;exact .inr ⟨B,n,cs,rfl,hl,by omega,by omega,h1,by omega,hr⟩
theorem uo {w:World}{lo hi B n:Nat}{t:Nat->Int}(h:ah w B n t)(hl:lo<=B)(hh:hi=w.heap.size):cP w lo hi (.slice (some ⟨B,0,none⟩) n n) n t:=by
 have hlt:=h.lt;obtain⟨⟨cs,h1,h2⟩,h3⟩:=h;exact .inr ⟨B,n,cs,rfl,hl,by omega,by omega,h1,by omega,h3⟩
theorem rM (now shift:Int)(k:Int){w:World}{lo hi:Nat}{v u:Value}{n m:Nat}{f:Nat->Mv}{t:Nat->Int}(hn:n<=1048576)(hm:m<=1048576)(h0:0<=k)(hk:k<=1000000)(h1:cV w lo hi v n f)(h3:cP w lo hi u m t)(hlo:lo<=hi)(hh:hi<=w.heap.size):
  Calls Tryz0.prog 15 #[xK now shift v u,.int .i64 k] w λe w'=>e=.returned (.int .i64 (k+n*6+m))/\cV w' lo hi v n (cW k)/\cP w' lo hi u m (λi=>k+n*6+i)/\vH lo hi w w'/\∀s k g,lE w lo hi s k g->lE w' lo hi s k g:=by
 have bA:∀o,Below w.heap.size w (w.alloc o):=λo=>(Below.refl _ w).alloc (Nat.le_refl _) _
 obtain⟨a1,c1,rfl⟩:=h1.sl;obtain⟨a3,c3,rfl⟩:=h3.sl;have H1:∀o,Calls Tryz0.prog 42 #[.slice a1 n c1,.int .i64 k] (w.alloc o) λe w'=>e=.returned (.int .i64 (k+n*6))/\cV w' lo hi (.slice a1 n c1) n (cW k)/\kg 36 lo hi (w.alloc o) w':=λo=>vw k hn h0 (by omega) (h1.below (bA o) hh)
 have H2:∀W,cP W lo hi (.slice a3 m c3) m t->Calls Tryz0.prog 43 #[.slice a3 m c3,.int .i64 (k+n*6)] W λe w'=>e=.returned (.int .i64 (k+n*6+m))/\cP w' lo hi (.slice a3 m c3) m (λi=>k+n*6+i)/\kg 3 lo hi W w':=λW hW=>vy (k+n*6) hm (by omega) (by omega) hW
 go_enter Tryz0.func15,Tryz.ntmps15
 go_wp2_with(first
  |(go_at_call 42;refine(H1 _).mono ?_;clear H1;rintro e w1 ⟨rfl,o1,m1⟩;have t1:=(h3.below (bA _) hh).midT m1 (by decide);have g1:=m1.block w.heap.size (by simp) (.inr (.inl hh));have k3:=World.cell?_of_block (a:=⟨w.heap.size,3,none⟩) g1;simp at k3)
  |(go_at_call 43;refine(H2 _ t1).mono ?_;clear H2;rintro e w2 ⟨rfl,o2,m2⟩;have o3:=o1.midT m2 (by decide)))
 go_ret;exact⟨rfl,o3,o2,((vH.of (bA _) (by omega)).trans m1.mid).trans m2.mid,λs k g hs=>((hs.below (bA _) hh).midT m1 (by decide)).midT m2 (by decide)⟩
end Go.Proofs.YtlmcblcijndipabGreatDoor
namespace Go.Proofs.YtlmcblcijndipabGreatDoor
open Go.ChangeShapes Go.WideShapes Go.ChangeAt Go.RowKit
theorem tK:Tryz.prog.cellsOf 25=4:=by kernel_rfl
theorem rR:Tryz.prog.cellsOf 22=1:=by kernel_rfl
theorem tL:Tryz.prog.cellsOf 23=1:=by kernel_rfl
theorem vE {H:Type}{enc:TypeId×Value->H}{w:World}{v:Value}{d:DataW H}{p:List MemPlace}{r:Reach}{b0:Nat}(hv:Value.okWide Tryz.prog w r b0 25 v)(h:DataW.Trod enc Tryz.prog w 0 (λ_=>true) true 25 v d p):
  ∃now shift a n cap f a' m cap' t,v=.agg #[.int .i64 now,.int .i64 shift,.slice a n cap,.slice a' m cap']/\dR w a n cap f/\cI w a' m t:=by
 obtain⟨cs,rfl,hsz⟩:=okWide_struct Tryz.underlying25 hv;obtain⟨k,hk⟩:=h;obtain⟨xs,k',_,_,hl,hlen,hf⟩:=DataW.trod_struct Tryz.underlying25 hk;rw[tK]at hl;obtain⟨l⟩:=cs;simp only[Value.cells]at hl hf hk;match l,hl with
 |[c0,c1,c2,c3],_=>
 match xs,hlen with
 |[y0,y1,y2,y3],_=>
 have h0:=hf 0 _ rfl;have h1:=hf 1 _ rfl;have h2:=hf 2 _ rfl;have h3:=hf 3 _ rfl;simp[iT,rR,tL]at h0 h1 h2 h3;obtain⟨now,e0,_,_⟩:=DataW.trod_int Tryz.underlying3 h0;obtain⟨shift,e1,_,_⟩:=DataW.trod_int Tryz.underlying3 h1;have q2:∃a n cap,c2=.slice a n cap:=by
  rcases Deep.open_slice Tryz.underlying22 h2 with⟨hcs,_⟩|⟨x,l,c,m,k,D,Pl,hcs,_⟩
  .simp at hcs;exact⟨_,_,_,hcs⟩
  .simp at hcs;exact⟨_,_,_,hcs⟩
 have q3:∃a n cap,c3=.slice a n cap:=by
  rcases Deep.open_slice1 Tryz.underlying23 iT h3 with⟨hcs,_⟩|⟨x,l,c,m,k,V,D,Pl,hcs,_⟩
  .simp at hcs;exact⟨_,_,_,hcs⟩
  .simp at hcs;exact⟨_,_,_,hcs⟩
 obtain⟨a,n,cap,rfl⟩:=q2;obtain⟨a',m,cap',rfl⟩:=q3;simp at e0 e1;subst e0 e1;obtain⟨f,hf2⟩:=tm (a:=a) (n:=n) (cap:=cap) (d:=y2.1) (p:=y2.2) ⟨k',by simpa[Value.cells]using h2⟩;obtain⟨t,ht⟩:=vu (a:=a') (n:=m) (cap:=cap') (d:=y3.1) (p:=y3.2) ⟨k',by simpa[Value.cells]using h3⟩;exact⟨now,shift,a,n,cap,f,a',m,cap',t,rfl,hf2,ht⟩
end Go.Proofs.YtlmcblcijndipabGreatDoor
