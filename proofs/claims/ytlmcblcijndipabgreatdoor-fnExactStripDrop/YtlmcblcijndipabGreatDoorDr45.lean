import Derived.Test.YtlmcblcijndipabGreatDoorDr44
import Derived.Test.YtlmcblcijndipabGreatDoorDr17
set_option linter.unusedVariables false
set_option maxHeartbeats 2000000
namespace Go.Proofs.YtlmcblcijndipabGreatDoor
open Go.RowKit
structure kY (T:TypeId)(lo hi:Nat)(w w':World):Prop where
 size:w.heap.size<=w'.heap.size
 block:∀k,k<w.heap.size->(k<lo\/hi<=k\/∃cs T',T'≠T/\w.heap[k]?=some (.cells cs T' (0,0)))->w'.heap[k]?=w.heap[k]?
 below:Below lo w w'
structure xl (lo hi:Nat)(w w':World):Prop where
 size:w.heap.size<=w'.heap.size
 block:∀k,k<w.heap.size->(k<lo\/hi<=k)->w'.heap[k]?=w.heap[k]?
 below:Below lo w w'
theorem kY.mid {T:TypeId}{lo hi:Nat}{w w':World}(h:kY T lo hi w w'):xl lo hi w w':=⟨h.size,λk hk h'=>h.block k hk (h'.elim .inl (λx=>.inr (.inl x))),h.below⟩
theorem xl.trans {lo hi:Nat}{a b c:World}(h:xl lo hi a b)(k:xl lo hi b c):xl lo hi a c:=⟨Nat.le_trans h.size k.size,λi hi' h'=>(k.block i (Nat.lt_of_lt_of_le hi' h.size) h').trans (h.block i hi' h'),h.below.trans k.below⟩
theorem xl.of {lo hi:Nat}{w w':World}(h:Below w.heap.size w w')(hlo:lo<=w.heap.size):xl lo hi w w':=⟨h.size,λk hk _=>h.block k hk,h.mono hlo⟩
theorem kY.refl (T:TypeId)(lo hi:Nat)(w:World):kY T lo hi w w:=⟨Nat.le_refl _,λ_ _ _=>rfl,Below.refl _ _⟩
def rk (w:World)(b n:Nat)(g:Nat->ByteArray):Prop:=∀i,i<n->w.cell? ⟨b,i,none⟩=some (.string (g i))
def di (w:World)(lo hi:Nat)(v:Value)(n:Nat)(f:Nat->Mv):Prop:=
 (n=0/\∃a c,v=.slice a 0 c)\/∃B c cs,v=.slice (some ⟨B,0,none⟩) n c/\lo<=B/\B<hi/\hi<=w.heap.size/\w.heap[B]?=some (.cells cs 36 (0,0))/\n*6<=cs.size/\al w B 0 n f
def df (w:World)(lo hi:Nat)(v:Value)(n:Nat)(g:Nat->Int):Prop:=
 (n=0/\∃a c,v=.slice a 0 c)\/∃B c cs,v=.slice (some ⟨B,0,none⟩) n c/\lo<=B/\B<hi/\hi<=w.heap.size/\w.heap[B]?=some (.cells cs 3 (0,0))/\n<=cs.size/\ag w B 0 n g
def mE (w:World)(lo hi:Nat)(v:Value)(n:Nat)(g:Nat->ByteArray):Prop:=
 (n=0/\∃a c,v=.slice a 0 c)\/∃B c cs,v=.slice (some ⟨B,0,none⟩) n c/\lo<=B/\B<hi/\hi<=w.heap.size/\w.heap[B]?=some (.cells cs 9 (0,0))/\n<=cs.size/\rk w B n g
theorem rk.same {w w':World}{b n:Nat}{g:Nat->ByteArray}(h:rk w b n g)(e:w'.heap[b]?=w.heap[b]?):rk w' b n g:=λi hi=>(World.cell?_of_block (a:=⟨b,i,none⟩) e).trans (h i hi)
theorem di.keep {w w':World}{lo hi:Nat}{v:Value}{n:Nat}{f:Nat->Mv}(h:di w lo hi v n f)(hz:w.heap.size<=w'.heap.size)(e:hi<=w.heap.size->∀B cs,lo<=B->B<hi->w.heap[B]?=some (.cells cs 36 (0,0))->w'.heap[B]?=w.heap[B]?):di w' lo hi v n f:=by
 rcases h with h|⟨B,c,cs,h1,h3,h4,h5,h6,h7,h8⟩
 .exact .inl h
 .have:=e h5 B cs h3 h4 h6;exact .inr ⟨B,c,cs,h1,h3,h4,Nat.le_trans h5 hz,this.trans h6,h7,h8.same this⟩
theorem df.keep {w w':World}{lo hi:Nat}{v:Value}{n:Nat}{g:Nat->Int}(h:df w lo hi v n g)(hz:w.heap.size<=w'.heap.size)(e:hi<=w.heap.size->∀B cs,lo<=B->B<hi->w.heap[B]?=some (.cells cs 3 (0,0))->w'.heap[B]?=w.heap[B]?):df w' lo hi v n g:=by
 rcases h with h|⟨B,c,cs,h1,h3,h4,h5,h6,h7,h8⟩
 .exact .inl h
 .have:=e h5 B cs h3 h4 h6;exact .inr ⟨B,c,cs,h1,h3,h4,Nat.le_trans h5 hz,this.trans h6,h7,h8.same this⟩
theorem mE.keep {w w':World}{lo hi:Nat}{v:Value}{n:Nat}{g:Nat->ByteArray}(h:mE w lo hi v n g)(hz:w.heap.size<=w'.heap.size)(e:hi<=w.heap.size->∀B cs,lo<=B->B<hi->w.heap[B]?=some (.cells cs 9 (0,0))->w'.heap[B]?=w.heap[B]?):mE w' lo hi v n g:=by
 rcases h with h|⟨B,c,cs,h1,h3,h4,h5,h6,h7,h8⟩
 .exact .inl h
 .have:=e h5 B cs h3 h4 h6;exact .inr ⟨B,c,cs,h1,h3,h4,Nat.le_trans h5 hz,this.trans h6,h7,h8.same this⟩
structure Dh (w:World)(lo hi:Nat)(v:Value)(n:Nat)(f:Nat->Mv)(u:Value)(m:Nat)(t:Nat->Int)(s:Value)(k:Nat)(g:Nat->ByteArray):Prop where
 mv:di w lo hi v n f
 tk:df w lo hi u m t
 nm:mE w lo hi s k g
theorem ot (a a':Option Addr)(cap cap':Nat)(w:World):
  Calls Tryz0.prog 40 #[.slice a 0 cap,.slice a' 0 cap'] w λe w'=>e=.returned (.bool true)/\Below w.heap.size w w':=by
 go_enter Tryz0.func40,Tryz.ntmps40
 go_wp2;go_loopw [5] (λi w'=>i=.int .i64 0/\Below w.heap.size w w') (λ_ _=>0)
 case atStart=>exact⟨rfl,Below.refl _ _⟩
 case round=>
  obtain⟨rfl,hB⟩:=hrel;go_wp2;go_ret;exact⟨rfl,hB⟩
theorem Au {w:World}{lo hi lo' hi':Nat}{v v':Value}{n:Nat}{f:Nat->Mv}(hn:n<=1048576)(h:di w lo hi v n f)(h':di w lo' hi' v' n f):
  Calls Tryz0.prog 40 #[v,v'] w λe w'=>e=.returned (.bool true)/\Below w.heap.size w w':=by
 rcases h with⟨rfl,a,c,rfl⟩|⟨B,c,cs,rfl,_,hB,hz,hg,_,hr⟩
 .rcases h' with⟨_,a',c',rfl⟩|⟨B',c',cs',rfl,_⟩
  .exact ot _ _ _ _ _
  .exact ot _ _ _ _ _
 .rcases h' with⟨rfl,a',c',rfl⟩|⟨B',c',cs',rfl,_,hB',hz',hg',_,hr'⟩
  .exact ot _ _ _ _ _
  .exact y8 B 0 c B' 0 c' n f w hn (by omega) hr (by omega) hr'
theorem Av {w:World}{lo hi lo' hi':Nat}{v v':Value}{n:Nat}{g:Nat->Int}(hn:n<=1048576)(h:df w lo hi v n g)(h':df w lo' hi' v' n g):
  Calls Tryz0.prog 41 #[v,v'] w λe w'=>e=.returned (.bool true)/\Below w.heap.size w w':=by
 rcases h with⟨rfl,a,c,rfl⟩|⟨B,c,cs,rfl,_,hB,hz,hg,_,hr⟩
 .rcases h' with⟨_,a',c',rfl⟩|⟨B',c',cs',rfl,_⟩
  .exact nB _ _ _ _ _
  .exact nB _ _ _ _ _
 .rcases h' with⟨rfl,a',c',rfl⟩|⟨B',c',cs',rfl,_,hB',hz',hg',_,hr'⟩
  .exact nB _ _ _ _ _
  .exact yk B 0 c B' 0 c' n g w hn (by omega) hr (by omega) hr'
theorem Aw {w:World}{B n k:Nat}{f:Nat->Mv}{cur:Array Value}{T:TypeId}(h:al w B 0 n f)(hg:w.heap[B]?=some (.cells cur T (0,0)))(hs:n*6<=cur.size)(hk:k<n)(m:Mv):al (ix w B (k*6) m) B 0 n (λj=>if j=k then m else f j):=by
 intro i hi;by_cases e:i=k
 .subst e;simp only[if_true];rw[Nat.zero_add];exact sw w B (i*6) m cur T hg (by omega)
 .simp only[if_neg e];obtain⟨c0,c1,c2,c3,c4,c5⟩:=h i hi;have o:∀j,j<6->(ix w B (k*6) m).cell? ⟨B,0+i*6+j,none⟩=w.cell? ⟨B,0+i*6+j,none⟩:=λj hj=>cY w B (k*6) m _ (by omega)
  exact⟨(o 0 (by omega)).trans c0,(o 1 (by omega)).trans c1,(o 2 (by omega)).trans c2,(o 3 (by omega)).trans c3,(o 4 (by omega)).trans c4,(o 5 (by omega)).trans c5⟩
theorem al.congr {w:World}{b off n:Nat}{f f':Nat->Mv}(h:al w b off n f)(e:∀i,i<n->f i=f' i):al w b off n f':=λi hi=>by rw[<-e i hi];exact h i hi
def dj (k:Int)(i:Nat):Mv:=⟨gN (k+i*6),(k+i*6+1)%3==0,k+i*6+1+1,k+i*6+1+1+1,k+i*6+1+1+1+1,k+i*6+1+1+1+1+1⟩
theorem tf {T:TypeId}{lo hi B:Nat}{w w':World}{cs:Array Value}(h:fH B w w')(h1:lo<=B)(h2:B<hi)(hg:w.heap[B]?=some (.cells cs T (0,0)))(hb:Below lo w w'):kY T lo hi w w':=
 ⟨h.size,λk hk h'=>h.block k hk (λe=>by
  subst e;rcases h' with h'|h'|⟨cs',T',hne,h'⟩
  .omega
  .omega
  .rw[hg]at h';simp at h';exact hne h'.2.symm),hb⟩
theorem wU {w:World}{lo hi:Nat}{v:Value}{n:Nat}{f:Nat->Mv}(k:Int)(hn:n<=1048576)(h0:0<=k)(h1:k<=10000000)(h:di w lo hi v n f):
  Calls Tryz0.prog 42 #[v,.int .i64 k] w λe w'=>e=.returned (.int .i64 (k+n*6))/\di w' lo hi v n (dj k)/\kY 36 lo hi w w':=by
 rcases h with⟨rfl,a,c,rfl⟩|⟨B,c,cs,rfl,hlo,hhi,hz,hg,hs,hr⟩
 .go_enter Tryz0.func42,Tryz.ntmps42
  go_wp2;go_loopw [1,5] (λx i wr=>i=.int .i64 0/\x=.int .i64 k/\wr=w) (λ_ _ _=>0)
  case atStart=>exact⟨rfl,rfl,rfl⟩
  case round=>
   obtain⟨rfl,rfl,rfl⟩:=hrel;go_wp2;go_ret;exact⟨by simp,.inl ⟨rfl,a,c,rfl⟩,kY.refl _ _ _ _⟩
 .go_enter Tryz0.func42,Tryz.ntmps42
  go_wp2;go_loopw [1,5] (λx i wr=>∃j:Nat,j<=n/\i=.int .i64 j/\x=.int .i64 (k+j*6)/\(∃cs,wr.heap[B]?=some (.cells cs 36 (0,0))/\n*6<=cs.size)/\al wr B 0 n (λi=>if i<j then dj k i else f i)/\fH B w wr/\Below lo w wr) (λ_ i _=>n-(intOf i).toNat)
  case atStart=>exact⟨0,Nat.zero_le _,rfl,by simp,⟨cs,hg,hs⟩,hr.congr (λi hi=>by simp),fH.refl _ _,Below.refl _ _⟩
  case round=>
   obtain⟨j,hj,rfl,rfl,⟨cs',hg',hs'⟩,hr',hbut,hB⟩:=hrel;by_cases hlt:j<n
   .have hlt':(j:Int)<n:=by omega
    have HT:=mq (k+j*6) wr (by omega) (by omega);obtain⟨mb,hmb⟩:∃mb,mb=gN (k+j*6):=⟨_,rfl⟩;rw[<-hmb]at HT;have HMB:Hid (mb=gN (k+j*6)):=hmb;clear hmb;have hzb:B<wr.heap.size:=(Array.getElem?_eq_some_iff.1 hg').1;go_wp2_with(go_at_call 50;refine HT.mono ?_;clear HT;rintro e w1 ⟨rfl,hb1⟩;have hg1:=(hb1.block B hzb).trans hg';have hr1:=hr'.below hb1 hzb;obtain⟨e0,e1,e2,e3,e4,e5⟩:=hr1 j hlt;simp only[Nat.zero_add]at e0 e1 e2 e3 e4 e5;have hfz:=λi=>frozen_of_row w1 B i _ _ hg1)
    have hbut1:fH B w w1:=hbut.trans (fH.of hb1);have hB1:Below lo w w1:=hB.trans (hb1.mono (by omega));obtain⟨m',hm'⟩:∃m':Mv,m'=⟨mb,(k+j*6+1)%3==0,k+j*6+1+1,k+j*6+1+1+1,k+j*6+1+1+1+1,k+j*6+1+1+1+1+1⟩:=⟨_,rfl⟩;have hmk:m'=dj k j:=by rw[hm',HMB.out];rfl
    have hW:((((((w1.setCell ⟨B,j*6,none⟩ (.string mb)).setCell ⟨B,j*6+1,none⟩ (.bool ((k+j*6+1)%3==0))).setCell ⟨B,j*6+2,none⟩ (.int .i64 (k+j*6+1+1))).setCell ⟨B,j*6+3,none⟩ (.int .i64 (k+j*6+1+1+1))).setCell ⟨B,j*6+4,none⟩ (.int .i64 (k+j*6+1+1+1+1))).setCell ⟨B,j*6+5,none⟩ (.int .i64 (k+j*6+1+1+1+1+1)))=ix w1 B (j*6) m':=by rw[hm'];rfl
    rw[hW];obtain⟨cs2,hg2,hs2⟩:=nK w1 B (j*6) m' _ _ hg1;have hr2:=Aw hr1 hg1 hs' hlt m';have hbut2:fH B w (ix w1 B (j*6) m'):=(((((hbut1.setCell _ _).setCell _ _).setCell _ _).setCell _ _).setCell _ _).setCell _ _;have hB2:Below lo w (ix w1 B (j*6) m'):=mg hB1 hlo _ _;refine⟨⟨j+1,by omega,by simp,congrArg (Value.int .i64) (by omega),⟨cs2,hg2,by omega⟩,hr2.congr (λi hi=>?_),hbut2,hB2⟩,by simp[intOf];omega⟩;by_cases e:i=j
    .subst e;rw[if_pos rfl,if_pos (by omega)];exact hmk
    .simp only[if_neg e];by_cases h:i<j
     .rw[if_pos h,if_pos (by omega)]
     .rw[if_neg h,if_neg (by omega)]
   .have hjn:j=n:=by omega
    subst hjn;go_wp2;go_ret;exact⟨rfl,.inr ⟨B,c,cs',rfl,hlo,hhi,Nat.le_trans hz hbut.size,hg',hs',hr'.congr (λi hi=>by rw[if_pos hi])⟩,tf hbut hlo hhi hg hB⟩
theorem ag.put {w:World}{b n k:Nat}{t:Nat->Int}(h:ag w b 0 n t)(hk:k<n)(x:Int):ag (w.setCell ⟨b,k,none⟩ (.int .i64 x)) b 0 n (λp=>if p=k then x else t p):=λi hi=>by
 rw[Nat.zero_add];by_cases e:i=k
 .subst e;have h1:=h i hi;rw[Nat.zero_add]at h1;simp only[if_true];exact World.cell?_setCell_same' _ _ _ (by rw[h1];rfl)
 .rw[World.cell?_setCell_other _ _ _ _ (by intro e';cases e';exact e rfl)];simp only[if_neg e];have h1:=h i hi;rw[Nat.zero_add]at h1;exact h1
theorem ag.cong {w:World}{b off n:Nat}{g g':Nat->Int}(h:ag w b off n g)(e:∀i,i<n->g i=g' i):ag w b off n g':=λi hi=>by rw[<-e i hi];exact h i hi
theorem wV {w:World}{lo hi:Nat}{v:Value}{n:Nat}{g:Nat->Int}(k:Int)(hn:n<=1048576)(h0:0<=k)(h1:k<=100000000)(h:df w lo hi v n g):
  Calls Tryz0.prog 43 #[v,.int .i64 k] w λe w'=>e=.returned (.int .i64 (k+n))/\df w' lo hi v n (λi=>k+i)/\kY 3 lo hi w w':=by
 rcases h with⟨rfl,a,c,rfl⟩|⟨B,c,cs,rfl,hlo,hhi,hz,hg,hs,hr⟩
 .go_enter Tryz0.func43,Tryz.ntmps43
  go_wp2;go_loopw [1,5] (λx i wr=>i=.int .i64 0/\x=.int .i64 k/\wr=w) (λ_ _ _=>0)
  case atStart=>exact⟨rfl,rfl,rfl⟩
  case round=>
   obtain⟨rfl,rfl,rfl⟩:=hrel;go_wp2;go_ret;exact⟨by simp,.inl ⟨rfl,a,c,rfl⟩,kY.refl _ _ _ _⟩
 .go_enter Tryz0.func43,Tryz.ntmps43
  go_wp2;go_loopw [1,5] (λx i wr=>∃j:Nat,j<=n/\i=.int .i64 j/\x=.int .i64 (k+j)/\(∃cs,wr.heap[B]?=some (.cells cs 3 (0,0))/\n<=cs.size)/\ag wr B 0 n (λi=>if i<j then k+i else g i)/\fH B w wr/\Below lo w wr) (λ_ i _=>n-(intOf i).toNat)
  case atStart=>exact⟨0,Nat.zero_le _,rfl,by simp,⟨cs,hg,hs⟩,hr.cong (λi hi=>by simp),fH.refl _ _,Below.refl _ _⟩
  case round=>
   obtain⟨j,hj,rfl,rfl,⟨cs',hg',hs'⟩,hr',hbut,hB⟩:=hrel;by_cases hlt:j<n
   .have hlt':(j:Int)<n:=by omega
    have hd:=hr' j hlt;simp only[Nat.zero_add]at hd;have hfz:=frozen_of_row wr B j _ _ hg';have hg2:=heap_setCell_same wr B j _ _ (.int .i64 (k+j)) hg';go_wp2;go_roundw
    case rel=>exact⟨j+1,by omega,by go_num,by go_num,⟨_,hg2,by simpa using hs'⟩,(hr'.put hlt (k+j)).cong (λi hi=>by
     by_cases e:i=j
     .subst e;rw[if_pos rfl,if_pos (by omega)]
     .simp only[if_neg e];by_cases h:i<j
      .rw[if_pos h,if_pos (by omega)]
      .rw[if_neg h,if_neg (by omega)]),hbut.setCell _ _,hB.setCell hlo _⟩
    case measure=>simp[intOf];omega
   .have hjn:j=n:=by omega
    subst hjn;go_wp2;go_ret;exact⟨rfl,.inr ⟨B,c,cs',rfl,hlo,hhi,Nat.le_trans hz hbut.size,hg',hs',hr'.cong (λi hi=>by rw[if_pos hi])⟩,tf hbut hlo hhi hg hB⟩
theorem wW {w:World}{lo hi:Nat}{v:Value}{n:Nat}(k:Int)(hn:n<=1048576)(h0:0<=k)(h1:k<=100000000)(h:df w lo hi v n (λi=>k+i)):
  Calls Tryz0.prog 45 #[v,.int .i64 k] w λe w'=>e=.returned (.int .i64 (k+n))/\Below w.heap.size w w':=by
 rcases h with⟨rfl,a,c,rfl⟩|⟨B,c,cs,rfl,hlo,hhi,hz,hg,hs,hr⟩
 .go_enter Tryz0.func45,Tryz.ntmps45
  go_wp2;go_loopw [1,5] (λx i wr=>i=.int .i64 0/\x=.int .i64 k/\wr=w) (λ_ _ _=>0)
  case atStart=>exact⟨rfl,rfl,rfl⟩
  case round=>
   obtain⟨rfl,rfl,rfl⟩:=hrel;go_wp2;go_ret;exact⟨by simp,Below.refl _ _⟩
 .go_enter Tryz0.func45,Tryz.ntmps45
  go_wp2;go_loopw [1,5] (λx i wr=>∃j:Nat,j<=n/\i=.int .i64 j/\x=.int .i64 (k+j)/\Below w.heap.size w wr) (λ_ i _=>n-(intOf i).toNat)
  case atStart=>exact⟨0,Nat.zero_le _,rfl,by simp,Below.refl _ _⟩
  case round=>
   obtain⟨j,hj,rfl,rfl,hB⟩:=hrel;by_cases hlt:j<n
   .have hlt':(j:Int)<n:=by omega
    have hd:=(hr.below hB (by omega)) j hlt;simp only[Nat.zero_add]at hd;go_wp2;go_roundw
    case rel=>exact⟨j+1,by omega,by go_num,by go_num,hB⟩
    case measure=>simp[intOf];omega
   .have hjn:j=n:=by omega
    subst hjn;go_wp2;go_ret;exact⟨rfl,hB⟩
theorem wX {w:World}{lo hi:Nat}{v:Value}{n:Nat}(k:Int)(hn:n<=1048576)(h0:0<=k)(h1:k<=10000000)(h:di w lo hi v n (dj k)):
  Calls Tryz0.prog 44 #[v,.int .i64 k] w λe w'=>e=.returned (.int .i64 (k+n*6))/\Below w.heap.size w w':=by
 rcases h with⟨rfl,a,c,rfl⟩|⟨B,c,cs,rfl,hlo,hhi,hz,hg,hs,hr⟩
 .go_enter Tryz0.func44,Tryz.ntmps44
  go_wp2;go_loopw [1,5] (λx i wr=>i=.int .i64 0/\x=.int .i64 k/\wr=w) (λ_ _ _=>0)
  case atStart=>exact⟨rfl,rfl,rfl⟩
  case round=>
   obtain⟨rfl,rfl,rfl⟩:=hrel;go_wp2;go_ret;exact⟨by simp,Below.refl _ _⟩
 .go_enter Tryz0.func44,Tryz.ntmps44
  go_wp2;go_loopw [1,5] (λx i wr=>∃j:Nat,j<=n/\i=.int .i64 j/\x=.int .i64 (k+j*6)/\Below w.heap.size w wr) (λ_ i _=>n-(intOf i).toNat)
  case atStart=>exact⟨0,Nat.zero_le _,rfl,by simp,Below.refl _ _⟩
  case round=>
   obtain⟨j,hj,rfl,rfl,hB⟩:=hrel;by_cases hlt:j<n
   .have hlt':(j:Int)<n:=by omega
    obtain⟨d0,d1,d2,d3,d4,d5⟩:=(hr.below hB (by omega)) j hlt;simp only[Nat.zero_add,dj]at d0 d1 d2 d3 d4 d5;obtain⟨mb,hmb⟩:∃mb,mb=gN (k+j*6):=⟨_,rfl⟩;have HT:∀x:af wr,Calls Tryz0.prog 50 #[.int .i64 (k+j*6)] x.at_ λe w'=>e=.returned (.string mb)/\Below x.at_.heap.size x.at_ w':=λx=>by
     rw[hmb];exact mq (k+j*6) x.at_ (by omega) (by omega)
    rw[<-hmb]at d0;clear hmb;have hne:=ax wr;have c0:=λx:af wr=>x.cell d0
    go_wp2;refine ae (by kernel_rfl) (by kernel_rfl) ?_;repeat(go_big_quiet_step ((go_at_call 50;exact aA (HT _))))
    refine wpQuiet_nil (ak ?_);intro w1 hb1;have lB:B<wr.heap.size:=Nat.lt_of_lt_of_le (by omega) hB.size;have e1:=(hb1.cell (p:=⟨B,j*6+1,none⟩) lB).trans d1;have e2:=(hb1.cell (p:=⟨B,j*6+2,none⟩) lB).trans d2;have e3:=(hb1.cell (p:=⟨B,j*6+3,none⟩) lB).trans d3;have e4:=(hb1.cell (p:=⟨B,j*6+4,none⟩) lB).trans d4;have e5:=(hb1.cell (p:=⟨B,j*6+5,none⟩) lB).trans d5;clear c0 hne d0 d1 d2 d3 d4 d5 HT;go_wp2;go_roundw
    case rel=>exact⟨j+1,by omega,by go_num,congrArg (Value.int .i64) (by omega),hB.trans (hb1.mono hB.size)⟩
    case measure=>simp[intOf];omega
   .have hjn:j=n:=by omega
    subst hjn;go_wp2;go_ret;exact⟨rfl,hB⟩
abbrev zc (now shift:Int)(v u:Value):Value:=.agg #[.int .i64 now,.int .i64 shift,v,u]
theorem di.sl {w:World}{lo hi:Nat}{v:Value}{n:Nat}{f:Nat->Mv}(h:di w lo hi v n f):∃a c,v=.slice a n c:=by
 rcases h with⟨rfl,a,c,rfl⟩|⟨B,c,cs,rfl,_⟩
 .exact⟨a,c,rfl⟩
 .exact⟨_,c,rfl⟩
theorem df.sl {w:World}{lo hi:Nat}{v:Value}{n:Nat}{g:Nat->Int}(h:df w lo hi v n g):∃a c,v=.slice a n c:=by
 rcases h with⟨rfl,a,c,rfl⟩|⟨B,c,cs,rfl,_⟩
 .exact⟨a,c,rfl⟩
 .exact⟨_,c,rfl⟩
theorem di.below {w w':World}{N lo hi:Nat}{v:Value}{n:Nat}{f:Nat->Mv}(h:di w lo hi v n f)(hb:Below N w w')(hN:hi<=N):di w' lo hi v n f:=h.keep hb.size (λ_ B _ _ hB _=>hb.block B (by omega))
theorem df.below {w w':World}{N lo hi:Nat}{v:Value}{n:Nat}{f:Nat->Int}(h:df w lo hi v n f)(hb:Below N w w')(hN:hi<=N):df w' lo hi v n f:=h.keep hb.size (λ_ B _ _ hB _=>hb.block B (by omega))
theorem mE.below {w w':World}{N lo hi:Nat}{v:Value}{n:Nat}{f:Nat->ByteArray}(h:mE w lo hi v n f)(hb:Below N w w')(hN:hi<=N):mE w' lo hi v n f:=h.keep hb.size (λ_ B _ _ hB _=>hb.block B (by omega))
theorem di.midT {w w':World}{T:TypeId}{lo hi:Nat}{v:Value}{n:Nat}{f:Nat->Mv}(h:di w lo hi v n f)(hm:kY T lo hi w w')(hT:36≠T):di w' lo hi v n f:=h.keep hm.size (λh5 B cs _ hB hg=>hm.block B (by omega) (.inr (.inr ⟨cs,_,hT,hg⟩)))
theorem df.midT {w w':World}{T:TypeId}{lo hi:Nat}{v:Value}{n:Nat}{f:Nat->Int}(h:df w lo hi v n f)(hm:kY T lo hi w w')(hT:3≠T):df w' lo hi v n f:=h.keep hm.size (λh5 B cs _ hB hg=>hm.block B (by omega) (.inr (.inr ⟨cs,_,hT,hg⟩)))
theorem mE.midT {w w':World}{T:TypeId}{lo hi:Nat}{v:Value}{n:Nat}{f:Nat->ByteArray}(h:mE w lo hi v n f)(hm:kY T lo hi w w')(hT:9≠T):mE w' lo hi v n f:=h.keep hm.size (λh5 B cs _ hB hg=>hm.block B (by omega) (.inr (.inr ⟨cs,_,hT,hg⟩)))
theorem th (now shift:Int){w:World}{lo hi lo' hi':Nat}{v v' u u':Value}{n m:Nat}{f:Nat->Mv}{t:Nat->Int}(hn:n<=1048576)(hm:m<=1048576)(h1:di w lo hi v n f)(h2:di w lo' hi' v' n f)(h3:df w lo hi u m t)(h4:df w lo' hi' u' m t)(hh:hi<=w.heap.size)(hh':hi'<=w.heap.size):
  Calls Tryz0.prog 14 #[zc now shift v u,zc now shift v' u'] w λe w'=>e=.returned (.bool true)/\Below w.heap.size w w':=by
 have bA:∀o1 o2,Below w.heap.size w ((w.alloc o1).alloc o2):=λo1 o2=>((Below.refl _ w).alloc (Nat.le_refl _) _).alloc (by simp) _
 have H1:∀W,Below w.heap.size w W->Calls Tryz0.prog 40 #[v,v'] W λe w'=>e=.returned (.bool true)/\Below W.heap.size W w':=λW hW=>Au hn (h1.below hW hh) (h2.below hW hh')
 have H2:∀W,Below w.heap.size w W->Calls Tryz0.prog 41 #[u,u'] W λe w'=>e=.returned (.bool true)/\Below W.heap.size W w':=λW hW=>Av hm (h3.below hW hh) (h4.below hW hh')
 obtain⟨a1,c1,rfl⟩:=h1.sl;obtain⟨a2,c2,rfl⟩:=h2.sl;obtain⟨a3,c3,rfl⟩:=h3.sl;obtain⟨a4,c4,rfl⟩:=h4.sl;clear h1 h2 h3 h4;go_enter Tryz0.func14,Tryz.ntmps14
 go_wp2_with(first
  |(go_at_call 40;refine(H1 _ (bA _ _)).mono ?_;clear H1;rintro e w1 ⟨rfl,b1⟩;have B1:=(bA _ _).trans (b1.mono (bA _ _).size);obtain⟨hc1,hf1⟩:=dB b1)
  |(go_at_call 41;refine(H2 _ B1).mono ?_;clear H2;rintro e w2 ⟨rfl,b2⟩))
 go_ret;exact⟨rfl,B1.trans (b2.mono B1.size)⟩
theorem uF (now shift:Int)(k:Int){w:World}{lo hi:Nat}{v u:Value}{n m:Nat}(hn:n<=1048576)(hm:m<=1048576)(h0:0<=k)(hk:k<=1000000)(h1:di w lo hi v n (dj k))(h3:df w lo hi u m (λi=>k+n*6+i))(hh:hi<=w.heap.size):
  Calls Tryz0.prog 16 #[zc now shift v u,.int .i64 k] w λe w'=>e=.returned (.int .i64 (k+n*6+m))/\Below w.heap.size w w':=by
 have bA:∀o,Below w.heap.size w (w.alloc o):=λo=>(Below.refl _ w).alloc (Nat.le_refl _) _
 obtain⟨a1,c1,rfl⟩:=h1.sl;obtain⟨a3,c3,rfl⟩:=h3.sl;have H1:∀o,Calls Tryz0.prog 44 #[.slice a1 n c1,.int .i64 k] (w.alloc o) λe w'=>e=.returned (.int .i64 (k+n*6))/\Below (w.alloc o).heap.size (w.alloc o) w':=λo=>wX k hn h0 (by omega) (h1.below (bA o) hh)
 have H2:∀W,Below w.heap.size w W->Calls Tryz0.prog 45 #[.slice a3 m c3,.int .i64 (k+n*6)] W λe w'=>e=.returned (.int .i64 (k+n*6+m))/\Below W.heap.size W w':=λW hW=>wW (k+n*6) hm (by omega) (by omega) (h3.below hW hh)
 clear h1 h3;go_enter Tryz0.func16,Tryz.ntmps16
 go_wp2_with(first
  |(go_at_call 44;refine(H1 _).mono ?_;clear H1;rintro e w1 ⟨rfl,b1⟩;have B1:=(bA _).trans (b1.mono (bA _).size);obtain⟨hc1,hf1⟩:=dB b1)
  |(go_at_call 45;refine(H2 _ B1).mono ?_;clear H2;rintro e w2 ⟨rfl,b2⟩))
 all_goals first|(exfalso;omega)|skip
 go_ret;exact⟨rfl,B1.trans (b2.mono B1.size)⟩
theorem vz {w:World}{lo hi B n:Nat}{f:Nat->Mv}(h:fd w B n)(hr:al w B 0 n f)(hl:lo<=B)(hh:hi=w.heap.size):di w lo hi (.slice (some ⟨B,0,none⟩) n n) n f:=by
 have hlt:=h.lt;obtain⟨cs,h1,h2⟩:=h;exact .inr ⟨B,n,cs,rfl,hl,by omega,by omega,h1,by omega,hr⟩
theorem vA {w:World}{lo hi B n:Nat}{t:Nat->Int}(h:aj w B n t)(hl:lo<=B)(hh:hi=w.heap.size):df w lo hi (.slice (some ⟨B,0,none⟩) n n) n t:=by
 have hlt:=h.lt;obtain⟨⟨cs,h1,h2⟩,h3⟩:=h;exact .inr ⟨B,n,cs,rfl,hl,by omega,by omega,h1,by omega,h3⟩
theorem tq (now shift:Int)(k:Int){w:World}{lo hi:Nat}{v u:Value}{n m:Nat}{f:Nat->Mv}{t:Nat->Int}(hn:n<=1048576)(hm:m<=1048576)(h0:0<=k)(hk:k<=1000000)(h1:di w lo hi v n f)(h3:df w lo hi u m t)(hlo:lo<=hi)(hh:hi<=w.heap.size):
  Calls Tryz0.prog 15 #[zc now shift v u,.int .i64 k] w λe w'=>e=.returned (.int .i64 (k+n*6+m))/\di w' lo hi v n (dj k)/\df w' lo hi u m (λi=>k+n*6+i)/\xl lo hi w w'/\∀s k g,mE w lo hi s k g->mE w' lo hi s k g:=by
 have bA:∀o,Below w.heap.size w (w.alloc o):=λo=>(Below.refl _ w).alloc (Nat.le_refl _) _
 obtain⟨a1,c1,rfl⟩:=h1.sl;obtain⟨a3,c3,rfl⟩:=h3.sl;have H1:∀o,Calls Tryz0.prog 42 #[.slice a1 n c1,.int .i64 k] (w.alloc o) λe w'=>e=.returned (.int .i64 (k+n*6))/\di w' lo hi (.slice a1 n c1) n (dj k)/\kY 36 lo hi (w.alloc o) w':=λo=>wU k hn h0 (by omega) (h1.below (bA o) hh)
 have H2:∀W,df W lo hi (.slice a3 m c3) m t->Calls Tryz0.prog 43 #[.slice a3 m c3,.int .i64 (k+n*6)] W λe w'=>e=.returned (.int .i64 (k+n*6+m))/\df w' lo hi (.slice a3 m c3) m (λi=>k+n*6+i)/\kY 3 lo hi W w':=λW hW=>wV (k+n*6) hm (by omega) (by omega) hW
 go_enter Tryz0.func15,Tryz.ntmps15
 go_wp2_with(first
  |(go_at_call 42;refine(H1 _).mono ?_;clear H1;rintro e w1 ⟨rfl,o1,m1⟩;have t1:=(h3.below (bA _) hh).midT m1 (by decide);have g1:=m1.block w.heap.size (by simp) (.inr (.inl hh));have k3:=World.cell?_of_block (a:=⟨w.heap.size,3,none⟩) g1;simp at k3)
  |(go_at_call 43;refine(H2 _ t1).mono ?_;clear H2;rintro e w2 ⟨rfl,o2,m2⟩;have o3:=o1.midT m2 (by decide)))
 go_ret;exact⟨rfl,o3,o2,((xl.of (bA _) (by omega)).trans m1.mid).trans m2.mid,λs k g hs=>((hs.below (bA _) hh).midT m1 (by decide)).midT m2 (by decide)⟩
end Go.Proofs.YtlmcblcijndipabGreatDoor
