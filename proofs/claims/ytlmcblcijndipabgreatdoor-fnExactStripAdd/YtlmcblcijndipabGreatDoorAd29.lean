import Derived.Test.YtlmcblcijndipabGreatDoorAd28
set_option linter.unusedVariables false
set_option maxHeartbeats 2000000
namespace Go.Proofs.YtlmcblcijndipabGreatDoor
open Go.RowKit
structure lE (T:TypeId)(lo hi:Nat)(w w':World):Prop where
 size:w.heap.size<=w'.heap.size
 block:∀k,k<w.heap.size->(k<lo\/hi<=k\/∃cs T',T'≠T/\w.heap[k]?=some (.cells cs T' (0,0)))->w'.heap[k]?=w.heap[k]?
 below:Below lo w w'
structure Av (lo hi:Nat)(w w':World):Prop where
 size:w.heap.size<=w'.heap.size
 block:∀k,k<w.heap.size->(k<lo\/hi<=k)->w'.heap[k]?=w.heap[k]?
 below:Below lo w w'
theorem lE.mid {T:TypeId}{lo hi:Nat}{w w':World}(h:lE T lo hi w w'):Av lo hi w w':=⟨h.size,λk hk h'=>h.block k hk (h'.elim .inl (λx=>.inr (.inl x))),h.below⟩
theorem Av.trans {lo hi:Nat}{a b c:World}(h:Av lo hi a b)(k:Av lo hi b c):Av lo hi a c:=⟨Gq h.size k.size,λi hi' h'=>(k.block i (Gn hi' h.size) h').trans (h.block i hi' h'),h.below.trans k.below⟩
theorem Av.of {lo hi:Nat}{w w':World}(h:Below w.heap.size w w')(hlo:lo<=w.heap.size):Av lo hi w w':=⟨h.size,λk hk _=>h.block k hk,h.mono hlo⟩
theorem lE.refl (T:TypeId)(lo hi:Nat)(w:World):lE T lo hi w w:=⟨Gm _,λ_ _ _=>rfl,Gb _ _⟩
def sv (w:World)(b n:Nat)(g:Nat->ByteArray):Prop:=∀i,i<n->w.cell? ⟨b,i,none⟩=some (.string (g i))
def cP (w:World)(lo hi:Nat)(v:Value)(n:Nat)(f:Nat->Mv):Prop:=
 (n=0/\∃a c,v=.slice a 0 c)\/∃B c cs,v=.slice (some ⟨B,0,none⟩) n c/\lo<=B/\B<hi/\hi<=w.heap.size/\w.heap[B]?=some (.cells cs 36 (0,0))/\n*6<=cs.size/\ak w B 0 n f
def cO (w:World)(lo hi:Nat)(v:Value)(n:Nat)(g:Nat->Int):Prop:=
 (n=0/\∃a c,v=.slice a 0 c)\/∃B c cs,v=.slice (some ⟨B,0,none⟩) n c/\lo<=B/\B<hi/\hi<=w.heap.size/\w.heap[B]?=some (.cells cs 3 (0,0))/\n<=cs.size/\al w B 0 n g
def nh (w:World)(lo hi:Nat)(v:Value)(n:Nat)(g:Nat->ByteArray):Prop:=
 (n=0/\∃a c,v=.slice a 0 c)\/∃B c cs,v=.slice (some ⟨B,0,none⟩) n c/\lo<=B/\B<hi/\hi<=w.heap.size/\w.heap[B]?=some (.cells cs 9 (0,0))/\n<=cs.size/\sv w B n g
theorem sv.same {w w':World}{b n:Nat}{g:Nat->ByteArray}(h:sv w b n g)(e:w'.heap[b]?=w.heap[b]?):sv w' b n g:=λi hi=>(Gi (a:=⟨b,i,none⟩) e).trans (h i hi)
theorem cP.keep {w w':World}{lo hi:Nat}{v:Value}{n:Nat}{f:Nat->Mv}(h:cP w lo hi v n f)(hz:w.heap.size<=w'.heap.size)(e:hi<=w.heap.size->∀B cs,lo<=B->B<hi->w.heap[B]?=some (.cells cs 36 (0,0))->w'.heap[B]?=w.heap[B]?):cP w' lo hi v n f:=by
 rcases h with h|⟨B,c,cs,h1,h3,h4,h5,h6,h7,h8⟩
 .exact .inl h
 .have:=e h5 B cs h3 h4 h6;exact .inr ⟨B,c,cs,h1,h3,h4,Gq h5 hz,this.trans h6,h7,h8.same this⟩
theorem cO.keep {w w':World}{lo hi:Nat}{v:Value}{n:Nat}{g:Nat->Int}(h:cO w lo hi v n g)(hz:w.heap.size<=w'.heap.size)(e:hi<=w.heap.size->∀B cs,lo<=B->B<hi->w.heap[B]?=some (.cells cs 3 (0,0))->w'.heap[B]?=w.heap[B]?):cO w' lo hi v n g:=by
 rcases h with h|⟨B,c,cs,h1,h3,h4,h5,h6,h7,h8⟩
 .exact .inl h
 .have:=e h5 B cs h3 h4 h6;exact .inr ⟨B,c,cs,h1,h3,h4,Gq h5 hz,this.trans h6,h7,h8.same this⟩
theorem nh.keep {w w':World}{lo hi:Nat}{v:Value}{n:Nat}{g:Nat->ByteArray}(h:nh w lo hi v n g)(hz:w.heap.size<=w'.heap.size)(e:hi<=w.heap.size->∀B cs,lo<=B->B<hi->w.heap[B]?=some (.cells cs 9 (0,0))->w'.heap[B]?=w.heap[B]?):nh w' lo hi v n g:=by
 rcases h with h|⟨B,c,cs,h1,h3,h4,h5,h6,h7,h8⟩
 .exact .inl h
 .have:=e h5 B cs h3 h4 h6;exact .inr ⟨B,c,cs,h1,h3,h4,Gq h5 hz,this.trans h6,h7,h8.same this⟩
structure EZ (w:World)(lo hi:Nat)(v:Value)(n:Nat)(f:Nat->Mv)(u:Value)(m:Nat)(t:Nat->Int)(s:Value)(k:Nat)(g:Nat->ByteArray):Prop where
 mv:cP w lo hi v n f
 tk:cO w lo hi u m t
 nm:nh w lo hi s k g
theorem po (a a':Option Addr)(cap cap':Nat)(w:World):
  Calls Tz.prog 40 #[.slice a 0 cap,.slice a' 0 cap'] w λe w'=>e=.returned (.bool true)/\Below w.heap.size w w':=by
 go_enter Tz.func40,Tryz.ntmps40
 go_wp2;go_loopw [5] (λi w'=>i=.int .i64 0/\Below w.heap.size w w') (λ_ _=>0)
 case atStart=>exact⟨rfl,Gb _ _⟩
 case round=>
  obtain⟨rfl,hB⟩:=hrel;go_wp2;go_ret;exact⟨rfl,hB⟩
theorem Ce {w:World}{lo hi lo' hi':Nat}{v v':Value}{n:Nat}{f:Nat->Mv}(hn:n<=1048576)(h:cP w lo hi v n f)(h':cP w lo' hi' v' n f):
  Calls Tz.prog 40 #[v,v'] w λe w'=>e=.returned (.bool true)/\Below w.heap.size w w':=by
 rcases h with⟨rfl,a,c,rfl⟩|⟨B,c,cs,rfl,_,hB,hz,hg,_,hr⟩
 .rcases h' with⟨_,a',c',rfl⟩|⟨B',c',cs',rfl,_⟩
  .exact po _ _ _ _ _
  .exact po _ _ _ _ _
 .rcases h' with⟨rfl,a',c',rfl⟩|⟨B',c',cs',rfl,_,hB',hz',hg',_,hr'⟩
  .exact po _ _ _ _ _
  .exact Au B 0 c B' 0 c' n f w hn (by omega) hr (by omega) hr'
theorem Cf {w:World}{lo hi lo' hi':Nat}{v v':Value}{n:Nat}{g:Nat->Int}(hn:n<=1048576)(h:cO w lo hi v n g)(h':cO w lo' hi' v' n g):
  Calls Tz.prog 41 #[v,v'] w λe w'=>e=.returned (.bool true)/\Below w.heap.size w w':=by
 rcases h with⟨rfl,a,c,rfl⟩|⟨B,c,cs,rfl,_,hB,hz,hg,_,hr⟩
 .rcases h' with⟨_,a',c',rfl⟩|⟨B',c',cs',rfl,_⟩
  .exact nH _ _ _ _ _
  .exact nH _ _ _ _ _
 .rcases h' with⟨rfl,a',c',rfl⟩|⟨B',c',cs',rfl,_,hB',hz',hg',_,hr'⟩
  .exact nH _ _ _ _ _
  .exact yT B 0 c B' 0 c' n g w hn (by omega) hr (by omega) hr'
theorem Cg {w:World}{B n k:Nat}{f:Nat->Mv}{cur:Array Value}{T:TypeId}(h:ak w B 0 n f)(hg:w.heap[B]?=some (.cells cur T (0,0)))(hs:n*6<=cur.size)(hk:k<n)(m:Mv):ak (iK w B (k*6) m) B 0 n (λj=>if j=k then m else f j):=by
 intro i hi;by_cases e:i=k
 .subst e;simp only[if_true];rw[Nat.zero_add];exact sI w B (i*6) m cur T hg (by omega)
 .simp only[if_neg e];obtain⟨c0,c1,c2,c3,c4,c5⟩:=h i hi;have o:∀j,j<6->(iK w B (k*6) m).cell? ⟨B,0+i*6+j,none⟩=w.cell? ⟨B,0+i*6+j,none⟩:=λj hj=>df w B (k*6) m _ (by omega)
  exact⟨(o 0 (by omega)).trans c0,(o 1 (by omega)).trans c1,(o 2 (by omega)).trans c2,(o 3 (by omega)).trans c3,(o 4 (by omega)).trans c4,(o 5 (by omega)).trans c5⟩
theorem ak.congr {w:World}{b off n:Nat}{f f':Nat->Mv}(h:ak w b off n f)(e:∀i,i<n->f i=f' i):ak w b off n f':=λi hi=>by rw[<-e i hi];exact h i hi
def gb (k:Int)(i:Nat):Mv:=⟨il (k+i*6),(k+i*6+1)%3==0,k+i*6+1+1,k+i*6+1+1+1,k+i*6+1+1+1+1,k+i*6+1+1+1+1+1⟩
theorem ug {T:TypeId}{lo hi B:Nat}{w w':World}{cs:Array Value}(h:fL B w w')(h1:lo<=B)(h2:B<hi)(hg:w.heap[B]?=some (.cells cs T (0,0)))(hb:Below lo w w'):lE T lo hi w w':=
 ⟨h.size,λk hk h'=>h.block k hk (λe=>by
  subst e;rcases h' with h'|h'|⟨cs',T',hne,h'⟩
  .omega
  .omega
  .rw[hg]at h';simp at h';exact hne h'.2.symm),hb⟩
theorem yz {w:World}{lo hi:Nat}{v:Value}{n:Nat}{f:Nat->Mv}(k:Int)(hn:n<=1048576)(h0:0<=k)(h1:k<=10000000)(h:cP w lo hi v n f):
  Calls Tz.prog 42 #[v,.int .i64 k] w λe w'=>e=.returned (.int .i64 (k+n*6))/\cP w' lo hi v n (gb k)/\lE 36 lo hi w w':=by
 rcases h with⟨rfl,a,c,rfl⟩|⟨B,c,cs,rfl,hlo,hhi,hz,hg,hs,hr⟩
 .go_enter Tz.func42,Tryz.ntmps42
  go_wp2;go_loopw [1,5] (λx i wr=>i=.int .i64 0/\x=.int .i64 k/\wr=w) (λ_ _ _=>0)
  case atStart=>exact⟨rfl,rfl,rfl⟩
  case round=>
   obtain⟨rfl,rfl,rfl⟩:=hrel;go_wp2;go_ret;exact⟨by simp,.inl ⟨rfl,a,c,rfl⟩,lE.refl _ _ _ _⟩
 .go_enter Tz.func42,Tryz.ntmps42
  go_wp2;go_loopw [1,5] (λx i wr=>∃j:Nat,j<=n/\i=.int .i64 j/\x=.int .i64 (k+j*6)/\(∃cs,wr.heap[B]?=some (.cells cs 36 (0,0))/\n*6<=cs.size)/\ak wr B 0 n (λi=>if i<j then gb k i else f i)/\fL B w wr/\Below lo w wr) (λ_ i _=>n-(intOf i).toNat)
  case atStart=>exact⟨0,Gs _,rfl,by simp,⟨cs,hg,hs⟩,hr.congr (λi hi=>by simp),fL.refl _ _,Gb _ _⟩
  case round=>
   obtain⟨j,hj,rfl,rfl,⟨cs',hg',hs'⟩,hr',hbut,hB⟩:=hrel;by_cases hlt:j<n
   .have hlt':(j:Int)<n:=by omega
    have HT:=mX (k+j*6) wr (by omega) (by omega);obtain⟨mb,hmb⟩:∃mb,mb=il (k+j*6):=⟨_,rfl⟩;rw[<-hmb]at HT;have HMB:Hid (mb=il (k+j*6)):=hmb;clear hmb;have hzb:B<wr.heap.size:=(Gp.1 hg').1;go_wp2_with(go_at_call 50;refine HT.mono ?_;clear HT;rintro e w1 ⟨rfl,hb1⟩;have hg1:=(hb1.block B hzb).trans hg';have hr1:=hr'.below hb1 hzb;obtain⟨e0,e1,e2,e3,e4,e5⟩:=hr1 j hlt;simp only[Nat.zero_add]at e0 e1 e2 e3 e4 e5;have hfz:=λi=>frozen_of_row w1 B i _ _ hg1)
    have hbut1:fL B w w1:=hbut.trans (fL.of hb1);have hB1:Below lo w w1:=hB.trans (hb1.mono (by omega));obtain⟨m',hm'⟩:∃m':Mv,m'=⟨mb,(k+j*6+1)%3==0,k+j*6+1+1,k+j*6+1+1+1,k+j*6+1+1+1+1,k+j*6+1+1+1+1+1⟩:=⟨_,rfl⟩;have hmk:m'=gb k j:=by rw[hm',HMB.out];rfl
    have hW:((((((w1.setCell ⟨B,j*6,none⟩ (.string mb)).setCell ⟨B,j*6+1,none⟩ (.bool ((k+j*6+1)%3==0))).setCell ⟨B,j*6+2,none⟩ (.int .i64 (k+j*6+1+1))).setCell ⟨B,j*6+3,none⟩ (.int .i64 (k+j*6+1+1+1))).setCell ⟨B,j*6+4,none⟩ (.int .i64 (k+j*6+1+1+1+1))).setCell ⟨B,j*6+5,none⟩ (.int .i64 (k+j*6+1+1+1+1+1)))=iK w1 B (j*6) m':=by rw[hm'];rfl
    rw[hW];obtain⟨cs2,hg2,hs2⟩:=nE w1 B (j*6) m' _ _ hg1;have hr2:=Cg hr1 hg1 hs' hlt m';have hbut2:fL B w (iK w1 B (j*6) m'):=(((((hbut1.setCell _ _).setCell _ _).setCell _ _).setCell _ _).setCell _ _).setCell _ _;have hB2:Below lo w (iK w1 B (j*6) m'):=mC hB1 hlo _ _;refine⟨⟨j+1,by omega,by simp,congrArg (Value.int .i64) (by omega),⟨cs2,hg2,by omega⟩,hr2.congr (λi hi=>?_),hbut2,hB2⟩,by simp[intOf];omega⟩;by_cases e:i=j
    .subst e;rw[if_pos rfl,if_pos (by omega)];exact hmk
    .simp only[if_neg e];by_cases h:i<j
     .rw[if_pos h,if_pos (by omega)]
     .rw[if_neg h,if_neg (by omega)]
   .have hjn:j=n:=by omega
    subst hjn;go_wp2;go_ret;exact⟨rfl,.inr ⟨B,c,cs',rfl,hlo,hhi,Gq hz hbut.size,hg',hs',hr'.congr (λi hi=>by rw[if_pos hi])⟩,ug hbut hlo hhi hg hB⟩
theorem al.put {w:World}{b n k:Nat}{t:Nat->Int}(h:al w b 0 n t)(hk:k<n)(x:Int):al (w.setCell ⟨b,k,none⟩ (.int .i64 x)) b 0 n (λp=>if p=k then x else t p):=λi hi=>by
 rw[Nat.zero_add];by_cases e:i=k
 .subst e;have h1:=h i hi;rw[Nat.zero_add]at h1;simp only[if_true];exact World.cell?_setCell_same' _ _ _ (by rw[h1];rfl)
 .rw[World.cell?_setCell_other _ _ _ _ (by intro e';cases e';exact e rfl)];simp only[if_neg e];have h1:=h i hi;rw[Nat.zero_add]at h1;exact h1
theorem al.cong {w:World}{b off n:Nat}{g g':Nat->Int}(h:al w b off n g)(e:∀i,i<n->g i=g' i):al w b off n g':=λi hi=>by rw[<-e i hi];exact h i hi
theorem yA {w:World}{lo hi:Nat}{v:Value}{n:Nat}{g:Nat->Int}(k:Int)(hn:n<=1048576)(h0:0<=k)(h1:k<=100000000)(h:cO w lo hi v n g):
  Calls Tz.prog 43 #[v,.int .i64 k] w λe w'=>e=.returned (.int .i64 (k+n))/\cO w' lo hi v n (λi=>k+i)/\lE 3 lo hi w w':=by
 rcases h with⟨rfl,a,c,rfl⟩|⟨B,c,cs,rfl,hlo,hhi,hz,hg,hs,hr⟩
 .go_enter Tz.func43,Tryz.ntmps43
  go_wp2;go_loopw [1,5] (λx i wr=>i=.int .i64 0/\x=.int .i64 k/\wr=w) (λ_ _ _=>0)
  case atStart=>exact⟨rfl,rfl,rfl⟩
  case round=>
   obtain⟨rfl,rfl,rfl⟩:=hrel;go_wp2;go_ret;exact⟨by simp,.inl ⟨rfl,a,c,rfl⟩,lE.refl _ _ _ _⟩
 .go_enter Tz.func43,Tryz.ntmps43
  go_wp2;go_loopw [1,5] (λx i wr=>∃j:Nat,j<=n/\i=.int .i64 j/\x=.int .i64 (k+j)/\(∃cs,wr.heap[B]?=some (.cells cs 3 (0,0))/\n<=cs.size)/\al wr B 0 n (λi=>if i<j then k+i else g i)/\fL B w wr/\Below lo w wr) (λ_ i _=>n-(intOf i).toNat)
  case atStart=>exact⟨0,Gs _,rfl,by simp,⟨cs,hg,hs⟩,hr.cong (λi hi=>by simp),fL.refl _ _,Gb _ _⟩
  case round=>
   obtain⟨j,hj,rfl,rfl,⟨cs',hg',hs'⟩,hr',hbut,hB⟩:=hrel;by_cases hlt:j<n
   .have hlt':(j:Int)<n:=by omega
    have hd:=hr' j hlt;simp only[Nat.zero_add]at hd;have hfz:=frozen_of_row wr B j _ _ hg';have hg2:=heap_setCell_same wr B j _ _ (.int .i64 (k+j)) hg';go_wp2;go_roundw
    case rel=>exact⟨j+1,by omega,by go_num,by go_num,⟨_,hg2,by simpa using hs'⟩,(hr'.put hlt (k+j)).cong (λi hi=>by
     by_cases e:i=j
     .subst e;rw[if_pos rfl,if_pos (by omega)]
     .simp only[if_neg e];by_cases h:i<j
      .rw[if_pos h,if_pos (by omega)]
      .rw[if_neg h,if_neg (by omega)]),hbut.setCell _ _,hB.setCell hlo _⟩
    case measure=>simp[intOf];omega
   .have hjn:j=n:=by omega
    subst hjn;go_wp2;go_ret;exact⟨rfl,.inr ⟨B,c,cs',rfl,hlo,hhi,Gq hz hbut.size,hg',hs',hr'.cong (λi hi=>by rw[if_pos hi])⟩,ug hbut hlo hhi hg hB⟩
theorem yB {w:World}{lo hi:Nat}{v:Value}{n:Nat}(k:Int)(hn:n<=1048576)(h0:0<=k)(h1:k<=100000000)(h:cO w lo hi v n (λi=>k+i)):
  Calls Tz.prog 45 #[v,.int .i64 k] w λe w'=>e=.returned (.int .i64 (k+n))/\Below w.heap.size w w':=by
 rcases h with⟨rfl,a,c,rfl⟩|⟨B,c,cs,rfl,hlo,hhi,hz,hg,hs,hr⟩
 .go_enter Tz.func45,Tryz.ntmps45
  go_wp2;go_loopw [1,5] (λx i wr=>i=.int .i64 0/\x=.int .i64 k/\wr=w) (λ_ _ _=>0)
  case atStart=>exact⟨rfl,rfl,rfl⟩
  case round=>
   obtain⟨rfl,rfl,rfl⟩:=hrel;go_wp2;go_ret;exact⟨by simp,Gb _ _⟩
 .go_enter Tz.func45,Tryz.ntmps45
  go_wp2;go_loopw [1,5] (λx i wr=>∃j:Nat,j<=n/\i=.int .i64 j/\x=.int .i64 (k+j)/\Below w.heap.size w wr) (λ_ i _=>n-(intOf i).toNat)
  case atStart=>exact⟨0,Gs _,rfl,by simp,Gb _ _⟩
  case round=>
   obtain⟨j,hj,rfl,rfl,hB⟩:=hrel;by_cases hlt:j<n
   .have hlt':(j:Int)<n:=by omega
    have hd:=(hr.below hB (by omega)) j hlt;simp only[Nat.zero_add]at hd;go_wp2;go_roundw
    case rel=>exact⟨j+1,by omega,by go_num,by go_num,hB⟩
    case measure=>simp[intOf];omega
   .have hjn:j=n:=by omega
    subst hjn;go_wp2;go_ret;exact⟨rfl,hB⟩
theorem yC {w:World}{lo hi:Nat}{v:Value}{n:Nat}(k:Int)(hn:n<=1048576)(h0:0<=k)(h1:k<=10000000)(h:cP w lo hi v n (gb k)):
  Calls Tz.prog 44 #[v,.int .i64 k] w λe w'=>e=.returned (.int .i64 (k+n*6))/\Below w.heap.size w w':=by
 rcases h with⟨rfl,a,c,rfl⟩|⟨B,c,cs,rfl,hlo,hhi,hz,hg,hs,hr⟩
 .go_enter Tz.func44,Tryz.ntmps44
  go_wp2;go_loopw [1,5] (λx i wr=>i=.int .i64 0/\x=.int .i64 k/\wr=w) (λ_ _ _=>0)
  case atStart=>exact⟨rfl,rfl,rfl⟩
  case round=>
   obtain⟨rfl,rfl,rfl⟩:=hrel;go_wp2;go_ret;exact⟨by simp,Gb _ _⟩
 .go_enter Tz.func44,Tryz.ntmps44
  go_wp2;go_loopw [1,5] (λx i wr=>∃j:Nat,j<=n/\i=.int .i64 j/\x=.int .i64 (k+j*6)/\Below w.heap.size w wr) (λ_ i _=>n-(intOf i).toNat)
  case atStart=>exact⟨0,Gs _,rfl,by simp,Gb _ _⟩
  case round=>
   obtain⟨j,hj,rfl,rfl,hB⟩:=hrel;by_cases hlt:j<n
   .have hlt':(j:Int)<n:=by omega
    obtain⟨d0,d1,d2,d3,d4,d5⟩:=(hr.below hB (by omega)) j hlt;simp only[Nat.zero_add,gb]at d0 d1 d2 d3 d4 d5;obtain⟨mb,hmb⟩:∃mb,mb=il (k+j*6):=⟨_,rfl⟩;have HT:∀x:ag wr,Calls Tz.prog 50 #[.int .i64 (k+j*6)] x.at_ λe w'=>e=.returned (.string mb)/\Below x.at_.heap.size x.at_ w':=λx=>by
     rw[hmb];exact mX (k+j*6) x.at_ (by omega) (by omega)
    rw[<-hmb]at d0;clear hmb;have hne:=ay wr;have c0:=λx:ag wr=>x.cell d0
    go_wp2;refine af (by kernel_rfl) (by kernel_rfl) ?_;repeat(go_big_quiet_step ((go_at_call 50;exact aE (HT _))))
    refine wpQuiet_nil (ai ?_);intro w1 hb1;have lB:B<wr.heap.size:=Gn (by omega) hB.size;have e1:=(hb1.cell (p:=⟨B,j*6+1,none⟩) lB).trans d1;have e2:=(hb1.cell (p:=⟨B,j*6+2,none⟩) lB).trans d2;have e3:=(hb1.cell (p:=⟨B,j*6+3,none⟩) lB).trans d3;have e4:=(hb1.cell (p:=⟨B,j*6+4,none⟩) lB).trans d4;have e5:=(hb1.cell (p:=⟨B,j*6+5,none⟩) lB).trans d5;clear c0 hne d0 d1 d2 d3 d4 d5 HT;go_wp2;go_roundw
    case rel=>exact⟨j+1,by omega,by go_num,congrArg (Value.int .i64) (by omega),hB.trans (hb1.mono hB.size)⟩
    case measure=>simp[intOf];omega
   .have hjn:j=n:=by omega
    subst hjn;go_wp2;go_ret;exact⟨rfl,hB⟩
abbrev yD (now shift:Int)(v u:Value):Value:=.agg #[.int .i64 now,.int .i64 shift,v,u]
theorem cP.sl {w:World}{lo hi:Nat}{v:Value}{n:Nat}{f:Nat->Mv}(h:cP w lo hi v n f):∃a c,v=.slice a n c:=by
 rcases h with⟨rfl,a,c,rfl⟩|⟨B,c,cs,rfl,_⟩
 .exact⟨a,c,rfl⟩
 .exact⟨_,c,rfl⟩
theorem cO.sl {w:World}{lo hi:Nat}{v:Value}{n:Nat}{g:Nat->Int}(h:cO w lo hi v n g):∃a c,v=.slice a n c:=by
 rcases h with⟨rfl,a,c,rfl⟩|⟨B,c,cs,rfl,_⟩
 .exact⟨a,c,rfl⟩
 .exact⟨_,c,rfl⟩
theorem cP.below {w w':World}{N lo hi:Nat}{v:Value}{n:Nat}{f:Nat->Mv}(h:cP w lo hi v n f)(hb:Below N w w')(hN:hi<=N):cP w' lo hi v n f:=h.keep hb.size (λ_ B _ _ hB _=>hb.block B (by omega))
theorem cO.below {w w':World}{N lo hi:Nat}{v:Value}{n:Nat}{f:Nat->Int}(h:cO w lo hi v n f)(hb:Below N w w')(hN:hi<=N):cO w' lo hi v n f:=h.keep hb.size (λ_ B _ _ hB _=>hb.block B (by omega))
theorem nh.below {w w':World}{N lo hi:Nat}{v:Value}{n:Nat}{f:Nat->ByteArray}(h:nh w lo hi v n f)(hb:Below N w w')(hN:hi<=N):nh w' lo hi v n f:=h.keep hb.size (λ_ B _ _ hB _=>hb.block B (by omega))
theorem cP.midT {w w':World}{T:TypeId}{lo hi:Nat}{v:Value}{n:Nat}{f:Nat->Mv}(h:cP w lo hi v n f)(hm:lE T lo hi w w')(hT:36≠T):cP w' lo hi v n f:=h.keep hm.size (λh5 B cs _ hB hg=>hm.block B (by omega) (.inr (.inr ⟨cs,_,hT,hg⟩)))
theorem cO.midT {w w':World}{T:TypeId}{lo hi:Nat}{v:Value}{n:Nat}{f:Nat->Int}(h:cO w lo hi v n f)(hm:lE T lo hi w w')(hT:3≠T):cO w' lo hi v n f:=h.keep hm.size (λh5 B cs _ hB hg=>hm.block B (by omega) (.inr (.inr ⟨cs,_,hT,hg⟩)))
theorem nh.midT {w w':World}{T:TypeId}{lo hi:Nat}{v:Value}{n:Nat}{f:Nat->ByteArray}(h:nh w lo hi v n f)(hm:lE T lo hi w w')(hT:9≠T):nh w' lo hi v n f:=h.keep hm.size (λh5 B cs _ hB hg=>hm.block B (by omega) (.inr (.inr ⟨cs,_,hT,hg⟩)))
theorem uh (now shift:Int){w:World}{lo hi lo' hi':Nat}{v v' u u':Value}{n m:Nat}{f:Nat->Mv}{t:Nat->Int}(hn:n<=1048576)(hm:m<=1048576)(h1:cP w lo hi v n f)(h2:cP w lo' hi' v' n f)(h3:cO w lo hi u m t)(h4:cO w lo' hi' u' m t)(hh:hi<=w.heap.size)(hh':hi'<=w.heap.size):
  Calls Tz.prog 14 #[yD now shift v u,yD now shift v' u'] w λe w'=>e=.returned (.bool true)/\Below w.heap.size w w':=by
 have bA:∀o1 o2,Below w.heap.size w ((w.alloc o1).alloc o2):=λo1 o2=>((Gb _ w).alloc (Gm _) _).alloc (by simp) _
 have H1:∀W,Below w.heap.size w W->Calls Tz.prog 40 #[v,v'] W λe w'=>e=.returned (.bool true)/\Below W.heap.size W w':=λW hW=>Ce hn (h1.below hW hh) (h2.below hW hh')
 have H2:∀W,Below w.heap.size w W->Calls Tz.prog 41 #[u,u'] W λe w'=>e=.returned (.bool true)/\Below W.heap.size W w':=λW hW=>Cf hm (h3.below hW hh) (h4.below hW hh')
 obtain⟨a1,c1,rfl⟩:=h1.sl;obtain⟨a2,c2,rfl⟩:=h2.sl;obtain⟨a3,c3,rfl⟩:=h3.sl;obtain⟨a4,c4,rfl⟩:=h4.sl;clear h1 h2 h3 h4;go_enter Tz.func14,Tryz.ntmps14
 go_wp2_with(first
  |(go_at_call 40;refine(H1 _ (bA _ _)).mono ?_;clear H1;rintro e w1 ⟨rfl,b1⟩;have B1:=(bA _ _).trans (b1.mono (bA _ _).size);obtain⟨hc1,hf1⟩:=dE b1)
  |(go_at_call 41;refine(H2 _ B1).mono ?_;clear H2;rintro e w2 ⟨rfl,b2⟩))
 go_ret;exact⟨rfl,B1.trans (b2.mono B1.size)⟩
theorem vN (now shift:Int)(k:Int){w:World}{lo hi:Nat}{v u:Value}{n m:Nat}(hn:n<=1048576)(hm:m<=1048576)(h0:0<=k)(hk:k<=1000000)(h1:cP w lo hi v n (gb k))(h3:cO w lo hi u m (λi=>k+n*6+i))(hh:hi<=w.heap.size):
  Calls Tz.prog 16 #[yD now shift v u,.int .i64 k] w λe w'=>e=.returned (.int .i64 (k+n*6+m))/\Below w.heap.size w w':=by
 have bA:∀o,Below w.heap.size w (w.alloc o):=λo=>(Gb _ w).alloc (Gm _) _
 obtain⟨a1,c1,rfl⟩:=h1.sl;obtain⟨a3,c3,rfl⟩:=h3.sl;have H1:∀o,Calls Tz.prog 44 #[.slice a1 n c1,.int .i64 k] (w.alloc o) λe w'=>e=.returned (.int .i64 (k+n*6))/\Below (w.alloc o).heap.size (w.alloc o) w':=λo=>yC k hn h0 (by omega) (h1.below (bA o) hh)
 have H2:∀W,Below w.heap.size w W->Calls Tz.prog 45 #[.slice a3 m c3,.int .i64 (k+n*6)] W λe w'=>e=.returned (.int .i64 (k+n*6+m))/\Below W.heap.size W w':=λW hW=>yB (k+n*6) hm (by omega) (by omega) (h3.below hW hh)
 clear h1 h3;go_enter Tz.func16,Tryz.ntmps16
 go_wp2_with(first
  |(go_at_call 44;refine(H1 _).mono ?_;clear H1;rintro e w1 ⟨rfl,b1⟩;have B1:=(bA _).trans (b1.mono (bA _).size);obtain⟨hc1,hf1⟩:=dE b1)
  |(go_at_call 45;refine(H2 _ B1).mono ?_;clear H2;rintro e w2 ⟨rfl,b2⟩))
 all_goals first|(exfalso;omega)|skip
 go_ret;exact⟨rfl,B1.trans (b2.mono B1.size)⟩
theorem wY {w:World}{lo hi B n:Nat}{f:Nat->Mv}(h:fp w B n)(hr:ak w B 0 n f)(hl:lo<=B)(hh:hi=w.heap.size):cP w lo hi (.slice (some ⟨B,0,none⟩) n n) n f:=by
 have hlt:=h.lt;obtain⟨cs,h1,h2⟩:=h;exact .inr ⟨B,n,cs,rfl,hl,by omega,by omega,h1,by omega,hr⟩
theorem wZ {w:World}{lo hi B n:Nat}{t:Nat->Int}(h:an w B n t)(hl:lo<=B)(hh:hi=w.heap.size):cO w lo hi (.slice (some ⟨B,0,none⟩) n n) n t:=by
 have hlt:=h.lt;obtain⟨⟨cs,h1,h2⟩,h3⟩:=h;exact .inr ⟨B,n,cs,rfl,hl,by omega,by omega,h1,by omega,h3⟩
theorem uq (now shift:Int)(k:Int){w:World}{lo hi:Nat}{v u:Value}{n m:Nat}{f:Nat->Mv}{t:Nat->Int}(hn:n<=1048576)(hm:m<=1048576)(h0:0<=k)(hk:k<=1000000)(h1:cP w lo hi v n f)(h3:cO w lo hi u m t)(hlo:lo<=hi)(hh:hi<=w.heap.size):
  Calls Tz.prog 15 #[yD now shift v u,.int .i64 k] w λe w'=>e=.returned (.int .i64 (k+n*6+m))/\cP w' lo hi v n (gb k)/\cO w' lo hi u m (λi=>k+n*6+i)/\Av lo hi w w'/\∀s k g,nh w lo hi s k g->nh w' lo hi s k g:=by
 have bA:∀o,Below w.heap.size w (w.alloc o):=λo=>(Gb _ w).alloc (Gm _) _
 obtain⟨a1,c1,rfl⟩:=h1.sl;obtain⟨a3,c3,rfl⟩:=h3.sl;have H1:∀o,Calls Tz.prog 42 #[.slice a1 n c1,.int .i64 k] (w.alloc o) λe w'=>e=.returned (.int .i64 (k+n*6))/\cP w' lo hi (.slice a1 n c1) n (gb k)/\lE 36 lo hi (w.alloc o) w':=λo=>yz k hn h0 (by omega) (h1.below (bA o) hh)
 have H2:∀W,cO W lo hi (.slice a3 m c3) m t->Calls Tz.prog 43 #[.slice a3 m c3,.int .i64 (k+n*6)] W λe w'=>e=.returned (.int .i64 (k+n*6+m))/\cO w' lo hi (.slice a3 m c3) m (λi=>k+n*6+i)/\lE 3 lo hi W w':=λW hW=>yA (k+n*6) hm (by omega) (by omega) hW
 go_enter Tz.func15,Tryz.ntmps15
 go_wp2_with(first
  |(go_at_call 42;refine(H1 _).mono ?_;clear H1;rintro e w1 ⟨rfl,o1,m1⟩;have t1:=(h3.below (bA _) hh).midT m1 (by decide);have g1:=m1.block w.heap.size (by simp) (.inr (.inl hh));have k3:=Gi (a:=⟨w.heap.size,3,none⟩) g1;simp at k3)
  |(go_at_call 43;refine(H2 _ t1).mono ?_;clear H2;rintro e w2 ⟨rfl,o2,m2⟩;have o3:=o1.midT m2 (by decide)))
 go_ret;exact⟨rfl,o3,o2,((Av.of (bA _) (by omega)).trans m1.mid).trans m2.mid,λs k g hs=>((hs.below (bA _) hh).midT m1 (by decide)).midT m2 (by decide)⟩
