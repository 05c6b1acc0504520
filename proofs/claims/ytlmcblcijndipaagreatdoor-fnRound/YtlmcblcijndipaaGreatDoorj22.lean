import Derived.Test.YtlmcblcijndipaaGreatDoorj16
import Derived.Test.YtlmcblcijndipaaGreatDoorj09e
import Derived.Laws.CopyOwn
set_option linter.unusedVariables false
set_option maxHeartbeats 2000000
set_option maxRecDepth 10000
namespace Go.Proofs.YtlmcblcijndipaaGreatDoor
section
open RowKit
theorem Pg (m:Mv)(w:World):
  Calls Tz.prog 234 #[.agg #[m.name,m.an,m.aD,m.ba,m.late,m.prom]] w λe w'=>e=.returned m.key/\w'=w.alloc (.cells #[m.name,m.an,m.aD,m.ba,m.late,m.prom] 31):=by
 by_cases h:0<=m.prom
 .go_enter Tz.func234,Tryz.ntmps234
  go_wp2;go_ret;exact⟨eB (by unfold Mv.key;rw[if_pos h]),rfl⟩
 .go_enter Tz.func234,Tryz.ntmps234
  go_wp2;go_ret;exact⟨eB (by unfold Mv.key;rw[if_neg ab]),rfl⟩
theorem OY (m:Mv)(w:World):
  Calls Tz.prog 131 #[.agg #[m.name,m.an,m.aD,m.ba,m.late,m.prom]] w λe w'=>e=.returned m.key/\Below w w w':=by
 by_cases h:0<=m.prom
 .go_enter Tz.func131,Tryz.ntmps131
  go_wp2;go_ret;exact⟨eB (by unfold Mv.key;rw[if_pos h]),(aca _ _).alloc (ack _) _⟩
 .go_enter Tz.func131,Tryz.ntmps131
  go_wp2;go_ret;exact⟨eB (by unfold Mv.key;rw[if_neg ab]),(aca _ _).alloc (ack _) _⟩
theorem oL (a b:Int)(w:World):
  Calls Tz.prog 149 #[a,b] w λe w'=>e=.returned (.int .i64 (jP a b))/\w'=w:=by
 by_cases h:a<b
 .go_enter Tz.func149,Tryz.ntmps149
  go_wp2;go_ret;exact⟨eB (by unfold jP;rw[if_pos h]),rfl⟩
 .by_cases h':b<a
  .go_enter Tz.func149,Tryz.ntmps149
   go_wp2;go_ret;exact⟨eB (by unfold jP;rw[if_neg ab,if_pos h']),rfl⟩
  .go_enter Tz.func149,Tryz.ntmps149
   go_wp2;go_ret;exact⟨eB (by unfold jP;rw[if_neg ab,if_neg ab]),rfl⟩
theorem Ky (a b:ByteArray)(w:World):
  Calls Tz.prog 235 #[a,b] w λe w'=>e=.returned (.int .i64 (tu a b))/\w'=w:=by
 cases h:cQ a b with
 |true=>
  have P6:tu a b=-1:=by unfold tu;rw[if_pos h]
  have HC:Hid (tu a b=-1):=P6;clear P6;unfold cQ at h;go_enter Tz.func235,Tryz.ntmps235
  go_wp2;go_ret;exact⟨eB HC.out.symm,rfl⟩
 |false=>
  cases h':bZ a b with
  |true=>
   have P6:tu a b=0:=by unfold tu;rw[if_neg (by simp[h]),if_pos h']
   have HC:Hid (tu a b=0):=P6;clear P6;unfold cQ at h;unfold bZ at h';go_enter Tz.func235,Tryz.ntmps235
   go_wp2;go_ret;exact⟨eB HC.out.symm,rfl⟩
  |false=>
   have P6:tu a b=1:=by unfold tu;rw[if_neg (by simp[h]),if_neg (by simp[h'])]
   have HC:Hid (tu a b=1):=P6;clear P6;unfold cQ at h;unfold bZ at h';go_enter Tz.func235,Tryz.ntmps235
   go_wp2;go_ret;exact⟨eB HC.out.symm,rfl⟩
def aaL (c:Nat->Int)(k:Nat):Prop:=∀i,i<k->c i=0
theorem TH (b:Nat)(c:Nat->Int)(w:World)(hc:∀i,i<3->w.cell? ⟨b,i,none⟩=some (.int .i64 (c i))):
  Calls Tz.prog 195 #[.slice b 3 3] w λe w'=>e=.returned (.int .i64 (G5 (c 0) (c 1) (c 2)))/\w'=w:=by
 go_enter Tz.func195,Tryz.ntmps195
 go_wp2;go_loop [8] (λi=>∃k:Nat,k<=3/\i=.int .i64 k/\aaL c k) (λi=>3-(intOf i).toNat)
 case atStart=>exact⟨0,acp _,rfl,λi hi=>absurd hi (aco _)⟩
 case round=>
  obtain⟨k,hk,rfl,hz⟩:=hrel;by_cases aI:k<3
  .have uZ:=hc k aI;have dG:(k:Int)<3:=ab;cases hne:(c k !=0)with
   |true=>
    have Vd:G5 (c 0) (c 1) (c 2)=c k:=by
     have hn:c k≠0:=by simpa using hne
     unfold G5;by_cases e0:k=0
     .subst e0;rw[if_neg hn]
     .rw[if_pos (hz 0 ab)];by_cases e1:k=1
      .subst e1;rw[if_neg hn]
      .rw[if_pos (hz 1 ab)];obtain rfl:k=2:=ab;rfl
    have HO:Hid (G5 (c 0) (c 1) (c 2)=c k):=Vd;clear Vd;go_wp2;go_ret;exact⟨eB HO.out.symm,rfl⟩
   |false=>
    have Ht:c k=0:=by simpa using hne
    have HE:Hid (c k=0):=Ht;clear Ht;go_wp2;go_round
    case rel=>exact⟨k+1,ab,by go_num,λi hi=>by
     by_cases e:i=k
     .subst e;exact HE.out
     .exact hz i ab⟩
    case measure=>exact cf
  .have Vd:G5 (c 0) (c 1) (c 2)=0:=by
    unfold G5;rw[if_pos (hz 0 ab),if_pos (hz 1 ab)];exact hz 2 ab
   have HO:Hid (G5 (c 0) (c 1) (c 2)=0):=Vd;clear Vd;go_wp2;go_ret;exact⟨eB HO.out.symm,rfl⟩
theorem or3 (b:Nat)(x y z:Int)(w:World)(c0:w.cell? b=some (.int .i64 x))(c1:w.cell? ⟨b,1,none⟩=some (.int .i64 y))(c2:w.cell? ⟨b,2,none⟩=some (.int .i64 z)):
  Calls Tz.prog 195 #[.slice b 3 3] w λe w'=>e=.returned (.int .i64 (G5 x y z))/\w'=w:=
 TH b (λi=>if i=0 then x else if i=1 then y else z) w (λi hi=>by
  match i,hi with
  |0,_=>simpa using c0
  |1,_=>simpa using c1
  |2,_=>simpa using c2)
def iX (g g':Nat->Int)(n n':Nat):Nat->Nat->Int
 |0,_=>if n<n' then -1 else 0
 |f+1,k=>if n'<=k then 1 else if jP (g k) (g' k)=0 then iX g g' n n' f (k+1)else jP (g k) (g' k)
theorem vI (a a':Option Addr)(n n' cap cap':Nat)(g g':Nat->Int)(w:World)(hn:n<=1048576)(Cg:n'<=1048576)(h:dX w a n g)(h':dX w a' n' g'):
  Calls Tz.prog 196 #[.slice a n cap,.slice a' n' cap'] w λe w'=>e=.returned (.int .i64 (iX g g' n n' n 0))/\w'=w:=by
 go_enter Tz.func196,Tryz.ntmps196
 go_wp2;go_loopw [11] (λi w'=>∃k:Nat,k<=n/\i=.int .i64 k/\w'=w/\iX g g' n n' n 0=iX g g' n n' (n-k) k) (λi _=>n-(intOf i).toNat)
 case atStart=>exact⟨0,acp _,rfl,rfl,rfl⟩
 case round=>
  obtain⟨k,hk,rfl,rfl,hc⟩:=hrel;by_cases aI:k<n
  .obtain⟨b,off,rfl,aq⟩:=h.resolve_left ab;have hr:=aq k aI;have dG:(k:Int)<n:=ab;have hf:n-k=(n-(k+1))+1:=ab;rw[hf,iX]at hc;by_cases h2:n'<=k
   .rw[if_pos h2]at hc;have VF:(n':Int)<=k:=ab;go_wp2;go_ret;exact⟨eB (by first|exact hc.symm|rfl),rfl⟩
   .rw[if_neg h2]at hc;obtain⟨b',aW,rfl,aK⟩:=h'.resolve_left ab;have eM:=aK k ab;have VF:¬(n':Int)<=k:=ab;have YN:(k:Int)<n':=ab;by_cases h4:jP (g k) (g' k)=0
    .rw[if_pos h4]at hc;go_wp2_with(go_at_call 149;refine(oL _ _ _).mono ?_;rintro e w' ⟨rfl,rfl⟩)
     go_roundw
     case rel=>exact⟨k+1,ab,by go_num,A9,hc⟩
     case measure=>exact cf
    .rw[if_neg h4]at hc;go_wp2_with(go_at_call 149;refine(oL _ _ _).mono ?_;rintro e w' ⟨rfl,rfl⟩)
     go_ret;exact⟨eB (by first|exact hc.symm|rfl),rfl⟩
  .obtain rfl:k=n:=by omega
   rw[Nat.sub_self,iX]at hc;by_cases h5:k<n'
   .rw[if_pos h5]at hc;have h5':(k:Int)<n':=ab;go_wp2;go_ret;exact⟨eB (by first|exact hc.symm|rfl),rfl⟩
   .rw[if_neg h5]at hc;have h5':¬(k:Int)<n':=ab;go_wp2;go_ret;exact⟨eB (by first|exact hc.symm|rfl),rfl⟩
def XZ (g:Nat->Int):Nat->Nat->Int
 |0,_=>0
 |f+1,k=>if g k=0 then XZ g f (k+1)else g k
theorem eF {W:World}{b o:Nat}{v:Value}(h:W.cell? ⟨b,o,none⟩=some v):∀o1 o2 o3,(((W.alloc o1).alloc o2).alloc o3).cell? ⟨b,o,none⟩=some v:=λo1 o2 o3=>
 (((((aca W.heap.size W).alloc (ack _) o1).alloc aH o2).alloc cC o3).cell (p:=⟨b,o,none⟩) (block_lt_of_cell h)).trans h
theorem Em (x y:Nat)(bl b off n cap:Nat)(f:Nat->Mv)(W:World)(hx:x<n)(hy:y<n)(hn:n<=1048576)
  (cl:W.cell? bl=some (.slice (some ⟨b,off,none⟩) n cap))(aq:aM W b off n f):
  Calls Tz.prog 233 #[.int .i64 (x:Int),.int .i64 (y:Int),.pointer bl] W λe w'=>e=.returned (.int .i64 (JI f x y))/\Below W W w'/\W.drawn<=w'.drawn:=by
 have dB:(x:Int)<n:=ab;have E8:(y:Int)<n:=ab;obtain⟨a0,a1,a2,a3,a4,a5⟩:=aq x hx;obtain⟨b0,b1,b2,b3,b4,b5⟩:=aq y hy;go_enter Tz.func233,Tryz.ntmps233
 go_wp2;go_region_held3 (λw'=>w'.cell? bl=some (.slice (some ⟨b,off,none⟩) n cap)
  /\w'.cell? ⟨b,off+x*6,none⟩=some (.string (f x).name)/\w'.cell? ⟨b,off+x*6+1,none⟩=some (.bool (f x).an)/\w'.cell? ⟨b,off+x*6+2,none⟩=some (.int .i64 (f x).aD)/\w'.cell? ⟨b,off+x*6+3,none⟩=some (.int .i64 (f x).ba)/\w'.cell? ⟨b,off+x*6+4,none⟩=some (.int .i64 (f x).late)/\w'.cell? ⟨b,off+x*6+5,none⟩=some (.int .i64 (f x).prom)
  /\w'.cell? ⟨b,off+y*6,none⟩=some (.string (f y).name)/\w'.cell? ⟨b,off+y*6+1,none⟩=some (.bool (f y).an)/\w'.cell? ⟨b,off+y*6+2,none⟩=some (.int .i64 (f y).aD)/\w'.cell? ⟨b,off+y*6+3,none⟩=some (.int .i64 (f y).ba)/\w'.cell? ⟨b,off+y*6+4,none⟩=some (.int .i64 (f y).late)/\w'.cell? ⟨b,off+y*6+5,none⟩=some (.int .i64 (f y).prom)) (go_keep) (fail)
 focus
  have hB:Below W W ((W.alloc (.cells #[.string (f x).name,.bool (f x).an,.int .i64 (f x).aD,.int .i64 (f x).ba,.int .i64 (f x).late,.int .i64 (f x).prom] 31)).alloc (.cells #[.string (f y).name,.bool (f y).an,.int .i64 (f y).aD,.int .i64 (f y).ba,.int .i64 (f y).late,.int .i64 (f y).prom] 31)).drew:=(((aca _ W).alloc (ack _) _).alloc aH _).drew;have hD:W.drawn<=((W.alloc (.cells #[.string (f x).name,.bool (f x).an,.int .i64 (f x).aD,.int .i64 (f x).ba,.int .i64 (f x).late,.int .i64 (f x).prom] 31)).alloc (.cells #[.string (f y).name,.bool (f y).an,.int .i64 (f y).aD,.int .i64 (f y).ba,.int .i64 (f y).late,.int .i64 (f y).prom] 31)).drew.drawn:=by show W.drawn<=W.drawn+1;omega
  have hA:ti ((W.alloc (.cells #[.string (f x).name,.bool (f x).an,.int .i64 (f x).aD,.int .i64 (f x).ba,.int .i64 (f x).late,.int .i64 (f x).prom] 31)).alloc (.cells #[.string (f y).name,.bool (f y).an,.int .i64 (f y).aD,.int .i64 (f y).ba,.int .i64 (f y).late,.int .i64 (f y).prom] 31)).drew (W.heap.size) 0 (f x):=by constructor<;>simp[go_sem]
  have hE:ti ((W.alloc (.cells #[.string (f x).name,.bool (f x).an,.int .i64 (f x).aD,.int .i64 (f x).ba,.int .i64 (f x).late,.int .i64 (f x).prom] 31)).alloc (.cells #[.string (f y).name,.bool (f y).an,.int .i64 (f y).aD,.int .i64 (f y).ba,.int .i64 (f y).late,.int .i64 (f y).prom] 31)).drew (W.heap.size+1) 0 (f y):=by constructor<;>simp[go_sem]
  go_wp2;revert hB hD hA hE;generalize ((W.alloc (.cells #[.string (f x).name,.bool (f x).an,.int .i64 (f x).aD,.int .i64 (f x).ba,.int .i64 (f x).late,.int .i64 (f x).prom] 31)).alloc (.cells #[.string (f y).name,.bool (f y).an,.int .i64 (f y).aD,.int .i64 (f y).ba,.int .i64 (f y).late,.int .i64 (f y).prom] 31)).drew=W1;intro hB hD hA hE;obtain⟨Ba,EM⟩:∃Ba,Ba=W.heap.size:=⟨_,rfl⟩;obtain⟨Bb,EO⟩:∃Bb,Bb=W.heap.size+1:=⟨_,rfl⟩;rw[<-EM]at hA;rw[<-EO]at hE;rw[<-EO,<-EM];clear EM EO
 rotate_left;focus
  have hB:Below W W ((W.alloc (.cells #[.string (f y).name,.bool (f y).an,.int .i64 (f y).aD,.int .i64 (f y).ba,.int .i64 (f y).late,.int .i64 (f y).prom] 31)).alloc (.cells #[.string (f x).name,.bool (f x).an,.int .i64 (f x).aD,.int .i64 (f x).ba,.int .i64 (f x).late,.int .i64 (f x).prom] 31)).drew:=(((aca _ W).alloc (ack _) _).alloc aH _).drew;have hD:W.drawn<=((W.alloc (.cells #[.string (f y).name,.bool (f y).an,.int .i64 (f y).aD,.int .i64 (f y).ba,.int .i64 (f y).late,.int .i64 (f y).prom] 31)).alloc (.cells #[.string (f x).name,.bool (f x).an,.int .i64 (f x).aD,.int .i64 (f x).ba,.int .i64 (f x).late,.int .i64 (f x).prom] 31)).drew.drawn:=by show W.drawn<=W.drawn+1;omega
  have hA:ti ((W.alloc (.cells #[.string (f y).name,.bool (f y).an,.int .i64 (f y).aD,.int .i64 (f y).ba,.int .i64 (f y).late,.int .i64 (f y).prom] 31)).alloc (.cells #[.string (f x).name,.bool (f x).an,.int .i64 (f x).aD,.int .i64 (f x).ba,.int .i64 (f x).late,.int .i64 (f x).prom] 31)).drew (W.heap.size+1) 0 (f x):=by constructor<;>simp[go_sem]
  have hE:ti ((W.alloc (.cells #[.string (f y).name,.bool (f y).an,.int .i64 (f y).aD,.int .i64 (f y).ba,.int .i64 (f y).late,.int .i64 (f y).prom] 31)).alloc (.cells #[.string (f x).name,.bool (f x).an,.int .i64 (f x).aD,.int .i64 (f x).ba,.int .i64 (f x).late,.int .i64 (f x).prom] 31)).drew (W.heap.size) 0 (f y):=by constructor<;>simp[go_sem]
  go_wp2;revert hB hD hA hE;generalize ((W.alloc (.cells #[.string (f y).name,.bool (f y).an,.int .i64 (f y).aD,.int .i64 (f y).ba,.int .i64 (f y).late,.int .i64 (f y).prom] 31)).alloc (.cells #[.string (f x).name,.bool (f x).an,.int .i64 (f x).aD,.int .i64 (f x).ba,.int .i64 (f x).late,.int .i64 (f x).prom] 31)).drew=W1;intro hB hD hA hE;obtain⟨Ba,EM⟩:∃Ba,Ba=W.heap.size+1:=⟨_,rfl⟩;obtain⟨Bb,EO⟩:∃Bb,Bb=W.heap.size:=⟨_,rfl⟩;rw[<-EM]at hA;rw[<-EO]at hE;rw[<-EM,<-EO];clear EM EO
 all_goals
  obtain⟨m0,m1,m2,m3,m4,m5⟩:=hA;obtain⟨k0,k1,k2,k3,k4,k5⟩:=hE;simp only[Nat.zero_add]at m0 m1 m2 m3 m4 m5 k0 k1 k2 k3 k4 k5;have pm0:=eF m0;have pm1:=eF m1;have pm2:=eF m2;have pm3:=eF m3;have pm4:=eF m4;have pm5:=eF m5;have pk0:=eF k0;have pk1:=eF k1;have pk2:=eF k2;have pk3:=eF k3;have pk4:=eF k4;have pk5:=eF k5;go_region_held3 (λw'=>w'.cell? Ba=some (.string (f x).name)/\w'.cell? ⟨Ba,1,none⟩=some (.bool (f x).an)/\w'.cell? ⟨Ba,2,none⟩=some (.int .i64 (f x).aD)/\w'.cell? ⟨Ba,3,none⟩=some (.int .i64 (f x).ba)/\w'.cell? ⟨Ba,4,none⟩=some (.int .i64 (f x).late)/\w'.cell? ⟨Ba,5,none⟩=some (.int .i64 (f x).prom)/\w'.cell? Bb=some (.string (f y).name)/\w'.cell? ⟨Bb,1,none⟩=some (.bool (f y).an)/\w'.cell? ⟨Bb,2,none⟩=some (.int .i64 (f y).aD)/\w'.cell? ⟨Bb,3,none⟩=some (.int .i64 (f y).ba)/\w'.cell? ⟨Bb,4,none⟩=some (.int .i64 (f y).late)/\w'.cell? ⟨Bb,5,none⟩=some (.int .i64 (f y).prom)) (go_keep)
   (first|(go_at_call 234;refine(Pg _ _).mono ?_;rintro e w' ⟨rfl,rfl⟩)|(go_at_call 149;refine(oL _ _ _).mono ?_;rintro e w' ⟨rfl,rfl⟩)|(go_at_call 235;refine(Ky _ _ _).mono ?_;rintro e w' ⟨rfl,rfl⟩)|(go_at_call 195;refine(or3 _ (jP (f x).key (f y).key) (tu (f x).name (f y).name) (jP (x:Int) (y:Int)) _ zP zP zP).mono ?_;rintro e w' ⟨rfl,rfl⟩))
  all_goals
   go_wp2;go_ret;refine⟨eB rfl,hB.trans ?_,?_⟩
   .exact((((aca W.heap.size W1).alloc hB.size _).alloc (by have:=hB.size;simp;omega) _).alloc (by have:=hB.size;simp;omega) _).drew
   .show W.drawn<=W1.drawn+1;omega
end
section
open RowKit
variable {w:World}{a:Option Addr}{n:Nat}{g:Nat->Int}
def m9 (x y:aN):Int:=if x.ok=y.ok then G5 (jP x.sum y.sum) (jP x.most y.most) (iX x.g y.g x.n y.n x.n 0)else if x.ok=true then -1 else 1
theorem dX.below {w':World}(h:dX w a n g)(hb:Below w w w'):dX w' a n g:=by
 rcases h with h|⟨b,off,e,hr⟩
 .exact .inl h
 .by_cases hn:n=0
  .exact .inl hn
  .refine .inr ⟨b,off,e,hr.below hb ?_⟩;have:=hr 0 ab;rcases acu b w.heap.size with hl|hl
   .exact hl
   .simp[World.cell?,Array.getElem?_eq_none hl]at this
theorem dX.alloc (o:Obj)(h:dX w a n g):dX (w.alloc o) a n g:=h.below ((aca _ w).alloc (ack _) o)
theorem dX.drew (h:dX w a n g):dX w.drew a n g:=h
theorem EC (x y:aN)(W:World)(hx:x.n<=1048576)(hy:y.n<=1048576)(h:dX W x.a x.n x.g)(h':dX W y.a y.n y.g):
  Calls Tz.prog 161 #[x.val,y.val] W λe w'=>e=.returned (.int .i64 (m9 x y))/\Below W W w':=by
 obtain⟨xo,xs,xm,xa,xn,xc,xg⟩:=x;obtain⟨yo,ys,ym,ya,yn,yc,yg⟩:=y;simp only[aN.val,m9]at*;by_cases ho:xo=yo
 .subst ho;rw[if_pos rfl];have hB:Below W W ((W.alloc (.cells #[xo,xs,xm,.slice xa xn xc] 177)).alloc (.cells #[xo,ys,ym,.slice ya yn yc] 177)):=((aca _ W).alloc (ack _) _).alloc aH _;cases xo
  .have cA:((W.alloc (.cells #[false,xs,xm,.slice xa xn xc] 177)).alloc (.cells #[false,ys,ym,.slice ya yn yc] 177)).cell? ⟨W.heap.size,1,none⟩=some (.int .i64 xs)/\((W.alloc (.cells #[false,xs,xm,.slice xa xn xc] 177)).alloc (.cells #[false,ys,ym,.slice ya yn yc] 177)).cell? ⟨W.heap.size,2,none⟩=some (.int .i64 xm)/\((W.alloc (.cells #[false,xs,xm,.slice xa xn xc] 177)).alloc (.cells #[false,ys,ym,.slice ya yn yc] 177)).cell? ⟨W.heap.size,3,none⟩=some (.slice xa xn xc):=by refine⟨?_,?_,?_⟩<;>simp[go_sem]
   have cB:((W.alloc (.cells #[false,xs,xm,.slice xa xn xc] 177)).alloc (.cells #[false,ys,ym,.slice ya yn yc] 177)).cell? ⟨W.heap.size+1,1,none⟩=some (.int .i64 ys)/\((W.alloc (.cells #[false,xs,xm,.slice xa xn xc] 177)).alloc (.cells #[false,ys,ym,.slice ya yn yc] 177)).cell? ⟨W.heap.size+1,2,none⟩=some (.int .i64 ym)/\((W.alloc (.cells #[false,xs,xm,.slice xa xn xc] 177)).alloc (.cells #[false,ys,ym,.slice ya yn yc] 177)).cell? ⟨W.heap.size+1,3,none⟩=some (.slice ya yn yc):=by refine⟨?_,?_,?_⟩<;>simp[go_sem]
   have hl:=h.below hB;have ll:=h'.below hB;go_enter Tz.func161,Tryz.ntmps161
   go_wp2;revert hB cA cB hl ll;generalize ((W.alloc (.cells #[.bool false,.int .i64 xs,.int .i64 xm,.slice xa xn xc] 177)).alloc (.cells #[.bool false,.int .i64 ys,.int .i64 ym,.slice ya yn yc] 177))=W1;intro hB cA cB hl ll;obtain⟨Ba,EM⟩:∃Ba,Ba=W.heap.size:=⟨_,rfl⟩;obtain⟨Bb,EO⟩:∃Bb,Bb=W.heap.size+1:=⟨_,rfl⟩;rw[<-EM]at cA;rw[<-EO]at cB;rw[<-EO,<-EM];obtain⟨m1,m2,m3⟩:=cA;obtain⟨k1,k2,k3⟩:=cB;clear EM EO h h';go_region_held3 (λw'=>w'.cell? ⟨Ba,1,none⟩=some (.int .i64 xs)/\w'.cell? ⟨Ba,2,none⟩=some (.int .i64 xm)/\w'.cell? ⟨Ba,3,none⟩=some (.slice xa xn xc)/\w'.cell? ⟨Bb,1,none⟩=some (.int .i64 ys)/\w'.cell? ⟨Bb,2,none⟩=some (.int .i64 ym)/\w'.cell? ⟨Bb,3,none⟩=some (.slice ya yn yc)/\dX w' xa xn xg/\dX w' ya yn yg) (simp[*,World.cell?_alloc_some,dX.alloc,dX.drew])
    (first|(go_at_call 149;refine(oL _ _ _).mono ?_;rintro e w' ⟨rfl,rfl⟩)|(go_at_call 196;refine(vI _ _ _ _ _ _ xg yg _ hx hy (by assumption) (by assumption)).mono ?_;rintro e w' ⟨rfl,rfl⟩)|(go_at_call 195;refine(or3 _ (jP xs ys) (jP xm ym) (iX xg yg xn yn xn 0) _ zP zP zP).mono ?_;rintro e w' ⟨rfl,rfl⟩))
   all_goals
    go_wp2;go_ret;exact⟨eB rfl,hB.trans (((aca W.heap.size W1).alloc hB.size _).drew)⟩
  .have cA:((W.alloc (.cells #[true,xs,xm,.slice xa xn xc] 177)).alloc (.cells #[true,ys,ym,.slice ya yn yc] 177)).cell? ⟨W.heap.size,1,none⟩=some (.int .i64 xs)/\((W.alloc (.cells #[true,xs,xm,.slice xa xn xc] 177)).alloc (.cells #[true,ys,ym,.slice ya yn yc] 177)).cell? ⟨W.heap.size,2,none⟩=some (.int .i64 xm)/\((W.alloc (.cells #[true,xs,xm,.slice xa xn xc] 177)).alloc (.cells #[true,ys,ym,.slice ya yn yc] 177)).cell? ⟨W.heap.size,3,none⟩=some (.slice xa xn xc):=by refine⟨?_,?_,?_⟩<;>simp[go_sem]
   have cB:((W.alloc (.cells #[true,xs,xm,.slice xa xn xc] 177)).alloc (.cells #[true,ys,ym,.slice ya yn yc] 177)).cell? ⟨W.heap.size+1,1,none⟩=some (.int .i64 ys)/\((W.alloc (.cells #[true,xs,xm,.slice xa xn xc] 177)).alloc (.cells #[true,ys,ym,.slice ya yn yc] 177)).cell? ⟨W.heap.size+1,2,none⟩=some (.int .i64 ym)/\((W.alloc (.cells #[true,xs,xm,.slice xa xn xc] 177)).alloc (.cells #[true,ys,ym,.slice ya yn yc] 177)).cell? ⟨W.heap.size+1,3,none⟩=some (.slice ya yn yc):=by refine⟨?_,?_,?_⟩<;>simp[go_sem]
   have hl:=h.below hB;have ll:=h'.below hB;go_enter Tz.func161,Tryz.ntmps161
   go_wp2;revert hB cA cB hl ll;generalize ((W.alloc (.cells #[.bool true,.int .i64 xs,.int .i64 xm,.slice xa xn xc] 177)).alloc (.cells #[.bool true,.int .i64 ys,.int .i64 ym,.slice ya yn yc] 177))=W1;intro hB cA cB hl ll;obtain⟨Ba,EM⟩:∃Ba,Ba=W.heap.size:=⟨_,rfl⟩;obtain⟨Bb,EO⟩:∃Bb,Bb=W.heap.size+1:=⟨_,rfl⟩;rw[<-EM]at cA;rw[<-EO]at cB;rw[<-EO,<-EM];obtain⟨m1,m2,m3⟩:=cA;obtain⟨k1,k2,k3⟩:=cB;clear EM EO h h';go_region_held3 (λw'=>w'.cell? ⟨Ba,1,none⟩=some (.int .i64 xs)/\w'.cell? ⟨Ba,2,none⟩=some (.int .i64 xm)/\w'.cell? ⟨Ba,3,none⟩=some (.slice xa xn xc)/\w'.cell? ⟨Bb,1,none⟩=some (.int .i64 ys)/\w'.cell? ⟨Bb,2,none⟩=some (.int .i64 ym)/\w'.cell? ⟨Bb,3,none⟩=some (.slice ya yn yc)/\dX w' xa xn xg/\dX w' ya yn yg) (simp[*,World.cell?_alloc_some,dX.alloc,dX.drew])
    (first|(go_at_call 149;refine(oL _ _ _).mono ?_;rintro e w' ⟨rfl,rfl⟩)|(go_at_call 196;refine(vI _ _ _ _ _ _ xg yg _ hx hy (by assumption) (by assumption)).mono ?_;rintro e w' ⟨rfl,rfl⟩)|(go_at_call 195;refine(or3 _ (jP xs ys) (jP xm ym) (iX xg yg xn yn xn 0) _ zP zP zP).mono ?_;rintro e w' ⟨rfl,rfl⟩))
   all_goals
    go_wp2;go_ret;exact⟨eB rfl,hB.trans (((aca W.heap.size W1).alloc hB.size _).drew)⟩
 .cases xo<;>cases yo<;>simp at ho
  .go_enter Tz.func161,Tryz.ntmps161
   go_wp2;go_ret;exact⟨eB aH,(((aca _ W).alloc (ack _) _).alloc aH _)⟩
  .go_enter Tz.func161,Tryz.ntmps161
   go_wp2;go_ret;exact⟨eB aH,(((aca _ W).alloc (ack _) _).alloc aH _)⟩
end
section
open RowKit
variable {w:World}{b:Nat}
structure Qb (w:World)(b o:Nat)(x:aN):Prop where
 c0:w.cell? ⟨b,o,none⟩=some (.bool x.ok)
 c1:w.cell? ⟨b,o+1,none⟩=some (.int .i64 x.sum)
 c2:w.cell? ⟨b,o+2,none⟩=some (.int .i64 x.most)
 c3:w.cell? ⟨b,o+3,none⟩=some (.slice x.a x.n x.cap)
 row:dX w x.a x.n x.g
 small:x.n<=1048576
def Ei (w:World)(b off n:Nat)(f:Nat->aN):Prop:=∀i,i<n->Qb w b (off+i*4) (f i)
def cM (f:Nat->aN):Nat->aN
 |0=>dQ
 |k+1=>if k=0\/m9 (f k) (cM f k)<0 then f k else cM f k
theorem sM {a0 a1 a2 a3 v0 v1 v2 v3:Value}{T:TypeId}(h:w.heap[b]?=some (.cells #[a0,a1,a2,a3] T (0,0))):
  (((w.setCell b v0).setCell ⟨b,1,none⟩ v1).setCell ⟨b,2,none⟩ v2).setCell ⟨b,3,none⟩ v3=w.setRow b #[v0,v1,v2,v3]:=by
 rw[setCell_eq_setRow w b 0 _ _ _ v0 h];have h1:=setRow_heap w b _ (Array.setIfInBounds #[a0,a1,a2,a3] 0 v0) T _ h;rw[setCell_eq_setRow _ b 1 _ _ _ v1 h1,setRow_setRow];have h2:=setRow_heap w b _ (Array.setIfInBounds (Array.setIfInBounds #[a0,a1,a2,a3] 0 v0) 1 v1) T _ h;rw[setCell_eq_setRow _ b 2 _ _ _ v2 h2,setRow_setRow];have h3:=setRow_heap w b _ (Array.setIfInBounds (Array.setIfInBounds (Array.setIfInBounds #[a0,a1,a2,a3] 0 v0) 1 v1) 2 v2) T _ h;rw[setCell_eq_setRow _ b 3 _ _ _ v3 h3,setRow_setRow];rfl
theorem ww {off n:Nat}{f:Nat->aN}(aq:Ei w b off n f):∀k,k<=n->dX w (cM f k).a (cM f k).n (cM f k).g/\(cM f k).n<=1048576
 |0,_=>⟨.inl rfl,by simp[cM,dQ]⟩
 |k+1,h=>by
  simp only[cM];split
  .exact⟨(aq k ab).row,(aq k ab).small⟩
  .exact ww aq k ab
theorem CA (b off n cap:Nat)(f:Nat->aN)(w:World)(hn:n<=1048576)(bw:b<w)(aq:Ei w b off n f):
  Calls Tz.prog 160 #[.slice (some ⟨b,off,none⟩) n cap,.func (.func 161) #[] #[]] w λe w'=>e=.returned (cM f n).val/\Below w w w':=by
 go_enter Tz.func160,Tryz.ntmps160
 go_wp2;go_loopw [10] (λi w'=>∃k:Nat,k<=n/\i=.int .i64 k/\Below w w w'/\w.heap.size+2<=w'.heap.size
  /\w'.heap[w.heap.size]?=some (.cells #[false,.int .i64 0,.int .i64 0,()] 177)
  /\w'.heap[w.heap.size+1]?=some (.cells #[.bool (cM f k).ok,.int .i64 (cM f k).sum,.int .i64 (cM f k).most,.slice (cM f k).a (cM f k).n (cM f k).cap] 177)) (λi _=>n-(intOf i).toNat)
 case atStart=>exact⟨0,acp _,rfl,((aca _ w).alloc (ack _) _).alloc aH _,aH,(acb _ _ _ aH).trans (heap_alloc_new _ _),by have:=heap_alloc_new (w.alloc (.cells #[.bool false,.int .i64 0,.int .i64 0,.slice none 0 0] 177)) (.cells #[.bool false,.int .i64 0,.int .i64 0,.slice none 0 0] 177);simpa[cM,dQ]using this⟩
 case round=>
  obtain⟨k,hk,rfl,hB,iZ,jR,qj⟩:=hrel;by_cases aI:k<n
  .obtain⟨c0,c1,c2,c3,hl,Zo⟩:=aq k aI;have dG:(k:Int)<n:=ab;have d0:=(hB.cell bw).trans c0;have d1:=(hB.cell bw).trans c1;have d2:=(hB.cell bw).trans c2;have d3:=(hB.cell bw).trans c3;generalize hL:cM f k=L at qj;have l0:wr.cell? ⟨w.heap.size+1,0,none⟩=some (.bool L.ok):=by simp[World.cell?,qj]
   have l1:wr.cell? ⟨w.heap.size+1,1,none⟩=some (.int .i64 L.sum):=by simp[World.cell?,qj]
   have l2:wr.cell? ⟨w.heap.size+1,2,none⟩=some (.int .i64 L.most):=by simp[World.cell?,qj]
   have l3:wr.cell? ⟨w.heap.size+1,3,none⟩=some (.slice L.a L.n L.cap):=by simp[World.cell?,qj]
   have lf:∀j,wr.frozen? ⟨w.heap.size+1,j,none⟩=false:=λj=>by simp[World.frozen?,qj]
   have WR:w.heap.size+1<wr:=ab;have hS:cM f (k+1)=if k=0\/m9 (f k) L<0 then f k else L:=by rw[<-hL];rfl
   by_cases uZ:k=0
   .subst uZ;rw[if_pos (.inl rfl)]at hS;simp only[Nat.zero_mul,Nat.add_zero]at d0 d1 d2 d3;go_wp2;go_roundw
    case rel=>
     rw[sM qj];have hz:(wr.setRow (w.heap.size+1) #[.bool (f 0).ok,.int .i64 (f 0).sum,.int .i64 (f 0).most,.slice (f 0).a (f 0).n (f 0).cap]).heap.size=wr.heap.size:=setRow_size _ _ _;refine⟨1,ab,rfl,(below_setRow hB ab _).alloc ab _,by rw[acg,hz];omega,?_,?_⟩
     .rw[acb _ _ _ ab,setRow_other _ _ _ _ ab];exact jR
     .rw[acb _ _ _ ab,setRow_heap _ _ _ _ _ _ qj,hS]
    case measure=>exact cf
   .have OI:¬((k:Int)=0):=by omega
    obtain⟨hLl,hLn⟩:=ww aq k hk;rw[hL]at hLl hLn;have hA:Below w w (wr.alloc (.cells #[.bool (f k).ok,.int .i64 (f k).sum,.int .i64 (f k).most,.slice (f k).a (f k).n (f k).cap] 177)):=hB.alloc ab _;have JS:=hl.below hA;have Qt:=hLl.below hA;have hC:=EC (f k) L (wr.alloc (.cells #[.bool (f k).ok,.int .i64 (f k).sum,.int .i64 (f k).most,.slice (f k).a (f k).n (f k).cap] 177)) Zo hLn JS Qt;by_cases Wh:m9 (f k) L<0
    .rw[if_pos (.inr Wh)]at hS;go_wp2_with(go_at_call 161;refine hC.mono ?_;clear hC;rintro e w1 ⟨rfl,mS⟩;have GS:=(mS.block wr.heap.size aH).trans (heap_alloc_new _ _);have lY:=(mS.block (w.heap.size+1) cC).trans ((acb _ _ _ WR).trans qj);have iJ:=(mS.block w.heap.size cC).trans ((acb _ _ _ ab).trans jR);have x0:w1.cell? ⟨wr.heap.size,0,none⟩=some (.bool (f k).ok):=(by simp[World.cell?,GS]);have x1:w1.cell? ⟨wr.heap.size,1,none⟩=some (.int .i64 (f k).sum):=(by simp[World.cell?,GS]);have x2:w1.cell? ⟨wr.heap.size,2,none⟩=some (.int .i64 (f k).most):=(by simp[World.cell?,GS]);have x3:w1.cell? ⟨wr.heap.size,3,none⟩=some (.slice (f k).a (f k).n (f k).cap):=(by simp[World.cell?,GS]);have y0:w1.cell? ⟨w.heap.size+1,0,none⟩=some (.bool L.ok):=(by simp[World.cell?,lY]);have y1:w1.cell? ⟨w.heap.size+1,1,none⟩=some (.int .i64 L.sum):=(by simp[World.cell?,lY]);have y2:w1.cell? ⟨w.heap.size+1,2,none⟩=some (.int .i64 L.most):=(by simp[World.cell?,lY]);have y3:w1.cell? ⟨w.heap.size+1,3,none⟩=some (.slice L.a L.n L.cap):=(by simp[World.cell?,lY]);have yf:∀j,w1.frozen? ⟨w.heap.size+1,j,none⟩=false:=(λj=>by simp[World.frozen?,lY]);have qI:=hA.trans (mS.mono cC);have fq:=mS.size)
     all_goals try(exfalso;omega)
     go_roundw
     case rel=>
      rw[sM lY];have hz:(w1.setRow (w.heap.size+1) #[.bool (f k).ok,.int .i64 (f k).sum,.int .i64 (f k).most,.slice (f k).a (f k).n (f k).cap]).heap.size=w1.heap.size:=setRow_size _ _ _;rw[acg]at fq;refine⟨k+1,ab,by go_num,below_setRow qI ab _,by rw[hz];omega,?_,?_⟩
      .rw[setRow_other _ _ _ _ ab];exact iJ
      .rw[setRow_heap _ _ _ _ _ _ lY,hS]
     case measure=>exact cf
    .rw[if_neg (λe=>e.elim uZ Wh)]at hS;have Iu:decide (m9 (f k) L<0)=false:=decide_eq_false Wh;have abq:0<=m9 (f k) L:=ab;clear Wh;go_wp2_with(go_at_call 161;refine hC.mono ?_;clear hC;rintro e w1 ⟨rfl,mS⟩;have GS:=(mS.block wr.heap.size aH).trans (heap_alloc_new _ _);have lY:=(mS.block (w.heap.size+1) cC).trans ((acb _ _ _ WR).trans qj);have iJ:=(mS.block w.heap.size cC).trans ((acb _ _ _ ab).trans jR);have x0:w1.cell? ⟨wr.heap.size,0,none⟩=some (.bool (f k).ok):=(by simp[World.cell?,GS]);have x1:w1.cell? ⟨wr.heap.size,1,none⟩=some (.int .i64 (f k).sum):=(by simp[World.cell?,GS]);have x2:w1.cell? ⟨wr.heap.size,2,none⟩=some (.int .i64 (f k).most):=(by simp[World.cell?,GS]);have x3:w1.cell? ⟨wr.heap.size,3,none⟩=some (.slice (f k).a (f k).n (f k).cap):=(by simp[World.cell?,GS]);have y0:w1.cell? ⟨w.heap.size+1,0,none⟩=some (.bool L.ok):=(by simp[World.cell?,lY]);have y1:w1.cell? ⟨w.heap.size+1,1,none⟩=some (.int .i64 L.sum):=(by simp[World.cell?,lY]);have y2:w1.cell? ⟨w.heap.size+1,2,none⟩=some (.int .i64 L.most):=(by simp[World.cell?,lY]);have y3:w1.cell? ⟨w.heap.size+1,3,none⟩=some (.slice L.a L.n L.cap):=(by simp[World.cell?,lY]);have yf:∀j,w1.frozen? ⟨w.heap.size+1,j,none⟩=false:=(λj=>by simp[World.frozen?,lY]);have qI:=hA.trans (mS.mono cC);have fq:=mS.size)
     all_goals try(exfalso;omega)
     go_roundw
     case rel=>
      rw[acg]at fq;exact⟨k+1,ab,by go_num,qI,ab,iJ,by rw[lY,hS]⟩
     case measure=>exact cf
  .have qo:k=n:=by omega
   subst qo;have l0:wr.cell? ⟨w.heap.size+1,0,none⟩=some (.bool (cM f k).ok):=by simp[World.cell?,qj]
   have l1:wr.cell? ⟨w.heap.size+1,1,none⟩=some (.int .i64 (cM f k).sum):=by simp[World.cell?,qj]
   have l2:wr.cell? ⟨w.heap.size+1,2,none⟩=some (.int .i64 (cM f k).most):=by simp[World.cell?,qj]
   have l3:wr.cell? ⟨w.heap.size+1,3,none⟩=some (.slice (cM f k).a (cM f k).n (cM f k).cap):=by simp[World.cell?,qj]
   have s0:wr.cell? w.heap.size=some (.bool false):=by simp[World.cell?,jR]
   have s1:wr.cell? ⟨w.heap.size,1,none⟩=some (.int .i64 0):=by simp[World.cell?,jR]
   have s2:wr.cell? ⟨w.heap.size,2,none⟩=some (.int .i64 0):=by simp[World.cell?,jR]
   have s3:wr.cell? ⟨w.heap.size,3,none⟩=some (.slice none 0 0):=by simp[World.cell?,jR]
   have sf:∀j,wr.frozen? ⟨w.heap.size,j,none⟩=false:=λj=>by simp[World.frozen?,jR]
   go_wp2;rw[sM jR];have UU:=setRow_heap wr w.heap.size _ #[.bool (cM f k).ok,.int .i64 (cM f k).sum,.int .i64 (cM f k).most,.slice (cM f k).a (cM f k).n (cM f k).cap] _ _ jR;have gi:=below_setRow hB (ack _) #[.bool (cM f k).ok,.int .i64 (cM f k).sum,.int .i64 (cM f k).most,.slice (cM f k).a (cM f k).n (cM f k).cap];generalize wr.setRow w.heap.size #[.bool (cM f k).ok,.int .i64 (cM f k).sum,.int .i64 (cM f k).most,.slice (cM f k).a (cM f k).n (cM f k).cap]=W5 at UU gi⊢;have q0:W5.cell? w.heap.size=some (.bool (cM f k).ok):=uK;have q1:W5.cell? ⟨w.heap.size,1,none⟩=some (.int .i64 (cM f k).sum):=uK;have q2:W5.cell? ⟨w.heap.size,2,none⟩=some (.int .i64 (cM f k).most):=uK;have q3:W5.cell? ⟨w.heap.size,3,none⟩=some (.slice (cM f k).a (cM f k).n (cM f k).cap):=uK;refine bodyPost_ret (v:=(cM f k).val) ?_ rfl ⟨rfl,gi⟩;simp[results,Tryz.f160,go_sem,aN.val,q0,q1,q2,q3]
end
