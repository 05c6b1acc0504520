import Derived.Test.YtlmcblcijndipaaGreatDoora15
import Derived.Test.YtlmcblcijndipaaGreatDoora09e
import Derived.Laws.CopyOwn
set_option linter.defProp false
set_option linter.unusedVariables false
set_option maxHeartbeats 2000000
set_option maxRecDepth 10000
namespace Go.Proofs.YtlmcblcijndipaaGreatDoor
open RowKit
variable {b n:Nat}{w:World}
def QT (m:Mv)(w:World):
  Calls Tz.prog 234 #[.agg #[m.name,m.aj,m.ap,m.aW,m.late,m.prom]] w λe w'=>e=.returned m.key/\w'=w.alloc (.cells #[m.name,m.aj,m.ap,m.aW,m.late,m.prom] 31):=by
 by_cases h:0<=m.prom
 .go_enter Tz.func234,Tryz.ntmps234
  go_wp2;go_ret;exact⟨eR (by unfold Mv.key;rw[if_pos h]),rfl⟩
 .go_enter Tz.func234,Tryz.ntmps234
  go_wp2;go_ret;exact⟨eR (by unfold Mv.key;rw[if_neg aa]),rfl⟩
def Qz (m:Mv)(w:World):
  Calls Tz.prog 131 #[.agg #[m.name,m.aj,m.ap,m.aW,m.late,m.prom]] w λe w'=>e=.returned m.key/\Below w w w':=by
 by_cases h:0<=m.prom
 .go_enter Tz.func131,Tryz.ntmps131
  go_wp2;go_ret;exact⟨eR (by unfold Mv.key;rw[if_pos h]),(acW _ _).alloc (ac5 _) _⟩
 .go_enter Tz.func131,Tryz.ntmps131
  go_wp2;go_ret;exact⟨eR (by unfold Mv.key;rw[if_neg aa]),(acW _ _).alloc (ac5 _) _⟩
def pz (a b:Int)(w:World):
  Calls Tz.prog 149 #[a,b] w λe w'=>e=.returned (.int .i64<|kg a b)/\w'=w:=by
 by_cases h:a<b
 .go_enter Tz.func149,Tryz.ntmps149
  go_wp2;go_ret;exact⟨eR (by unfold kg;rw[if_pos h]),rfl⟩
 .by_cases h':b<a
  .go_enter Tz.func149,Tryz.ntmps149
   go_wp2;go_ret;exact⟨eR (by unfold kg;rw[if_neg aa,if_pos h']),rfl⟩
  .go_enter Tz.func149,Tryz.ntmps149
   go_wp2;go_ret;exact⟨eR (by unfold kg;rw[if_neg aa,if_neg aa]),rfl⟩
def L2 (a b:ByteArray)(w:World):
  Calls Tz.prog 235 #[a,b] w λe w'=>e=.returned (.int .i64<|tN a b)/\w'=w:=by
 cases h:bU a b with
 |true=>
  have RL:tN a b=-1:=by unfold tN;rw[if_pos h]
  have HC:Hid (tN a b=-1):=RL;clear RL;unfold bU at h;go_enter Tz.func235,Tryz.ntmps235
  go_wp2;go_ret;exact⟨eR HC.out.symm,rfl⟩
 |false=>
  cases h':bX a b with
  |true=>
   have RL:tN a b=0:=by unfold tN;rw[if_neg (by simp[h]),if_pos h']
   have HC:Hid (tN a b=0):=RL;clear RL;unfold bU at h;unfold bX at h';go_enter Tz.func235,Tryz.ntmps235
   go_wp2;go_ret;exact⟨eR HC.out.symm,rfl⟩
  |false=>
   have RL:tN a b=1:=by unfold tN;rw[if_neg (by simp[h]),if_neg (by simp[h'])]
   have HC:Hid (tN a b=1):=RL;clear RL;unfold bU at h;unfold bX at h';go_enter Tz.func235,Tryz.ntmps235
   go_wp2;go_ret;exact⟨eR HC.out.symm,rfl⟩
def abp (c:Nat->Int)(k:Nat):Prop:=∀i,i<k->c i=0
def Vl (b:Nat)(c:Nat->Int)(w:World)(hc:∀i,i<3->w.cell? ⟨b,i,none⟩=some (.int .i64<|c i)):
  Calls Tz.prog 195 #[.slice b 3 3] w λe w'=>e=.returned (.int .i64<|I5 (c 0) (c 1)<|c 2)/\w'=w:=by
 go_enter Tz.func195,Tryz.ntmps195
 go_wp2;go_loop [8] (λi=>∃k:Nat,k<=3/\i=.int .i64 k/\abp c k) (λi=>3-(intOf i).toNat)
 case atStart=>exact⟨0,ada _,rfl,λi hi=>absurd hi<|ac9 _⟩
 case round=>
  obtain⟨k,hk,rfl,hz⟩:=hrel;by_cases aB:k<3
  .have uE:=hc k aB;have dr:(k:Int)<3:=aa;cases hne:(c k !=0)with
   |true=>
    have Xk:I5 (c 0) (c 1) (c 2)=c k:=by
     have hn:c k≠0:=by simpa using hne
     unfold I5;by_cases e0:k=0
     .subst e0;rw[if_neg hn]
     .rw[if_pos (hz 0 aa)];by_cases e1:k=1
      .subst e1;rw[if_neg hn]
      .rw[if_pos (hz 1 aa)];obtain rfl:k=2:=aa;rfl
    have HO:Hid (I5 (c 0) (c 1) (c 2)=c k):=Xk;clear Xk;go_wp2;go_ret;exact⟨eR HO.out.symm,rfl⟩
   |false=>
    have Jv:c k=0:=by simpa using hne
    have HE:Hid (c k=0):=Jv;clear Jv;go_wp2;go_round
    case rel=>exact⟨k+1,aa,by go_num,λi hi=>by
     by_cases e:i=k
     .subst e;exact HE.out
     .exact hz i aa⟩
    case measure=>exact cI
  .have Xk:I5 (c 0) (c 1) (c 2)=0:=by
    unfold I5;rw[if_pos (hz 0 aa),if_pos (hz 1 aa)];exact hz 2 aa
   have HO:Hid (I5 (c 0) (c 1) (c 2)=0):=Xk;clear Xk;go_wp2;go_ret;exact⟨eR HO.out.symm,rfl⟩
def or3 (b:Nat)(x y z:Int)(w:World)(c0:w.cell? b=some (.int .i64 x))(c1:w.cell? ⟨b,1,none⟩=some (.int .i64 y))(c2:w.cell? ⟨b,2,none⟩=some (.int .i64 z)):
  Calls Tz.prog 195 #[.slice b 3 3] w λe w'=>e=.returned (.int .i64<|I5 x y z)/\w'=w:=
 Vl b (λi=>if i=0 then x else if i=1 then y else z) w (λi hi=>by
  match i,hi with
  |0,_=>simpa using c0
  |1,_=>simpa using c1
  |2,_=>simpa using c2)
def jo (g g':Nat->Int)(n n':Nat):Nat->Nat->Int
 |0,_=>if n<n' then -1 else 0
 |f+1,k=>if n'<=k then 1 else if kg (g k) (g' k)=0 then jo g g' n n' f (k+1)else kg (g k) (g' k)
def wI (a a':Option Addr)(n n' cap cap':Nat)(g g':Nat->Int)(w:World)(hn:n<=1048576)(Ln:n'<=1048576)(h:ep w a n g)(h':ep w a' n' g'):
  Calls Tz.prog 196 #[.slice a n cap,.slice a' n' cap'] w λe w'=>e=.returned (.int .i64<|jo g g' n n' n 0)/\w'=w:=by
 go_enter Tz.func196,Tryz.ntmps196
 go_wp2;go_loopw [11] (λi w'=>∃k:Nat,k<=n/\i=.int .i64 k/\w'=w/\jo g g' n n' n 0=jo g g' n n' (n-k) k) (λi _=>n-(intOf i).toNat)
 case atStart=>exact⟨0,ada _,rfl,rfl,rfl⟩
 case round=>
  obtain⟨k,hk,rfl,rfl,hc⟩:=hrel;by_cases aB:k<n
  .obtain⟨b,off,rfl,aq⟩:=h.resolve_left aa;have hr:=aq k aB;have dr:(k:Int)<n:=aa;have hf:n-k=(n-(k+1))+1:=aa;rw[hf,jo]at hc;by_cases h2:n'<=k
   .rw[if_pos h2]at hc;have XR:(n':Int)<=k:=aa;go_wp2;go_ret;exact⟨eR<|by first|exact hc.symm|rfl,rfl⟩
   .rw[if_neg h2]at hc;obtain⟨b',ce,rfl,aU⟩:=h'.resolve_left aa;have gG:=aU k aa;have XR:¬(n':Int)<=k:=aa;have I':(k:Int)<n':=aa;by_cases h4:kg (g k) (g' k)=0
    .rw[if_pos h4]at hc;go_wp2_with(go_at_call 149;refine(pz _ _ _).mono ?_;rintro e w' ⟨rfl,rfl⟩)
     go_roundw
     case rel=>exact⟨k+1,aa,by go_num,PK,hc⟩
     case measure=>exact cI
    .rw[if_neg h4]at hc;go_wp2_with(go_at_call 149;refine(pz _ _ _).mono ?_;rintro e w' ⟨rfl,rfl⟩)
     go_ret;exact⟨eR<|by first|exact hc.symm|rfl,rfl⟩
  .obtain rfl:k=n:=by omega
   rw[Nat.sub_self,jo]at hc;by_cases h5:k<n'
   .rw[if_pos h5]at hc;have h5':(k:Int)<n':=aa;go_wp2;go_ret;exact⟨eR<|by first|exact hc.symm|rfl,rfl⟩
   .rw[if_neg h5]at hc;have h5':¬(k:Int)<n':=aa;go_wp2;go_ret;exact⟨eR<|by first|exact hc.symm|rfl,rfl⟩
def ZS (g:Nat->Int):Nat->Nat->Int
 |0,_=>0
 |f+1,k=>if g k=0 then ZS g f (k+1)else g k
def eU {W:World}{o:Nat}{v:Value}(h:W.cell? ⟨b,o,none⟩=some v):∀o1 o2 o3,(((W.alloc o1).alloc o2).alloc o3).cell? ⟨b,o,none⟩=some v:=λo1 o2 o3=>
 (((((acW W.heap.size W).alloc (ac5 _) o1).alloc aF o2).alloc cU o3).cell (p:=⟨b,o,none⟩) (block_lt_of_cell h)).trans h
def FX (x y:Nat)(bl b off n cap:Nat)(f:Nat->Mv)(W:World)(hx:x<n)(hy:y<n)(hn:n<=1048576)
  (cl:W.cell? bl=some (.slice (some ⟨b,off,none⟩) n cap))(aq:aI W b off n f):
  Calls Tz.prog 233 #[.int .i64 (x:Int),.int .i64 (y:Int),.pointer bl] W λe w'=>e=.returned (.int .i64<|K9 f x y)/\Below W W w'/\W.drawn<=w'.drawn:=by
 have dG:(x:Int)<n:=aa;have GH:(y:Int)<n:=aa;let⟨a0,a1,a2,a3,a4,a5⟩:=aq x hx;let⟨b0,b1,b2,b3,b4,b5⟩:=aq y hy;go_enter Tz.func233,Tryz.ntmps233
 go_wp2;go_region_held3 (λw'=>w'.cell? bl=some (.slice (some ⟨b,off,none⟩) n cap)
  /\w'.cell? ⟨b,off+x*6,none⟩=some (.string (f x).name)/\w'.cell? ⟨b,off+x*6+1,none⟩=some (.bool (f x).aj)/\w'.cell? ⟨b,off+x*6+2,none⟩=some (.int .i64 (f x).ap)/\w'.cell? ⟨b,off+x*6+3,none⟩=some (.int .i64 (f x).aW)/\w'.cell? ⟨b,off+x*6+4,none⟩=some (.int .i64 (f x).late)/\w'.cell? ⟨b,off+x*6+5,none⟩=some (.int .i64 (f x).prom)
  /\w'.cell? ⟨b,off+y*6,none⟩=some (.string (f y).name)/\w'.cell? ⟨b,off+y*6+1,none⟩=some (.bool (f y).aj)/\w'.cell? ⟨b,off+y*6+2,none⟩=some (.int .i64 (f y).ap)/\w'.cell? ⟨b,off+y*6+3,none⟩=some (.int .i64 (f y).aW)/\w'.cell? ⟨b,off+y*6+4,none⟩=some (.int .i64 (f y).late)/\w'.cell? ⟨b,off+y*6+5,none⟩=some (.int .i64 (f y).prom)) (go_keep) (fail)
 focus
  have hB:Below W W ((W.alloc<|.cells #[.string (f x).name,.bool (f x).aj,.int .i64 (f x).ap,.int .i64 (f x).aW,.int .i64 (f x).late,.int .i64 (f x).prom] 31).alloc<|.cells #[.string (f y).name,.bool (f y).aj,.int .i64 (f y).ap,.int .i64 (f y).aW,.int .i64 (f y).late,.int .i64 (f y).prom] 31).drew:=(((acW _ W).alloc (ac5 _) _).alloc aF _).drew;have hD:W.drawn<=((W.alloc<|.cells #[.string (f x).name,.bool (f x).aj,.int .i64 (f x).ap,.int .i64 (f x).aW,.int .i64 (f x).late,.int .i64 (f x).prom] 31).alloc<|.cells #[.string (f y).name,.bool (f y).aj,.int .i64 (f y).ap,.int .i64 (f y).aW,.int .i64 (f y).late,.int .i64 (f y).prom] 31).drew.drawn:=by show W.drawn<=W.drawn+1;omega
  have hA:tH ((W.alloc<|.cells #[.string (f x).name,.bool (f x).aj,.int .i64 (f x).ap,.int .i64 (f x).aW,.int .i64 (f x).late,.int .i64 (f x).prom] 31).alloc<|.cells #[.string (f y).name,.bool (f y).aj,.int .i64 (f y).ap,.int .i64 (f y).aW,.int .i64 (f y).late,.int .i64 (f y).prom] 31).drew (W.heap.size) 0 (f x):=by constructor<;>simp[go_sem]
  have hE:tH ((W.alloc<|.cells #[.string (f x).name,.bool (f x).aj,.int .i64 (f x).ap,.int .i64 (f x).aW,.int .i64 (f x).late,.int .i64 (f x).prom] 31).alloc<|.cells #[.string (f y).name,.bool (f y).aj,.int .i64 (f y).ap,.int .i64 (f y).aW,.int .i64 (f y).late,.int .i64 (f y).prom] 31).drew (W.heap.size+1) 0 (f y):=by constructor<;>simp[go_sem]
  go_wp2;revert hB hD hA hE;generalize ((W.alloc<|.cells #[.string (f x).name,.bool (f x).aj,.int .i64 (f x).ap,.int .i64 (f x).aW,.int .i64 (f x).late,.int .i64 (f x).prom] 31).alloc<|.cells #[.string (f y).name,.bool (f y).aj,.int .i64 (f y).ap,.int .i64 (f y).aW,.int .i64 (f y).late,.int .i64 (f y).prom] 31).drew=W1;intro hB hD hA hE;obtain⟨Ba,Gj⟩:∃Ba,Ba=W.heap.size:=⟨_,rfl⟩;obtain⟨Bb,Gk⟩:∃Bb,Bb=W.heap.size+1:=⟨_,rfl⟩;rw[<-Gj]at hA;rw[<-Gk]at hE;rw[<-Gk,<-Gj];clear Gj Gk
 rotate_left;focus
  have hB:Below W W ((W.alloc<|.cells #[.string (f y).name,.bool (f y).aj,.int .i64 (f y).ap,.int .i64 (f y).aW,.int .i64 (f y).late,.int .i64 (f y).prom] 31).alloc<|.cells #[.string (f x).name,.bool (f x).aj,.int .i64 (f x).ap,.int .i64 (f x).aW,.int .i64 (f x).late,.int .i64 (f x).prom] 31).drew:=(((acW _ W).alloc (ac5 _) _).alloc aF _).drew;have hD:W.drawn<=((W.alloc<|.cells #[.string (f y).name,.bool (f y).aj,.int .i64 (f y).ap,.int .i64 (f y).aW,.int .i64 (f y).late,.int .i64 (f y).prom] 31).alloc<|.cells #[.string (f x).name,.bool (f x).aj,.int .i64 (f x).ap,.int .i64 (f x).aW,.int .i64 (f x).late,.int .i64 (f x).prom] 31).drew.drawn:=by show W.drawn<=W.drawn+1;omega
  have hA:tH ((W.alloc<|.cells #[.string (f y).name,.bool (f y).aj,.int .i64 (f y).ap,.int .i64 (f y).aW,.int .i64 (f y).late,.int .i64 (f y).prom] 31).alloc<|.cells #[.string (f x).name,.bool (f x).aj,.int .i64 (f x).ap,.int .i64 (f x).aW,.int .i64 (f x).late,.int .i64 (f x).prom] 31).drew (W.heap.size+1) 0 (f x):=by constructor<;>simp[go_sem]
  have hE:tH ((W.alloc<|.cells #[.string (f y).name,.bool (f y).aj,.int .i64 (f y).ap,.int .i64 (f y).aW,.int .i64 (f y).late,.int .i64 (f y).prom] 31).alloc<|.cells #[.string (f x).name,.bool (f x).aj,.int .i64 (f x).ap,.int .i64 (f x).aW,.int .i64 (f x).late,.int .i64 (f x).prom] 31).drew (W.heap.size) 0 (f y):=by constructor<;>simp[go_sem]
  go_wp2;revert hB hD hA hE;generalize ((W.alloc<|.cells #[.string (f y).name,.bool (f y).aj,.int .i64 (f y).ap,.int .i64 (f y).aW,.int .i64 (f y).late,.int .i64 (f y).prom] 31).alloc<|.cells #[.string (f x).name,.bool (f x).aj,.int .i64 (f x).ap,.int .i64 (f x).aW,.int .i64 (f x).late,.int .i64 (f x).prom] 31).drew=W1;intro hB hD hA hE;obtain⟨Ba,Gj⟩:∃Ba,Ba=W.heap.size+1:=⟨_,rfl⟩;obtain⟨Bb,Gk⟩:∃Bb,Bb=W.heap.size:=⟨_,rfl⟩;rw[<-Gj]at hA;rw[<-Gk]at hE;rw[<-Gj,<-Gk];clear Gj Gk
 all_goals
  let⟨m0,m1,m2,m3,m4,m5⟩:=hA;let⟨k0,k1,k2,k3,k4,k5⟩:=hE;simp only[Nat.zero_add]at m0 m1 m2 m3 m4 m5 k0 k1 k2 k3 k4 k5;have pm0:=eU m0;have pm1:=eU m1;have pm2:=eU m2;have pm3:=eU m3;have pm4:=eU m4;have pm5:=eU m5;have pk0:=eU k0;have pk1:=eU k1;have pk2:=eU k2;have pk3:=eU k3;have pk4:=eU k4;have pk5:=eU k5;go_region_held3 (λw'=>w'.cell? Ba=some (.string (f x).name)/\w'.cell? ⟨Ba,1,none⟩=some (.bool (f x).aj)/\w'.cell? ⟨Ba,2,none⟩=some (.int .i64 (f x).ap)/\w'.cell? ⟨Ba,3,none⟩=some (.int .i64 (f x).aW)/\w'.cell? ⟨Ba,4,none⟩=some (.int .i64 (f x).late)/\w'.cell? ⟨Ba,5,none⟩=some (.int .i64 (f x).prom)/\w'.cell? Bb=some (.string (f y).name)/\w'.cell? ⟨Bb,1,none⟩=some (.bool (f y).aj)/\w'.cell? ⟨Bb,2,none⟩=some (.int .i64 (f y).ap)/\w'.cell? ⟨Bb,3,none⟩=some (.int .i64 (f y).aW)/\w'.cell? ⟨Bb,4,none⟩=some (.int .i64 (f y).late)/\w'.cell? ⟨Bb,5,none⟩=some (.int .i64 (f y).prom)) (go_keep)
   (first|(go_at_call 234;refine(QT _ _).mono ?_;rintro e w' ⟨rfl,rfl⟩)|(go_at_call 149;refine(pz _ _ _).mono ?_;rintro e w' ⟨rfl,rfl⟩)|(go_at_call 235;refine(L2 _ _ _).mono ?_;rintro e w' ⟨rfl,rfl⟩)|(go_at_call 195;refine(or3 _ (kg (f x).key (f y).key) (tN (f x).name (f y).name) (kg (x:Int) (y:Int)) _ BD BD BD).mono ?_;rintro e w' ⟨rfl,rfl⟩))
  all_goals
   go_wp2;go_ret;refine⟨eR rfl,hB.trans ?_,?_⟩
   .exact((((acW W.heap.size W1).alloc hB.size _).alloc (by have:=hB.size;simp;omega) _).alloc (by have:=hB.size;simp;omega) _).drew
   .show W.drawn<=W1.drawn+1;omega
section
variable {a:Option Addr}{g:Nat->Int}
def nL (x y:aJ):Int:=if x.ok=y.ok then I5 (kg x.sum y.sum) (kg x.most y.most) (jo x.g y.g x.n y.n x.n 0)else if x.ok=true then -1 else 1
def ep.below {w':World}(h:ep w a n g)(hb:Below w w w'):ep w' a n g:=by
 rcases h with h|⟨b,off,e,hr⟩
 .exact .inl h
 .by_cases hn:n=0
  .exact .inl hn
  .refine .inr ⟨b,off,e,hr.below hb ?_⟩;have:=hr 0 aa;rcases ade b w.heap.size with hl|hl
   .exact hl
   .simp[World.cell?,Array.getElem?_eq_none hl]at this
def ep.alloc (o:Obj)(h:ep w a n g):ep (w.alloc o) a n g:=h.below<|(acW _ w).alloc (ac5 _) o
def ep.drew (h:ep w a n g):ep w.drew a n g:=h
def F9 (x y:aJ)(W:World)(hx:x.n<=1048576)(hy:y.n<=1048576)(h:ep W x.a x.n x.g)(h':ep W y.a y.n y.g):
  Calls Tz.prog 161 #[x.val,y.val] W λe w'=>e=.returned (.int .i64<|nL x y)/\Below W W w':=by
 let⟨xo,xs,xm,xa,xn,xc,xg⟩:=x;let⟨yo,ys,ym,ya,yn,yc,yg⟩:=y;simp only[aJ.val,nL]at*;by_cases ho:xo=yo
 .subst ho;rw[if_pos rfl];have hB:Below W W ((W.alloc<|.cells #[xo,xs,xm,.slice xa xn xc] 177).alloc<|.cells #[xo,ys,ym,.slice ya yn yc] 177):=((acW _ W).alloc (ac5 _) _).alloc aF _;cases xo
  .have cA:((W.alloc<|.cells #[false,xs,xm,.slice xa xn xc] 177).alloc<|.cells #[false,ys,ym,.slice ya yn yc] 177).cell? ⟨W.heap.size,1,none⟩=some (.int .i64 xs)/\((W.alloc<|.cells #[false,xs,xm,.slice xa xn xc] 177).alloc<|.cells #[false,ys,ym,.slice ya yn yc] 177).cell? ⟨W.heap.size,2,none⟩=some (.int .i64 xm)/\((W.alloc<|.cells #[false,xs,xm,.slice xa xn xc] 177).alloc<|.cells #[false,ys,ym,.slice ya yn yc] 177).cell? ⟨W.heap.size,3,none⟩=some (.slice xa xn xc):=by refine⟨?_,?_,?_⟩<;>simp[go_sem]
   have cB:((W.alloc<|.cells #[false,xs,xm,.slice xa xn xc] 177).alloc<|.cells #[false,ys,ym,.slice ya yn yc] 177).cell? ⟨W.heap.size+1,1,none⟩=some (.int .i64 ys)/\((W.alloc<|.cells #[false,xs,xm,.slice xa xn xc] 177).alloc<|.cells #[false,ys,ym,.slice ya yn yc] 177).cell? ⟨W.heap.size+1,2,none⟩=some (.int .i64 ym)/\((W.alloc<|.cells #[false,xs,xm,.slice xa xn xc] 177).alloc<|.cells #[false,ys,ym,.slice ya yn yc] 177).cell? ⟨W.heap.size+1,3,none⟩=some (.slice ya yn yc):=by refine⟨?_,?_,?_⟩<;>simp[go_sem]
   have hl:=h.below hB;have mI:=h'.below hB;go_enter Tz.func161,Tryz.ntmps161
   go_wp2;revert hB cA cB hl mI;generalize ((W.alloc<|.cells #[.bool false,.int .i64 xs,.int .i64 xm,.slice xa xn xc] 177).alloc<|.cells #[.bool false,.int .i64 ys,.int .i64 ym,.slice ya yn yc] 177)=W1;intro hB cA cB hl mI;obtain⟨Ba,Gj⟩:∃Ba,Ba=W.heap.size:=⟨_,rfl⟩;obtain⟨Bb,Gk⟩:∃Bb,Bb=W.heap.size+1:=⟨_,rfl⟩;rw[<-Gj]at cA;rw[<-Gk]at cB;rw[<-Gk,<-Gj];have mm:=cA;have kk:=cB;clear Gj Gk h h';go_region_held3 (λw'=>w'.cell? ⟨Ba,1,none⟩=some (.int .i64 xs)/\w'.cell? ⟨Ba,2,none⟩=some (.int .i64 xm)/\w'.cell? ⟨Ba,3,none⟩=some (.slice xa xn xc)/\w'.cell? ⟨Bb,1,none⟩=some (.int .i64 ys)/\w'.cell? ⟨Bb,2,none⟩=some (.int .i64 ym)/\w'.cell? ⟨Bb,3,none⟩=some (.slice ya yn yc)/\ep w' xa xn xg/\ep w' ya yn yg) (simp[*,World.cell?_alloc_some,ep.alloc,ep.drew])
    (first|(go_at_call 149;refine(pz _ _ _).mono ?_;rintro e w' ⟨rfl,rfl⟩)|(go_at_call 196;refine(wI _ _ _ _ _ _ xg yg _ hx hy (by assumption)<|by assumption).mono ?_;rintro e w' ⟨rfl,rfl⟩)|(go_at_call 195;refine(or3 _ (kg xs ys) (kg xm ym) (jo xg yg xn yn xn 0) _ BD BD BD).mono ?_;rintro e w' ⟨rfl,rfl⟩))
   all_goals
    go_wp2;go_ret;exact⟨eR rfl,hB.trans<|((acW W.heap.size W1).alloc hB.size _).drew⟩
  .have cA:((W.alloc<|.cells #[true,xs,xm,.slice xa xn xc] 177).alloc<|.cells #[true,ys,ym,.slice ya yn yc] 177).cell? ⟨W.heap.size,1,none⟩=some (.int .i64 xs)/\((W.alloc<|.cells #[true,xs,xm,.slice xa xn xc] 177).alloc<|.cells #[true,ys,ym,.slice ya yn yc] 177).cell? ⟨W.heap.size,2,none⟩=some (.int .i64 xm)/\((W.alloc<|.cells #[true,xs,xm,.slice xa xn xc] 177).alloc<|.cells #[true,ys,ym,.slice ya yn yc] 177).cell? ⟨W.heap.size,3,none⟩=some (.slice xa xn xc):=by refine⟨?_,?_,?_⟩<;>simp[go_sem]
   have cB:((W.alloc<|.cells #[true,xs,xm,.slice xa xn xc] 177).alloc<|.cells #[true,ys,ym,.slice ya yn yc] 177).cell? ⟨W.heap.size+1,1,none⟩=some (.int .i64 ys)/\((W.alloc<|.cells #[true,xs,xm,.slice xa xn xc] 177).alloc<|.cells #[true,ys,ym,.slice ya yn yc] 177).cell? ⟨W.heap.size+1,2,none⟩=some (.int .i64 ym)/\((W.alloc<|.cells #[true,xs,xm,.slice xa xn xc] 177).alloc<|.cells #[true,ys,ym,.slice ya yn yc] 177).cell? ⟨W.heap.size+1,3,none⟩=some (.slice ya yn yc):=by refine⟨?_,?_,?_⟩<;>simp[go_sem]
   have hl:=h.below hB;have mI:=h'.below hB;go_enter Tz.func161,Tryz.ntmps161
   go_wp2;revert hB cA cB hl mI;generalize ((W.alloc<|.cells #[.bool true,.int .i64 xs,.int .i64 xm,.slice xa xn xc] 177).alloc<|.cells #[.bool true,.int .i64 ys,.int .i64 ym,.slice ya yn yc] 177)=W1;intro hB cA cB hl mI;obtain⟨Ba,Gj⟩:∃Ba,Ba=W.heap.size:=⟨_,rfl⟩;obtain⟨Bb,Gk⟩:∃Bb,Bb=W.heap.size+1:=⟨_,rfl⟩;rw[<-Gj]at cA;rw[<-Gk]at cB;rw[<-Gk,<-Gj];have mm:=cA;have kk:=cB;clear Gj Gk h h';go_region_held3 (λw'=>w'.cell? ⟨Ba,1,none⟩=some (.int .i64 xs)/\w'.cell? ⟨Ba,2,none⟩=some (.int .i64 xm)/\w'.cell? ⟨Ba,3,none⟩=some (.slice xa xn xc)/\w'.cell? ⟨Bb,1,none⟩=some (.int .i64 ys)/\w'.cell? ⟨Bb,2,none⟩=some (.int .i64 ym)/\w'.cell? ⟨Bb,3,none⟩=some (.slice ya yn yc)/\ep w' xa xn xg/\ep w' ya yn yg) (simp[*,World.cell?_alloc_some,ep.alloc,ep.drew])
    (first|(go_at_call 149;refine(pz _ _ _).mono ?_;rintro e w' ⟨rfl,rfl⟩)|(go_at_call 196;refine(wI _ _ _ _ _ _ xg yg _ hx hy (by assumption)<|by assumption).mono ?_;rintro e w' ⟨rfl,rfl⟩)|(go_at_call 195;refine(or3 _ (kg xs ys) (kg xm ym) (jo xg yg xn yn xn 0) _ BD BD BD).mono ?_;rintro e w' ⟨rfl,rfl⟩))
   all_goals
    go_wp2;go_ret;exact⟨eR rfl,hB.trans<|((acW W.heap.size W1).alloc hB.size _).drew⟩
 .cases xo<;>cases yo<;>simp at ho
  .go_enter Tz.func161,Tryz.ntmps161
   go_wp2;go_ret;exact⟨eR aF,(((acW _ W).alloc (ac5 _) _).alloc aF _)⟩
  .go_enter Tz.func161,Tryz.ntmps161
   go_wp2;go_ret;exact⟨eR aF,(((acW _ W).alloc (ac5 _) _).alloc aF _)⟩
end
structure RQ (w:World)(b o:Nat)(x:aJ):Prop where
 c0:w.cell? ⟨b,o,none⟩=some (.bool x.ok)
 c1:w.cell? ⟨b,o+1,none⟩=some (.int .i64 x.sum)
 c2:w.cell? ⟨b,o+2,none⟩=some (.int .i64 x.most)
 c3:w.cell? ⟨b,o+3,none⟩=some (.slice x.a x.n x.cap)
 row:ep w x.a x.n x.g
 small:x.n<=1048576
def FT (w:World)(b off n:Nat)(f:Nat->aJ):Prop:=∀i,i<n->RQ w b (off+i*4) (f i)
def cR (f:Nat->aJ):Nat->aJ
 |0=>d7
 |k+1=>if k=0\/nL (f k) (cR f k)<0 then f k else cR f k
def te {a0 a1 a2 a3 v0 v1 v2 v3:Value}{T:TypeId}(h:w.heap[b]?=some (.cells #[a0,a1,a2,a3] T (0,0))):
  (((w.setCell b v0).setCell ⟨b,1,none⟩ v1).setCell ⟨b,2,none⟩ v2).setCell ⟨b,3,none⟩ v3=w.setRow b #[v0,v1,v2,v3]:=by
 rw[setCell_eq_setRow w b 0 _ _ _ v0 h];have h1:=setRow_heap w b _ (Array.setIfInBounds #[a0,a1,a2,a3] 0 v0) T _ h;rw[setCell_eq_setRow _ b 1 _ _ _ v1 h1,setRow_setRow];have h2:=setRow_heap w b _ (Array.setIfInBounds (Array.setIfInBounds #[a0,a1,a2,a3] 0 v0) 1 v1) T _ h;rw[setCell_eq_setRow _ b 2 _ _ _ v2 h2,setRow_setRow];have h3:=setRow_heap w b _ (Array.setIfInBounds (Array.setIfInBounds (Array.setIfInBounds #[a0,a1,a2,a3] 0 v0) 1 v1) 2 v2) T _ h;rw[setCell_eq_setRow _ b 3 _ _ _ v3 h3,setRow_setRow];rfl
def xI {off n:Nat}{f:Nat->aJ}(aq:FT w b off n f):∀k,k<=n->ep w (cR f k).a (cR f k).n (cR f k).g/\(cR f k).n<=1048576
 |0,_=>⟨.inl rfl,by simp[cR,d7]⟩
 |k+1,h=>by
  simp only[cR];split
  .exact⟨(aq k aa).row,(aq k aa).small⟩
  .exact xI aq k aa
def Ef (b off n cap:Nat)(f:Nat->aJ)(w:World)(hn:n<=1048576)(bH:b<w)(aq:FT w b off n f):
  Calls Tz.prog 160 #[.slice (some ⟨b,off,none⟩) n cap,.func (.func 161) #[] #[]] w λe w'=>e=.returned (cR f n).val/\Below w w w':=by
 go_enter Tz.func160,Tryz.ntmps160
 go_wp2;go_loopw [10] (λi w'=>∃k:Nat,k<=n/\i=.int .i64 k/\Below w w w'/\w.heap.size+2<=w'.heap.size
  /\w'.heap[w.heap.size]?=some (.cells #[false,(0:Int),(0:Int),()] 177)
  /\w'.heap[w.heap.size+1]?=some (.cells #[.bool (cR f k).ok,.int .i64 (cR f k).sum,.int .i64 (cR f k).most,.slice (cR f k).a (cR f k).n (cR f k).cap] 177)) (λi _=>n-(intOf i).toNat)
 case atStart=>exact⟨0,ada _,rfl,((acW _ w).alloc (ac5 _) _).alloc aF _,aF,(acX _ _ _ aF).trans<|heap_alloc_new _ _,by have:=heap_alloc_new (w.alloc<|.cells #[.bool false,(0:Int),(0:Int),.slice none 0 0] 177)<|.cells #[.bool false,(0:Int),(0:Int),.slice none 0 0] 177;simpa[cR,d7]using this⟩
 case round=>
  obtain⟨k,hk,rfl,hB,jQ,ig,nD⟩:=hrel;by_cases aB:k<n
  .let⟨c0,c1,c2,c3,hl,hsm⟩:=aq k aB;have dr:(k:Int)<n:=aa;have d0:=(hB.cell bH).trans c0;have d1:=(hB.cell bH).trans c1;have d2:=(hB.cell bH).trans c2;have d3:=(hB.cell bH).trans c3;generalize hL:cR f k=L at nD;have l0:wr.cell? ⟨w.heap.size+1,0,none⟩=some (.bool L.ok):=by simp[World.cell?,nD]
   have l1:wr.cell? ⟨w.heap.size+1,1,none⟩=some (.int .i64 L.sum):=by simp[World.cell?,nD]
   have l2:wr.cell? ⟨w.heap.size+1,2,none⟩=some (.int .i64 L.most):=by simp[World.cell?,nD]
   have l3:wr.cell? ⟨w.heap.size+1,3,none⟩=some (.slice L.a L.n L.cap):=by simp[World.cell?,nD]
   have lf:∀j,wr.frozen? ⟨w.heap.size+1,j,none⟩=false:=λj=>by simp[World.frozen?,nD]
   have YR:w.heap.size+1<wr:=aa;have hS:cR f (k+1)=if k=0\/nL (f k) L<0 then f k else L:=by rw[<-hL];rfl
   by_cases uE:k=0
   .subst uE;rw[if_pos (.inl rfl)]at hS;simp only[Nat.zero_mul,Nat.add_zero]at d0 d1 d2 d3;go_wp2;go_roundw
    case rel=>
     rw[te nD];have hz:(wr.setRow (w.heap.size+1) #[.bool (f 0).ok,.int .i64 (f 0).sum,.int .i64 (f 0).most,.slice (f 0).a (f 0).n (f 0).cap]).heap.size=wr.heap.size:=setRow_size _ _ _;refine⟨1,aa,rfl,(below_setRow hB aa _).alloc aa _,by rw[ac1,hz];omega,?_,?_⟩
     .rw[acX _ _ _ aa,setRow_other _ _ _ _ aa];exact ig
     .rw[acX _ _ _ aa,setRow_heap _ _ _ _ _ _ nD,hS]
    case measure=>exact cI
   .have X':¬((k:Int)=0):=by omega
    let⟨hLl,hLn⟩:=xI aq k hk;rw[hL]at hLl hLn;have hA:Below w w (wr.alloc<|.cells #[.bool (f k).ok,.int .i64 (f k).sum,.int .i64 (f k).most,.slice (f k).a (f k).n (f k).cap] 177):=hB.alloc aa _;have Ll:=hl.below hA;have O5:=hLl.below hA;have hC:=F9 (f k) L (wr.alloc<|.cells #[.bool (f k).ok,.int .i64 (f k).sum,.int .i64 (f k).most,.slice (f k).a (f k).n (f k).cap] 177) hsm hLn Ll O5;by_cases At:nL (f k) L<0
    .rw[if_pos (.inr At)]at hS;go_wp2_with(go_at_call 161;refine hC.mono ?_;clear hC;rintro e w1 ⟨rfl,nQ⟩;have IR:=(nQ.block wr.heap.size aF).trans<|heap_alloc_new _ _;have lU:=(nQ.block (w.heap.size+1) cU).trans<|(acX _ _ _ YR).trans nD;have jb:=(nQ.block w.heap.size cU).trans<|(acX _ _ _ aa).trans ig;have x0:w1.cell? ⟨wr.heap.size,0,none⟩=some (.bool (f k).ok):=(by simp[World.cell?,IR]);have x1:w1.cell? ⟨wr.heap.size,1,none⟩=some (.int .i64 (f k).sum):=(by simp[World.cell?,IR]);have x2:w1.cell? ⟨wr.heap.size,2,none⟩=some (.int .i64 (f k).most):=(by simp[World.cell?,IR]);have x3:w1.cell? ⟨wr.heap.size,3,none⟩=some (.slice (f k).a (f k).n (f k).cap):=(by simp[World.cell?,IR]);have y0:w1.cell? ⟨w.heap.size+1,0,none⟩=some (.bool L.ok):=(by simp[World.cell?,lU]);have y1:w1.cell? ⟨w.heap.size+1,1,none⟩=some (.int .i64 L.sum):=(by simp[World.cell?,lU]);have y2:w1.cell? ⟨w.heap.size+1,2,none⟩=some (.int .i64 L.most):=(by simp[World.cell?,lU]);have y3:w1.cell? ⟨w.heap.size+1,3,none⟩=some (.slice L.a L.n L.cap):=(by simp[World.cell?,lU]);have yf:∀j,w1.frozen? ⟨w.heap.size+1,j,none⟩=false:=(λj=>by simp[World.frozen?,lU]);have rl:=hA.trans<|nQ.mono cU;have eO:=nQ.size)
     all_goals try omega
     go_roundw
     case rel=>
      rw[te lU];have hz:(w1.setRow (w.heap.size+1) #[.bool (f k).ok,.int .i64 (f k).sum,.int .i64 (f k).most,.slice (f k).a (f k).n (f k).cap]).heap.size=w1.heap.size:=setRow_size _ _ _;rw[ac1]at eO;refine⟨k+1,aa,by go_num,below_setRow rl aa _,by rw[hz];omega,?_,?_⟩
      .rw[setRow_other _ _ _ _ aa];exact jb
      .rw[setRow_heap _ _ _ _ _ _ lU,hS]
     case measure=>exact cI
    .rw[if_neg (λe=>e.elim uE At)]at hS;have Uv:decide (nL (f k) L<0)=false:=decide_eq_false At;have ab8:0<=nL (f k) L:=aa;clear At;go_wp2_with(go_at_call 161;refine hC.mono ?_;clear hC;rintro e w1 ⟨rfl,nQ⟩;have IR:=(nQ.block wr.heap.size aF).trans<|heap_alloc_new _ _;have lU:=(nQ.block (w.heap.size+1) cU).trans<|(acX _ _ _ YR).trans nD;have jb:=(nQ.block w.heap.size cU).trans<|(acX _ _ _ aa).trans ig;have x0:w1.cell? ⟨wr.heap.size,0,none⟩=some (.bool (f k).ok):=(by simp[World.cell?,IR]);have x1:w1.cell? ⟨wr.heap.size,1,none⟩=some (.int .i64 (f k).sum):=(by simp[World.cell?,IR]);have x2:w1.cell? ⟨wr.heap.size,2,none⟩=some (.int .i64 (f k).most):=(by simp[World.cell?,IR]);have x3:w1.cell? ⟨wr.heap.size,3,none⟩=some (.slice (f k).a (f k).n (f k).cap):=(by simp[World.cell?,IR]);have y0:w1.cell? ⟨w.heap.size+1,0,none⟩=some (.bool L.ok):=(by simp[World.cell?,lU]);have y1:w1.cell? ⟨w.heap.size+1,1,none⟩=some (.int .i64 L.sum):=(by simp[World.cell?,lU]);have y2:w1.cell? ⟨w.heap.size+1,2,none⟩=some (.int .i64 L.most):=(by simp[World.cell?,lU]);have y3:w1.cell? ⟨w.heap.size+1,3,none⟩=some (.slice L.a L.n L.cap):=(by simp[World.cell?,lU]);have yf:∀j,w1.frozen? ⟨w.heap.size+1,j,none⟩=false:=(λj=>by simp[World.frozen?,lU]);have rl:=hA.trans<|nQ.mono cU;have eO:=nQ.size)
     all_goals try omega
     go_roundw
     case rel=>
      rw[ac1]at eO;exact⟨k+1,aa,by go_num,rl,aa,jb,by rw[lU,hS]⟩
     case measure=>exact cI
  .have tD:k=n:=by omega
   subst tD;have l0:wr.cell? ⟨w.heap.size+1,0,none⟩=some (.bool (cR f k).ok):=by simp[World.cell?,nD]
   have l1:wr.cell? ⟨w.heap.size+1,1,none⟩=some (.int .i64 (cR f k).sum):=by simp[World.cell?,nD]
   have l2:wr.cell? ⟨w.heap.size+1,2,none⟩=some (.int .i64 (cR f k).most):=by simp[World.cell?,nD]
   have l3:wr.cell? ⟨w.heap.size+1,3,none⟩=some (.slice (cR f k).a (cR f k).n (cR f k).cap):=by simp[World.cell?,nD]
   have s0:wr.cell? w.heap.size=some (.bool false):=by simp[World.cell?,ig]
   have s1:wr.cell? ⟨w.heap.size,1,none⟩=some (.int .i64 0):=by simp[World.cell?,ig]
   have s2:wr.cell? ⟨w.heap.size,2,none⟩=some (.int .i64 0):=by simp[World.cell?,ig]
   have s3:wr.cell? ⟨w.heap.size,3,none⟩=some (.slice none 0 0):=by simp[World.cell?,ig]
   have sf:∀j,wr.frozen? ⟨w.heap.size,j,none⟩=false:=λj=>by simp[World.frozen?,ig]
   go_wp2;rw[te ig];have WO:=setRow_heap wr w.heap.size _ #[.bool (cR f k).ok,.int .i64 (cR f k).sum,.int .i64 (cR f k).most,.slice (cR f k).a (cR f k).n (cR f k).cap] _ _ ig;have ix:=below_setRow hB (ac5 _) #[.bool (cR f k).ok,.int .i64 (cR f k).sum,.int .i64 (cR f k).most,.slice (cR f k).a (cR f k).n (cR f k).cap];generalize wr.setRow w.heap.size #[.bool (cR f k).ok,.int .i64 (cR f k).sum,.int .i64 (cR f k).most,.slice (cR f k).a (cR f k).n (cR f k).cap]=W5 at WO ix⊢;have q0:W5.cell? w.heap.size=some (.bool (cR f k).ok):=vp;have q1:W5.cell? ⟨w.heap.size,1,none⟩=some (.int .i64 (cR f k).sum):=vp;have q2:W5.cell? ⟨w.heap.size,2,none⟩=some (.int .i64 (cR f k).most):=vp;have q3:W5.cell? ⟨w.heap.size,3,none⟩=some (.slice (cR f k).a (cR f k).n (cR f k).cap):=vp;refine bodyPost_ret (v:=(cR f k).val) ?_ rfl ⟨rfl,ix⟩;simp[results,Tryz.f160,go_sem,aJ.val,q0,q1,q2,q3]
