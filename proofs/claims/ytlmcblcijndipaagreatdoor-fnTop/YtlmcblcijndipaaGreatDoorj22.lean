import Derived.Test.YtlmcblcijndipaaGreatDoorj16
import Derived.Test.YtlmcblcijndipaaGreatDoorj09e
import Derived.Laws.CopyOwn
set_option linter.defProp false
set_option linter.unusedVariables false
set_option maxHeartbeats 2000000
set_option maxRecDepth 10000
namespace Go.Proofs.YtlmcblcijndipaaGreatDoor
open RowKit
variable {b n:Nat}{w:World}
def RY (m:Mv)(w:World):
  Calls Tz.prog 234 #[.agg #[m.name,m.ak,m.ap,m.bF,m.late,m.prom]] w λe w'=>e=.returned m.key/\w'=w.alloc (.cells #[m.name,m.ak,m.ap,m.bF,m.late,m.prom] 31):=by
 by_cases h:0<=m.prom
 .go_enter Tz.func234,Tryz.ntmps234
  go_wp2;go_ret;exact⟨eX (by unfold Mv.key;rw[if_pos h]),rfl⟩
 .go_enter Tz.func234,Tryz.ntmps234
  go_wp2;go_ret;exact⟨eX (by unfold Mv.key;rw[if_neg ab]),rfl⟩
def RD (m:Mv)(w:World):
  Calls Tz.prog 131 #[.agg #[m.name,m.ak,m.ap,m.bF,m.late,m.prom]] w λe w'=>e=.returned m.key/\Below w w w':=by
 by_cases h:0<=m.prom
 .go_enter Tz.func131,Tryz.ntmps131
  go_wp2;go_ret;exact⟨eX (by unfold Mv.key;rw[if_pos h]),(acU _ _).alloc (ac3 _) _⟩
 .go_enter Tz.func131,Tryz.ntmps131
  go_wp2;go_ret;exact⟨eX (by unfold Mv.key;rw[if_neg ab]),(acU _ _).alloc (ac3 _) _⟩
def pE (a b:Int)(w:World):
  Calls Tz.prog 149 #[a,b] w λe w'=>e=.returned (.int .i64<|j9 a b)/\w'=w:=by
 by_cases h:a<b
 .go_enter Tz.func149,Tryz.ntmps149
  go_wp2;go_ret;exact⟨eX (by unfold j9;rw[if_pos h]),rfl⟩
 .by_cases h':b<a
  .go_enter Tz.func149,Tryz.ntmps149
   go_wp2;go_ret;exact⟨eX (by unfold j9;rw[if_neg ab,if_pos h']),rfl⟩
  .go_enter Tz.func149,Tryz.ntmps149
   go_wp2;go_ret;exact⟨eX (by unfold j9;rw[if_neg ab,if_neg ab]),rfl⟩
def MX (a b:ByteArray)(w:World):
  Calls Tz.prog 235 #[a,b] w λe w'=>e=.returned (.int .i64<|ug a b)/\w'=w:=by
 cases h:bX a b with
 |true=>
  have SM:ug a b=-1:=by unfold ug;rw[if_pos h]
  have HC:Hid (ug a b=-1):=SM;clear SM;unfold bX at h;go_enter Tz.func235,Tryz.ntmps235
  go_wp2;go_ret;exact⟨eX HC.out.symm,rfl⟩
 |false=>
  cases h':bJ a b with
  |true=>
   have SM:ug a b=0:=by unfold ug;rw[if_neg (by simp[h]),if_pos h']
   have HC:Hid (ug a b=0):=SM;clear SM;unfold bX at h;unfold bJ at h';go_enter Tz.func235,Tryz.ntmps235
   go_wp2;go_ret;exact⟨eX HC.out.symm,rfl⟩
  |false=>
   have SM:ug a b=1:=by unfold ug;rw[if_neg (by simp[h]),if_neg (by simp[h'])]
   have HC:Hid (ug a b=1):=SM;clear SM;unfold bX at h;unfold bJ at h';go_enter Tz.func235,Tryz.ntmps235
   go_wp2;go_ret;exact⟨eX HC.out.symm,rfl⟩
def abw (c:Nat->Int)(k:Nat):Prop:=∀i,i<k->c i=0
def Ww (b:Nat)(c:Nat->Int)(w:World)(hc:∀i,i<3->w.cell? ⟨b,i,none⟩=some (.int .i64<|c i)):
  Calls Tz.prog 195 #[.slice b 3 3] w λe w'=>e=.returned (.int .i64<|JB (c 0) (c 1)<|c 2)/\w'=w:=by
 go_enter Tz.func195,Tryz.ntmps195
 go_wp2;go_loop [8] (λi=>∃k:Nat,k<=3/\i=.int .i64 k/\abw c k) (λi=>3-(intOf i).toNat)
 case atStart=>exact⟨0,ac8 _,rfl,λi hi=>absurd hi<|ac7 _⟩
 case round=>
  obtain⟨k,hk,rfl,hz⟩:=hrel;by_cases ay:k<3
  .have uS:=hc k ay;have dq:(k:Int)<3:=ab;cases hne:(c k !=0)with
   |true=>
    have Yb:JB (c 0) (c 1) (c 2)=c k:=by
     have hn:c k≠0:=by simpa using hne
     unfold JB;by_cases e0:k=0
     .subst e0;rw[if_neg hn]
     .rw[if_pos (hz 0 ab)];by_cases e1:k=1
      .subst e1;rw[if_neg hn]
      .rw[if_pos (hz 1 ab)];obtain rfl:k=2:=ab;rfl
    have HO:Hid (JB (c 0) (c 1) (c 2)=c k):=Yb;clear Yb;go_wp2;go_ret;exact⟨eX HO.out.symm,rfl⟩
   |false=>
    have J3:c k=0:=by simpa using hne
    have HE:Hid (c k=0):=J3;clear J3;go_wp2;go_round
    case rel=>exact⟨k+1,ab,by go_num,λi hi=>by
     by_cases e:i=k
     .subst e;exact HE.out
     .exact hz i ab⟩
    case measure=>exact bZ
  .have Yb:JB (c 0) (c 1) (c 2)=0:=by
    unfold JB;rw[if_pos (hz 0 ab),if_pos (hz 1 ab)];exact hz 2 ab
   have HO:Hid (JB (c 0) (c 1) (c 2)=0):=Yb;clear Yb;go_wp2;go_ret;exact⟨eX HO.out.symm,rfl⟩
def or3 (b:Nat)(x y z:Int)(w:World)(c0:w.cell? b=some (.int .i64 x))(c1:w.cell? ⟨b,1,none⟩=some (.int .i64 y))(c2:w.cell? ⟨b,2,none⟩=some (.int .i64 z)):
  Calls Tz.prog 195 #[.slice b 3 3] w λe w'=>e=.returned (.int .i64<|JB x y z)/\w'=w:=
 Ww b (λi=>if i=0 then x else if i=1 then y else z) w (λi hi=>by
  match i,hi with
  |0,_=>simpa using c0
  |1,_=>simpa using c1
  |2,_=>simpa using c2)
def jk (g g':Nat->Int)(n n':Nat):Nat->Nat->Int
 |0,_=>if n<n' then -1 else 0
 |f+1,k=>if n'<=k then 1 else if j9 (g k) (g' k)=0 then jk g g' n n' f (k+1)else j9 (g k) (g' k)
def wZ (a a':Option Addr)(n n' cap cap':Nat)(g g':Nat->Int)(w:World)(hn:n<=1048576)(P2:n'<=1048576)(h:eA w a n g)(h':eA w a' n' g'):
  Calls Tz.prog 196 #[.slice a n cap,.slice a' n' cap'] w λe w'=>e=.returned (.int .i64<|jk g g' n n' n 0)/\w'=w:=by
 go_enter Tz.func196,Tryz.ntmps196
 go_wp2;go_loopw [11] (λi w'=>∃k:Nat,k<=n/\i=.int .i64 k/\w'=w/\jk g g' n n' n 0=jk g g' n n' (n-k) k) (λi _=>n-(intOf i).toNat)
 case atStart=>exact⟨0,ac8 _,rfl,rfl,rfl⟩
 case round=>
  obtain⟨k,hk,rfl,rfl,hc⟩:=hrel;by_cases ay:k<n
  .obtain⟨b,off,rfl,am⟩:=h.resolve_left ab;have hr:=am k ay;have dq:(k:Int)<n:=ab;have hf:n-k=(n-(k+1))+1:=ab;rw[hf,jk]at hc;by_cases h2:n'<=k
   .rw[if_pos h2]at hc;have YK:(n':Int)<=k:=ab;go_wp2;go_ret;exact⟨eX<|by first|exact hc.symm|rfl,rfl⟩
   .rw[if_neg h2]at hc;obtain⟨b',aZ,rfl,aP⟩:=h'.resolve_left ab;have fH:=aP k ab;have YK:¬(n':Int)<=k:=ab;have h3':(k:Int)<n':=ab;by_cases h4:j9 (g k) (g' k)=0
    .rw[if_pos h4]at hc;go_wp2_with(go_at_call 149;refine(pE _ _ _).mono ?_;rintro e w' ⟨rfl,rfl⟩)
     go_roundw
     case rel=>exact⟨k+1,ab,by go_num,QG,hc⟩
     case measure=>exact bZ
    .rw[if_neg h4]at hc;go_wp2_with(go_at_call 149;refine(pE _ _ _).mono ?_;rintro e w' ⟨rfl,rfl⟩)
     go_ret;exact⟨eX<|by first|exact hc.symm|rfl,rfl⟩
  .obtain rfl:k=n:=by omega
   rw[Nat.sub_self,jk]at hc;by_cases h5:k<n'
   .rw[if_pos h5]at hc;have h5':(k:Int)<n':=ab;go_wp2;go_ret;exact⟨eX<|by first|exact hc.symm|rfl,rfl⟩
   .rw[if_neg h5]at hc;have h5':¬(k:Int)<n':=ab;go_wp2;go_ret;exact⟨eX<|by first|exact hc.symm|rfl,rfl⟩
def H_ (g:Nat->Int):Nat->Nat->Int
 |0,_=>0
 |f+1,k=>if g k=0 then H_ g f (k+1)else g k
def eZ {W:World}{o:Nat}{v:Value}(h:W.cell? ⟨b,o,none⟩=some v):∀o1 o2 o3,(((W.alloc o1).alloc o2).alloc o3).cell? ⟨b,o,none⟩=some v:=λo1 o2 o3=>
 (((((acU W.heap.size W).alloc (ac3 _) o1).alloc aG o2).alloc cH o3).cell (p:=⟨b,o,none⟩) (block_lt_of_cell h)).trans h
def Gr (x y:Nat)(bl b off n cap:Nat)(f:Nat->Mv)(W:World)(hx:x<n)(hy:y<n)(hn:n<=1048576)
  (cl:W.cell? bl=some (.slice (some ⟨b,off,none⟩) n cap))(am:aJ W b off n f):
  Calls Tz.prog 233 #[.int .i64 (x:Int),.int .i64 (y:Int),.pointer bl] W λe w'=>e=.returned (.int .i64<|LX f x y)/\Below W W w'/\W.drawn<=w'.drawn:=by
 have dK:(x:Int)<n:=ab;have G7:(y:Int)<n:=ab;let⟨a0,a1,a2,a3,a4,a5⟩:=am x hx;let⟨b0,b1,b2,b3,b4,b5⟩:=am y hy;go_enter Tz.func233,Tryz.ntmps233
 go_wp2;go_region_held3 (λw'=>w'.cell? bl=some (.slice (some ⟨b,off,none⟩) n cap)
  /\w'.cell? ⟨b,off+x*6,none⟩=some (.string (f x).name)/\w'.cell? ⟨b,off+x*6+1,none⟩=some (.bool (f x).ak)/\w'.cell? ⟨b,off+x*6+2,none⟩=some (.int .i64 (f x).ap)/\w'.cell? ⟨b,off+x*6+3,none⟩=some (.int .i64 (f x).bF)/\w'.cell? ⟨b,off+x*6+4,none⟩=some (.int .i64 (f x).late)/\w'.cell? ⟨b,off+x*6+5,none⟩=some (.int .i64 (f x).prom)
  /\w'.cell? ⟨b,off+y*6,none⟩=some (.string (f y).name)/\w'.cell? ⟨b,off+y*6+1,none⟩=some (.bool (f y).ak)/\w'.cell? ⟨b,off+y*6+2,none⟩=some (.int .i64 (f y).ap)/\w'.cell? ⟨b,off+y*6+3,none⟩=some (.int .i64 (f y).bF)/\w'.cell? ⟨b,off+y*6+4,none⟩=some (.int .i64 (f y).late)/\w'.cell? ⟨b,off+y*6+5,none⟩=some (.int .i64 (f y).prom)) (go_keep) (fail)
 focus
  have hB:Below W W ((W.alloc<|.cells #[.string (f x).name,.bool (f x).ak,.int .i64 (f x).ap,.int .i64 (f x).bF,.int .i64 (f x).late,.int .i64 (f x).prom] 31).alloc<|.cells #[.string (f y).name,.bool (f y).ak,.int .i64 (f y).ap,.int .i64 (f y).bF,.int .i64 (f y).late,.int .i64 (f y).prom] 31).drew:=(((acU _ W).alloc (ac3 _) _).alloc aG _).drew;have hD:W.drawn<=((W.alloc<|.cells #[.string (f x).name,.bool (f x).ak,.int .i64 (f x).ap,.int .i64 (f x).bF,.int .i64 (f x).late,.int .i64 (f x).prom] 31).alloc<|.cells #[.string (f y).name,.bool (f y).ak,.int .i64 (f y).ap,.int .i64 (f y).bF,.int .i64 (f y).late,.int .i64 (f y).prom] 31).drew.drawn:=by show W.drawn<=W.drawn+1;omega
  have hA:tW ((W.alloc<|.cells #[.string (f x).name,.bool (f x).ak,.int .i64 (f x).ap,.int .i64 (f x).bF,.int .i64 (f x).late,.int .i64 (f x).prom] 31).alloc<|.cells #[.string (f y).name,.bool (f y).ak,.int .i64 (f y).ap,.int .i64 (f y).bF,.int .i64 (f y).late,.int .i64 (f y).prom] 31).drew (W.heap.size) 0 (f x):=by constructor<;>simp[go_sem]
  have hE:tW ((W.alloc<|.cells #[.string (f x).name,.bool (f x).ak,.int .i64 (f x).ap,.int .i64 (f x).bF,.int .i64 (f x).late,.int .i64 (f x).prom] 31).alloc<|.cells #[.string (f y).name,.bool (f y).ak,.int .i64 (f y).ap,.int .i64 (f y).bF,.int .i64 (f y).late,.int .i64 (f y).prom] 31).drew (W.heap.size+1) 0 (f y):=by constructor<;>simp[go_sem]
  go_wp2;revert hB hD hA hE;generalize ((W.alloc<|.cells #[.string (f x).name,.bool (f x).ak,.int .i64 (f x).ap,.int .i64 (f x).bF,.int .i64 (f x).late,.int .i64 (f x).prom] 31).alloc<|.cells #[.string (f y).name,.bool (f y).ak,.int .i64 (f y).ap,.int .i64 (f y).bF,.int .i64 (f y).late,.int .i64 (f y).prom] 31).drew=W1;intro hB hD hA hE;obtain⟨Ba,GO⟩:∃Ba,Ba=W.heap.size:=⟨_,rfl⟩;obtain⟨Bb,GP⟩:∃Bb,Bb=W.heap.size+1:=⟨_,rfl⟩;rw[<-GO]at hA;rw[<-GP]at hE;rw[<-GP,<-GO];clear GO GP
 rotate_left;focus
  have hB:Below W W ((W.alloc<|.cells #[.string (f y).name,.bool (f y).ak,.int .i64 (f y).ap,.int .i64 (f y).bF,.int .i64 (f y).late,.int .i64 (f y).prom] 31).alloc<|.cells #[.string (f x).name,.bool (f x).ak,.int .i64 (f x).ap,.int .i64 (f x).bF,.int .i64 (f x).late,.int .i64 (f x).prom] 31).drew:=(((acU _ W).alloc (ac3 _) _).alloc aG _).drew;have hD:W.drawn<=((W.alloc<|.cells #[.string (f y).name,.bool (f y).ak,.int .i64 (f y).ap,.int .i64 (f y).bF,.int .i64 (f y).late,.int .i64 (f y).prom] 31).alloc<|.cells #[.string (f x).name,.bool (f x).ak,.int .i64 (f x).ap,.int .i64 (f x).bF,.int .i64 (f x).late,.int .i64 (f x).prom] 31).drew.drawn:=by show W.drawn<=W.drawn+1;omega
  have hA:tW ((W.alloc<|.cells #[.string (f y).name,.bool (f y).ak,.int .i64 (f y).ap,.int .i64 (f y).bF,.int .i64 (f y).late,.int .i64 (f y).prom] 31).alloc<|.cells #[.string (f x).name,.bool (f x).ak,.int .i64 (f x).ap,.int .i64 (f x).bF,.int .i64 (f x).late,.int .i64 (f x).prom] 31).drew (W.heap.size+1) 0 (f x):=by constructor<;>simp[go_sem]
  have hE:tW ((W.alloc<|.cells #[.string (f y).name,.bool (f y).ak,.int .i64 (f y).ap,.int .i64 (f y).bF,.int .i64 (f y).late,.int .i64 (f y).prom] 31).alloc<|.cells #[.string (f x).name,.bool (f x).ak,.int .i64 (f x).ap,.int .i64 (f x).bF,.int .i64 (f x).late,.int .i64 (f x).prom] 31).drew (W.heap.size) 0 (f y):=by constructor<;>simp[go_sem]
  go_wp2;revert hB hD hA hE;generalize ((W.alloc<|.cells #[.string (f y).name,.bool (f y).ak,.int .i64 (f y).ap,.int .i64 (f y).bF,.int .i64 (f y).late,.int .i64 (f y).prom] 31).alloc<|.cells #[.string (f x).name,.bool (f x).ak,.int .i64 (f x).ap,.int .i64 (f x).bF,.int .i64 (f x).late,.int .i64 (f x).prom] 31).drew=W1;intro hB hD hA hE;obtain⟨Ba,GO⟩:∃Ba,Ba=W.heap.size+1:=⟨_,rfl⟩;obtain⟨Bb,GP⟩:∃Bb,Bb=W.heap.size:=⟨_,rfl⟩;rw[<-GO]at hA;rw[<-GP]at hE;rw[<-GO,<-GP];clear GO GP
 all_goals
  let⟨m0,m1,m2,m3,m4,m5⟩:=hA;let⟨k0,k1,k2,k3,k4,k5⟩:=hE;simp only[Nat.zero_add]at m0 m1 m2 m3 m4 m5 k0 k1 k2 k3 k4 k5;have pm0:=eZ m0;have pm1:=eZ m1;have pm2:=eZ m2;have pm3:=eZ m3;have pm4:=eZ m4;have pm5:=eZ m5;have pk0:=eZ k0;have pk1:=eZ k1;have pk2:=eZ k2;have pk3:=eZ k3;have pk4:=eZ k4;have pk5:=eZ k5;go_region_held3 (λw'=>w'.cell? Ba=some (.string (f x).name)/\w'.cell? ⟨Ba,1,none⟩=some (.bool (f x).ak)/\w'.cell? ⟨Ba,2,none⟩=some (.int .i64 (f x).ap)/\w'.cell? ⟨Ba,3,none⟩=some (.int .i64 (f x).bF)/\w'.cell? ⟨Ba,4,none⟩=some (.int .i64 (f x).late)/\w'.cell? ⟨Ba,5,none⟩=some (.int .i64 (f x).prom)/\w'.cell? Bb=some (.string (f y).name)/\w'.cell? ⟨Bb,1,none⟩=some (.bool (f y).ak)/\w'.cell? ⟨Bb,2,none⟩=some (.int .i64 (f y).ap)/\w'.cell? ⟨Bb,3,none⟩=some (.int .i64 (f y).bF)/\w'.cell? ⟨Bb,4,none⟩=some (.int .i64 (f y).late)/\w'.cell? ⟨Bb,5,none⟩=some (.int .i64 (f y).prom)) (go_keep)
   (first|(go_at_call 234;refine(RY _ _).mono ?_;rintro e w' ⟨rfl,rfl⟩)|(go_at_call 149;refine(pE _ _ _).mono ?_;rintro e w' ⟨rfl,rfl⟩)|(go_at_call 235;refine(MX _ _ _).mono ?_;rintro e w' ⟨rfl,rfl⟩)|(go_at_call 195;refine(or3 _ (j9 (f x).key (f y).key) (ug (f x).name (f y).name) (j9 (x:Int) (y:Int)) _ BK BK BK).mono ?_;rintro e w' ⟨rfl,rfl⟩))
  all_goals
   go_wp2;go_ret;refine⟨eX rfl,hB.trans ?_,?_⟩
   .exact((((acU W.heap.size W1).alloc hB.size _).alloc (by have:=hB.size;simp;omega) _).alloc (by have:=hB.size;simp;omega) _).drew
   .show W.drawn<=W1.drawn+1;omega
section
variable {a:Option Addr}{g:Nat->Int}
def nW (x y:aN):Int:=if x.ok=y.ok then JB (j9 x.sum y.sum) (j9 x.most y.most) (jk x.g y.g x.n y.n x.n 0)else if x.ok=true then -1 else 1
def eA.below {w':World}(h:eA w a n g)(hb:Below w w w'):eA w' a n g:=by
 rcases h with h|⟨b,off,e,hr⟩
 .exact .inl h
 .by_cases hn:n=0
  .exact .inl hn
  .refine .inr ⟨b,off,e,hr.below hb ?_⟩;have:=hr 0 ab;rcases adb b w.heap.size with hl|hl
   .exact hl
   .simp[World.cell?,Array.getElem?_eq_none hl]at this
def eA.alloc (o:Obj)(h:eA w a n g):eA (w.alloc o) a n g:=h.below<|(acU _ w).alloc (ac3 _) o
def eA.drew (h:eA w a n g):eA w.drew a n g:=h
def GC (x y:aN)(W:World)(hx:x.n<=1048576)(hy:y.n<=1048576)(h:eA W x.a x.n x.g)(h':eA W y.a y.n y.g):
  Calls Tz.prog 161 #[x.val,y.val] W λe w'=>e=.returned (.int .i64<|nW x y)/\Below W W w':=by
 let⟨xo,xs,xm,xa,xn,xc,xg⟩:=x;let⟨yo,ys,ym,ya,yn,yc,yg⟩:=y;simp only[aN.val,nW]at*;by_cases ho:xo=yo
 .subst ho;rw[if_pos rfl];have hB:Below W W ((W.alloc<|.cells #[xo,xs,xm,.slice xa xn xc] 177).alloc<|.cells #[xo,ys,ym,.slice ya yn yc] 177):=((acU _ W).alloc (ac3 _) _).alloc aG _;cases xo
  .have cA:((W.alloc<|.cells #[false,xs,xm,.slice xa xn xc] 177).alloc<|.cells #[false,ys,ym,.slice ya yn yc] 177).cell? ⟨W.heap.size,1,none⟩=some (.int .i64 xs)/\((W.alloc<|.cells #[false,xs,xm,.slice xa xn xc] 177).alloc<|.cells #[false,ys,ym,.slice ya yn yc] 177).cell? ⟨W.heap.size,2,none⟩=some (.int .i64 xm)/\((W.alloc<|.cells #[false,xs,xm,.slice xa xn xc] 177).alloc<|.cells #[false,ys,ym,.slice ya yn yc] 177).cell? ⟨W.heap.size,3,none⟩=some (.slice xa xn xc):=by refine⟨?_,?_,?_⟩<;>simp[go_sem]
   have cB:((W.alloc<|.cells #[false,xs,xm,.slice xa xn xc] 177).alloc<|.cells #[false,ys,ym,.slice ya yn yc] 177).cell? ⟨W.heap.size+1,1,none⟩=some (.int .i64 ys)/\((W.alloc<|.cells #[false,xs,xm,.slice xa xn xc] 177).alloc<|.cells #[false,ys,ym,.slice ya yn yc] 177).cell? ⟨W.heap.size+1,2,none⟩=some (.int .i64 ym)/\((W.alloc<|.cells #[false,xs,xm,.slice xa xn xc] 177).alloc<|.cells #[false,ys,ym,.slice ya yn yc] 177).cell? ⟨W.heap.size+1,3,none⟩=some (.slice ya yn yc):=by refine⟨?_,?_,?_⟩<;>simp[go_sem]
   have hl:=h.below hB;have lZ:=h'.below hB;go_enter Tz.func161,Tryz.ntmps161
   go_wp2;revert hB cA cB hl lZ;generalize ((W.alloc<|.cells #[.bool false,.int .i64 xs,.int .i64 xm,.slice xa xn xc] 177).alloc<|.cells #[.bool false,.int .i64 ys,.int .i64 ym,.slice ya yn yc] 177)=W1;intro hB cA cB hl lZ;obtain⟨Ba,GO⟩:∃Ba,Ba=W.heap.size:=⟨_,rfl⟩;obtain⟨Bb,GP⟩:∃Bb,Bb=W.heap.size+1:=⟨_,rfl⟩;rw[<-GO]at cA;rw[<-GP]at cB;rw[<-GP,<-GO];have mm:=cA;have kk:=cB;clear GO GP h h';go_region_held3 (λw'=>w'.cell? ⟨Ba,1,none⟩=some (.int .i64 xs)/\w'.cell? ⟨Ba,2,none⟩=some (.int .i64 xm)/\w'.cell? ⟨Ba,3,none⟩=some (.slice xa xn xc)/\w'.cell? ⟨Bb,1,none⟩=some (.int .i64 ys)/\w'.cell? ⟨Bb,2,none⟩=some (.int .i64 ym)/\w'.cell? ⟨Bb,3,none⟩=some (.slice ya yn yc)/\eA w' xa xn xg/\eA w' ya yn yg) (simp[*,World.cell?_alloc_some,eA.alloc,eA.drew])
    (first|(go_at_call 149;refine(pE _ _ _).mono ?_;rintro e w' ⟨rfl,rfl⟩)|(go_at_call 196;refine(wZ _ _ _ _ _ _ xg yg _ hx hy (by assumption)<|by assumption).mono ?_;rintro e w' ⟨rfl,rfl⟩)|(go_at_call 195;refine(or3 _ (j9 xs ys) (j9 xm ym) (jk xg yg xn yn xn 0) _ BK BK BK).mono ?_;rintro e w' ⟨rfl,rfl⟩))
   all_goals
    go_wp2;go_ret;exact⟨eX rfl,hB.trans<|((acU W.heap.size W1).alloc hB.size _).drew⟩
  .have cA:((W.alloc<|.cells #[true,xs,xm,.slice xa xn xc] 177).alloc<|.cells #[true,ys,ym,.slice ya yn yc] 177).cell? ⟨W.heap.size,1,none⟩=some (.int .i64 xs)/\((W.alloc<|.cells #[true,xs,xm,.slice xa xn xc] 177).alloc<|.cells #[true,ys,ym,.slice ya yn yc] 177).cell? ⟨W.heap.size,2,none⟩=some (.int .i64 xm)/\((W.alloc<|.cells #[true,xs,xm,.slice xa xn xc] 177).alloc<|.cells #[true,ys,ym,.slice ya yn yc] 177).cell? ⟨W.heap.size,3,none⟩=some (.slice xa xn xc):=by refine⟨?_,?_,?_⟩<;>simp[go_sem]
   have cB:((W.alloc<|.cells #[true,xs,xm,.slice xa xn xc] 177).alloc<|.cells #[true,ys,ym,.slice ya yn yc] 177).cell? ⟨W.heap.size+1,1,none⟩=some (.int .i64 ys)/\((W.alloc<|.cells #[true,xs,xm,.slice xa xn xc] 177).alloc<|.cells #[true,ys,ym,.slice ya yn yc] 177).cell? ⟨W.heap.size+1,2,none⟩=some (.int .i64 ym)/\((W.alloc<|.cells #[true,xs,xm,.slice xa xn xc] 177).alloc<|.cells #[true,ys,ym,.slice ya yn yc] 177).cell? ⟨W.heap.size+1,3,none⟩=some (.slice ya yn yc):=by refine⟨?_,?_,?_⟩<;>simp[go_sem]
   have hl:=h.below hB;have lZ:=h'.below hB;go_enter Tz.func161,Tryz.ntmps161
   go_wp2;revert hB cA cB hl lZ;generalize ((W.alloc<|.cells #[.bool true,.int .i64 xs,.int .i64 xm,.slice xa xn xc] 177).alloc<|.cells #[.bool true,.int .i64 ys,.int .i64 ym,.slice ya yn yc] 177)=W1;intro hB cA cB hl lZ;obtain⟨Ba,GO⟩:∃Ba,Ba=W.heap.size:=⟨_,rfl⟩;obtain⟨Bb,GP⟩:∃Bb,Bb=W.heap.size+1:=⟨_,rfl⟩;rw[<-GO]at cA;rw[<-GP]at cB;rw[<-GP,<-GO];have mm:=cA;have kk:=cB;clear GO GP h h';go_region_held3 (λw'=>w'.cell? ⟨Ba,1,none⟩=some (.int .i64 xs)/\w'.cell? ⟨Ba,2,none⟩=some (.int .i64 xm)/\w'.cell? ⟨Ba,3,none⟩=some (.slice xa xn xc)/\w'.cell? ⟨Bb,1,none⟩=some (.int .i64 ys)/\w'.cell? ⟨Bb,2,none⟩=some (.int .i64 ym)/\w'.cell? ⟨Bb,3,none⟩=some (.slice ya yn yc)/\eA w' xa xn xg/\eA w' ya yn yg) (simp[*,World.cell?_alloc_some,eA.alloc,eA.drew])
    (first|(go_at_call 149;refine(pE _ _ _).mono ?_;rintro e w' ⟨rfl,rfl⟩)|(go_at_call 196;refine(wZ _ _ _ _ _ _ xg yg _ hx hy (by assumption)<|by assumption).mono ?_;rintro e w' ⟨rfl,rfl⟩)|(go_at_call 195;refine(or3 _ (j9 xs ys) (j9 xm ym) (jk xg yg xn yn xn 0) _ BK BK BK).mono ?_;rintro e w' ⟨rfl,rfl⟩))
   all_goals
    go_wp2;go_ret;exact⟨eX rfl,hB.trans<|((acU W.heap.size W1).alloc hB.size _).drew⟩
 .cases xo<;>cases yo<;>simp at ho
  .go_enter Tz.func161,Tryz.ntmps161
   go_wp2;go_ret;exact⟨eX aG,(((acU _ W).alloc (ac3 _) _).alloc aG _)⟩
  .go_enter Tz.func161,Tryz.ntmps161
   go_wp2;go_ret;exact⟨eX aG,(((acU _ W).alloc (ac3 _) _).alloc aG _)⟩
end
structure SN (w:World)(b o:Nat)(x:aN):Prop where
 c0:w.cell? ⟨b,o,none⟩=some (.bool x.ok)
 c1:w.cell? ⟨b,o+1,none⟩=some (.int .i64 x.sum)
 c2:w.cell? ⟨b,o+2,none⟩=some (.int .i64 x.most)
 c3:w.cell? ⟨b,o+3,none⟩=some (.slice x.a x.n x.cap)
 row:eA w x.a x.n x.g
 small:x.n<=1048576
def Gm (w:World)(b off n:Nat)(f:Nat->aN):Prop:=∀i,i<n->SN w b (off+i*4) (f i)
def cP (f:Nat->aN):Nat->aN
 |0=>ep
 |k+1=>if k=0\/nW (f k) (cP f k)<0 then f k else cP f k
def tD {a0 a1 a2 a3 v0 v1 v2 v3:Value}{T:TypeId}(h:w.heap[b]?=some (.cells #[a0,a1,a2,a3] T (0,0))):
  (((w.setCell b v0).setCell ⟨b,1,none⟩ v1).setCell ⟨b,2,none⟩ v2).setCell ⟨b,3,none⟩ v3=w.setRow b #[v0,v1,v2,v3]:=by
 rw[setCell_eq_setRow w b 0 _ _ _ v0 h];have h1:=setRow_heap w b _ (Array.setIfInBounds #[a0,a1,a2,a3] 0 v0) T _ h;rw[setCell_eq_setRow _ b 1 _ _ _ v1 h1,setRow_setRow];have h2:=setRow_heap w b _ (Array.setIfInBounds (Array.setIfInBounds #[a0,a1,a2,a3] 0 v0) 1 v1) T _ h;rw[setCell_eq_setRow _ b 2 _ _ _ v2 h2,setRow_setRow];have h3:=setRow_heap w b _ (Array.setIfInBounds (Array.setIfInBounds (Array.setIfInBounds #[a0,a1,a2,a3] 0 v0) 1 v1) 2 v2) T _ h;rw[setCell_eq_setRow _ b 3 _ _ _ v3 h3,setRow_setRow];rfl
def xX {off:Nat}{f:Nat->aN}(am:Gm w b off n f):∀k,k<=n->eA w (cP f k).a (cP f k).n (cP f k).g/\(cP f k).n<=1048576
 |0,_=>⟨.inl rfl,by simp[cP,ep]⟩
 |k+1,h=>by
  simp only[cP];split
  .exact⟨(am k ab).row,(am k ab).small⟩
  .exact xX am k ab
def ED (b off n cap:Nat)(f:Nat->aN)(w:World)(hn:n<=1048576)(bz:b<w)(am:Gm w b off n f):
  Calls Tz.prog 160 #[.slice (some ⟨b,off,none⟩) n cap,.func (.func 161) #[] #[]] w λe w'=>e=.returned (cP f n).val/\Below w w w':=by
 go_enter Tz.func160,Tryz.ntmps160
 go_wp2;go_loopw [10] (λi w'=>∃k:Nat,k<=n/\i=.int .i64 k/\Below w w w'/\w.heap.size+2<=w'.heap.size
  /\w'.heap[w.heap.size]?=some (.cells #[false,(0:Int),(0:Int),()] 177)
  /\w'.heap[w.heap.size+1]?=some (.cells #[.bool (cP f k).ok,.int .i64 (cP f k).sum,.int .i64 (cP f k).most,.slice (cP f k).a (cP f k).n (cP f k).cap] 177)) (λi _=>n-(intOf i).toNat)
 case atStart=>exact⟨0,ac8 _,rfl,((acU _ w).alloc (ac3 _) _).alloc aG _,aG,(acV _ _ _ aG).trans<|heap_alloc_new _ _,by have:=heap_alloc_new (w.alloc<|.cells #[.bool false,(0:Int),(0:Int),.slice none 0 0] 177)<|.cells #[.bool false,(0:Int),(0:Int),.slice none 0 0] 177;simpa[cP,ep]using this⟩
 case round=>
  obtain⟨k,hk,rfl,hB,jw,f7,nL⟩:=hrel;by_cases ay:k<n
  .let⟨c0,c1,c2,c3,hl,hsm⟩:=am k ay;have dq:(k:Int)<n:=ab;have d0:=(hB.cell bz).trans c0;have d1:=(hB.cell bz).trans c1;have d2:=(hB.cell bz).trans c2;have d3:=(hB.cell bz).trans c3;generalize hL:cP f k=L at nL;have l0:wr.cell? ⟨w.heap.size+1,0,none⟩=some (.bool L.ok):=by simp[World.cell?,nL]
   have l1:wr.cell? ⟨w.heap.size+1,1,none⟩=some (.int .i64 L.sum):=by simp[World.cell?,nL]
   have l2:wr.cell? ⟨w.heap.size+1,2,none⟩=some (.int .i64 L.most):=by simp[World.cell?,nL]
   have l3:wr.cell? ⟨w.heap.size+1,3,none⟩=some (.slice L.a L.n L.cap):=by simp[World.cell?,nL]
   have lf:∀j,wr.frozen? ⟨w.heap.size+1,j,none⟩=false:=λj=>by simp[World.frozen?,nL]
   have ZB:w.heap.size+1<wr:=ab;have hS:cP f (k+1)=if k=0\/nW (f k) L<0 then f k else L:=by rw[<-hL];rfl
   by_cases uS:k=0
   .subst uS;rw[if_pos (.inl rfl)]at hS;simp only[Nat.zero_mul,Nat.add_zero]at d0 d1 d2 d3;go_wp2;go_roundw
    case rel=>
     rw[tD nL];have hz:(wr.setRow (w.heap.size+1) #[.bool (f 0).ok,.int .i64 (f 0).sum,.int .i64 (f 0).most,.slice (f 0).a (f 0).n (f 0).cap]).heap.size=wr.heap.size:=setRow_size _ _ _;refine⟨1,ab,rfl,(below_setRow hB ab _).alloc ab _,by rw[acZ,hz];omega,?_,?_⟩
     .rw[acV _ _ _ ab,setRow_other _ _ _ _ ab];exact f7
     .rw[acV _ _ _ ab,setRow_heap _ _ _ _ _ _ nL,hS]
    case measure=>exact bZ
   .have hc0:¬((k:Int)=0):=by omega
    let⟨hLl,hLn⟩:=xX am k hk;rw[hL]at hLl hLn;have hA:Below w w (wr.alloc<|.cells #[.bool (f k).ok,.int .i64 (f k).sum,.int .i64 (f k).most,.slice (f k).a (f k).n (f k).cap] 177):=hB.alloc ab _;have Je:=hl.below hA;have PY:=hLl.below hA;have hC:=GC (f k) L (wr.alloc<|.cells #[.bool (f k).ok,.int .i64 (f k).sum,.int .i64 (f k).most,.slice (f k).a (f k).n (f k).cap] 177) hsm hLn Je PY;by_cases AB:nW (f k) L<0
    .rw[if_pos (.inr AB)]at hS;go_wp2_with(go_at_call 161;refine hC.mono ?_;clear hC;rintro e w1 ⟨rfl,oa⟩;have Jo:=(oa.block wr.heap.size aG).trans<|heap_alloc_new _ _;have nK:=(oa.block (w.heap.size+1) cH).trans<|(acV _ _ _ ZB).trans nL;have rK:=(oa.block w.heap.size cH).trans<|(acV _ _ _ ab).trans f7;have x0:w1.cell? ⟨wr.heap.size,0,none⟩=some (.bool (f k).ok):=(by simp[World.cell?,Jo]);have x1:w1.cell? ⟨wr.heap.size,1,none⟩=some (.int .i64 (f k).sum):=(by simp[World.cell?,Jo]);have x2:w1.cell? ⟨wr.heap.size,2,none⟩=some (.int .i64 (f k).most):=(by simp[World.cell?,Jo]);have x3:w1.cell? ⟨wr.heap.size,3,none⟩=some (.slice (f k).a (f k).n (f k).cap):=(by simp[World.cell?,Jo]);have y0:w1.cell? ⟨w.heap.size+1,0,none⟩=some (.bool L.ok):=(by simp[World.cell?,nK]);have y1:w1.cell? ⟨w.heap.size+1,1,none⟩=some (.int .i64 L.sum):=(by simp[World.cell?,nK]);have y2:w1.cell? ⟨w.heap.size+1,2,none⟩=some (.int .i64 L.most):=(by simp[World.cell?,nK]);have y3:w1.cell? ⟨w.heap.size+1,3,none⟩=some (.slice L.a L.n L.cap):=(by simp[World.cell?,nK]);have yf:∀j,w1.frozen? ⟨w.heap.size+1,j,none⟩=false:=(λj=>by simp[World.frozen?,nK]);have qp:=hA.trans<|oa.mono cH;have eG:=oa.size)
     all_goals try omega
     go_roundw
     case rel=>
      rw[tD nK];have hz:(w1.setRow (w.heap.size+1) #[.bool (f k).ok,.int .i64 (f k).sum,.int .i64 (f k).most,.slice (f k).a (f k).n (f k).cap]).heap.size=w1.heap.size:=setRow_size _ _ _;rw[acZ]at eG;refine⟨k+1,ab,by go_num,below_setRow qp ab _,by rw[hz];omega,?_,?_⟩
      .rw[setRow_other _ _ _ _ ab];exact rK
      .rw[setRow_heap _ _ _ _ _ _ nK,hS]
     case measure=>exact bZ
    .rw[if_neg (λe=>e.elim uS AB)]at hS;have PW:decide (nW (f k) L<0)=false:=decide_eq_false AB;have ab8:0<=nW (f k) L:=ab;clear AB;go_wp2_with(go_at_call 161;refine hC.mono ?_;clear hC;rintro e w1 ⟨rfl,oa⟩;have Jo:=(oa.block wr.heap.size aG).trans<|heap_alloc_new _ _;have nK:=(oa.block (w.heap.size+1) cH).trans<|(acV _ _ _ ZB).trans nL;have rK:=(oa.block w.heap.size cH).trans<|(acV _ _ _ ab).trans f7;have x0:w1.cell? ⟨wr.heap.size,0,none⟩=some (.bool (f k).ok):=(by simp[World.cell?,Jo]);have x1:w1.cell? ⟨wr.heap.size,1,none⟩=some (.int .i64 (f k).sum):=(by simp[World.cell?,Jo]);have x2:w1.cell? ⟨wr.heap.size,2,none⟩=some (.int .i64 (f k).most):=(by simp[World.cell?,Jo]);have x3:w1.cell? ⟨wr.heap.size,3,none⟩=some (.slice (f k).a (f k).n (f k).cap):=(by simp[World.cell?,Jo]);have y0:w1.cell? ⟨w.heap.size+1,0,none⟩=some (.bool L.ok):=(by simp[World.cell?,nK]);have y1:w1.cell? ⟨w.heap.size+1,1,none⟩=some (.int .i64 L.sum):=(by simp[World.cell?,nK]);have y2:w1.cell? ⟨w.heap.size+1,2,none⟩=some (.int .i64 L.most):=(by simp[World.cell?,nK]);have y3:w1.cell? ⟨w.heap.size+1,3,none⟩=some (.slice L.a L.n L.cap):=(by simp[World.cell?,nK]);have yf:∀j,w1.frozen? ⟨w.heap.size+1,j,none⟩=false:=(λj=>by simp[World.frozen?,nK]);have qp:=hA.trans<|oa.mono cH;have eG:=oa.size)
     all_goals try omega
     go_roundw
     case rel=>
      rw[acZ]at eG;exact⟨k+1,ab,by go_num,qp,ab,rK,by rw[nK,hS]⟩
     case measure=>exact bZ
  .have tS:k=n:=by omega
   subst tS;have l0:wr.cell? ⟨w.heap.size+1,0,none⟩=some (.bool (cP f k).ok):=by simp[World.cell?,nL]
   have l1:wr.cell? ⟨w.heap.size+1,1,none⟩=some (.int .i64 (cP f k).sum):=by simp[World.cell?,nL]
   have l2:wr.cell? ⟨w.heap.size+1,2,none⟩=some (.int .i64 (cP f k).most):=by simp[World.cell?,nL]
   have l3:wr.cell? ⟨w.heap.size+1,3,none⟩=some (.slice (cP f k).a (cP f k).n (cP f k).cap):=by simp[World.cell?,nL]
   have s0:wr.cell? w.heap.size=some (.bool false):=by simp[World.cell?,f7]
   have s1:wr.cell? ⟨w.heap.size,1,none⟩=some (.int .i64 0):=by simp[World.cell?,f7]
   have s2:wr.cell? ⟨w.heap.size,2,none⟩=some (.int .i64 0):=by simp[World.cell?,f7]
   have s3:wr.cell? ⟨w.heap.size,3,none⟩=some (.slice none 0 0):=by simp[World.cell?,f7]
   have sf:∀j,wr.frozen? ⟨w.heap.size,j,none⟩=false:=λj=>by simp[World.frozen?,f7]
   go_wp2;rw[tD f7];have XR:=setRow_heap wr w.heap.size _ #[.bool (cP f k).ok,.int .i64 (cP f k).sum,.int .i64 (cP f k).most,.slice (cP f k).a (cP f k).n (cP f k).cap] _ _ f7;have jQ:=below_setRow hB (ac3 _) #[.bool (cP f k).ok,.int .i64 (cP f k).sum,.int .i64 (cP f k).most,.slice (cP f k).a (cP f k).n (cP f k).cap];generalize wr.setRow w.heap.size #[.bool (cP f k).ok,.int .i64 (cP f k).sum,.int .i64 (cP f k).most,.slice (cP f k).a (cP f k).n (cP f k).cap]=W5 at XR jQ⊢;have q0:W5.cell? w.heap.size=some (.bool (cP f k).ok):=vI;have q1:W5.cell? ⟨w.heap.size,1,none⟩=some (.int .i64 (cP f k).sum):=vI;have q2:W5.cell? ⟨w.heap.size,2,none⟩=some (.int .i64 (cP f k).most):=vI;have q3:W5.cell? ⟨w.heap.size,3,none⟩=some (.slice (cP f k).a (cP f k).n (cP f k).cap):=vI;refine bodyPost_ret (v:=(cP f k).val) ?_ rfl ⟨rfl,jQ⟩;simp[results,Tryz.f160,go_sem,aN.val,q0,q1,q2,q3]
