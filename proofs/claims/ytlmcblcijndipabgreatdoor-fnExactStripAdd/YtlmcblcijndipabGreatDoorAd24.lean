import Derived.Test.YtlmcblcijndipabGreatDoorAd16
import Derived.Test.YtlmcblcijndipabGreatDoorAd10
import Derived.Laws.CopyOwn
set_option linter.unusedVariables false
set_option maxHeartbeats 2000000
set_option maxRecDepth 10000
namespace Go.Proofs.YtlmcblcijndipabGreatDoor
open Go.RowKit
theorem wG (m:Mv)(w:World):
  Calls Tz.prog 248 #[.agg #[.string m.name,.bool m.lands,.int .i64 m.wake,.int .i64 m.est,.int .i64 m.late,.int .i64 m.prom]] w λe w'=>e=.returned (.int .i64 m.key)/\w'=w.alloc (.cells #[.string m.name,.bool m.lands,.int .i64 m.wake,.int .i64 m.est,.int .i64 m.late,.int .i64 m.prom] 36):=by
 by_cases h:0<=m.prom
 .go_enter Tz.func248,Tryz.ntmps248
  go_wp2;go_ret;exact⟨bN (by unfold Mv.key;rw[if_pos h]),rfl⟩
 .go_enter Tz.func248,Tryz.ntmps248
  go_wp2;go_ret;exact⟨bN (by unfold Mv.key;rw[if_neg (by omega)]),rfl⟩
theorem Bo (m:Mv)(w:World):
  Calls Tz.prog 108 #[.agg #[.string m.name,.bool m.lands,.int .i64 m.wake,.int .i64 m.est,.int .i64 m.late,.int .i64 m.prom]] w λe w'=>e=.returned (.int .i64 m.key)/\Below w.heap.size w w':=by
 by_cases h:0<=m.prom
 .go_enter Tz.func108,Tryz.ntmps108
  go_wp2;go_ret;exact⟨bN (by unfold Mv.key;rw[if_pos h]),(Gb _ _).alloc (Gm _) _⟩
 .go_enter Tz.func108,Tryz.ntmps108
  go_wp2;go_ret;exact⟨bN (by unfold Mv.key;rw[if_neg (by omega)]),(Gb _ _).alloc (Gm _) _⟩
theorem gY (a b:Int)(w:World):
  Calls Tz.prog 125 #[.int .i64 a,.int .i64 b] w λe w'=>e=.returned (.int .i64 (fg a b))/\w'=w:=by
 by_cases h:a<b
 .go_enter Tz.func125,Tryz.ntmps125
  go_wp2;go_ret;exact⟨bN (by unfold fg;rw[if_pos h]),rfl⟩
 .by_cases h':b<a
  .go_enter Tz.func125,Tryz.ntmps125
   go_wp2;go_ret;exact⟨bN (by unfold fg;rw[if_neg (by omega),if_pos h']),rfl⟩
  .go_enter Tz.func125,Tryz.ntmps125
   go_wp2;go_ret;exact⟨bN (by unfold fg;rw[if_neg (by omega),if_neg (by omega)]),rfl⟩
theorem tF (a b:ByteArray)(w:World):
  Calls Tz.prog 249 #[.string a,.string b] w λe w'=>e=.returned (.int .i64 (kY a b))/\w'=w:=by
 cases h:aO a b with
 |true=>
  have HC0:kY a b=-1:=by unfold kY;rw[if_pos h]
  have HC:Hid (kY a b=-1):=HC0;clear HC0;unfold aO at h;go_enter Tz.func249,Tryz.ntmps249
  go_wp2;go_ret;exact⟨bN HC.out.symm,rfl⟩
 |false=>
  cases h':aX a b with
  |true=>
   have HC0:kY a b=0:=by unfold kY;rw[if_neg (by simp[h]),if_pos h']
   have HC:Hid (kY a b=0):=HC0;clear HC0;unfold aO at h;unfold aX at h';go_enter Tz.func249,Tryz.ntmps249
   go_wp2;go_ret;exact⟨bN HC.out.symm,rfl⟩
  |false=>
   have HC0:kY a b=1:=by unfold kY;rw[if_neg (by simp[h]),if_neg (by simp[h'])]
   have HC:Hid (kY a b=1):=HC0;clear HC0;unfold aO at h;unfold aX at h';go_enter Tz.func249,Tryz.ntmps249
   go_wp2;go_ret;exact⟨bN HC.out.symm,rfl⟩
def Es (c:Nat->Int)(k:Nat):Prop:=∀i,i<k->c i=0
theorem Dm (b:Nat)(c:Nat->Int)(w:World)(hc:∀i,i<3->w.cell? ⟨b,i,none⟩=some (.int .i64 (c i))):
  Calls Tz.prog 233 #[.slice (some ⟨b,0,none⟩) 3 3] w λe w'=>e=.returned (.int .i64 (wF (c 0) (c 1) (c 2)))/\w'=w:=by
 go_enter Tz.func233,Tryz.ntmps233
 go_wp2;go_loop [8] (λi=>∃k:Nat,k<=3/\i=.int .i64 k/\Es c k) (λi=>3-(intOf i).toNat)
 case atStart=>exact⟨0,Gs _,rfl,λi hi=>absurd hi (Gr _)⟩
 case round=>
  obtain⟨k,hk,rfl,hz⟩:=hrel;by_cases hlt:k<3
  .have hk0:=hc k hlt;have hlt':(k:Int)<3:=by omega
   cases hne:(c k !=0)with
   |true=>
    have HO0:wF (c 0) (c 1) (c 2)=c k:=by
     have hn:c k≠0:=by simpa using hne
     unfold wF;by_cases e0:k=0
     .subst e0;rw[if_neg hn]
     .rw[if_pos (hz 0 (by omega))];by_cases e1:k=1
      .subst e1;rw[if_neg hn]
      .rw[if_pos (hz 1 (by omega))];obtain rfl:k=2:=by omega
       rfl
    have HO:Hid (wF (c 0) (c 1) (c 2)=c k):=HO0;clear HO0;go_wp2;go_ret;exact⟨bN HO.out.symm,rfl⟩
   |false=>
    have HE0:c k=0:=by simpa using hne
    have HE:Hid (c k=0):=HE0;clear HE0;go_wp2;go_round
    case rel=>exact⟨k+1,by omega,by go_num,λi hi=>by
     by_cases e:i=k
     .subst e;exact HE.out
     .exact hz i (by omega)⟩
    case measure=>simp[intOf];omega
  .have HO0:wF (c 0) (c 1) (c 2)=0:=by
    unfold wF;rw[if_pos (hz 0 (by omega)),if_pos (hz 1 (by omega))];exact hz 2 (by omega)
   have HO:Hid (wF (c 0) (c 1) (c 2)=0):=HO0;clear HO0;go_wp2;go_ret;exact⟨bN HO.out.symm,rfl⟩
theorem Ek (b:Nat)(x y z:Int)(w:World)(c0:w.cell? ⟨b,0,none⟩=some (.int .i64 x))(c1:w.cell? ⟨b,1,none⟩=some (.int .i64 y))(c2:w.cell? ⟨b,2,none⟩=some (.int .i64 z)):
  Calls Tz.prog 233 #[.slice (some ⟨b,0,none⟩) 3 3] w λe w'=>e=.returned (.int .i64 (wF x y z))/\w'=w:=
 Dm b (λi=>if i=0 then x else if i=1 then y else z) w (λi hi=>by
  match i,hi with
  |0,_=>simpa using c0
  |1,_=>simpa using c1
  |2,_=>simpa using c2)
def eP (g g':Nat->Int)(n n':Nat):Nat->Nat->Int
 |0,_=>if n<n' then -1 else 0
 |f+1,k=>if n'<=k then 1 else if fg (g k) (g' k)=0 then eP g g' n n' f (k+1)else fg (g k) (g' k)
theorem oo (a a':Option Addr)(n n' cap cap':Nat)(g g':Nat->Int)(w:World)(hn:n<=1048576)(hn':n'<=1048576)(h:bH w a n g)(h':bH w a' n' g'):
  Calls Tz.prog 234 #[.slice a n cap,.slice a' n' cap'] w λe w'=>e=.returned (.int .i64 (eP g g' n n' n 0))/\w'=w:=by
 go_enter Tz.func234,Tryz.ntmps234
 go_wp2;go_loopw [11] (λi w'=>∃k:Nat,k<=n/\i=.int .i64 k/\w'=w/\eP g g' n n' n 0=eP g g' n n' (n-k) k) (λi _=>n-(intOf i).toNat)
 case atStart=>exact⟨0,Gs _,rfl,rfl,rfl⟩
 case round=>
  obtain⟨k,hk,rfl,rfl,hc⟩:=hrel;by_cases hlt:k<n
  .obtain⟨b,off,rfl,hrow⟩:=h.resolve_left (by omega);have hr:=hrow k hlt;have hlt':(k:Int)<n:=by omega
   have hf:n-k=(n-(k+1))+1:=by omega
   rw[hf,eP]at hc;by_cases h2:n'<=k
   .rw[if_pos h2]at hc;have h2':(n':Int)<=k:=by omega
    go_wp2;go_ret;exact⟨bN (by first|exact hc.symm|rfl),rfl⟩
   .rw[if_neg h2]at hc;obtain⟨b',off',rfl,hrow'⟩:=h'.resolve_left (by omega);have hr':=hrow' k (by omega);have h2':¬(n':Int)<=k:=by omega
    have h3':(k:Int)<n':=by omega
    by_cases h4:fg (g k) (g' k)=0
    .rw[if_pos h4]at hc;go_wp2_with(go_at_call 125;refine(gY _ _ _).mono ?_;rintro e w' ⟨rfl,rfl⟩)
     go_roundw
     case rel=>exact⟨k+1,by omega,by go_num,(by first|rfl|trivial),hc⟩
     case measure=>simp[intOf];omega
    .rw[if_neg h4]at hc;go_wp2_with(go_at_call 125;refine(gY _ _ _).mono ?_;rintro e w' ⟨rfl,rfl⟩)
     go_ret;exact⟨bN (by first|exact hc.symm|rfl),rfl⟩
  .obtain rfl:k=n:=by omega
   rw[Nat.sub_self,eP]at hc;by_cases h5:k<n'
   .rw[if_pos h5]at hc;have h5':(k:Int)<n':=by omega
    go_wp2;go_ret;exact⟨bN (by first|exact hc.symm|rfl),rfl⟩
   .rw[if_neg h5]at hc;have h5':¬(k:Int)<n':=by omega
    go_wp2;go_ret;exact⟨bN (by first|exact hc.symm|rfl),rfl⟩
def D0 (g:Nat->Int):Nat->Nat->Int
 |0,_=>0
 |f+1,k=>if g k=0 then D0 g f (k+1)else g k
theorem aT {W:World}{b o:Nat}{v:Value}(h:W.cell? ⟨b,o,none⟩=some v):∀o1 o2 o3,(((W.alloc o1).alloc o2).alloc o3).cell? ⟨b,o,none⟩=some v:=λo1 o2 o3=>
 (((((Gb W.heap.size W).alloc (Gm _) o1).alloc (by simp) o2).alloc (by simp;omega) o3).cell (p:=⟨b,o,none⟩) (block_lt_of_cell h)).trans h
theorem vh (x y:Nat)(bl b off n cap:Nat)(f:Nat->Mv)(W:World)(hx:x<n)(hy:y<n)(hn:n<=1048576)
  (cl:W.cell? ⟨bl,0,none⟩=some (.slice (some ⟨b,off,none⟩) n cap))(hrow:ak W b off n f):
  Calls Tz.prog 247 #[.int .i64 (x:Int),.int .i64 (y:Int),.pointer (some ⟨bl,0,none⟩)] W λe w'=>e=.returned (.int .i64 (yN f x y))/\Below W.heap.size W w'/\W.drawn<=w'.drawn:=by
 have hx':(x:Int)<n:=by omega
 have hy':(y:Int)<n:=by omega
 obtain⟨a0,a1,a2,a3,a4,a5⟩:=hrow x hx;obtain⟨b0,b1,b2,b3,b4,b5⟩:=hrow y hy;go_enter Tz.func247,Tryz.ntmps247
 go_wp2;go_region_held3 (λw'=>w'.cell? ⟨bl,0,none⟩=some (.slice (some ⟨b,off,none⟩) n cap)
  /\w'.cell? ⟨b,off+x*6,none⟩=some (.string (f x).name)/\w'.cell? ⟨b,off+x*6+1,none⟩=some (.bool (f x).lands)/\w'.cell? ⟨b,off+x*6+2,none⟩=some (.int .i64 (f x).wake)/\w'.cell? ⟨b,off+x*6+3,none⟩=some (.int .i64 (f x).est)/\w'.cell? ⟨b,off+x*6+4,none⟩=some (.int .i64 (f x).late)/\w'.cell? ⟨b,off+x*6+5,none⟩=some (.int .i64 (f x).prom)
  /\w'.cell? ⟨b,off+y*6,none⟩=some (.string (f y).name)/\w'.cell? ⟨b,off+y*6+1,none⟩=some (.bool (f y).lands)/\w'.cell? ⟨b,off+y*6+2,none⟩=some (.int .i64 (f y).wake)/\w'.cell? ⟨b,off+y*6+3,none⟩=some (.int .i64 (f y).est)/\w'.cell? ⟨b,off+y*6+4,none⟩=some (.int .i64 (f y).late)/\w'.cell? ⟨b,off+y*6+5,none⟩=some (.int .i64 (f y).prom)) (go_keep) (fail)
 .have hB:Below W.heap.size W ((W.alloc (.cells #[.string (f x).name,.bool (f x).lands,.int .i64 (f x).wake,.int .i64 (f x).est,.int .i64 (f x).late,.int .i64 (f x).prom] 36)).alloc (.cells #[.string (f y).name,.bool (f y).lands,.int .i64 (f y).wake,.int .i64 (f y).est,.int .i64 (f y).late,.int .i64 (f y).prom] 36)).drew:=(((Gb _ W).alloc (Gm _) _).alloc (by simp) _).drew;have hD:W.drawn<=((W.alloc (.cells #[.string (f x).name,.bool (f x).lands,.int .i64 (f x).wake,.int .i64 (f x).est,.int .i64 (f x).late,.int .i64 (f x).prom] 36)).alloc (.cells #[.string (f y).name,.bool (f y).lands,.int .i64 (f y).wake,.int .i64 (f y).est,.int .i64 (f y).late,.int .i64 (f y).prom] 36)).drew.drawn:=by show W.drawn<=W.drawn+1;omega
  have hA:lF ((W.alloc (.cells #[.string (f x).name,.bool (f x).lands,.int .i64 (f x).wake,.int .i64 (f x).est,.int .i64 (f x).late,.int .i64 (f x).prom] 36)).alloc (.cells #[.string (f y).name,.bool (f y).lands,.int .i64 (f y).wake,.int .i64 (f y).est,.int .i64 (f y).late,.int .i64 (f y).prom] 36)).drew (W.heap.size) 0 (f x):=by constructor<;>simp[go_sem]
  have hE:lF ((W.alloc (.cells #[.string (f x).name,.bool (f x).lands,.int .i64 (f x).wake,.int .i64 (f x).est,.int .i64 (f x).late,.int .i64 (f x).prom] 36)).alloc (.cells #[.string (f y).name,.bool (f y).lands,.int .i64 (f y).wake,.int .i64 (f y).est,.int .i64 (f y).late,.int .i64 (f y).prom] 36)).drew (W.heap.size+1) 0 (f y):=by constructor<;>simp[go_sem]
  go_wp2;revert hB hD hA hE;generalize ((W.alloc (.cells #[.string (f x).name,.bool (f x).lands,.int .i64 (f x).wake,.int .i64 (f x).est,.int .i64 (f x).late,.int .i64 (f x).prom] 36)).alloc (.cells #[.string (f y).name,.bool (f y).lands,.int .i64 (f y).wake,.int .i64 (f y).est,.int .i64 (f y).late,.int .i64 (f y).prom] 36)).drew=W1;intro hB hD hA hE;obtain⟨Ba,hBa⟩:∃Ba,Ba=W.heap.size:=⟨_,rfl⟩;obtain⟨Bb,hBb⟩:∃Bb,Bb=W.heap.size+1:=⟨_,rfl⟩;rw[<-hBa]at hA;rw[<-hBb]at hE;rw[<-hBb,<-hBa];clear hBa hBb;obtain⟨m0,m1,m2,m3,m4,m5⟩:=hA;obtain⟨k0,k1,k2,k3,k4,k5⟩:=hE;simp only[Nat.zero_add]at m0 m1 m2 m3 m4 m5 k0 k1 k2 k3 k4 k5;have pm0:=aT m0;have pm1:=aT m1;have pm2:=aT m2;have pm3:=aT m3;have pm4:=aT m4;have pm5:=aT m5;have pk0:=aT k0;have pk1:=aT k1;have pk2:=aT k2;have pk3:=aT k3;have pk4:=aT k4;have pk5:=aT k5;go_region_held3 (λw'=>w'.cell? ⟨Ba,0,none⟩=some (.string (f x).name)/\w'.cell? ⟨Ba,1,none⟩=some (.bool (f x).lands)/\w'.cell? ⟨Ba,2,none⟩=some (.int .i64 (f x).wake)/\w'.cell? ⟨Ba,3,none⟩=some (.int .i64 (f x).est)/\w'.cell? ⟨Ba,4,none⟩=some (.int .i64 (f x).late)/\w'.cell? ⟨Ba,5,none⟩=some (.int .i64 (f x).prom)/\w'.cell? ⟨Bb,0,none⟩=some (.string (f y).name)/\w'.cell? ⟨Bb,1,none⟩=some (.bool (f y).lands)/\w'.cell? ⟨Bb,2,none⟩=some (.int .i64 (f y).wake)/\w'.cell? ⟨Bb,3,none⟩=some (.int .i64 (f y).est)/\w'.cell? ⟨Bb,4,none⟩=some (.int .i64 (f y).late)/\w'.cell? ⟨Bb,5,none⟩=some (.int .i64 (f y).prom)) (go_keep)
   (first|(go_at_call 248;refine(wG _ _).mono ?_;rintro e w' ⟨rfl,rfl⟩)|(go_at_call 125;refine(gY _ _ _).mono ?_;rintro e w' ⟨rfl,rfl⟩)|(go_at_call 249;refine(tF _ _ _).mono ?_;rintro e w' ⟨rfl,rfl⟩)|(go_at_call 233;refine(Ek _ (fg (f x).key (f y).key) (kY (f x).name (f y).name) (fg (x:Int) (y:Int)) _ (by simp[go_sem]) (by simp[go_sem]) (by simp[go_sem])).mono ?_;rintro e w' ⟨rfl,rfl⟩))
  all_goals
   go_wp2;go_ret;refine⟨bN rfl,hB.trans ?_,?_⟩
   .exact((((Gb W.heap.size W1).alloc hB.size _).alloc (by have:=hB.size;simp;omega) _).alloc (by have:=hB.size;simp;omega) _).drew
   .show W.drawn<=W1.drawn+1;omega
 .have hB:Below W.heap.size W ((W.alloc (.cells #[.string (f y).name,.bool (f y).lands,.int .i64 (f y).wake,.int .i64 (f y).est,.int .i64 (f y).late,.int .i64 (f y).prom] 36)).alloc (.cells #[.string (f x).name,.bool (f x).lands,.int .i64 (f x).wake,.int .i64 (f x).est,.int .i64 (f x).late,.int .i64 (f x).prom] 36)).drew:=(((Gb _ W).alloc (Gm _) _).alloc (by simp) _).drew;have hD:W.drawn<=((W.alloc (.cells #[.string (f y).name,.bool (f y).lands,.int .i64 (f y).wake,.int .i64 (f y).est,.int .i64 (f y).late,.int .i64 (f y).prom] 36)).alloc (.cells #[.string (f x).name,.bool (f x).lands,.int .i64 (f x).wake,.int .i64 (f x).est,.int .i64 (f x).late,.int .i64 (f x).prom] 36)).drew.drawn:=by show W.drawn<=W.drawn+1;omega
  have hA:lF ((W.alloc (.cells #[.string (f y).name,.bool (f y).lands,.int .i64 (f y).wake,.int .i64 (f y).est,.int .i64 (f y).late,.int .i64 (f y).prom] 36)).alloc (.cells #[.string (f x).name,.bool (f x).lands,.int .i64 (f x).wake,.int .i64 (f x).est,.int .i64 (f x).late,.int .i64 (f x).prom] 36)).drew (W.heap.size+1) 0 (f x):=by constructor<;>simp[go_sem]
  have hE:lF ((W.alloc (.cells #[.string (f y).name,.bool (f y).lands,.int .i64 (f y).wake,.int .i64 (f y).est,.int .i64 (f y).late,.int .i64 (f y).prom] 36)).alloc (.cells #[.string (f x).name,.bool (f x).lands,.int .i64 (f x).wake,.int .i64 (f x).est,.int .i64 (f x).late,.int .i64 (f x).prom] 36)).drew (W.heap.size) 0 (f y):=by constructor<;>simp[go_sem]
  go_wp2;revert hB hD hA hE;generalize ((W.alloc (.cells #[.string (f y).name,.bool (f y).lands,.int .i64 (f y).wake,.int .i64 (f y).est,.int .i64 (f y).late,.int .i64 (f y).prom] 36)).alloc (.cells #[.string (f x).name,.bool (f x).lands,.int .i64 (f x).wake,.int .i64 (f x).est,.int .i64 (f x).late,.int .i64 (f x).prom] 36)).drew=W1;intro hB hD hA hE;obtain⟨Ba,hBa⟩:∃Ba,Ba=W.heap.size+1:=⟨_,rfl⟩;obtain⟨Bb,hBb⟩:∃Bb,Bb=W.heap.size:=⟨_,rfl⟩;rw[<-hBa]at hA;rw[<-hBb]at hE;rw[<-hBa,<-hBb];clear hBa hBb;obtain⟨m0,m1,m2,m3,m4,m5⟩:=hA;obtain⟨k0,k1,k2,k3,k4,k5⟩:=hE;simp only[Nat.zero_add]at m0 m1 m2 m3 m4 m5 k0 k1 k2 k3 k4 k5;have pm0:=aT m0;have pm1:=aT m1;have pm2:=aT m2;have pm3:=aT m3;have pm4:=aT m4;have pm5:=aT m5;have pk0:=aT k0;have pk1:=aT k1;have pk2:=aT k2;have pk3:=aT k3;have pk4:=aT k4;have pk5:=aT k5;go_region_held3 (λw'=>w'.cell? ⟨Ba,0,none⟩=some (.string (f x).name)/\w'.cell? ⟨Ba,1,none⟩=some (.bool (f x).lands)/\w'.cell? ⟨Ba,2,none⟩=some (.int .i64 (f x).wake)/\w'.cell? ⟨Ba,3,none⟩=some (.int .i64 (f x).est)/\w'.cell? ⟨Ba,4,none⟩=some (.int .i64 (f x).late)/\w'.cell? ⟨Ba,5,none⟩=some (.int .i64 (f x).prom)/\w'.cell? ⟨Bb,0,none⟩=some (.string (f y).name)/\w'.cell? ⟨Bb,1,none⟩=some (.bool (f y).lands)/\w'.cell? ⟨Bb,2,none⟩=some (.int .i64 (f y).wake)/\w'.cell? ⟨Bb,3,none⟩=some (.int .i64 (f y).est)/\w'.cell? ⟨Bb,4,none⟩=some (.int .i64 (f y).late)/\w'.cell? ⟨Bb,5,none⟩=some (.int .i64 (f y).prom)) (go_keep)
   (first|(go_at_call 248;refine(wG _ _).mono ?_;rintro e w' ⟨rfl,rfl⟩)|(go_at_call 125;refine(gY _ _ _).mono ?_;rintro e w' ⟨rfl,rfl⟩)|(go_at_call 249;refine(tF _ _ _).mono ?_;rintro e w' ⟨rfl,rfl⟩)|(go_at_call 233;refine(Ek _ (fg (f x).key (f y).key) (kY (f x).name (f y).name) (fg (x:Int) (y:Int)) _ (by simp[go_sem]) (by simp[go_sem]) (by simp[go_sem])).mono ?_;rintro e w' ⟨rfl,rfl⟩))
  all_goals
   go_wp2;go_ret;refine⟨bN rfl,hB.trans ?_,?_⟩
   .exact((((Gb W.heap.size W1).alloc hB.size _).alloc (by have:=hB.size;simp;omega) _).alloc (by have:=hB.size;simp;omega) _).drew
   .show W.drawn<=W1.drawn+1;omega
def iB (x y:TryV):Int:=if x.ok=y.ok then wF (fg x.sum y.sum) (fg x.most y.most) (eP x.g y.g x.n y.n x.n 0)else if x.ok=true then -1 else 1
theorem bH.below {w w':World}{a:Option Addr}{n:Nat}{g:Nat->Int}(h:bH w a n g)(hb:Below w.heap.size w w'):bH w' a n g:=by
 rcases h with h|⟨b,off,e,hr⟩
 .exact .inl h
 .by_cases hn:n=0
  .exact .inl hn
  .refine .inr ⟨b,off,e,hr.below hb ?_⟩;have:=hr 0 (by omega);rcases Gv b w.heap.size with hl|hl
   .exact hl
   .simp[World.cell?,Array.getElem?_eq_none hl]at this
theorem bH.alloc {w:World}{a:Option Addr}{n:Nat}{g:Nat->Int}(o:Obj)(h:bH w a n g):bH (w.alloc o) a n g:=h.below ((Gb _ w).alloc (Gm _) o)
theorem bH.drew {w:World}{a:Option Addr}{n:Nat}{g:Nat->Int}(h:bH w a n g):bH w.drew a n g:=h
theorem vj (x y:TryV)(W:World)(hx:x.n<=1048576)(hy:y.n<=1048576)(h:bH W x.a x.n x.g)(h':bH W y.a y.n y.g):
  Calls Tz.prog 204 #[x.val,y.val] W λe w'=>e=.returned (.int .i64 (iB x y))/\Below W.heap.size W w':=by
 obtain⟨xo,xs,xm,xa,xn,xc,xg⟩:=x;obtain⟨yo,ys,ym,ya,yn,yc,yg⟩:=y;simp only[TryV.val,iB]at*;by_cases ho:xo=yo
 .subst ho;rw[if_pos rfl];have hB:Below W.heap.size W ((W.alloc (.cells #[.bool xo,.int .i64 xs,.int .i64 xm,.slice xa xn xc] 222)).alloc (.cells #[.bool xo,.int .i64 ys,.int .i64 ym,.slice ya yn yc] 222)):=((Gb _ W).alloc (Gm _) _).alloc (by simp) _;cases xo
  .have cA:((W.alloc (.cells #[.bool false,.int .i64 xs,.int .i64 xm,.slice xa xn xc] 222)).alloc (.cells #[.bool false,.int .i64 ys,.int .i64 ym,.slice ya yn yc] 222)).cell? ⟨W.heap.size,1,none⟩=some (.int .i64 xs)/\((W.alloc (.cells #[.bool false,.int .i64 xs,.int .i64 xm,.slice xa xn xc] 222)).alloc (.cells #[.bool false,.int .i64 ys,.int .i64 ym,.slice ya yn yc] 222)).cell? ⟨W.heap.size,2,none⟩=some (.int .i64 xm)/\((W.alloc (.cells #[.bool false,.int .i64 xs,.int .i64 xm,.slice xa xn xc] 222)).alloc (.cells #[.bool false,.int .i64 ys,.int .i64 ym,.slice ya yn yc] 222)).cell? ⟨W.heap.size,3,none⟩=some (.slice xa xn xc):=by refine⟨?_,?_,?_⟩<;>simp[go_sem]
   have cB:((W.alloc (.cells #[.bool false,.int .i64 xs,.int .i64 xm,.slice xa xn xc] 222)).alloc (.cells #[.bool false,.int .i64 ys,.int .i64 ym,.slice ya yn yc] 222)).cell? ⟨W.heap.size+1,1,none⟩=some (.int .i64 ys)/\((W.alloc (.cells #[.bool false,.int .i64 xs,.int .i64 xm,.slice xa xn xc] 222)).alloc (.cells #[.bool false,.int .i64 ys,.int .i64 ym,.slice ya yn yc] 222)).cell? ⟨W.heap.size+1,2,none⟩=some (.int .i64 ym)/\((W.alloc (.cells #[.bool false,.int .i64 xs,.int .i64 xm,.slice xa xn xc] 222)).alloc (.cells #[.bool false,.int .i64 ys,.int .i64 ym,.slice ya yn yc] 222)).cell? ⟨W.heap.size+1,3,none⟩=some (.slice ya yn yc):=by refine⟨?_,?_,?_⟩<;>simp[go_sem]
   have hl:=h.below hB;have hl':=h'.below hB;go_enter Tz.func204,Tryz.ntmps204
   go_wp2;revert hB cA cB hl hl';generalize ((W.alloc (.cells #[.bool false,.int .i64 xs,.int .i64 xm,.slice xa xn xc] 222)).alloc (.cells #[.bool false,.int .i64 ys,.int .i64 ym,.slice ya yn yc] 222))=W1;intro hB cA cB hl hl';obtain⟨Ba,hBa⟩:∃Ba,Ba=W.heap.size:=⟨_,rfl⟩;obtain⟨Bb,hBb⟩:∃Bb,Bb=W.heap.size+1:=⟨_,rfl⟩;rw[<-hBa]at cA;rw[<-hBb]at cB;rw[<-hBb,<-hBa];obtain⟨m1,m2,m3⟩:=cA;obtain⟨k1,k2,k3⟩:=cB;clear hBa hBb h h';go_region_held3 (λw'=>w'.cell? ⟨Ba,1,none⟩=some (.int .i64 xs)/\w'.cell? ⟨Ba,2,none⟩=some (.int .i64 xm)/\w'.cell? ⟨Ba,3,none⟩=some (.slice xa xn xc)/\w'.cell? ⟨Bb,1,none⟩=some (.int .i64 ys)/\w'.cell? ⟨Bb,2,none⟩=some (.int .i64 ym)/\w'.cell? ⟨Bb,3,none⟩=some (.slice ya yn yc)/\bH w' xa xn xg/\bH w' ya yn yg) (simp[*,World.cell?_alloc_some,bH.alloc,bH.drew])
    (first|(go_at_call 125;refine(gY _ _ _).mono ?_;rintro e w' ⟨rfl,rfl⟩)|(go_at_call 234;refine(oo _ _ _ _ _ _ xg yg _ hx hy (by assumption) (by assumption)).mono ?_;rintro e w' ⟨rfl,rfl⟩)|(go_at_call 233;refine(Ek _ (fg xs ys) (fg xm ym) (eP xg yg xn yn xn 0) _ (by simp[go_sem]) (by simp[go_sem]) (by simp[go_sem])).mono ?_;rintro e w' ⟨rfl,rfl⟩))
   all_goals
    go_wp2;go_ret;exact⟨bN rfl,hB.trans (((Gb W.heap.size W1).alloc hB.size _).drew)⟩
  .have cA:((W.alloc (.cells #[.bool true,.int .i64 xs,.int .i64 xm,.slice xa xn xc] 222)).alloc (.cells #[.bool true,.int .i64 ys,.int .i64 ym,.slice ya yn yc] 222)).cell? ⟨W.heap.size,1,none⟩=some (.int .i64 xs)/\((W.alloc (.cells #[.bool true,.int .i64 xs,.int .i64 xm,.slice xa xn xc] 222)).alloc (.cells #[.bool true,.int .i64 ys,.int .i64 ym,.slice ya yn yc] 222)).cell? ⟨W.heap.size,2,none⟩=some (.int .i64 xm)/\((W.alloc (.cells #[.bool true,.int .i64 xs,.int .i64 xm,.slice xa xn xc] 222)).alloc (.cells #[.bool true,.int .i64 ys,.int .i64 ym,.slice ya yn yc] 222)).cell? ⟨W.heap.size,3,none⟩=some (.slice xa xn xc):=by refine⟨?_,?_,?_⟩<;>simp[go_sem]
   have cB:((W.alloc (.cells #[.bool true,.int .i64 xs,.int .i64 xm,.slice xa xn xc] 222)).alloc (.cells #[.bool true,.int .i64 ys,.int .i64 ym,.slice ya yn yc] 222)).cell? ⟨W.heap.size+1,1,none⟩=some (.int .i64 ys)/\((W.alloc (.cells #[.bool true,.int .i64 xs,.int .i64 xm,.slice xa xn xc] 222)).alloc (.cells #[.bool true,.int .i64 ys,.int .i64 ym,.slice ya yn yc] 222)).cell? ⟨W.heap.size+1,2,none⟩=some (.int .i64 ym)/\((W.alloc (.cells #[.bool true,.int .i64 xs,.int .i64 xm,.slice xa xn xc] 222)).alloc (.cells #[.bool true,.int .i64 ys,.int .i64 ym,.slice ya yn yc] 222)).cell? ⟨W.heap.size+1,3,none⟩=some (.slice ya yn yc):=by refine⟨?_,?_,?_⟩<;>simp[go_sem]
   have hl:=h.below hB;have hl':=h'.below hB;go_enter Tz.func204,Tryz.ntmps204
   go_wp2;revert hB cA cB hl hl';generalize ((W.alloc (.cells #[.bool true,.int .i64 xs,.int .i64 xm,.slice xa xn xc] 222)).alloc (.cells #[.bool true,.int .i64 ys,.int .i64 ym,.slice ya yn yc] 222))=W1;intro hB cA cB hl hl';obtain⟨Ba,hBa⟩:∃Ba,Ba=W.heap.size:=⟨_,rfl⟩;obtain⟨Bb,hBb⟩:∃Bb,Bb=W.heap.size+1:=⟨_,rfl⟩;rw[<-hBa]at cA;rw[<-hBb]at cB;rw[<-hBb,<-hBa];obtain⟨m1,m2,m3⟩:=cA;obtain⟨k1,k2,k3⟩:=cB;clear hBa hBb h h';go_region_held3 (λw'=>w'.cell? ⟨Ba,1,none⟩=some (.int .i64 xs)/\w'.cell? ⟨Ba,2,none⟩=some (.int .i64 xm)/\w'.cell? ⟨Ba,3,none⟩=some (.slice xa xn xc)/\w'.cell? ⟨Bb,1,none⟩=some (.int .i64 ys)/\w'.cell? ⟨Bb,2,none⟩=some (.int .i64 ym)/\w'.cell? ⟨Bb,3,none⟩=some (.slice ya yn yc)/\bH w' xa xn xg/\bH w' ya yn yg) (simp[*,World.cell?_alloc_some,bH.alloc,bH.drew])
    (first|(go_at_call 125;refine(gY _ _ _).mono ?_;rintro e w' ⟨rfl,rfl⟩)|(go_at_call 234;refine(oo _ _ _ _ _ _ xg yg _ hx hy (by assumption) (by assumption)).mono ?_;rintro e w' ⟨rfl,rfl⟩)|(go_at_call 233;refine(Ek _ (fg xs ys) (fg xm ym) (eP xg yg xn yn xn 0) _ (by simp[go_sem]) (by simp[go_sem]) (by simp[go_sem])).mono ?_;rintro e w' ⟨rfl,rfl⟩))
   all_goals
    go_wp2;go_ret;exact⟨bN rfl,hB.trans (((Gb W.heap.size W1).alloc hB.size _).drew)⟩
 .cases xo<;>cases yo<;>simp at ho
  .go_enter Tz.func204,Tryz.ntmps204
   go_wp2;go_ret;exact⟨bN (by simp),(((Gb _ W).alloc (Gm _) _).alloc (by simp) _)⟩
  .go_enter Tz.func204,Tryz.ntmps204
   go_wp2;go_ret;exact⟨bN (by simp),(((Gb _ W).alloc (Gm _) _).alloc (by simp) _)⟩
structure CG (w:World)(b o:Nat)(x:TryV):Prop where
 c0:w.cell? ⟨b,o,none⟩=some (.bool x.ok)
 c1:w.cell? ⟨b,o+1,none⟩=some (.int .i64 x.sum)
 c2:w.cell? ⟨b,o+2,none⟩=some (.int .i64 x.most)
 c3:w.cell? ⟨b,o+3,none⟩=some (.slice x.a x.n x.cap)
 row:bH w x.a x.n x.g
 small:x.n<=1048576
def vk (w:World)(b off n:Nat)(f:Nat->TryV):Prop:=∀i,i<n->CG w b (off+i*4) (f i)
def aY (f:Nat->TryV):Nat->TryV
 |0=>noTry
 |k+1=>if k=0\/iB (f k) (aY f k)<0 then f k else aY f k
theorem dO {w:World}{b:Nat}{a0 a1 a2 a3 v0 v1 v2 v3:Value}{T:TypeId}(h:w.heap[b]?=some (.cells #[a0,a1,a2,a3] T (0,0))):
  (((w.setCell ⟨b,0,none⟩ v0).setCell ⟨b,1,none⟩ v1).setCell ⟨b,2,none⟩ v2).setCell ⟨b,3,none⟩ v3=w.setRow b #[v0,v1,v2,v3]:=by
 rw[setCell_eq_setRow w b 0 _ _ _ v0 h];have h1:=setRow_heap w b _ (Array.setIfInBounds #[a0,a1,a2,a3] 0 v0) T _ h;rw[setCell_eq_setRow _ b 1 _ _ _ v1 h1,setRow_setRow];have h2:=setRow_heap w b _ (Array.setIfInBounds (Array.setIfInBounds #[a0,a1,a2,a3] 0 v0) 1 v1) T _ h;rw[setCell_eq_setRow _ b 2 _ _ _ v2 h2,setRow_setRow];have h3:=setRow_heap w b _ (Array.setIfInBounds (Array.setIfInBounds (Array.setIfInBounds #[a0,a1,a2,a3] 0 v0) 1 v1) 2 v2) T _ h;rw[setCell_eq_setRow _ b 3 _ _ _ v3 h3,setRow_setRow];rfl
theorem oq {w:World}{b off n:Nat}{f:Nat->TryV}(hrow:vk w b off n f):∀k,k<=n->bH w (aY f k).a (aY f k).n (aY f k).g/\(aY f k).n<=1048576
 |0,_=>⟨.inl rfl,by simp[aY,noTry]⟩
 |k+1,h=>by
  simp only[aY];split
  .exact⟨(hrow k (by omega)).row,(hrow k (by omega)).small⟩
  .exact oq hrow k (by omega)
theorem tG (b off n cap:Nat)(f:Nat->TryV)(w:World)(hn:n<=1048576)(hbs:b<w.heap.size)(hrow:vk w b off n f):
  Calls Tz.prog 203 #[.slice (some ⟨b,off,none⟩) n cap,.func (.func 204) #[] #[]] w λe w'=>e=.returned (aY f n).val/\Below w.heap.size w w':=by
 go_enter Tz.func203,Tryz.ntmps203
 go_wp2;go_loopw [10] (λi w'=>∃k:Nat,k<=n/\i=.int .i64 k/\Below w.heap.size w w'/\w.heap.size+2<=w'.heap.size
  /\w'.heap[w.heap.size]?=some (.cells #[.bool false,.int .i64 0,.int .i64 0,.slice none 0 0] 222)
  /\w'.heap[w.heap.size+1]?=some (.cells #[.bool (aY f k).ok,.int .i64 (aY f k).sum,.int .i64 (aY f k).most,.slice (aY f k).a (aY f k).n (aY f k).cap] 222)) (λi _=>n-(intOf i).toNat)
 case atStart=>exact⟨0,Gs _,rfl,((Gb _ w).alloc (Gm _) _).alloc (by simp) _,by simp,(Gc _ _ _ (by simp)).trans (heap_alloc_new _ _),by have:=heap_alloc_new (w.alloc (.cells #[.bool false,.int .i64 0,.int .i64 0,.slice none 0 0] 222)) (.cells #[.bool false,.int .i64 0,.int .i64 0,.slice none 0 0] 222);simpa[aY,noTry]using this⟩
 case round=>
  obtain⟨k,hk,rfl,hB,hsz,hr0,hr1⟩:=hrel;by_cases hlt:k<n
  .obtain⟨c0,c1,c2,c3,hl,hsm⟩:=hrow k hlt;have hlt':(k:Int)<n:=by omega
   have d0:=(hB.cell hbs).trans c0;have d1:=(hB.cell hbs).trans c1;have d2:=(hB.cell hbs).trans c2;have d3:=(hB.cell hbs).trans c3;generalize hL:aY f k=L at hr1;have l0:wr.cell? ⟨w.heap.size+1,0,none⟩=some (.bool L.ok):=by simp[World.cell?,hr1]
   have l1:wr.cell? ⟨w.heap.size+1,1,none⟩=some (.int .i64 L.sum):=by simp[World.cell?,hr1]
   have l2:wr.cell? ⟨w.heap.size+1,2,none⟩=some (.int .i64 L.most):=by simp[World.cell?,hr1]
   have l3:wr.cell? ⟨w.heap.size+1,3,none⟩=some (.slice L.a L.n L.cap):=by simp[World.cell?,hr1]
   have lf:∀j,wr.frozen? ⟨w.heap.size+1,j,none⟩=false:=λj=>by simp[World.frozen?,hr1]
   have hlt2:w.heap.size+1<wr.heap.size:=by omega
   have hS:aY f (k+1)=if k=0\/iB (f k) L<0 then f k else L:=by rw[<-hL];rfl
   by_cases hk0:k=0
   .subst hk0;rw[if_pos (.inl rfl)]at hS;simp only[Nat.zero_mul,Nat.add_zero]at d0 d1 d2 d3;go_wp2;go_roundw
    case rel=>
     rw[dO hr1];have hz:(wr.setRow (w.heap.size+1) #[.bool (f 0).ok,.int .i64 (f 0).sum,.int .i64 (f 0).most,.slice (f 0).a (f 0).n (f 0).cap]).heap.size=wr.heap.size:=setRow_size _ _ _;refine⟨1,by omega,rfl,(below_setRow hB (by omega) _).alloc (by omega) _,by rw[Gg,hz];omega,?_,?_⟩
     .rw[Gc _ _ _ (by omega),setRow_other _ _ _ _ (by omega)];exact hr0
     .rw[Gc _ _ _ (by omega),setRow_heap _ _ _ _ _ _ hr1,hS]
    case measure=>simp[intOf];omega
   .have hc0:¬((k:Int)=0):=by omega
    obtain⟨hLl,hLn⟩:=oq hrow k hk;rw[hL]at hLl hLn;have hA:Below w.heap.size w (wr.alloc (.cells #[.bool (f k).ok,.int .i64 (f k).sum,.int .i64 (f k).most,.slice (f k).a (f k).n (f k).cap] 222)):=hB.alloc (by omega) _;have hl1:=hl.below hA;have hl2:=hLl.below hA;have hC:=vj (f k) L (wr.alloc (.cells #[.bool (f k).ok,.int .i64 (f k).sum,.int .i64 (f k).most,.slice (f k).a (f k).n (f k).cap] 222)) hsm hLn hl1 hl2;by_cases hcm:iB (f k) L<0
    .rw[if_pos (.inr hcm)]at hS;go_wp2_with(go_at_call 204;refine hC.mono ?_;clear hC;rintro e w1 ⟨rfl,hB1⟩;have hx1:=(hB1.block wr.heap.size (by simp)).trans (heap_alloc_new _ _);have hm1:=(hB1.block (w.heap.size+1) (by simp;omega)).trans ((Gc _ _ _ hlt2).trans hr1);have hm0:=(hB1.block w.heap.size (by simp;omega)).trans ((Gc _ _ _ (by omega)).trans hr0);have x0:w1.cell? ⟨wr.heap.size,0,none⟩=some (.bool (f k).ok):=(by simp[World.cell?,hx1]);have x1:w1.cell? ⟨wr.heap.size,1,none⟩=some (.int .i64 (f k).sum):=(by simp[World.cell?,hx1]);have x2:w1.cell? ⟨wr.heap.size,2,none⟩=some (.int .i64 (f k).most):=(by simp[World.cell?,hx1]);have x3:w1.cell? ⟨wr.heap.size,3,none⟩=some (.slice (f k).a (f k).n (f k).cap):=(by simp[World.cell?,hx1]);have y0:w1.cell? ⟨w.heap.size+1,0,none⟩=some (.bool L.ok):=(by simp[World.cell?,hm1]);have y1:w1.cell? ⟨w.heap.size+1,1,none⟩=some (.int .i64 L.sum):=(by simp[World.cell?,hm1]);have y2:w1.cell? ⟨w.heap.size+1,2,none⟩=some (.int .i64 L.most):=(by simp[World.cell?,hm1]);have y3:w1.cell? ⟨w.heap.size+1,3,none⟩=some (.slice L.a L.n L.cap):=(by simp[World.cell?,hm1]);have yf:∀j,w1.frozen? ⟨w.heap.size+1,j,none⟩=false:=(λj=>by simp[World.frozen?,hm1]);have hB2:=hA.trans (hB1.mono (by simp;omega));have hz1:=hB1.size)
     all_goals first|(exfalso;omega)|skip
     go_roundw
     case rel=>
      rw[dO hm1];have hz:(w1.setRow (w.heap.size+1) #[.bool (f k).ok,.int .i64 (f k).sum,.int .i64 (f k).most,.slice (f k).a (f k).n (f k).cap]).heap.size=w1.heap.size:=setRow_size _ _ _;rw[Gg]at hz1;refine⟨k+1,by omega,by go_num,below_setRow hB2 (by omega) _,by rw[hz];omega,?_,?_⟩
      .rw[setRow_other _ _ _ _ (by omega)];exact hm0
      .rw[setRow_heap _ _ _ _ _ _ hm1,hS]
     case measure=>simp[intOf];omega
    .rw[if_neg (λe=>e.elim hk0 hcm)]at hS;have hcd:decide (iB (f k) L<0)=false:=decide_eq_false hcm;have hcm':0<=iB (f k) L:=by omega
     clear hcm;go_wp2_with(go_at_call 204;refine hC.mono ?_;clear hC;rintro e w1 ⟨rfl,hB1⟩;have hx1:=(hB1.block wr.heap.size (by simp)).trans (heap_alloc_new _ _);have hm1:=(hB1.block (w.heap.size+1) (by simp;omega)).trans ((Gc _ _ _ hlt2).trans hr1);have hm0:=(hB1.block w.heap.size (by simp;omega)).trans ((Gc _ _ _ (by omega)).trans hr0);have x0:w1.cell? ⟨wr.heap.size,0,none⟩=some (.bool (f k).ok):=(by simp[World.cell?,hx1]);have x1:w1.cell? ⟨wr.heap.size,1,none⟩=some (.int .i64 (f k).sum):=(by simp[World.cell?,hx1]);have x2:w1.cell? ⟨wr.heap.size,2,none⟩=some (.int .i64 (f k).most):=(by simp[World.cell?,hx1]);have x3:w1.cell? ⟨wr.heap.size,3,none⟩=some (.slice (f k).a (f k).n (f k).cap):=(by simp[World.cell?,hx1]);have y0:w1.cell? ⟨w.heap.size+1,0,none⟩=some (.bool L.ok):=(by simp[World.cell?,hm1]);have y1:w1.cell? ⟨w.heap.size+1,1,none⟩=some (.int .i64 L.sum):=(by simp[World.cell?,hm1]);have y2:w1.cell? ⟨w.heap.size+1,2,none⟩=some (.int .i64 L.most):=(by simp[World.cell?,hm1]);have y3:w1.cell? ⟨w.heap.size+1,3,none⟩=some (.slice L.a L.n L.cap):=(by simp[World.cell?,hm1]);have yf:∀j,w1.frozen? ⟨w.heap.size+1,j,none⟩=false:=(λj=>by simp[World.frozen?,hm1]);have hB2:=hA.trans (hB1.mono (by simp;omega));have hz1:=hB1.size)
     all_goals first|(exfalso;omega)|skip
     go_roundw
     case rel=>
      rw[Gg]at hz1;exact⟨k+1,by omega,by go_num,hB2,by omega,hm0,by rw[hm1,hS]⟩
     case measure=>simp[intOf];omega
  .have hkn:k=n:=by omega
   subst hkn;have l0:wr.cell? ⟨w.heap.size+1,0,none⟩=some (.bool (aY f k).ok):=by simp[World.cell?,hr1]
   have l1:wr.cell? ⟨w.heap.size+1,1,none⟩=some (.int .i64 (aY f k).sum):=by simp[World.cell?,hr1]
   have l2:wr.cell? ⟨w.heap.size+1,2,none⟩=some (.int .i64 (aY f k).most):=by simp[World.cell?,hr1]
   have l3:wr.cell? ⟨w.heap.size+1,3,none⟩=some (.slice (aY f k).a (aY f k).n (aY f k).cap):=by simp[World.cell?,hr1]
   have s0:wr.cell? ⟨w.heap.size,0,none⟩=some (.bool false):=by simp[World.cell?,hr0]
   have s1:wr.cell? ⟨w.heap.size,1,none⟩=some (.int .i64 0):=by simp[World.cell?,hr0]
   have s2:wr.cell? ⟨w.heap.size,2,none⟩=some (.int .i64 0):=by simp[World.cell?,hr0]
   have s3:wr.cell? ⟨w.heap.size,3,none⟩=some (.slice none 0 0):=by simp[World.cell?,hr0]
   have sf:∀j,wr.frozen? ⟨w.heap.size,j,none⟩=false:=λj=>by simp[World.frozen?,hr0]
   go_wp2;rw[dO hr0];have hw5:=setRow_heap wr w.heap.size _ #[.bool (aY f k).ok,.int .i64 (aY f k).sum,.int .i64 (aY f k).most,.slice (aY f k).a (aY f k).n (aY f k).cap] _ _ hr0;have hb5:=below_setRow hB (Gm _) #[.bool (aY f k).ok,.int .i64 (aY f k).sum,.int .i64 (aY f k).most,.slice (aY f k).a (aY f k).n (aY f k).cap];generalize wr.setRow w.heap.size #[.bool (aY f k).ok,.int .i64 (aY f k).sum,.int .i64 (aY f k).most,.slice (aY f k).a (aY f k).n (aY f k).cap]=W5 at hw5 hb5⊢;have q0:W5.cell? ⟨w.heap.size,0,none⟩=some (.bool (aY f k).ok):=by simp[World.cell?,hw5]
   have q1:W5.cell? ⟨w.heap.size,1,none⟩=some (.int .i64 (aY f k).sum):=by simp[World.cell?,hw5]
   have q2:W5.cell? ⟨w.heap.size,2,none⟩=some (.int .i64 (aY f k).most):=by simp[World.cell?,hw5]
   have q3:W5.cell? ⟨w.heap.size,3,none⟩=some (.slice (aY f k).a (aY f k).n (aY f k).cap):=by simp[World.cell?,hw5]
   refine bodyPost_ret (v:=(aY f k).val) ?_ rfl ⟨rfl,hb5⟩;simp[results,Tryz.f203,go_sem,TryV.val,q0,q1,q2,q3]
