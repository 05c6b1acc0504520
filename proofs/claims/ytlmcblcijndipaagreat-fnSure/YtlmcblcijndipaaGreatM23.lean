import Derived.Test.YtlmcblcijndipaaGreatM22
import Derived.Test.YtlmcblcijndipaaGreatM14
import Derived.Test.YtlmcblcijndipaaGreatM16e
set_option linter.unusedVariables false
set_option maxHeartbeats 400000
namespace Go.Proofs.YtlmcblcijndipaaGreat
open Go.RowKit
theorem uq (m:Mv)(w:World):
  Calls Tryz0.prog 68 #[.agg #[.string m.name,.bool m.lands,.int .i64 m.wake,.int .i64 m.est,.int .i64 m.late,.int .i64 m.prom]] w λe w'=>e=.returned (.int .i64 m.key)/\w'=w.alloc (.cells #[.string m.name,.bool m.lands,.int .i64 m.wake,.int .i64 m.est,.int .i64 m.late,.int .i64 m.prom] 42):=by
 by_cases h:0<=m.prom
 .go_enter Tryz0.func68,Tryz.ntmps68
  go_wp2;go_ret;exact⟨ce (by unfold Mv.key;rw[if_pos h]),rfl⟩
 .go_enter Tryz0.func68,Tryz.ntmps68
  go_wp2;go_ret;exact⟨ce (by unfold Mv.key;rw[if_neg (by omega)]),rfl⟩
theorem yA (m:Mv)(w:World):
  Calls Tryz0.prog 112 #[.agg #[.string m.name,.bool m.lands,.int .i64 m.wake,.int .i64 m.est,.int .i64 m.late,.int .i64 m.prom]] w λe w'=>e=.returned (.int .i64 m.key)/\Below w.heap.size w w':=by
 by_cases h:0<=m.prom
 .go_enter Tryz0.func112,Tryz.ntmps112
  go_wp2;go_ret;exact⟨ce (by unfold Mv.key;rw[if_pos h]),(Below.refl _ _).alloc (Nat.le_refl _) _⟩
 .go_enter Tryz0.func112,Tryz.ntmps112
  go_wp2;go_ret;exact⟨ce (by unfold Mv.key;rw[if_neg (by omega)]),(Below.refl _ _).alloc (Nat.le_refl _) _⟩
theorem gD (a b:Int)(w:World):
  Calls Tryz0.prog 67 #[.int .i64 a,.int .i64 b] w λe w'=>e=.returned (.int .i64 (eZ a b))/\w'=w:=by
 by_cases h:a<b
 .go_enter Tryz0.func67,Tryz.ntmps67
  go_wp2;go_ret;exact⟨ce (by unfold eZ;rw[if_pos h]),rfl⟩
 .by_cases h':b<a
  .go_enter Tryz0.func67,Tryz.ntmps67
   go_wp2;go_ret;exact⟨ce (by unfold eZ;rw[if_neg (by omega),if_pos h']),rfl⟩
  .go_enter Tryz0.func67,Tryz.ntmps67
   go_wp2;go_ret;exact⟨ce (by unfold eZ;rw[if_neg (by omega),if_neg (by omega)]),rfl⟩
theorem rD (a b:ByteArray)(w:World):
  Calls Tryz0.prog 69 #[.string a,.string b] w λe w'=>e=.returned (.int .i64 (kG a b))/\w'=w:=by
 cases h:aW a b with
 |true=>
  have HC0:kG a b=-1:=by unfold kG;rw[if_pos h]
  have HC:Hid (kG a b=-1):=HC0;clear HC0;unfold aW at h;go_enter Tryz0.func69,Tryz.ntmps69
  go_wp2;go_ret;exact⟨ce HC.out.symm,rfl⟩
 |false=>
  cases h':bG a b with
  |true=>
   have HC0:kG a b=0:=by unfold kG;rw[if_neg (by simp[h]),if_pos h']
   have HC:Hid (kG a b=0):=HC0;clear HC0;unfold aW at h;unfold bG at h';go_enter Tryz0.func69,Tryz.ntmps69
   go_wp2;go_ret;exact⟨ce HC.out.symm,rfl⟩
  |false=>
   have HC0:kG a b=1:=by unfold kG;rw[if_neg (by simp[h]),if_neg (by simp[h'])]
   have HC:Hid (kG a b=1):=HC0;clear HC0;unfold aW at h;unfold bG at h';go_enter Tryz0.func69,Tryz.ntmps69
   go_wp2;go_ret;exact⟨ce HC.out.symm,rfl⟩
def A3 (c:Nat->Int)(k:Nat):Prop:=∀i,i<k->c i=0
theorem zU (b:Nat)(c:Nat->Int)(w:World)(hc:∀i,i<3->w.cell? ⟨b,i,none⟩=some (.int .i64 (c i))):
  Calls Tryz0.prog 66 #[.slice (some ⟨b,0,none⟩) 3 3] w λe w'=>e=.returned (.int .i64 (uo (c 0) (c 1) (c 2)))/\w'=w:=by
 go_enter Tryz0.func66,Tryz.ntmps66
 go_wp2;go_loop [8] (λi=>∃k:Nat,k<=3/\i=.int .i64 k/\A3 c k) (λi=>3-(intOf i).toNat)
 case atStart=>exact⟨0,Nat.zero_le _,rfl,λi hi=>absurd hi (Nat.not_lt_zero _)⟩
 case round=>
  obtain⟨k,hk,rfl,hz⟩:=hrel;by_cases hlt:k<3
  .have hk0:=hc k hlt;have hlt':(k:Int)<3:=by omega
   cases hne:(c k !=0)with
   |true=>
    have HO0:uo (c 0) (c 1) (c 2)=c k:=by
     have hn:c k≠0:=by simpa using hne
     unfold uo;by_cases e0:k=0
     .subst e0;rw[if_neg hn]
     .rw[if_pos (hz 0 (by omega))];by_cases e1:k=1
      .subst e1;rw[if_neg hn]
      .rw[if_pos (hz 1 (by omega))];obtain rfl:k=2:=by omega
       rfl
    have HO:Hid (uo (c 0) (c 1) (c 2)=c k):=HO0;clear HO0;go_wp2;go_ret;exact⟨ce HO.out.symm,rfl⟩
   |false=>
    have HE0:c k=0:=by simpa using hne
    have HE:Hid (c k=0):=HE0;clear HE0;go_wp2;go_round
    case rel=>exact⟨k+1,by omega,by go_num,λi hi=>by
     by_cases e:i=k
     .subst e;exact HE.out
     .exact hz i (by omega)⟩
    case measure=>simp[intOf];omega
  .have HO0:uo (c 0) (c 1) (c 2)=0:=by
    unfold uo;rw[if_pos (hz 0 (by omega)),if_pos (hz 1 (by omega))];exact hz 2 (by omega)
   have HO:Hid (uo (c 0) (c 1) (c 2)=0):=HO0;clear HO0;go_wp2;go_ret;exact⟨ce HO.out.symm,rfl⟩
theorem AU (b:Nat)(x y z:Int)(w:World)(c0:w.cell? ⟨b,0,none⟩=some (.int .i64 x))(c1:w.cell? ⟨b,1,none⟩=some (.int .i64 y))(c2:w.cell? ⟨b,2,none⟩=some (.int .i64 z)):
  Calls Tryz0.prog 66 #[.slice (some ⟨b,0,none⟩) 3 3] w λe w'=>e=.returned (.int .i64 (uo x y z))/\w'=w:=
 zU b (λi=>if i=0 then x else if i=1 then y else z) w (λi hi=>by
  match i,hi with
  |0,_=>simpa using c0
  |1,_=>simpa using c1
  |2,_=>simpa using c2)
def eK (g g':Nat->Int)(n n':Nat):Nat->Nat->Int
 |0,_=>if n<n' then -1 else 0
 |f+1,k=>if n'<=k then 1 else if eZ (g k) (g' k)=0 then eK g g' n n' f (k+1)else eZ (g k) (g' k)
theorem nE (a a':Option Addr)(n n' cap cap':Nat)(g g':Nat->Int)(w:World)(hn:n<=1048576)(hn':n'<=1048576)(h:bV w a n g)(h':bV w a' n' g'):
  Calls Tryz0.prog 107 #[.slice a n cap,.slice a' n' cap'] w λe w'=>e=.returned (.int .i64 (eK g g' n n' n 0))/\w'=w:=by
 go_enter Tryz0.func107,Tryz.ntmps107
 go_wp2;go_loopw [11] (λi w'=>∃k:Nat,k<=n/\i=.int .i64 k/\w'=w/\eK g g' n n' n 0=eK g g' n n' (n-k) k) (λi _=>n-(intOf i).toNat)
 case atStart=>exact⟨0,Nat.zero_le _,rfl,rfl,rfl⟩
 case round=>
  obtain⟨k,hk,rfl,rfl,hc⟩:=hrel;by_cases hlt:k<n
  .obtain⟨b,off,rfl,hrow⟩:=h.resolve_left (by omega);have hr:=hrow k hlt;have hlt':(k:Int)<n:=by omega
   have hf:n-k=(n-(k+1))+1:=by omega
   rw[hf,eK]at hc;by_cases h2:n'<=k
   .rw[if_pos h2]at hc;have h2':(n':Int)<=k:=by omega
    go_wp2;go_ret;exact⟨ce (by first|exact hc.symm|rfl),rfl⟩
   .rw[if_neg h2]at hc;obtain⟨b',off',rfl,hrow'⟩:=h'.resolve_left (by omega);have hr':=hrow' k (by omega);have h2':¬(n':Int)<=k:=by omega
    have h3':(k:Int)<n':=by omega
    by_cases h4:eZ (g k) (g' k)=0
    .rw[if_pos h4]at hc;go_wp2_with(go_at_call 67;refine(gD _ _ _).mono ?_;rintro e w' ⟨rfl,rfl⟩)
     go_roundw
     case rel=>exact⟨k+1,by omega,by go_num,(by first|rfl|trivial),hc⟩
     case measure=>simp[intOf];omega
    .rw[if_neg h4]at hc;go_wp2_with(go_at_call 67;refine(gD _ _ _).mono ?_;rintro e w' ⟨rfl,rfl⟩)
     go_ret;exact⟨ce (by first|exact hc.symm|rfl),rfl⟩
  .obtain rfl:k=n:=by omega
   rw[Nat.sub_self,eK]at hc;by_cases h5:k<n'
   .rw[if_pos h5]at hc;have h5':(k:Int)<n':=by omega
    go_wp2;go_ret;exact⟨ce (by first|exact hc.symm|rfl),rfl⟩
   .rw[if_neg h5]at hc;have h5':¬(k:Int)<n':=by omega
    go_wp2;go_ret;exact⟨ce (by first|exact hc.symm|rfl),rfl⟩
def AG (g:Nat->Int):Nat->Nat->Int
 |0,_=>0
 |f+1,k=>if g k=0 then AG g f (k+1)else g k
end Go.Proofs.YtlmcblcijndipaaGreat
