import Derived.Test.YtlmcblcijndipabGreatDoorM10
import Derived.Test.YtlmcblcijndipabGreatDoorM12e
import Derived.Test.YtlmcblcijndipabGreatDoorM19
import Derived.Test.YtlmcblcijndipabGreatDoorM14
set_option linter.unusedVariables false
set_option maxHeartbeats 1000000
namespace Go.Proofs.YtlmcblcijndipabGreatDoor
open Go.RowKit
def bV (f:Nat->Mv)(n:Nat)(name:ByteArray)(k:Int):Prop:=k=-1/\(∀i,i<n->aU (f i).name name=false)\/∃j:Nat,k=(j:Int)/\j<n/\aU (f j).name name=true/\∀i,i<j->aU (f i).name name=false
theorem nt (m:Mv)(B:Nat)(name:ByteArray)(w:World)(hB:B<w.heap.size)(hc:w.cell? ⟨B,0,none⟩=some (.string name)):
  Calls Tryz0.prog 276 #[.agg #[.string m.name,.bool m.lands,.int .i64 m.wake,.int .i64 m.est,.int .i64 m.late,.int .i64 m.prom],.pointer (some ⟨B,0,none⟩)] w λe w'=>e=.returned (.bool (aU m.name name))/\Below w.heap.size w w':=by
 have hc':(w.alloc (.cells #[.string m.name,.bool m.lands,.int .i64 m.wake,.int .i64 m.est,.int .i64 m.late,.int .i64 m.prom] 36)).cell? ⟨B,0,none⟩=some (.string name):=by
  rw[World.cell?_alloc_lt _ _ ⟨B,0,none⟩ hB];exact hc
 go_enter Tryz0.func276,Tryz.ntmps276
 go_wp2;go_ret;exact⟨rfl,(Below.refl _ w).alloc (Nat.le_refl _) _⟩
theorem vq (b off n cap:Nat)(f:Nat->Mv)(B:Nat)(name:ByteArray)(w:World)(hn:n<=1048576)(hbs:b<w.heap.size)(hrow:an w b off n f)(hB:B<w.heap.size)(hc:w.cell? ⟨B,0,none⟩=some (.string name)):
  Calls Tryz0.prog 275 #[.slice (some ⟨b,off,none⟩) n cap,.func (.func 276) #[] #[.pointer (some ⟨B,0,none⟩)]] w λe w'=>(∃k:Int,e=.returned (.int .i64 k)/\bV f n name k)/\Below w.heap.size w w':=by
 go_enter Tryz0.func275,Tryz.ntmps275
 go_wp2;go_loopw [8] (λx W=>∃k:Nat,x=.int .i64 k/\k<=n/\Below w.heap.size w W/\∀i,i<k->aU (f i).name name=false) (λx _=>n-(intOf x).toNat)
 case atStart=>exact⟨0,rfl,Nat.zero_le _,Below.refl _ _,λi hi=>absurd hi (Nat.not_lt_zero _)⟩
 case round=>
  obtain⟨k,rfl,hk,hb,hall⟩:=hrel;by_cases hlt:k<n
  .have hlt':(k:Int)<n:=by omega
   have hr:=hrow.below hb hbs k hlt;obtain⟨c0,c1,c2,c3,c4,c5⟩:=hr;have H1:=λ(w1:World)=>nt (f k) B name w1
   cases he:aU (f k).name name with
   |true=>
    go_wp2_with(go_at_call 276;refine(nt (f k) B name wr (Nat.lt_of_lt_of_le hB hb.size) ((hb.cell (p:=⟨B,0,none⟩) hB).trans hc)).mono ?_;rintro e w1 ⟨rfl,b1⟩;rw[he])
    all_goals first|(exfalso;omega)|skip
    go_ret;exact⟨⟨k,rfl,.inr ⟨k,rfl,hlt,he,hall⟩⟩,hb.trans (b1.mono hb.size)⟩
   |false=>
    go_wp2_with(go_at_call 276;refine(nt (f k) B name wr (Nat.lt_of_lt_of_le hB hb.size) ((hb.cell (p:=⟨B,0,none⟩) hB).trans hc)).mono ?_;rintro e w1 ⟨rfl,b1⟩;rw[he])
    all_goals first|(exfalso;omega)|skip
    go_roundw
    case rel=>exact⟨k+1,by go_num,by omega,hb.trans (b1.mono hb.size),λi hi=>by
     by_cases e:i=k
     .subst e;exact he
     .exact hall i (by omega)⟩
    case measure=>simp[intOf];omega
  .have hlt':¬(k:Int)<n:=by omega
   go_wp2;all_goals first|(exfalso;omega)|skip
   go_ret;exact⟨⟨-1,rfl,.inl ⟨rfl,λi hi=>hall i (by omega)⟩⟩,hb⟩
theorem rD (b off n cap:Nat)(f:Nat->Mv)(name:ByteArray)(w:World)(hn:n<=1048576)(hbs:b<w.heap.size)(hrow:an w b off n f):
  Calls Tryz0.prog 273 #[.slice (some ⟨b,off,none⟩) n cap,.string name] w λe w'=>(∃k:Int,e=.returned (.int .i64 k)/\bV f n name k)/\Below w.heap.size w w':=by
 have b0:Below w.heap.size w (w.alloc (.cells #[.string name] 9)):=(Below.refl _ w).alloc (Nat.le_refl _) _;have hI:=vq b off n cap f w.heap.size name (w.alloc (.cells #[.string name] 9)) hn (by simp;omega) (hrow.below b0 hbs) (by simp) (by simp);go_enter Tryz0.func273,Tryz.ntmps273
 go_wp2_with(go_at_call 275;refine hI.mono ?_;rintro e w1 ⟨⟨k,rfl,hk⟩,b1⟩)
 go_ret;exact⟨⟨k,rfl,hk⟩,b0.trans (b1.mono b0.size)⟩
end Go.Proofs.YtlmcblcijndipabGreatDoor
namespace Go.Proofs.YtlmcblcijndipabGreatDoor
open Go Go.RowKit
def BG {α:Type}(f:Nat->α)(k i:Nat):α:=if i<k then f i else f (i+1)
end Go.Proofs.YtlmcblcijndipabGreatDoor
