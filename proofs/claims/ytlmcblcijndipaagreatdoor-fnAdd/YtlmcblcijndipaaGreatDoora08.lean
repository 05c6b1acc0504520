import Derived.Test.YtlmcblcijndipaaGreatDoora00
import Derived.WalkKit
import Derived.Deep.QuietTactic
import Derived.BigQuiet
namespace Go.Proofs.YtlmcblcijndipaaGreatDoor
open RowKit
variable {w:World}{v:Value}{P:Program}
structure ai (w:World) where
 at_:World
 below:Below w w at_
theorem aG (w:World):Nonempty (ai w):=⟨⟨w,Below.refl _ _⟩⟩
theorem ai.cell (x:ai w){b o:Nat}(h:w.cell? ⟨b,o,none⟩=some v):x.at_.cell? ⟨b,o,none⟩=some v:=
 (x.below.cell (p:=⟨b,o,none⟩) (block_lt_of_cell h)).trans h
theorem aS {id:Nat}{Q:Exit->Act->World->Prop}{a:Act}{l:List Oper}
  (h:wpQuiet P l.toArray (λw'=>∃x:ai w,w'=x.at_) (λa'=>∀w',(∃x:ai w,w'=x.at_)->Q .normal a' w') l a)(hm:P.follows .mixedOrders=true:=by kernel_rfl)(hB:Region.lexB .any l.toArray=true:=by kernel_rfl):(Code.region id l.toArray true).wp P Q a w:=
 wp_region_quiet (C:=λw'=>∃x:ai w,w'=x.at_) hm hB ⟨⟨w.drew,(Below.refl _ _).drew⟩,rfl⟩ oO
theorem bT {f:FuncId}{args:Array Value}{x:ai w}(h:Calls P f args x.at_ λe w'=>e=.returned v/\Below x.at_ x.at_ w'):
  Calls P f args x.at_ λe w''=>e=.returned v/\∃m:ai w,w''=m.at_:=
 h.mono λ_ w' ⟨he,hb⟩=>⟨he,⟨w',x.below.trans<|hb.mono x.below.size⟩,rfl⟩
theorem cf {W:World}{Q:World->Prop}(h:∀w',Below W W w'->Q w'):∀w',(∃x:ai W,w'=x.at_)->Q w':=
 λw' ⟨x,hx⟩=>h w'<|hx▸x.below
theorem kI {p q:Prop}(hq:q)(h:q->p:=by intro US;refine aS ?_;(repeat(go_big_quiet_step (fail)));refine wpQuiet_nil<|cf ?_;exact US):p:=h hq
