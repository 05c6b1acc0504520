import Derived.Test.YthppgbjejomdiaaGreatDoorj06
import Derived.RangeFuncNested
import Derived.RangeFuncBound
import Derived.Shelf.RegionOpen
import Derived.OwnWalkIn
import Derived.LoopNIn
import Derived.LoopIn
set_option linter.all false
open Go renaming World->aa,Program->ac
namespace Go.Proofs.YthppgbjejomdiaaGreatDoor
variable {a:Act}{K:Act->Prop}{t:Act->aa->Prop}{s:Exit->Act->aa->Prop}{i:Nat}{o:Oper}{w:aa}
open RowKit
def uT (l:List Oper):Bool:=l.all λo=>match o.op with|.defer _=>false|_=>true
theorem EV {l}(h:uT l)(e:l.toArray[i]?=some o):∀c,o.op≠.defer c:=by grind [uT,List.all_eq_true]
structure My (F:Fence)(P):Prop where
 fn:∀f,F.fn f
 depth:F.depth=none
 calls:∀{n:Nat} {f:FuncId} {args:Array Value} {w:aa} {R:Ending->aa->Prop},Calls P f args w R->CallsIn F n P f args w R
theorem NA (P):My Fence.wide P:=⟨λ_=>trivial,rfl,λh=>callsIn_wide.2 h⟩
theorem pu (P) l:My (Fence.wide.inRound l) P:=⟨λ_=>trivial,rfl,λh=>CallsIn.inRound l<|callsIn_wide.2 h⟩
section
variable {F:Fence}{n:Nat}{P:ac}{ops:List Oper}{md:Region.Mode}{C:aa->Prop}
theorem G4 (hF:My F P)(D:∀c,o.op≠.defer c)(hw:C w)(h:∀a w',C w'->K a->t a w') (J:o.quiet P a C K):o.wpIn F n P a w t s:=by let⟨v,N,T⟩:=J;have y:=N w hw;unfold Oper.quietAt at y;refine⟨λf _=>hF.fn f,?_⟩;rw[Oper.semAt_eq _ _ _ D];generalize (execOp a.eval o).run P w=r at*;cases r with|ok x w'=>cases x<;>simp[Oper.quietUpon]at y<;>simp[Oper.uponIn];(case value u=>grind);(case skip=>grind);case enter f args=>let⟨O,hc⟩:=y;rw[O];exact⟨λA=>(by rw[hF.depth]at A;cases A),(hF.calls hc).mono λe R ⟨he,B⟩=>cQ⟩|halt x w'=>grind [Oper.quietUpon]
theorem G3 (hF:My F P)(v:uT ops)(u:C w)(h:∀a w',C w'->K a->t a w') (r:qOp P ops.toArray C i K a):wpOpIn F n P ops.toArray s i t a w:=by unfold qOp at r;unfold wpOpIn;split;grind;rename_i o ho;simp[ho]at r;split;rename_i hw;simp[hw]at r;exact G4 hF (EV v ho) u h r;rename_i hw;simp[hw]at r;exact⟨λf _=>hF.fn f,h _ _ u r⟩
theorem qn (hF:My F P)(e:uT ops){Q s}(c:∀a w,C w->Q a->s .normal a w):∀fuel (b:Array Bool) (a:Act) (w:aa),C w->
  wpAnyQ P md ops.toArray C Q fuel b a->wpAnyIn F n P md ops.toArray s fuel b a w
 |0,_,_,_,hw,h=>⟨h.1,c _ _ hw h.2⟩
 |fuel+1,_,_,_,hw,h=>⟨λf=>c _ _ hw<|h.1 f,λi g=>G3 hF e hw (λj k d=>qn hF e c fuel _ j k d)<|h.2 i g⟩
theorem oh (hF:My F P){id Q}(d:P.follows .mixedOrders)(c:Region.lexB .any ops.toArray)(e:uT ops) (h:wpQuiet P ops.toArray (λw'=>∃x:am w,w'=x.at_) (λa'=>∀w',(∃x:am w,w'=x.at_)->Q .normal a' w') ops a):(Code.region id ops.toArray true).wpIn F n P Q a w:=by simp[Region.lexB]at c;refine wpIn_region_any d<|qn (Q:=λa'=>∀w',(∃x:am w,w'=x.at_)->Q .normal a' w') hF e (λ_ w' b h=>h w' b) _ _ _ _ ⟨⟨w.drew,(Below.refl _ _).drew⟩,rfl⟩ ?_;have:=wpAnyQ_lex (md:=.any) c.1 ops 0 (Array.replicate ops.toArray.size false) a aN cQ h;simpa using this
end
