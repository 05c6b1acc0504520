/-
  No cell of these rows narrows 'for every input' (looked for: loops, veiled, ifaces, maps, wideKeys, modest, calm, conditions, laid).
  DERIVED. THE GIVEN ROWS OF THIS SEAT. 5 by the template 'for every input the law returns true; each argument reads behind the call as it read before'; 0 by the template 'total and deterministic' (their statements: YtlmcblcijndipabTotals.lean).
  GIVEN WITH THE SEED: the statements are not yours to turn. If you find one false, say at which input.
  Laid BY PROGRAM, IN A SANDBOX (cutbox-rows.mjs): the forced cells as the released guide's own fill.sh prints them over the translation 9c4cfa2b8e5c85e2… (all of the seat's roots in one cut). By AI agents, Wed Nov 11 2026. No macro, syntax, notation, axiom, sorry.
-/
import Derived.Test.YtlmcblcijndipabChecked
import GoSem.Claim
import GoSem.ClaimJoined
import GoSem.ClaimMapViews
import Derived.JoinedTies
import Derived.KernelRfl
namespace Go.Proofs.Ytlmcblcijndipab
/- THE CELL 'sum', in the pinned program and in every row, IS THE sha256 OF THE DUMP (.gsa) THAT YtlmcblcijndipabProg.lean LOADS. Nothing in Lean hashes anything: it is a label: what it is worth is what the hold of that sum in a sandbox is worth. -/
noncomputable def Try.pinned : Pinned := { name := "ytlmcblcijndipab", sum := "9c4cfa2b8e5c85e234f46fea9e0f063cd2b13e1fa562a7046039032125268f2e", checked := Try.checked }
namespace Rows
def none {H : Type} : Left H := { results := [], args := [] }

/-- 'laws.FnExactStripCost': WHATEVER THE INPUT: true; the input reads as it did. -/
def fnExactStripCostSpec : ChangeSpec := { name := "fnExactStripCost", fn := fun _ => fun
  | [d1, d2] => { results := [.lit (.bool true)], args := [d1, d2] }
  | _ => none }
def fnExactStripCostRow : OpenClaim := { program := "ytlmcblcijndipab", sum := "9c4cfa2b8e5c85e234f46fea9e0f063cd2b13e1fa562a7046039032125268f2e", func := "loop.example/lapstrip/laws.FnExactStripCost", spec := "fnExactStripCost", unfollowed := true, recurses := true, apart := false }
def FnExactStripCostSaid : Prop := fnExactStripCostRow.holds Try.pinned (OpenSpec.ofChange fnExactStripCostSpec)

/-- ITS FALSE NEIGHBOUR: 'it returns false'. Refute it at one input. -/
def fnExactStripCostWrong : ChangeSpec := { name := "fnExactStripCost", fn := fun _ => fun
  | [d1, d2] => { results := [.lit (.bool false)], args := [d1, d2] }
  | _ => none }
def FnExactStripCostWrongFalsely : Prop := fnExactStripCostRow.holds Try.pinned (OpenSpec.ofChange fnExactStripCostWrong)

/-- 'laws.FnExactStripFirst': WHATEVER THE INPUT: true; the input reads as it did. -/
def fnExactStripFirstSpec : ChangeSpec := { name := "fnExactStripFirst", fn := fun _ => fun
  | [d] => { results := [.lit (.bool true)], args := [d] }
  | _ => none }
def fnExactStripFirstRow : OpenClaim := { program := "ytlmcblcijndipab", sum := "9c4cfa2b8e5c85e234f46fea9e0f063cd2b13e1fa562a7046039032125268f2e", func := "loop.example/lapstrip/laws.FnExactStripFirst", spec := "fnExactStripFirst", unfollowed := true, recurses := true, apart := false }
def FnExactStripFirstSaid : Prop := fnExactStripFirstRow.holds Try.pinned (OpenSpec.ofChange fnExactStripFirstSpec)

/-- ITS FALSE NEIGHBOUR: 'it returns false'. Refute it at one input. -/
def fnExactStripFirstWrong : ChangeSpec := { name := "fnExactStripFirst", fn := fun _ => fun
  | [d] => { results := [.lit (.bool false)], args := [d] }
  | _ => none }
def FnExactStripFirstWrongFalsely : Prop := fnExactStripFirstRow.holds Try.pinned (OpenSpec.ofChange fnExactStripFirstWrong)

/-- 'laws.FnExactStripOrder': WHATEVER THE INPUT: true; the input reads as it did. -/
def fnExactStripOrderSpec : ChangeSpec := { name := "fnExactStripOrder", fn := fun _ => fun
  | [d1, d2] => { results := [.lit (.bool true)], args := [d1, d2] }
  | _ => none }
def fnExactStripOrderRow : OpenClaim := { program := "ytlmcblcijndipab", sum := "9c4cfa2b8e5c85e234f46fea9e0f063cd2b13e1fa562a7046039032125268f2e", func := "loop.example/lapstrip/laws.FnExactStripOrder", spec := "fnExactStripOrder", unfollowed := true, recurses := true, apart := false }
def FnExactStripOrderSaid : Prop := fnExactStripOrderRow.holds Try.pinned (OpenSpec.ofChange fnExactStripOrderSpec)

/-- ITS FALSE NEIGHBOUR: 'it returns false'. Refute it at one input. -/
def fnExactStripOrderWrong : ChangeSpec := { name := "fnExactStripOrder", fn := fun _ => fun
  | [d1, d2] => { results := [.lit (.bool false)], args := [d1, d2] }
  | _ => none }
def FnExactStripOrderWrongFalsely : Prop := fnExactStripOrderRow.holds Try.pinned (OpenSpec.ofChange fnExactStripOrderWrong)

/-- 'laws.FnExactStripShift': WHATEVER THE INPUT: true; the input reads as it did. -/
def fnExactStripShiftSpec : ChangeSpec := { name := "fnExactStripShift", fn := fun _ => fun
  | [d1, d2] => { results := [.lit (.bool true)], args := [d1, d2] }
  | _ => none }
def fnExactStripShiftRow : OpenClaim := { program := "ytlmcblcijndipab", sum := "9c4cfa2b8e5c85e234f46fea9e0f063cd2b13e1fa562a7046039032125268f2e", func := "loop.example/lapstrip/laws.FnExactStripShift", spec := "fnExactStripShift", apart := false }
def FnExactStripShiftSaid : Prop := fnExactStripShiftRow.holds Try.pinned (OpenSpec.ofChange fnExactStripShiftSpec)

/-- ITS FALSE NEIGHBOUR: 'it returns false'. Refute it at one input. -/
def fnExactStripShiftWrong : ChangeSpec := { name := "fnExactStripShift", fn := fun _ => fun
  | [d1, d2] => { results := [.lit (.bool false)], args := [d1, d2] }
  | _ => none }
def FnExactStripShiftWrongFalsely : Prop := fnExactStripShiftRow.holds Try.pinned (OpenSpec.ofChange fnExactStripShiftWrong)

/-- 'laws.FnExactStripBookOk': WHATEVER THE INPUT: true; the input reads as it did. -/
def fnExactStripBookOkSpec : ChangeSpec := { name := "fnExactStripBookOk", fn := fun _ => fun
  | [d] => { results := [.lit (.bool true)], args := [d] }
  | _ => none }
def fnExactStripBookOkRow : OpenClaim := { program := "ytlmcblcijndipab", sum := "9c4cfa2b8e5c85e234f46fea9e0f063cd2b13e1fa562a7046039032125268f2e", func := "loop.example/lapstrip/laws.FnExactStripBookOk", spec := "fnExactStripBookOk", unfollowed := true, recurses := true, apart := false }
def FnExactStripBookOkSaid : Prop := fnExactStripBookOkRow.holds Try.pinned (OpenSpec.ofChange fnExactStripBookOkSpec)

/-- ITS FALSE NEIGHBOUR: 'it returns false'. Refute it at one input. -/
def fnExactStripBookOkWrong : ChangeSpec := { name := "fnExactStripBookOk", fn := fun _ => fun
  | [d] => { results := [.lit (.bool false)], args := [d] }
  | _ => none }
def FnExactStripBookOkWrongFalsely : Prop := fnExactStripBookOkRow.holds Try.pinned (OpenSpec.ofChange fnExactStripBookOkWrong)

/- THE SECOND FORM. 'bulk': how many values and letters a reading holds, each counted each time it is reached (what is shared counts as often as it is met; a slice's spare places count too). A statement '..UptoSaid' is the law's where the arguments, and the package variables that the reading takes, are together of bulk at most 1048576: NARROWER than '..Said'. Prove '..Said' where nothing that the law and all that it calls make is longer than what came in: it says more and counts as full. Else prove '..UptoSaid'. A law counts once. -/
mutual
def uptoBulk {H : Type} : DataW H → Nat
  | .lit (.string bytes) => bytes.length + 1
  | .lit _ => 1
  | .nil => 1
  | .ptr d => uptoBulk d + 1
  | .slice elems spare => uptoBulkAll elems + uptoBulkAll spare + 1
  | .agg parts => uptoBulkAll parts + 1
  | .iface _ d => uptoBulk d + 1
  | .map entries => uptoBulkEntries entries + 1
  | .held _ => 1
def uptoBulkAll {H : Type} : List (DataW H) → Nat
  | [] => 0
  | d :: r => uptoBulk d + uptoBulkAll r
def uptoBulkEntries {H : Type} : List (Lit × DataW H) → Nat
  | [] => 0
  | x :: r => uptoBulkEntry x + uptoBulkEntries r
def uptoBulkEntry {H : Type} : Lit × DataW H → Nat
  | (.string bytes, d) => bytes.length + uptoBulk d + 1
  | (_, d) => uptoBulk d + 1
 end
def uptoSmall : (H : Type) → List (DataW H) → Bool := fun _ ds => decide (uptoBulkAll ds ≤ 1048576)
def OpenSpec.upto (s : _root_.Go.ChangeSpec) : _root_.Go.OpenSpec := { _root_.Go.OpenSpec.ofChange s with cond := some uptoSmall }

/-- 'laws.FnExactStripCost', WHERE WHAT IT READS IS OF BULK AT MOST 1048576: true; the input reads as it did. -/
def fnExactStripCostUptoRow : OpenClaim := { program := "ytlmcblcijndipab", sum := "9c4cfa2b8e5c85e234f46fea9e0f063cd2b13e1fa562a7046039032125268f2e", func := "loop.example/lapstrip/laws.FnExactStripCost", spec := "fnExactStripCost", unfollowed := true, recurses := true, apart := false, narrowed := true }
def FnExactStripCostUptoSaid : Prop := fnExactStripCostUptoRow.holds Try.pinned (OpenSpec.upto fnExactStripCostSpec)

/-- 'laws.FnExactStripFirst', WHERE WHAT IT READS IS OF BULK AT MOST 1048576: true; the input reads as it did. -/
def fnExactStripFirstUptoRow : OpenClaim := { program := "ytlmcblcijndipab", sum := "9c4cfa2b8e5c85e234f46fea9e0f063cd2b13e1fa562a7046039032125268f2e", func := "loop.example/lapstrip/laws.FnExactStripFirst", spec := "fnExactStripFirst", unfollowed := true, recurses := true, apart := false, narrowed := true }
def FnExactStripFirstUptoSaid : Prop := fnExactStripFirstUptoRow.holds Try.pinned (OpenSpec.upto fnExactStripFirstSpec)

/-- 'laws.FnExactStripOrder', WHERE WHAT IT READS IS OF BULK AT MOST 1048576: true; the input reads as it did. -/
def fnExactStripOrderUptoRow : OpenClaim := { program := "ytlmcblcijndipab", sum := "9c4cfa2b8e5c85e234f46fea9e0f063cd2b13e1fa562a7046039032125268f2e", func := "loop.example/lapstrip/laws.FnExactStripOrder", spec := "fnExactStripOrder", unfollowed := true, recurses := true, apart := false, narrowed := true }
def FnExactStripOrderUptoSaid : Prop := fnExactStripOrderUptoRow.holds Try.pinned (OpenSpec.upto fnExactStripOrderSpec)

/-- 'laws.FnExactStripShift', WHERE WHAT IT READS IS OF BULK AT MOST 1048576: true; the input reads as it did. -/
def fnExactStripShiftUptoRow : OpenClaim := { program := "ytlmcblcijndipab", sum := "9c4cfa2b8e5c85e234f46fea9e0f063cd2b13e1fa562a7046039032125268f2e", func := "loop.example/lapstrip/laws.FnExactStripShift", spec := "fnExactStripShift", apart := false, narrowed := true }
def FnExactStripShiftUptoSaid : Prop := fnExactStripShiftUptoRow.holds Try.pinned (OpenSpec.upto fnExactStripShiftSpec)

/-- 'laws.FnExactStripBookOk', WHERE WHAT IT READS IS OF BULK AT MOST 1048576: true; the input reads as it did. -/
def fnExactStripBookOkUptoRow : OpenClaim := { program := "ytlmcblcijndipab", sum := "9c4cfa2b8e5c85e234f46fea9e0f063cd2b13e1fa562a7046039032125268f2e", func := "loop.example/lapstrip/laws.FnExactStripBookOk", spec := "fnExactStripBookOk", unfollowed := true, recurses := true, apart := false, narrowed := true }
def FnExactStripBookOkUptoSaid : Prop := fnExactStripBookOkUptoRow.holds Try.pinned (OpenSpec.upto fnExactStripBookOkSpec)

end Rows
end Go.Proofs.Ytlmcblcijndipab
