/-
  No cell of these rows narrows 'for every input' (looked for: loops, veiled, ifaces, maps, wideKeys, modest, calm, conditions, laid).
  DERIVED. THE GIVEN ROWS OF THIS SEAT. 4 by the template 'for every input the law returns true; each argument reads behind the call as it read before'; 0 by the template 'total and deterministic' (their statements: YtlmcblcijndipaaTotals.lean).
  GIVEN WITH THE SEED: the statements are not yours to turn. If you find one false, say at which input.
  Laid BY PROGRAM, IN A SANDBOX (cutbox-rows.mjs): the forced cells as the released guide's own fill.sh prints them over the translation e58b528938967cac… (all of the seat's roots in one cut). By AI agents, Wed Nov 11 2026. No macro, syntax, notation, axiom, sorry.
-/
import Derived.Test.YtlmcblcijndipaaChecked
import GoSem.Claim
import GoSem.ClaimJoined
import GoSem.ClaimMapViews
import Derived.JoinedTies
import Derived.KernelRfl
namespace Go.Proofs.Ytlmcblcijndipaa
/- THE CELL 'sum', in the pinned program and in every row, IS THE sha256 OF THE DUMP (.gsa) THAT YtlmcblcijndipaaProg.lean LOADS. Nothing in Lean hashes anything: it is a label: what it is worth is what the hold of that sum in a sandbox is worth. -/
noncomputable def Try.pinned : Pinned := { name := "ytlmcblcijndipaa", sum := "e58b528938967cacf95153e199dee97ac40f60eaeb827435c09962f7bfccc66f", checked := Try.checked }
namespace Rows
def none {H : Type} : Left H := { results := [], args := [] }

/-- 'laws.FnOrder': WHATEVER THE INPUT: true; the input reads as it did. -/
def fnOrderSpec : ChangeSpec := { name := "fnOrder", fn := fun _ => fun
  | [d] => { results := [.lit (.bool true)], args := [d] }
  | _ => none }
def fnOrderRow : OpenClaim := { program := "ytlmcblcijndipaa", sum := "e58b528938967cacf95153e199dee97ac40f60eaeb827435c09962f7bfccc66f", func := "loop.example/lapstrip/laws.FnOrder", spec := "fnOrder", unfollowed := true, recurses := true, apart := false }
def FnOrderSaid : Prop := fnOrderRow.holds Try.pinned (OpenSpec.ofChange fnOrderSpec)

/-- ITS FALSE NEIGHBOUR: 'it returns false'. Refute it at one input. -/
def fnOrderWrong : ChangeSpec := { name := "fnOrder", fn := fun _ => fun
  | [d] => { results := [.lit (.bool false)], args := [d] }
  | _ => none }
def FnOrderWrongFalsely : Prop := fnOrderRow.holds Try.pinned (OpenSpec.ofChange fnOrderWrong)

/-- 'laws.FnExactStripMoveOk': WHATEVER THE INPUT: true; the input reads as it did. -/
def fnExactStripMoveOkSpec : ChangeSpec := { name := "fnExactStripMoveOk", fn := fun _ => fun
  | [d] => { results := [.lit (.bool true)], args := [d] }
  | _ => none }
def fnExactStripMoveOkRow : OpenClaim := { program := "ytlmcblcijndipaa", sum := "e58b528938967cacf95153e199dee97ac40f60eaeb827435c09962f7bfccc66f", func := "loop.example/lapstrip/laws.FnExactStripMoveOk", spec := "fnExactStripMoveOk", apart := false }
def FnExactStripMoveOkSaid : Prop := fnExactStripMoveOkRow.holds Try.pinned (OpenSpec.ofChange fnExactStripMoveOkSpec)

/-- ITS FALSE NEIGHBOUR: 'it returns false'. Refute it at one input. -/
def fnExactStripMoveOkWrong : ChangeSpec := { name := "fnExactStripMoveOk", fn := fun _ => fun
  | [d] => { results := [.lit (.bool false)], args := [d] }
  | _ => none }
def FnExactStripMoveOkWrongFalsely : Prop := fnExactStripMoveOkRow.holds Try.pinned (OpenSpec.ofChange fnExactStripMoveOkWrong)

/-- 'laws.FnExactStripMovesOk': WHATEVER THE INPUT: true; the input reads as it did. -/
def fnExactStripMovesOkSpec : ChangeSpec := { name := "fnExactStripMovesOk", fn := fun _ => fun
  | [d] => { results := [.lit (.bool true)], args := [d] }
  | _ => none }
def fnExactStripMovesOkRow : OpenClaim := { program := "ytlmcblcijndipaa", sum := "e58b528938967cacf95153e199dee97ac40f60eaeb827435c09962f7bfccc66f", func := "loop.example/lapstrip/laws.FnExactStripMovesOk", spec := "fnExactStripMovesOk", apart := false }
def FnExactStripMovesOkSaid : Prop := fnExactStripMovesOkRow.holds Try.pinned (OpenSpec.ofChange fnExactStripMovesOkSpec)

/-- ITS FALSE NEIGHBOUR: 'it returns false'. Refute it at one input. -/
def fnExactStripMovesOkWrong : ChangeSpec := { name := "fnExactStripMovesOk", fn := fun _ => fun
  | [d] => { results := [.lit (.bool false)], args := [d] }
  | _ => none }
def FnExactStripMovesOkWrongFalsely : Prop := fnExactStripMovesOkRow.holds Try.pinned (OpenSpec.ofChange fnExactStripMovesOkWrong)

/-- 'laws.FnExactStripFits': WHATEVER THE INPUT: true; the input reads as it did. -/
def fnExactStripFitsSpec : ChangeSpec := { name := "fnExactStripFits", fn := fun _ => fun
  | [d1, d2] => { results := [.lit (.bool true)], args := [d1, d2] }
  | _ => none }
def fnExactStripFitsRow : OpenClaim := { program := "ytlmcblcijndipaa", sum := "e58b528938967cacf95153e199dee97ac40f60eaeb827435c09962f7bfccc66f", func := "loop.example/lapstrip/laws.FnExactStripFits", spec := "fnExactStripFits", unfollowed := true, recurses := true, apart := false }
def FnExactStripFitsSaid : Prop := fnExactStripFitsRow.holds Try.pinned (OpenSpec.ofChange fnExactStripFitsSpec)

/-- ITS FALSE NEIGHBOUR: 'it returns false'. Refute it at one input. -/
def fnExactStripFitsWrong : ChangeSpec := { name := "fnExactStripFits", fn := fun _ => fun
  | [d1, d2] => { results := [.lit (.bool false)], args := [d1, d2] }
  | _ => none }
def FnExactStripFitsWrongFalsely : Prop := fnExactStripFitsRow.holds Try.pinned (OpenSpec.ofChange fnExactStripFitsWrong)

/- THE SECOND FORM. 'bulk': how many values and letters a reading holds, each counted each time it is reached (what is shared counts as often as it is met; a slice's spare places count too). A statement '..UptoSaid' is the law's where the arguments, and the package variables that the reading takes, are together of bulk at most 1048576: NARROWER than '..Said'. Prove '..Said' where nothing that the law and all that it calls make is longer than what came in: it says more and counts as full. Else prove '..UptoSaid'. A law counts once. -/
mutual
def uptoBulk {H : Type} : DataW H → Nat
  | .lit (.string bytes) => bytes.length + 1
  | .lit _ => 1
  | .nil => 1
  | .ptr d => uptoBulk d + 1
  | .slice elems spare => uptoBulkAll elems + uptoBulkAll spare + 1
  | .agg parts => uptoBulkAll parts + 1
  | .iface _ d => uptoBulk d + 1
  | .map entries => uptoBulkEntries entries + 1
  | .held _ => 1
def uptoBulkAll {H : Type} : List (DataW H) → Nat
  | [] => 0
  | d :: r => uptoBulk d + uptoBulkAll r
def uptoBulkEntries {H : Type} : List (Lit × DataW H) → Nat
  | [] => 0
  | x :: r => uptoBulkEntry x + uptoBulkEntries r
def uptoBulkEntry {H : Type} : Lit × DataW H → Nat
  | (.string bytes, d) => bytes.length + uptoBulk d + 1
  | (_, d) => uptoBulk d + 1
 end
def uptoSmall : (H : Type) → List (DataW H) → Bool := fun _ ds => decide (uptoBulkAll ds ≤ 1048576)
def OpenSpec.upto (s : _root_.Go.ChangeSpec) : _root_.Go.OpenSpec := { _root_.Go.OpenSpec.ofChange s with cond := some uptoSmall }

/-- 'laws.FnOrder', WHERE WHAT IT READS IS OF BULK AT MOST 1048576: true; the input reads as it did. -/
def fnOrderUptoRow : OpenClaim := { program := "ytlmcblcijndipaa", sum := "e58b528938967cacf95153e199dee97ac40f60eaeb827435c09962f7bfccc66f", func := "loop.example/lapstrip/laws.FnOrder", spec := "fnOrder", unfollowed := true, recurses := true, apart := false, narrowed := true }
def FnOrderUptoSaid : Prop := fnOrderUptoRow.holds Try.pinned (OpenSpec.upto fnOrderSpec)

/-- 'laws.FnExactStripMoveOk', WHERE WHAT IT READS IS OF BULK AT MOST 1048576: true; the input reads as it did. -/
def fnExactStripMoveOkUptoRow : OpenClaim := { program := "ytlmcblcijndipaa", sum := "e58b528938967cacf95153e199dee97ac40f60eaeb827435c09962f7bfccc66f", func := "loop.example/lapstrip/laws.FnExactStripMoveOk", spec := "fnExactStripMoveOk", apart := false, narrowed := true }
def FnExactStripMoveOkUptoSaid : Prop := fnExactStripMoveOkUptoRow.holds Try.pinned (OpenSpec.upto fnExactStripMoveOkSpec)

/-- 'laws.FnExactStripMovesOk', WHERE WHAT IT READS IS OF BULK AT MOST 1048576: true; the input reads as it did. -/
def fnExactStripMovesOkUptoRow : OpenClaim := { program := "ytlmcblcijndipaa", sum := "e58b528938967cacf95153e199dee97ac40f60eaeb827435c09962f7bfccc66f", func := "loop.example/lapstrip/laws.FnExactStripMovesOk", spec := "fnExactStripMovesOk", apart := false, narrowed := true }
def FnExactStripMovesOkUptoSaid : Prop := fnExactStripMovesOkUptoRow.holds Try.pinned (OpenSpec.upto fnExactStripMovesOkSpec)

/-- 'laws.FnExactStripFits', WHERE WHAT IT READS IS OF BULK AT MOST 1048576: true; the input reads as it did. -/
def fnExactStripFitsUptoRow : OpenClaim := { program := "ytlmcblcijndipaa", sum := "e58b528938967cacf95153e199dee97ac40f60eaeb827435c09962f7bfccc66f", func := "loop.example/lapstrip/laws.FnExactStripFits", spec := "fnExactStripFits", unfollowed := true, recurses := true, apart := false, narrowed := true }
def FnExactStripFitsUptoSaid : Prop := fnExactStripFitsUptoRow.holds Try.pinned (OpenSpec.upto fnExactStripFitsSpec)

end Rows
end Go.Proofs.Ytlmcblcijndipaa
