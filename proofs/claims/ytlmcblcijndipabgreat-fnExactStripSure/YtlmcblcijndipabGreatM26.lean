/- Texts of the proof, one behind another: But. -/
import Derived.Test.YtlmcblcijndipabGreatM15
import Derived.Test.YtlmcblcijndipabGreatM22
namespace Go.Proofs.YtlmcblcijndipabGreat
open Go.RowKit
set_option linter.unusedVariables false
structure But (B : Nat) (w w' : World) : Prop where
  size : w.heap.size ≤ w'.heap.size
  block : ∀ k, k < w.heap.size → k ≠ B → w'.heap[k]? = w.heap[k]?
theorem But.refl (B : Nat) (w : World) : But B w w := ⟨Nat.le_refl _, fun _ _ _ => rfl⟩
theorem But.trans {B : Nat} {a b c : World} (h : But B a b) (k : But B b c) : But B a c :=
  ⟨Nat.le_trans h.size k.size, fun i hi hB => (k.block i (Nat.lt_of_lt_of_le hi h.size) hB).trans (h.block i hi hB)⟩
theorem But.of {B : Nat} {w w' : World} (h : Below w.heap.size w w') : But B w w' := ⟨h.size, fun k hk _ => h.block k hk⟩
theorem But.setCell {B : Nat} {a w : World} (h : But B a w) (o : Nat) (v : Value) : But B a (w.setCell ⟨B, o, none⟩ v) :=
  ⟨by simpa using h.size, fun k hk hB => (Below.heap_setCell w _ v k (by simpa using hB)).trans (h.block k hk hB)⟩
theorem OwnInts.but {w w' : World} {B b n : Nat} {g : Nat → Int} (h : OwnInts w b n g) (hb : But B w w') (hB : b ≠ B) : OwnInts w' b n g := by
  have hlt := h.lt
  obtain ⟨⟨cs, h1, h2⟩, h3⟩ := h
  have h1' := (hb.block b hlt hB).trans h1
  refine ⟨⟨cs, h1', h2⟩, fun i hi => ?_⟩
  rw [cell_of_row _ _ _ _ _ _ h1', ← cell_of_row w _ _ _ _ _ h1]
  exact h3 i hi
end Go.Proofs.YtlmcblcijndipabGreat
