/- Nothing but one block has turned. -/
import Derived.Test.YtlmcblcijndipabGreatDoorW6
import Derived.Test.YtlmcblcijndipabGreatDoorWI
namespace Go.Proofs.YtlmcblcijndipabGreatDoor
open Go.RowKit
set_option linter.unusedVariables false

/-- nothing but one block has turned -/
structure But (B : Nat) (w w' : World) : Prop where
  size : w.heap.size ≤ w'.heap.size
  block : ∀ k, k < w.heap.size → k ≠ B → w'.heap[k]? = w.heap[k]?
theorem But.refl (B : Nat) (w : World) : But B w w := ⟨Nat.le_refl _, fun _ _ _ => rfl⟩
theorem But.trans {B : Nat} {a b c : World} (h : But B a b) (k : But B b c) : But B a c :=
  ⟨Nat.le_trans h.size k.size, fun i hi hB => (k.block i (Nat.lt_of_lt_of_le hi h.size) hB).trans (h.block i hi hB)⟩
theorem But.of {B : Nat} {w w' : World} (h : Below w.heap.size w w') : But B w w' := ⟨h.size, fun k hk _ => h.block k hk⟩
theorem But.setCell {B : Nat} {a w : World} (h : But B a w) (o : Nat) (v : Value) : But B a (w.setCell ⟨B, o, none⟩ v) :=
  ⟨by simpa using h.size, fun k hk hB => (Below.heap_setCell w _ v k (by simpa using hB)).trans (h.block k hk hB)⟩
theorem OwnInts.but {w w' : World} {B b n : Nat} {g : Nat → Int} (h : OwnInts w b n g) (hb : But B w w') (hB : b ≠ B) : OwnInts w' b n g := by
  have hlt := h.lt
  obtain ⟨⟨cs, h1, h2⟩, h3⟩ := h
  have h1' := (hb.block b hlt hB).trans h1
  refine ⟨⟨cs, h1', h2⟩, fun i hi => ?_⟩
  rw [cell_of_row _ _ _ _ _ _ h1', ← cell_of_row w _ _ _ _ _ h1]
  exact h3 i hi

theorem OwnMvs.cells {w : World} {b n : Nat} (h : OwnMvs w b n) : (∀ j, j < n * 6 → ∃ v, w.cell? ⟨b, j, none⟩ = some v) ∧ ∀ j, w.frozen? ⟨b, j, none⟩ = false := by
  obtain ⟨cs, h1, h2⟩ := h
  exact ⟨fun j hj => by rw [cell_of_row w _ j cs _ _ h1]; exact ⟨_, Array.getElem?_eq_getElem (by omega)⟩, fun j => frozen_of_row w _ j cs _ h1⟩
theorem OwnMvs.setCell {w : World} {b n : Nat} (h : OwnMvs w b n) (o : Nat) (v : Value) : OwnMvs (w.setCell ⟨b, o, none⟩ v) b n := by
  obtain ⟨cs, h1, h2⟩ := h
  exact ⟨_, heap_setCell_same _ _ o _ _ v h1, by simp [h2]⟩
theorem OwnMvs.below {B : Nat} {w w' : World} {b n : Nat} (h : OwnMvs w b n) (hb : Below B w w') (hB : b < B) : OwnMvs w' b n := by
  obtain ⟨cs, h1, h2⟩ := h
  exact ⟨cs, (hb.block _ hB).trans h1, h2⟩

end Go.Proofs.YtlmcblcijndipabGreatDoor
