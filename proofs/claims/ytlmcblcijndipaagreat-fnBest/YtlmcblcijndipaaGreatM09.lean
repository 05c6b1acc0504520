/- Texts of the proof, one behind another: S0. -/
import Derived.Test.YtlmcblcijndipaaGreatM04
import Derived.Test.YtlmcblcijndipaaGreatM07
import Derived.Test.YtlmcblcijndipaaGreatM08
/- Blocks of values of one's own. -/
namespace Go.Proofs.YtlmcblcijndipaaGreat
open Go.RowKit
set_option linter.unusedVariables false

/-- a block of n values of one's own, each of one cell -/
def OwnVals (T : TypeId) (w : World) (b n : Nat) (v : Nat → Value) : Prop := (∃ cs, w.heap[b]? = some (.cells cs T (0, 0)) ∧ cs.size = n) ∧ ∀ i, i < n → w.cell? ⟨b, i, none⟩ = some (v i)
theorem OwnVals.frozen {T : TypeId} {w : World} {b n : Nat} {v : Nat → Value} (h : OwnVals T w b n v) (j : Nat) : w.frozen? ⟨b, j, none⟩ = false := by
  obtain ⟨⟨cs, h1, _⟩, _⟩ := h
  exact frozen_of_row w _ j cs _ h1
theorem OwnVals.set {T : TypeId} {w : World} {b n : Nat} {v : Nat → Value} (h : OwnVals T w b n v) (k : Nat) (hk : k < n) (x : Value) : OwnVals T (w.setCell ⟨b, k, none⟩ x) b n (fun i => if i = k then x else v i) := by
  obtain ⟨⟨cs, h1, h2⟩, h3⟩ := h
  have h1' := heap_setCell_same _ _ k _ _ x h1
  refine ⟨⟨_, h1', by simp [h2]⟩, fun i hi => ?_⟩
  by_cases e : i = k
  · subst e
    rw [cell_of_row _ _ _ _ _ _ h1']
    simp [Array.getElem?_setIfInBounds] <;> omega
  · rw [World.cell?_setCell_other _ _ _ _ (by simp <;> omega)]
    simp only [if_neg e]
    exact h3 i hi
theorem OwnVals.congr {T : TypeId} {w : World} {b n : Nat} {v v' : Nat → Value} (h : OwnVals T w b n v) (e : ∀ i, i < n → v i = v' i) : OwnVals T w b n v' :=
  ⟨h.1, fun i hi => by rw [← e i hi]; exact h.2 i hi⟩
theorem made_vals (T : TypeId) (w : World) (n : Nat) (z : Value) : OwnVals T (w.alloc (.cells (madeCells #[z] n) T)) w.heap.size n (fun _ => z) := by
  have hg : (w.alloc (.cells (madeCells #[z] n) T)).heap[w.heap.size]? = some (.cells (madeCells #[z] n) T (0, 0)) := heap_alloc_new _ _
  refine ⟨⟨_, hg, size_madeCells _ _⟩, fun i hi => ?_⟩
  rw [cell_of_row _ _ _ _ _ _ hg]
  simp [madeCells, Nat.mod_one, hi]

end Go.Proofs.YtlmcblcijndipaaGreat
