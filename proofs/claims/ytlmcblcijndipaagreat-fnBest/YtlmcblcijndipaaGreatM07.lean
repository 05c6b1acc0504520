/- Texts of the proof, one behind another: WI. -/
import Derived.Test.YtlmcblcijndipaaGreatM05
import Derived.Test.YtlmcblcijndipaaGreatM03
import Derived.Test.YtlmcblcijndipaaGreatM06
/- Numbers in a slice: their copy, their comparison. -/
namespace Go.Proofs.YtlmcblcijndipaaGreat
open Go.RowKit

/-- n numbers in memory, in a row -/
theorem IntRow.below {B : Nat} {w w' : World} {b off n : Nat} {g : Nat → Int} (h : IntRow w b off n g) (hb : Below B w w') (hB : b < B) : IntRow w' b off n g :=
  fun i hi => (hb.cell hB).trans (h i hi)
/-- a block of n numbers of one's own -/
def OwnInts (w : World) (b n : Nat) (g : Nat → Int) : Prop := (∃ cs, w.heap[b]? = some (.cells cs 3 (0, 0)) ∧ cs.size = n) ∧ IntRow w b 0 n g
theorem OwnInts.below {B : Nat} {w w' : World} {b n : Nat} {g : Nat → Int} (h : OwnInts w b n g) (hb : Below B w w') (hB : b < B) : OwnInts w' b n g := by
  obtain ⟨⟨cs, h1, h2⟩, h3⟩ := h
  exact ⟨⟨cs, (hb.block _ hB).trans h1, h2⟩, h3.below hb hB⟩
theorem OwnInts.lt {w : World} {b n : Nat} {g : Nat → Int} (h : OwnInts w b n g) : b < w.heap.size := by
  obtain ⟨⟨cs, h1, _⟩, _⟩ := h
  rcases Nat.lt_or_ge b w.heap.size with h | h
  · exact h
  · rw [Array.getElem?_eq_none h] at h1; cases h1
theorem OwnInts.frozen {w : World} {b n : Nat} {g : Nat → Int} (h : OwnInts w b n g) (j : Nat) : w.frozen? ⟨b, j, none⟩ = false := by
  obtain ⟨⟨cs, h1, _⟩, _⟩ := h
  exact frozen_of_row w _ j cs _ h1

theorem info_int : (Tryz0.prog.info? 3).map (fun i => (i.size, i.bytes, i.zero)) = some (1, 8, some (.int .i64 0)) := by kernel_rfl
theorem make_ints (n : Nat) (hn : n ≤ 1048576) (w : World) :
    (Instr.makeSlice 26 (.int .i64 (n : Int)) (.int .i64 (n : Int))).run Tryz0.prog w = .ok (.slice (some ⟨w.heap.size, 0, none⟩) n n) (w.alloc (.cells (madeCells #[.int .i64 0] n) 3)) := by
  have hi := info_int
  cases hI : Tryz0.prog.info? 3 with
  | none => rw [hI] at hi; simp at hi
  | some i =>
    rw [hI] at hi
    simp only [Option.map_some, Option.some.injEq, Prod.mk.injEq] at hi
    obtain ⟨h6, h56, hz⟩ := hi
    have := run_make (P := Tryz0.prog) w 26 3 i _ (Tryz0.tr_underlying Tryz.underlying26) hI hz .i64 .i64 n n (by omega) (by omega) (by rw [h56]; omega) (by omega)
    rw [h6] at this
    simpa [Value.cells] using this

/-- a block of n zeros, just made -/
theorem made_ints (w : World) (n : Nat) : OwnInts (w.alloc (.cells (madeCells #[.int .i64 0] n) 3)) w.heap.size n (fun _ => 0) := by
  have hg : (w.alloc (.cells (madeCells #[.int .i64 0] n) 3)).heap[w.heap.size]? = some (.cells (madeCells #[.int .i64 0] n) 3 (0, 0)) := heap_alloc_new _ _
  refine ⟨⟨_, hg, size_madeCells _ _⟩, fun i hi => ?_⟩
  rw [cell_of_row _ _ _ _ _ _ hg]
  simp [madeCells, Nat.mod_one, hi]

/-- a number stored into one's own block -/
theorem OwnInts.set {w : World} {b n : Nat} {g : Nat → Int} (h : OwnInts w b n g) (k : Nat) (hk : k < n) (x : Int) : OwnInts (w.setCell ⟨b, k, none⟩ (.int .i64 x)) b n (fun i => if i = k then x else g i) := by
  obtain ⟨⟨cs, h1, h2⟩, h3⟩ := h
  have h1' := heap_setCell_same _ _ k _ _ (.int .i64 x) h1
  refine ⟨⟨_, h1', by simp [h2]⟩, fun i hi => ?_⟩
  by_cases e : i = k
  · subst e
    rw [cell_of_row _ _ _ _ _ _ h1']
    simp [Array.getElem?_setIfInBounds] <;> omega
  · rw [World.cell?_setCell_other _ _ _ _ (by simp <;> omega)]
    simp only [if_neg e]
    exact h3 i hi
theorem OwnInts.congr {w : World} {b n : Nat} {g g' : Nat → Int} (h : OwnInts w b n g) (e : ∀ i, i < n → g i = g' i) : OwnInts w b n g' :=
  ⟨h.1, fun i hi => by rw [← e i hi]; exact h.2 i hi⟩
theorem OwnInts.cellAt {w : World} {b n : Nat} {g : Nat → Int} (h : OwnInts w b n g) (k : Nat) (hk : k < n) : w.cell? ⟨b, k, none⟩ = some (.int .i64 (g k)) := by
  have := h.2 k hk; simpa using this

/-- numbers in a slice that came in: none, or a row of them -/
def IsInts (w : World) (a : Option Addr) (n : Nat) (g : Nat → Int) : Prop := n ≤ maxLen ∧ (n = 0 ∨ ∃ b off, a = some ⟨b, off, none⟩ ∧ b < w.heap.size ∧ IntRow w b off n g) ∧ ∀ i, i < n → (Lit.int .i64 (g i)).wf = true
end Go.Proofs.YtlmcblcijndipaaGreat
