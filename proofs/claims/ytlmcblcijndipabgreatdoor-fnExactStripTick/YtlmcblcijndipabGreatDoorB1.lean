/- The book: whether it is ok, plain. -/
import Derived.Test.YtlmcblcijndipabGreatDoorF4
namespace Go.Proofs.YtlmcblcijndipabGreatDoor
open Go.RowKit
set_option linter.unusedVariables false

/-- a tick is from now on, and where it is soon it is promised -/
def soonAt (now : Int) (m : Mv) (t : Int) : Bool := !(decide (t < now) || decide (t < now + 4) && m.prom == -1)
def soonB (now : Int) (f : Nat → Mv) (t : Nat → Int) (n : Nat) : Bool := (List.range n).all fun i => soonAt now (f i) (t i)
/-- a book is ok -/
def bookB (now shift : Int) (f : Nat → Mv) (n : Nat) (t : Nat → Int) (m : Nat) : Bool := inB now 0 10000 && inB shift 0 6 && fitsB f n t m && soonB now f t n
theorem soonB_no {now : Int} {f : Nat → Mv} {t : Nat → Int} {n i : Nat} (hi : i < n) (h : soonAt now (f i) (t i) = false) : soonB now f t n = false := by
  rw [Bool.eq_false_iff]; intro hh
  unfold soonB at hh
  simp only [List.all_eq_true, List.mem_range] at hh
  rw [hh i hi] at h; cases h
theorem soonB_yes {now : Int} {f : Nat → Mv} {t : Nat → Int} {n : Nat} (h : ∀ i, i < n → soonAt now (f i) (t i) = true) : soonB now f t n = true := by
  unfold soonB
  simp only [List.all_eq_true, List.mem_range]
  exact h
theorem bookB_fits {now shift : Int} {f : Nat → Mv} {n : Nat} {t : Nat → Int} {m : Nat} (h : fitsB f n t m = false) : bookB now shift f n t m = false := by unfold bookB; simp [h]
theorem bookB_now {now shift : Int} {f : Nat → Mv} {n : Nat} {t : Nat → Int} {m : Nat} (h : inB now 0 10000 = false) : bookB now shift f n t m = false := by unfold bookB; simp [h]
theorem bookB_shift {now shift : Int} {f : Nat → Mv} {n : Nat} {t : Nat → Int} {m : Nat} (h : inB shift 0 6 = false) : bookB now shift f n t m = false := by unfold bookB; simp [h]
theorem bookB_soon {now shift : Int} {f : Nat → Mv} {n : Nat} {t : Nat → Int} {m : Nat} (h : soonB now f t n = false) : bookB now shift f n t m = false := by unfold bookB; simp [h]
theorem bookB_yes {now shift : Int} {f : Nat → Mv} {n : Nat} {t : Nat → Int} {m : Nat} (h1 : inB now 0 10000 = true) (h2 : inB shift 0 6 = true) (h3 : fitsB f n t m = true) (h4 : soonB now f t n = true) : bookB now shift f n t m = true := by unfold bookB; simp [h1, h2, h3, h4]
theorem fits_parts {f : Nat → Mv} {n m : Nat} {t : Nat → Int} (h : fitsB f n t m = true) : movesB f n = true ∧ m = n ∧ FitTo f t n := by
  have hm : movesB f n = true := by
    cases e : movesB f n with
    | true => rfl
    | false => rw [fitsB_moves e] at h; cases h
  have hl : m = n := by
    by_cases e : m = n
    · exact e
    · rw [fitsB_len e] at h; cases h
  subst hl
  exact ⟨hm, rfl, (fitsB_iff hm).mp h⟩
theorem inB_iff {n lo hi : Int} : inB n lo hi = true ↔ lo ≤ n ∧ n ≤ hi := by unfold inB; simp
end Go.Proofs.YtlmcblcijndipabGreatDoor
