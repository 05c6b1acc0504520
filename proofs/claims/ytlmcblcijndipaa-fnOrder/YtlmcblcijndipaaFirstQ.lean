/- Plain mathematics of putting one more among those that are in order. Nothing of the program. -/
import Derived.Test.YtlmcblcijndipaaFirstP
namespace Go.Proofs.Ytlmcblcijndipaa
set_option linter.unusedVariables false

/-- i put at place k -/
def putAt (g : Nat → Nat) (k i : Nat) (j : Nat) : Nat := if j < k then g j else if j = k then i else g (j - 1)
theorem putAt_first {f : Nat → Mv} {i k : Nat} {g : Nat → Nat} (h : IsFirst f i g) (hk : k ≤ i) (h1 : ∀ j, j < k → Bef f (g j) i) (h2 : k < i → ¬ Bef f (g k) i) : IsFirst f (i + 1) (putAt g k i) := by
  have hb : ∀ q, k ≤ q → q < i → Bef f i (g q) := by
    intro q hq hqi
    have hk' : k < i := by omega
    have hki : Bef f i (g k) := by
      rcases Bef.tri f (g k) i with b | b | b
      · exact absurd b (h2 hk')
      · have := h.low k hk'; omega
      · exact b
    by_cases e : q = k
    · subst e; exact hki
    · exact hki.trans (h.bef k q (by omega) hqi)
  refine ⟨fun j hj => ?_, fun a b hab hb' => ?_⟩
  · unfold putAt
    split
    · have := h.low j (by omega); omega
    · split
      · omega
      · have := h.low (j - 1) (by omega); omega
  · unfold putAt
    by_cases ha : a < k
    · rw [if_pos ha]
      by_cases hb1 : b < k
      · rw [if_pos hb1]; exact h.bef a b hab (by omega)
      · rw [if_neg hb1]
        by_cases hb2 : b = k
        · rw [if_pos hb2]; exact h1 a ha
        · rw [if_neg hb2]; exact h.bef a (b - 1) (by omega) (by omega)
    · rw [if_neg ha]
      by_cases ha2 : a = k
      · rw [if_pos ha2, if_neg (by omega), if_neg (by omega)]
        exact hb (b - 1) (by omega) (by omega)
      · rw [if_neg ha2, if_neg (by omega), if_neg (by omega)]
        exact h.bef (a - 1) (b - 1) (by omega) (by omega)
theorem isFirst_zero (f : Nat → Mv) (g : Nat → Nat) : IsFirst f 0 g := ⟨fun i hi => absurd hi (Nat.not_lt_zero _), fun _ _ _ h => absurd h (Nat.not_lt_zero _)⟩
/-- the comparison of the model, of one that stands ahead in the list -/
theorem bef_ahead {f : Nat → Mv} {x i : Nat} (h : x < i) : Bef f x i ↔ (f x).key < (f i).key ∨ (f x).key = (f i).key ∧ (lessB (f x).name (f i).name || sameB (f x).name (f i).name) = true := by
  unfold Bef
  rw [Bool.or_eq_true]
  constructor
  · rintro (h1 | ⟨e, h1 | ⟨h1, _⟩⟩)
    · exact .inl h1
    · exact .inr ⟨e, .inl h1⟩
    · exact .inr ⟨e, .inr h1⟩
  · rintro (h1 | ⟨e, h1 | h1⟩)
    · exact .inl h1
    · exact .inr ⟨e, .inl h1⟩
    · exact .inr ⟨e, .inr ⟨h1, h⟩⟩

/-- the values of n numbers -/
def vals (g : Nat → Nat) (n : Nat) : List Value := (List.range n).map fun j => .int .i64 ((g j : Nat) : Int)
theorem vals_len (g : Nat → Nat) (n : Nat) : (vals g n).length = n := by simp [vals]
theorem vals_get {g : Nat → Nat} {n j : Nat} (h : j < n) : (vals g n)[j]? = some (.int .i64 ((g j : Nat) : Int)) := by simp [vals, h]
theorem vals_put (g : Nat → Nat) (i k : Nat) (hk : k ≤ i) : (vals g k ++ [.int .i64 ((i : Nat) : Int)]) ++ vals (fun j => g (k + j)) (i - k) = vals (putAt g k i) (i + 1) := by
  apply List.ext_getElem?
  intro j
  by_cases h1 : j < k
  · rw [List.getElem?_append_left (by simp [vals_len]; omega), List.getElem?_append_left (by simp [vals_len]; omega), vals_get h1, vals_get (by omega)]
    unfold putAt; rw [if_pos h1]
  · by_cases h2 : j = k
    · subst h2
      rw [List.getElem?_append_left (by simp [vals_len]), List.getElem?_append_right (by simp [vals_len]), vals_get (by omega)]
      unfold putAt; simp [vals_len]
    · by_cases h3 : j < i + 1
      · rw [List.getElem?_append_right (by simp [vals_len]; omega), vals_get (by simp [vals_len]; omega), vals_get h3]
        unfold putAt
        rw [if_neg h1, if_neg h2]
        simp only [List.length_append, vals_len, List.length_cons, List.length_nil]
        rw [show k + (j - (k + 0 + 1)) = j - 1 by omega]
      · rw [List.getElem?_eq_none (by simp [vals_len]; omega), List.getElem?_eq_none (by simp [vals_len]; omega)]
end Go.Proofs.Ytlmcblcijndipaa
