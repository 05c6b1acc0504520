/- Texts of the proof, one behind another: FirstP, FirstQ. -/
import Derived.Test.YtlmcblcijndipabGreatM17
import Derived.Sort.Walk0
namespace Go.Proofs.YtlmcblcijndipabGreat
def Mv.key (m : Mv) : Int := if 0 ≤ m.prom then m.prom else m.est
def sameB (a b : ByteArray) : Bool := a.toList == b.toList
def cmpZ (a b : Int) : Int := if a < b then -1 else if b < a then 1 else 0
def cmpS (a b : ByteArray) : Int := if lessB a b = true then -1 else if sameB a b = true then 0 else 1
def orZ (a b c : Int) : Int := if a = 0 then (if b = 0 then c else b) else a
theorem less_irrefl (a : ByteArray) : lessB a a = false := by
  unfold lessB; rw [bytesLess_eq]; simp
theorem less_trans {a b c : ByteArray} (h : lessB a b = true) (h' : lessB b c = true) : lessB a c = true := by
  unfold lessB at *; rw [bytesLess_eq] at *; simp at *; exact List.lt_trans h h'
theorem less_tri {a b : ByteArray} (h : lessB a b = false) (h' : sameB a b = false) : lessB b a = true := by
  unfold lessB sameB at *; rw [bytesLess_eq] at *; simp at *
  rcases Std.lt_trichotomy a.toList b.toList with l | l | l
  · exact absurd l (by simpa using h)
  · exact absurd l h'
  · exact l
theorem same_less {a b c : ByteArray} (h : sameB a b = true) : lessB a c = lessB b c ∧ lessB c a = lessB c b := by
  unfold sameB lessB at *; simp at h; rw [h]; exact ⟨rfl, rfl⟩
def Bef (f : Nat → Mv) (x y : Nat) : Prop := (f x).key < (f y).key ∨ (f x).key = (f y).key ∧ (lessB (f x).name (f y).name = true ∨ sameB (f x).name (f y).name = true ∧ x < y)
theorem Bef.irrefl (f : Nat → Mv) (x : Nat) : ¬ Bef f x x := by
  rintro (h | ⟨_, h | ⟨_, h⟩⟩)
  · omega
  · rw [less_irrefl] at h; cases h
  · omega
theorem same_symm {a b : ByteArray} (h : sameB a b = true) : sameB b a = true := by unfold sameB at *; simp at *; exact h.symm
theorem same_trans {a b c : ByteArray} (h : sameB a b = true) (h' : sameB b c = true) : sameB a c = true := by unfold sameB at *; simp at *; exact h.trans h'
theorem Bef.trans {f : Nat → Mv} {x y z : Nat} (h : Bef f x y) (h' : Bef f y z) : Bef f x z := by
  rcases h with h | ⟨e, h⟩ <;> rcases h' with h' | ⟨e', h'⟩
  · exact .inl (by omega)
  · exact .inl (by omega)
  · exact .inl (by omega)
  · refine .inr ⟨by omega, ?_⟩
    rcases h with h | ⟨s, h⟩ <;> rcases h' with h' | ⟨s', h'⟩
    · exact .inl (less_trans h h')
    · exact .inl (by rw [(same_less (c := (f x).name) (same_symm s')).2]; exact h)
    · exact .inl (by rw [(same_less (c := (f z).name) s).1]; exact h')
    · exact .inr ⟨same_trans s s', by omega⟩
theorem Bef.tri (f : Nat → Mv) (x y : Nat) : Bef f x y ∨ x = y ∨ Bef f y x := by
  by_cases h1 : (f x).key < (f y).key
  · exact .inl (.inl h1)
  · by_cases h2 : (f y).key < (f x).key
    · exact .inr (.inr (.inl h2))
    · have e : (f x).key = (f y).key := by omega
      cases h3 : lessB (f x).name (f y).name with
      | true => exact .inl (.inr ⟨e, .inl h3⟩)
      | false =>
        cases h4 : sameB (f x).name (f y).name with
        | false => exact .inr (.inr (.inr ⟨e.symm, .inl (less_tri h3 h4)⟩))
        | true =>
          rcases Nat.lt_trichotomy x y with l | l | l
          · exact .inl (.inr ⟨e, .inr ⟨h4, l⟩⟩)
          · exact .inr (.inl l)
          · exact .inr (.inr (.inr ⟨e.symm, .inr ⟨same_symm h4, l⟩⟩))
theorem Bef.asymm {f : Nat → Mv} {x y : Nat} (h : Bef f x y) : ¬ Bef f y x := fun h' => Bef.irrefl f x (h.trans h')
def cfN (f : Nat → Mv) (x y : Nat) : Int := orZ (cmpZ (f x).key (f y).key) (cmpS (f x).name (f y).name) (cmpZ x y)
theorem cfN_neg (f : Nat → Mv) (x y : Nat) : cfN f x y < 0 ↔ Bef f x y := by
  unfold cfN orZ cmpZ cmpS Bef
  by_cases h1 : (f x).key < (f y).key
  · simp [h1]
  · by_cases h2 : (f y).key < (f x).key
    · simp [h1, h2]; omega
    · have e : (f x).key = (f y).key := by omega
      cases h3 : lessB (f x).name (f y).name with
      | true => simp [e]
      | false =>
        cases h4 : sameB (f x).name (f y).name with
        | false => simp [e]
        | true =>
          simp [e]
          by_cases l : x < y
          · simp [l]
          · simp [l]; split <;> simp
structure IsFirst (f : Nat → Mv) (n : Nat) (g : Nat → Nat) : Prop where
  low : ∀ i, i < n → g i < n
  bef : ∀ i j, i < j → j < n → Bef f (g i) (g j)
theorem IsFirst.inj {f : Nat → Mv} {n : Nat} {g : Nat → Nat} (h : IsFirst f n g) (i j : Nat) (hij : i < j) (hj : j < n) : g i ≠ g j := fun e => Bef.irrefl f (g i) (by have := h.bef i j hij hj; rwa [← e] at this)
theorem IsFirst.surj {f : Nat → Mv} {n : Nat} {g : Nat → Nat} (h : IsFirst f n g) (p : Nat) (hp : p < n) : ∃ i, i < n ∧ g i = p := YtlmcblcijndipabGreat.surj n g h.low h.inj p hp
theorem IsFirst.unique {f : Nat → Mv} {n : Nat} {g h : Nat → Nat} (hg : IsFirst f n g) (hh : IsFirst f n h) : ∀ i, i < n → g i = h i := by
  intro i
  induction i using Nat.strongRecOn with
  | ind i ih =>
    intro hi
    obtain ⟨j, hj, ej⟩ := hh.surj (g i) (hg.low i hi)
    obtain ⟨k, hk, ek⟩ := hg.surj (h i) (hh.low i hi)
    rcases Nat.lt_trichotomy j i with l | l | l
    · have := ih j l hj
      rw [ej] at this
      exact absurd this (hg.inj j i l hi)
    · subst l; exact ej.symm
    · rcases Nat.lt_trichotomy k i with m | m | m
      · have := ih k m hk
        rw [ek] at this
        exact absurd this.symm (hh.inj k i m hi)
      · subst m; exact ek
      · have b1 := hh.bef i j l hj
        have b2 := hg.bef i k m hk
        rw [ej] at b1
        rw [ek] at b2
        exact absurd b1 b2.asymm
theorem IsFirst.ord {f : Nat → Mv} {n : Nat} {g : Nat → Nat} (h : IsFirst f n g) : OrdTo (fun i => ((g i : Nat) : Int)) n n :=
  ⟨fun i hi => by have := h.low i hi; simp only; omega, fun i j hij hj e => h.inj i j hij hj (by simp only at e; omega)⟩
end Go.Proofs.YtlmcblcijndipabGreat

namespace Go.Proofs.YtlmcblcijndipabGreat
set_option linter.unusedVariables false
def putAt (g : Nat → Nat) (k i : Nat) (j : Nat) : Nat := if j < k then g j else if j = k then i else g (j - 1)
theorem putAt_first {f : Nat → Mv} {i k : Nat} {g : Nat → Nat} (h : IsFirst f i g) (hk : k ≤ i) (h1 : ∀ j, j < k → Bef f (g j) i) (h2 : k < i → ¬ Bef f (g k) i) : IsFirst f (i + 1) (putAt g k i) := by
  have hb : ∀ q, k ≤ q → q < i → Bef f i (g q) := by
    intro q hq hqi
    have hk' : k < i := by omega
    have hki : Bef f i (g k) := by
      rcases Bef.tri f (g k) i with b | b | b
      · exact absurd b (h2 hk')
      · have := h.low k hk'; omega
      · exact b
    by_cases e : q = k
    · subst e; exact hki
    · exact hki.trans (h.bef k q (by omega) hqi)
  refine ⟨fun j hj => ?_, fun a b hab hb' => ?_⟩
  · unfold putAt
    split
    · have := h.low j (by omega); omega
    · split
      · omega
      · have := h.low (j - 1) (by omega); omega
  · unfold putAt
    by_cases ha : a < k
    · rw [if_pos ha]
      by_cases hb1 : b < k
      · rw [if_pos hb1]; exact h.bef a b hab (by omega)
      · rw [if_neg hb1]
        by_cases hb2 : b = k
        · rw [if_pos hb2]; exact h1 a ha
        · rw [if_neg hb2]; exact h.bef a (b - 1) (by omega) (by omega)
    · rw [if_neg ha]
      by_cases ha2 : a = k
      · rw [if_pos ha2, if_neg (by omega), if_neg (by omega)]
        exact hb (b - 1) (by omega) (by omega)
      · rw [if_neg ha2, if_neg (by omega), if_neg (by omega)]
        exact h.bef (a - 1) (b - 1) (by omega) (by omega)
theorem isFirst_zero (f : Nat → Mv) (g : Nat → Nat) : IsFirst f 0 g := ⟨fun i hi => absurd hi (Nat.not_lt_zero _), fun _ _ _ h => absurd h (Nat.not_lt_zero _)⟩
theorem bef_ahead {f : Nat → Mv} {x i : Nat} (h : x < i) : Bef f x i ↔ (f x).key < (f i).key ∨ (f x).key = (f i).key ∧ (lessB (f x).name (f i).name || sameB (f x).name (f i).name) = true := by
  unfold Bef
  rw [Bool.or_eq_true]
  constructor
  · rintro (h1 | ⟨e, h1 | ⟨h1, _⟩⟩)
    · exact .inl h1
    · exact .inr ⟨e, .inl h1⟩
    · exact .inr ⟨e, .inr h1⟩
  · rintro (h1 | ⟨e, h1 | h1⟩)
    · exact .inl h1
    · exact .inr ⟨e, .inl h1⟩
    · exact .inr ⟨e, .inr ⟨h1, h⟩⟩
def vals (g : Nat → Nat) (n : Nat) : List Value := (List.range n).map fun j => .int .i64 ((g j : Nat) : Int)
theorem vals_len (g : Nat → Nat) (n : Nat) : (vals g n).length = n := by simp [vals]
theorem vals_get {g : Nat → Nat} {n j : Nat} (h : j < n) : (vals g n)[j]? = some (.int .i64 ((g j : Nat) : Int)) := by simp [vals, h]
theorem vals_put (g : Nat → Nat) (i k : Nat) (hk : k ≤ i) : (vals g k ++ [.int .i64 ((i : Nat) : Int)]) ++ vals (fun j => g (k + j)) (i - k) = vals (putAt g k i) (i + 1) := by
  apply List.ext_getElem?
  intro j
  by_cases h1 : j < k
  · rw [List.getElem?_append_left (by simp [vals_len]; omega), List.getElem?_append_left (by simp [vals_len]; omega), vals_get h1, vals_get (by omega)]
    unfold putAt; rw [if_pos h1]
  · by_cases h2 : j = k
    · subst h2
      rw [List.getElem?_append_left (by simp [vals_len]), List.getElem?_append_right (by simp [vals_len]), vals_get (by omega)]
      unfold putAt; simp [vals_len]
    · by_cases h3 : j < i + 1
      · rw [List.getElem?_append_right (by simp [vals_len]; omega), vals_get (by simp [vals_len]; omega), vals_get h3]
        unfold putAt
        rw [if_neg h1, if_neg h2]
        simp only [List.length_append, vals_len, List.length_cons, List.length_nil]
        rw [show k + (j - (k + 0 + 1)) = j - 1 by omega]
      · rw [List.getElem?_eq_none (by simp [vals_len]; omega), List.getElem?_eq_none (by simp [vals_len]; omega)]
end Go.Proofs.YtlmcblcijndipabGreat
