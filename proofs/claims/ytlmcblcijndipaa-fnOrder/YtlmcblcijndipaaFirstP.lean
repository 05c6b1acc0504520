/- Plain mathematics of the order in which moves come by themselves. Nothing of the program. -/
import Derived.Test.YtlmcblcijndipaaOrdP
import Derived.Sort.Walk0
namespace Go.Proofs.Ytlmcblcijndipaa

/-- when a move comes by itself -/
def Mv.key (m : Mv) : Int := if 0 ≤ m.prom then m.prom else m.est
/-- the same name -/
def sameB (a b : ByteArray) : Bool := a.toList == b.toList
/-- numbers compared, names compared -/
def cmpZ (a b : Int) : Int := if a < b then -1 else if b < a then 1 else 0
def cmpS (a b : ByteArray) : Int := if lessB a b = true then -1 else if sameB a b = true then 0 else 1
/-- the first that is not 0 -/
def orZ (a b c : Int) : Int := if a = 0 then (if b = 0 then c else b) else a

theorem less_irrefl (a : ByteArray) : lessB a a = false := by
  unfold lessB; rw [bytesLess_eq]; simp
theorem less_trans {a b c : ByteArray} (h : lessB a b = true) (h' : lessB b c = true) : lessB a c = true := by
  unfold lessB at *; rw [bytesLess_eq] at *; simp at *; exact List.lt_trans h h'
theorem less_tri {a b : ByteArray} (h : lessB a b = false) (h' : sameB a b = false) : lessB b a = true := by
  unfold lessB sameB at *; rw [bytesLess_eq] at *; simp at *
  rcases Std.lt_trichotomy a.toList b.toList with l | l | l
  · exact absurd l (by simpa using h)
  · exact absurd l h'
  · exact l
theorem same_less {a b c : ByteArray} (h : sameB a b = true) : lessB a c = lessB b c ∧ lessB c a = lessB c b := by
  unfold sameB lessB at *; simp at h; rw [h]; exact ⟨rfl, rfl⟩

/-- the move at place x comes ahead of the one at place y -/
def Bef (f : Nat → Mv) (x y : Nat) : Prop := (f x).key < (f y).key ∨ (f x).key = (f y).key ∧ (lessB (f x).name (f y).name = true ∨ sameB (f x).name (f y).name = true ∧ x < y)
theorem Bef.irrefl (f : Nat → Mv) (x : Nat) : ¬ Bef f x x := by
  rintro (h | ⟨_, h | ⟨_, h⟩⟩)
  · omega
  · rw [less_irrefl] at h; cases h
  · omega
theorem same_symm {a b : ByteArray} (h : sameB a b = true) : sameB b a = true := by unfold sameB at *; simp at *; exact h.symm
theorem same_trans {a b c : ByteArray} (h : sameB a b = true) (h' : sameB b c = true) : sameB a c = true := by unfold sameB at *; simp at *; exact h.trans h'
theorem Bef.trans {f : Nat → Mv} {x y z : Nat} (h : Bef f x y) (h' : Bef f y z) : Bef f x z := by
  rcases h with h | ⟨e, h⟩ <;> rcases h' with h' | ⟨e', h'⟩
  · exact .inl (by omega)
  · exact .inl (by omega)
  · exact .inl (by omega)
  · refine .inr ⟨by omega, ?_⟩
    rcases h with h | ⟨s, h⟩ <;> rcases h' with h' | ⟨s', h'⟩
    · exact .inl (less_trans h h')
    · exact .inl (by rw [(same_less (c := (f x).name) (same_symm s')).2]; exact h)
    · exact .inl (by rw [(same_less (c := (f z).name) s).1]; exact h')
    · exact .inr ⟨same_trans s s', by omega⟩
theorem Bef.tri (f : Nat → Mv) (x y : Nat) : Bef f x y ∨ x = y ∨ Bef f y x := by
  by_cases h1 : (f x).key < (f y).key
  · exact .inl (.inl h1)
  · by_cases h2 : (f y).key < (f x).key
    · exact .inr (.inr (.inl h2))
    · have e : (f x).key = (f y).key := by omega
      cases h3 : lessB (f x).name (f y).name with
      | true => exact .inl (.inr ⟨e, .inl h3⟩)
      | false =>
        cases h4 : sameB (f x).name (f y).name with
        | false => exact .inr (.inr (.inr ⟨e.symm, .inl (less_tri h3 h4)⟩))
        | true =>
          rcases Nat.lt_trichotomy x y with l | l | l
          · exact .inl (.inr ⟨e, .inr ⟨h4, l⟩⟩)
          · exact .inr (.inl l)
          · exact .inr (.inr (.inr ⟨e.symm, .inr ⟨same_symm h4, l⟩⟩))
theorem Bef.asymm {f : Nat → Mv} {x y : Nat} (h : Bef f x y) : ¬ Bef f y x := fun h' => Bef.irrefl f x (h.trans h')

/-- what the program's comparison says -/
def cfN (f : Nat → Mv) (x y : Nat) : Int := orZ (cmpZ (f x).key (f y).key) (cmpS (f x).name (f y).name) (cmpZ x y)
theorem cfN_neg (f : Nat → Mv) (x y : Nat) : cfN f x y < 0 ↔ Bef f x y := by
  unfold cfN orZ cmpZ cmpS Bef
  by_cases h1 : (f x).key < (f y).key
  · simp [h1]
  · by_cases h2 : (f y).key < (f x).key
    · simp [h1, h2]; omega
    · have e : (f x).key = (f y).key := by omega
      cases h3 : lessB (f x).name (f y).name with
      | true => simp [e]
      | false =>
        cases h4 : sameB (f x).name (f y).name with
        | false => simp [e]
        | true =>
          simp [e]
          by_cases l : x < y
          · simp [l]
          · simp [l]; split <;> simp

/-- the order in which n moves come by themselves -/
structure IsFirst (f : Nat → Mv) (n : Nat) (g : Nat → Nat) : Prop where
  low : ∀ i, i < n → g i < n
  bef : ∀ i j, i < j → j < n → Bef f (g i) (g j)
theorem IsFirst.inj {f : Nat → Mv} {n : Nat} {g : Nat → Nat} (h : IsFirst f n g) (i j : Nat) (hij : i < j) (hj : j < n) : g i ≠ g j := fun e => Bef.irrefl f (g i) (by have := h.bef i j hij hj; rwa [← e] at this)
theorem IsFirst.surj {f : Nat → Mv} {n : Nat} {g : Nat → Nat} (h : IsFirst f n g) (p : Nat) (hp : p < n) : ∃ i, i < n ∧ g i = p := Ytlmcblcijndipaa.surj n g h.low h.inj p hp
theorem IsFirst.unique {f : Nat → Mv} {n : Nat} {g h : Nat → Nat} (hg : IsFirst f n g) (hh : IsFirst f n h) : ∀ i, i < n → g i = h i := by
  intro i
  induction i using Nat.strongRecOn with
  | ind i ih =>
    intro hi
    obtain ⟨j, hj, ej⟩ := hh.surj (g i) (hg.low i hi)
    obtain ⟨k, hk, ek⟩ := hg.surj (h i) (hh.low i hi)
    rcases Nat.lt_trichotomy j i with l | l | l
    · have := ih j l hj
      rw [ej] at this
      exact absurd this (hg.inj j i l hi)
    · subst l; exact ej.symm
    · rcases Nat.lt_trichotomy k i with m | m | m
      · have := ih k m hk
        rw [ek] at this
        exact absurd this.symm (hh.inj k i m hi)
      · subst m; exact ek
      · have b1 := hh.bef i j l hj
        have b2 := hg.bef i k m hk
        rw [ej] at b1
        rw [ek] at b2
        exact absurd b1 b2.asymm
theorem IsFirst.ord {f : Nat → Mv} {n : Nat} {g : Nat → Nat} (h : IsFirst f n g) : OrdTo (fun i => ((g i : Nat) : Int)) n n :=
  ⟨fun i hi => by have := h.low i hi; simp only; omega, fun i j hij hj e => h.inj i j hij hj (by simp only at e; omega)⟩
end Go.Proofs.Ytlmcblcijndipaa
