/- Plain mathematics of moves: names, what makes a move ok. Nothing of the program. -/
import Derived.Below
namespace Go.Proofs.YtlmcblcijndipabGreatDoor

/-- a byte (or a rune) of a name that is allowed -/
def okB (n : Int) : Bool := decide (97 ≤ n ∧ n ≤ 122 ∨ 48 ≤ n ∧ n ≤ 57 ∨ n = 45)
/-- all bytes ahead of k are allowed -/
def okTo (s : ByteArray) (k : Nat) : Prop := ∀ j (h : j < s.size), j < k → okB (s[j].toNat : Int) = true
/-- a name is ok -/
def nameB (s : ByteArray) : Bool := decide (1 ≤ s.size ∧ s.size ≤ 8) && s.data.toList.all fun c => okB (c.toNat : Int)
/-- low to high -/
def inB (n lo hi : Int) : Bool := decide (lo ≤ n ∧ n ≤ hi)
/-- the promise -/
def promB (est late p : Int) : Bool := p == -1 || inB p est late
/-- a move is ok -/
def moveB (s : ByteArray) (wake est late p : Int) : Bool := nameB s && inB wake 1 3 && inB est 0 late && decide (late ≤ 10000) && promB est late p

theorem okTo_zero (s : ByteArray) : okTo s 0 := fun _ _ h => absurd h (Nat.not_lt_zero _)
theorem okTo_succ {s : ByteArray} {k : Nat} (h : okTo s k) (hk : k < s.size) (hb : okB (s[k].toNat : Int) = true) : okTo s (k + 1) := by
  intro j hj hjk
  by_cases e : j = k
  · subst e; exact hb
  · exact h j hj (by omega)
theorem all_iff (s : ByteArray) : (s.data.toList.all fun c => okB (c.toNat : Int)) = true ↔ ∀ j (h : j < s.size), okB (s[j].toNat : Int) = true := by
  rw [List.all_eq_true]
  constructor
  · intro h j hj
    exact h _ (Array.mem_toList_iff.mpr (Array.getElem_mem (xs := s.data) (i := j) hj))
  · intro h c hc
    obtain ⟨j, hj, rfl⟩ := Array.mem_iff_getElem.mp (Array.mem_toList_iff.mp hc)
    exact h j hj
theorem nameB_yes {s : ByteArray} (h1 : 1 ≤ s.size) (h2 : s.size ≤ 8) (h : okTo s s.size) : nameB s = true := by
  unfold nameB
  rw [(all_iff s).mpr fun j hj => h j hj hj]
  simp [h1, h2]
theorem nameB_no {s : ByteArray} {k : Nat} (hk : k < s.size) (h : okB (s[k].toNat : Int) = false) : nameB s = false := by
  unfold nameB
  rw [Bool.and_eq_false_iff]
  right
  rw [Bool.eq_false_iff]
  intro ha
  have := (all_iff s).mp ha k hk
  rw [h] at this
  cases this
theorem nameB_short {s : ByteArray} (h : ¬ 1 ≤ s.size) : nameB s = false := by
  unfold nameB; simp [h]
theorem nameB_long {s : ByteArray} (h : ¬ s.size ≤ 8) : nameB s = false := by
  unfold nameB; simp [h]
theorem okB_no {n : Int} (h : 128 ≤ n) : okB n = false := by
  unfold okB; rw [decide_eq_false_iff_not]; omega

/-- a move -/
structure Mv where
  name : ByteArray
  lands : Bool
  wake : Int
  est : Int
  late : Int
  prom : Int

/-- as a value -/
abbrev Mv.cells (m : Mv) : Array Value := #[.string m.name, .bool m.lands, .int .i64 m.wake, .int .i64 m.est, .int .i64 m.late, .int .i64 m.prom]
/-- its numbers fit their kinds, its name is no longer than a string may be -/
structure Mv.Fits (m : Mv) : Prop where
  name : m.name.size ≤ maxLen
  wake : (Lit.int .i64 m.wake).wf = true
  est : (Lit.int .i64 m.est).wf = true
  late : (Lit.int .i64 m.late).wf = true
  prom : (Lit.int .i64 m.prom).wf = true

def Mv.ok (m : Mv) : Bool := moveB m.name m.wake m.est m.late m.prom

/-- one name comes ahead of the other -/
def lessB (a b : ByteArray) : Bool := Op.bytesLess a.toList b.toList
/-- the move at a place is ok, and behind the one ahead of it -/
def stepB (f : Nat → Mv) (i : Nat) : Bool := (f i).ok && (i == 0 || lessB (f (i - 1)).name (f i).name)
def movesB (f : Nat → Mv) (n : Nat) : Bool := decide (n ≤ 6) && (List.range n).all fun i => stepB f i
def stepsTo (f : Nat → Mv) (k : Nat) : Prop := ∀ i, i < k → stepB f i = true

theorem stepsTo_succ {f : Nat → Mv} {k : Nat} (h : stepsTo f k) (hk : stepB f k = true) : stepsTo f (k + 1) := by
  intro i hi
  by_cases e : i = k
  · subst e; exact hk
  · exact h i (by omega)
theorem movesB_yes {f : Nat → Mv} {n : Nat} (h : n ≤ 6) (hs : stepsTo f n) : movesB f n = true := by
  unfold movesB
  simp only [Bool.and_eq_true, decide_eq_true_eq, List.all_eq_true, List.mem_range]
  exact ⟨h, hs⟩
theorem movesB_no {f : Nat → Mv} {n k : Nat} (hk : k < n) (hs : stepB f k = false) : movesB f n = false := by
  unfold movesB
  rw [Bool.and_eq_false_iff]
  right
  rw [Bool.eq_false_iff]
  intro ha
  rw [List.all_eq_true] at ha
  have := ha k (List.mem_range.mpr hk)
  rw [hs] at this
  cases this
theorem movesB_long {f : Nat → Mv} {n : Nat} (h : ¬ n ≤ 6) : movesB f n = false := by unfold movesB; simp [h]

end Go.Proofs.YtlmcblcijndipabGreatDoor
