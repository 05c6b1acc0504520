/- Texts of the proof, one behind another: Plain, FitP. -/
import Derived.Below
namespace Go.Proofs.YtlmcblcijndipabGreat
def okB (n : Int) : Bool := decide (97 ≤ n ∧ n ≤ 122 ∨ 48 ≤ n ∧ n ≤ 57 ∨ n = 45)
def okTo (s : ByteArray) (k : Nat) : Prop := ∀ j (h : j < s.size), j < k → okB (s[j].toNat : Int) = true
def nameB (s : ByteArray) : Bool := decide (1 ≤ s.size ∧ s.size ≤ 8) && s.data.toList.all fun c => okB (c.toNat : Int)
def inB (n lo hi : Int) : Bool := decide (lo ≤ n ∧ n ≤ hi)
def promB (est late p : Int) : Bool := p == -1 || inB p est late
def moveB (s : ByteArray) (wake est late p : Int) : Bool := nameB s && inB wake 1 3 && inB est 0 late && decide (late ≤ 10000) && promB est late p
theorem okTo_zero (s : ByteArray) : okTo s 0 := fun _ _ h => absurd h (Nat.not_lt_zero _)
theorem okTo_succ {s : ByteArray} {k : Nat} (h : okTo s k) (hk : k < s.size) (hb : okB (s[k].toNat : Int) = true) : okTo s (k + 1) := by
  intro j hj hjk
  by_cases e : j = k
  · subst e; exact hb
  · exact h j hj (by omega)
theorem all_iff (s : ByteArray) : (s.data.toList.all fun c => okB (c.toNat : Int)) = true ↔ ∀ j (h : j < s.size), okB (s[j].toNat : Int) = true := by
  rw [List.all_eq_true]
  constructor
  · intro h j hj
    exact h _ (Array.mem_toList_iff.mpr (Array.getElem_mem (xs := s.data) (i := j) hj))
  · intro h c hc
    obtain ⟨j, hj, rfl⟩ := Array.mem_iff_getElem.mp (Array.mem_toList_iff.mp hc)
    exact h j hj
theorem nameB_yes {s : ByteArray} (h1 : 1 ≤ s.size) (h2 : s.size ≤ 8) (h : okTo s s.size) : nameB s = true := by
  unfold nameB
  rw [(all_iff s).mpr fun j hj => h j hj hj]
  simp [h1, h2]
theorem nameB_no {s : ByteArray} {k : Nat} (hk : k < s.size) (h : okB (s[k].toNat : Int) = false) : nameB s = false := by
  unfold nameB
  rw [Bool.and_eq_false_iff]
  right
  rw [Bool.eq_false_iff]
  intro ha
  have := (all_iff s).mp ha k hk
  rw [h] at this
  cases this
theorem nameB_short {s : ByteArray} (h : ¬ 1 ≤ s.size) : nameB s = false := by
  unfold nameB; simp [h]
theorem nameB_long {s : ByteArray} (h : ¬ s.size ≤ 8) : nameB s = false := by
  unfold nameB; simp [h]
theorem okB_no {n : Int} (h : 128 ≤ n) : okB n = false := by
  unfold okB; rw [decide_eq_false_iff_not]; omega
structure Mv where
  name : ByteArray
  lands : Bool
  wake : Int
  est : Int
  late : Int
  prom : Int
abbrev Mv.cells (m : Mv) : Array Value := #[.string m.name, .bool m.lands, .int .i64 m.wake, .int .i64 m.est, .int .i64 m.late, .int .i64 m.prom]
structure Mv.Fits (m : Mv) : Prop where
  name : m.name.size ≤ maxLen
  wake : (Lit.int .i64 m.wake).wf = true
  est : (Lit.int .i64 m.est).wf = true
  late : (Lit.int .i64 m.late).wf = true
  prom : (Lit.int .i64 m.prom).wf = true
def Mv.ok (m : Mv) : Bool := moveB m.name m.wake m.est m.late m.prom
def lessB (a b : ByteArray) : Bool := Op.bytesLess a.toList b.toList
def stepB (f : Nat → Mv) (i : Nat) : Bool := (f i).ok && (i == 0 || lessB (f (i - 1)).name (f i).name)
def movesB (f : Nat → Mv) (n : Nat) : Bool := decide (n ≤ 6) && (List.range n).all fun i => stepB f i
def stepsTo (f : Nat → Mv) (k : Nat) : Prop := ∀ i, i < k → stepB f i = true
theorem stepsTo_succ {f : Nat → Mv} {k : Nat} (h : stepsTo f k) (hk : stepB f k = true) : stepsTo f (k + 1) := by
  intro i hi
  by_cases e : i = k
  · subst e; exact hk
  · exact h i (by omega)
theorem movesB_yes {f : Nat → Mv} {n : Nat} (h : n ≤ 6) (hs : stepsTo f n) : movesB f n = true := by
  unfold movesB
  simp only [Bool.and_eq_true, decide_eq_true_eq, List.all_eq_true, List.mem_range]
  exact ⟨h, hs⟩
theorem movesB_no {f : Nat → Mv} {n k : Nat} (hk : k < n) (hs : stepB f k = false) : movesB f n = false := by
  unfold movesB
  rw [Bool.and_eq_false_iff]
  right
  rw [Bool.eq_false_iff]
  intro ha
  rw [List.all_eq_true] at ha
  have := ha k (List.mem_range.mpr hk)
  rw [hs] at this
  cases this
theorem movesB_long {f : Nat → Mv} {n : Nat} (h : ¬ n ≤ 6) : movesB f n = false := by unfold movesB; simp [h]
end Go.Proofs.YtlmcblcijndipabGreat

namespace Go.Proofs.YtlmcblcijndipabGreat
def gapZ (l : Bool) (x y : Int) : Int := (if l then 2 else 1) + (if inB x 1 3 && inB y 1 3 && decide (y < x) then x - y else 0)
theorem gapZ_pos (l : Bool) (x y : Int) : 1 ≤ gapZ l x y := by
  unfold gapZ; cases l <;> simp <;> split <;> omega
theorem gapZ_le (l : Bool) (x y : Int) : gapZ l x y ≤ 4 := by
  unfold gapZ inB; cases l <;> simp <;> split <;> omega
def heavyZ (x y : Int) : Int := if inB x 1 3 && inB y 1 3 && decide (y < x) then x - y else 0
theorem heavyZ_bd (x y : Int) : 0 ≤ heavyZ x y ∧ heavyZ x y ≤ 2 := by
  unfold heavyZ inB; simp; split <;> omega
theorem gapZ_eq (l : Bool) (x y : Int) : gapZ l x y = (if l then 2 else 1) + heavyZ x y := rfl
def suitB (est late p t : Int) : Bool := inB t est late && (p == -1 || p == t)
def nearB (la : Bool) (wa : Int) (lb : Bool) (wb : Int) (s t : Int) : Bool := if t < s then decide (s - t < gapZ lb wb wa) else decide (t - s < gapZ la wa wb)
theorem nearB_apart (la : Bool) (wa : Int) (lb : Bool) (wb : Int) (s t : Int) :
    (!nearB la wa lb wb s t) = if s = t then false else if s < t then decide (gapZ la wa wb ≤ t - s) else decide (gapZ lb wb wa ≤ s - t) := by
  have h1 := gapZ_pos la wa wb
  unfold nearB
  by_cases e : s = t
  · subst e; simp; omega
  · by_cases h : s < t
    · have : ¬ t < s := by omega
      rw [if_neg this, if_neg e, if_pos h, Bool.eq_iff_iff]; simp
    · have : t < s := by omega
      rw [if_pos this, if_neg e, if_neg h, Bool.eq_iff_iff]; simp
def Mv.gap (a b : Mv) : Int := gapZ a.lands a.wake b.wake
def Mv.suits (m : Mv) (t : Int) : Bool := suitB m.est m.late m.prom t
def Mv.near (a b : Mv) (s t : Int) : Bool := nearB a.lands a.wake b.lands b.wake s t
theorem Mv.ok_bd {m : Mv} (h : m.ok = true) : 0 ≤ m.est ∧ m.est ≤ m.late ∧ m.late ≤ 10000 ∧ (m.prom = -1 ∨ m.est ≤ m.prom ∧ m.prom ≤ m.late) ∧ 1 ≤ m.wake ∧ m.wake ≤ 3 := by
  unfold Mv.ok moveB promB inB at h
  simp only [Bool.and_eq_true, Bool.or_eq_true, decide_eq_true_eq, beq_iff_eq] at h
  omega
theorem movesB_ok {f : Nat → Mv} {n : Nat} (h : movesB f n = true) (i : Nat) (hi : i < n) : (f i).ok = true := by
  unfold movesB at h
  simp only [Bool.and_eq_true, decide_eq_true_eq, List.all_eq_true, List.mem_range] at h
  have := h.2 i hi
  unfold stepB at this
  simp only [Bool.and_eq_true] at this
  exact this.1
theorem movesB_six {f : Nat → Mv} {n : Nat} (h : movesB f n = true) : n ≤ 6 := by
  unfold movesB at h
  simp only [Bool.and_eq_true, decide_eq_true_eq] at h
  exact h.1
theorem suits_bd {m : Mv} {t : Int} (h : m.suits t = true) : m.est ≤ t ∧ t ≤ m.late := by
  unfold Mv.suits suitB inB at h
  simp only [Bool.and_eq_true, decide_eq_true_eq] at h
  exact h.1
theorem suits_spec {m : Mv} (h : m.ok = true) (t : Int) : m.suits t = (inB t m.est m.late && !(decide (0 ≤ m.prom) && t != m.prom)) := by
  have hb := Mv.ok_bd h
  unfold Mv.suits suitB inB
  rw [Bool.eq_iff_iff]
  simp
  omega
def FitTo (f : Nat → Mv) (t : Nat → Int) (i : Nat) : Prop := (∀ j, j < i → (f j).suits (t j) = true) ∧ ∀ j k, k < j → j < i → (f k).near (f j) (t k) (t j) = false
def fitsB (f : Nat → Mv) (n : Nat) (t : Nat → Int) (m : Nat) : Bool :=
  movesB f n && decide (m = n) && ((List.range n).all fun i => (f i).suits (t i) && (List.range i).all fun k => !(f k).near (f i) (t k) (t i))
theorem fitsB_iff {f : Nat → Mv} {n : Nat} {t : Nat → Int} (h : movesB f n = true) : fitsB f n t n = true ↔ FitTo f t n := by
  unfold fitsB FitTo
  simp only [h, decide_true, Bool.true_and, List.all_eq_true, List.mem_range, Bool.and_eq_true, Bool.not_eq_true']
  constructor
  · intro h
    exact ⟨fun j hj => (h j hj).1, fun j k hk hj => (h j hj).2 k hk⟩
  · intro h i hi
    exact ⟨h.1 i hi, fun k hk => h.2 i k hk hi⟩
theorem fitsB_moves {f : Nat → Mv} {n m : Nat} {t : Nat → Int} (h : movesB f n = false) : fitsB f n t m = false := by unfold fitsB; simp [h]
theorem fitsB_len {f : Nat → Mv} {n m : Nat} {t : Nat → Int} (h : m ≠ n) : fitsB f n t m = false := by unfold fitsB; simp [h]
theorem fitsB_suit {f : Nat → Mv} {n i : Nat} {t : Nat → Int} (hi : i < n) (h : (f i).suits (t i) = false) : fitsB f n t n = false := by
  rw [Bool.eq_false_iff]; intro hh
  have hm : movesB f n = true := by cases e : movesB f n with | true => rfl | false => rw [fitsB_moves e] at hh; cases hh
  have := ((fitsB_iff hm).mp hh).1 i hi
  rw [h] at this; cases this
theorem fitsB_near {f : Nat → Mv} {n i k : Nat} {t : Nat → Int} (hk : k < i) (hi : i < n) (h : (f k).near (f i) (t k) (t i) = true) : fitsB f n t n = false := by
  rw [Bool.eq_false_iff]; intro hh
  have hm : movesB f n = true := by cases e : movesB f n with | true => rfl | false => rw [fitsB_moves e] at hh; cases hh
  have := ((fitsB_iff hm).mp hh).2 i k hk hi
  rw [h] at this; cases this
theorem FitTo_zero (f : Nat → Mv) (t : Nat → Int) : FitTo f t 0 := ⟨fun _ h => absurd h (Nat.not_lt_zero _), fun _ _ _ h => absurd h (Nat.not_lt_zero _)⟩
theorem FitTo_succ {f : Nat → Mv} {t : Nat → Int} {i : Nat} (h : FitTo f t i) (h1 : (f i).suits (t i) = true) (h2 : ∀ k, k < i → (f k).near (f i) (t k) (t i) = false) : FitTo f t (i + 1) := by
  refine ⟨fun j hj => ?_, fun j k hk hj => ?_⟩
  · by_cases e : j = i
    · subst e; exact h1
    · exact h.1 j (by omega)
  · by_cases e : j = i
    · subst e; exact h2 k hk
    · exact h.2 j k hk (by omega)
def sumTo (f : Nat → Mv) (t : Nat → Int) : Nat → Int
  | 0 => 0
  | i + 1 => sumTo f t i + (t i - (f i).est)
def mostTo (f : Nat → Mv) (t : Nat → Int) : Nat → Int
  | 0 => 0
  | i + 1 => if mostTo f t i < t i - (f i).est then t i - (f i).est else mostTo f t i
theorem sumTo_bd {f : Nat → Mv} {t : Nat → Int} : ∀ i : Nat, (∀ j, j < i → 0 ≤ t j - (f j).est ∧ t j - (f j).est ≤ 10000) → 0 ≤ sumTo f t i ∧ sumTo f t i ≤ 10000 * i ∧ 0 ≤ mostTo f t i ∧ mostTo f t i ≤ 10000
  | 0, _ => by simp [sumTo, mostTo]
  | i + 1, h => by
    have h1 := sumTo_bd i fun j hj => h j (by omega)
    have h2 := h i (by omega)
    simp only [sumTo, mostTo]
    split <;> omega
end Go.Proofs.YtlmcblcijndipabGreat
