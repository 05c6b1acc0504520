/- Plain mathematics of the earliest ticks in an order. Nothing of the program. -/
import Derived.Test.YtlmcblcijndipaaFitP
import Derived.Test.YtlmcblcijndipaaOrdP
namespace Go.Proofs.Ytlmcblcijndipaa

/-- the least tick of the move at place p, behind the first k of the order -/
def leastTo (f : Nat → Mv) (o : Nat → Nat) (T : Nat → Int) (p : Nat) : Nat → Int
  | 0 => (f p).est
  | k + 1 => if leastTo f o T p k < T (o k) + (f (o k)).gap (f p) then T (o k) + (f (o k)).gap (f p) else leastTo f o T p k
/-- the tick that is kept, and whether it may be -/
def keptV (m : Mv) (t : Int) : Int := if m.prom = -1 then t else m.prom
def keptB (m : Mv) (t : Int) : Bool := decide (t ≤ if m.prom = -1 then m.late else m.prom)
/-- the ticks behind the first i of the order -/
def earl (f : Nat → Mv) (o : Nat → Nat) : Nat → Option (Nat → Int)
  | 0 => some fun _ => 0
  | i + 1 => match earl f o i with
    | none => none
    | some T => if keptB (f (o i)) (leastTo f o T (o i) i) = true then some (fun p => if p = o i then keptV (f (o i)) (leastTo f o T (o i) i) else T p) else none

theorem earl_none {f : Nat → Mv} {o : Nat → Nat} {i : Nat} (h : earl f o i = none) : ∀ n, i ≤ n → earl f o n = none := by
  intro n hn
  induction n with
  | zero => have : i = 0 := by omega
            subst this; exact h
  | succ n ih =>
    by_cases e : i = n + 1
    · subst e; exact h
    · simp only [earl, ih (by omega)]
theorem earl_no {f : Nat → Mv} {o : Nat → Nat} {i n : Nat} {T : Nat → Int} (h : earl f o i = some T) (hk : keptB (f (o i)) (leastTo f o T (o i) i) = false) (hi : i < n) : earl f o n = none :=
  earl_none (i := i + 1) (by simp only [earl, h, hk]; rfl) n (by omega)
theorem earl_yes {f : Nat → Mv} {o : Nat → Nat} {i : Nat} {T : Nat → Int} (h : earl f o i = some T) (hk : keptB (f (o i)) (leastTo f o T (o i) i) = true) :
    earl f o (i + 1) = some (fun p => if p = o i then keptV (f (o i)) (leastTo f o T (o i) i) else T p) := by
  simp only [earl, h, hk]; rfl

theorem leastTo_bd {f : Nat → Mv} {o : Nat → Nat} {T : Nat → Int} {p : Nat} (hp : 0 ≤ (f p).est ∧ (f p).est ≤ 10000) (hT : ∀ q, 0 ≤ T q ∧ T q ≤ 10000) : ∀ k, 0 ≤ leastTo f o T p k ∧ leastTo f o T p k ≤ 10004
  | 0 => by simp only [leastTo]; omega
  | k + 1 => by
    have h1 := leastTo_bd hp hT k (o := o)
    have h2 := gapZ_pos (f (o k)).lands (f (o k)).wake (f p).wake
    have h3 := gapZ_le (f (o k)).lands (f (o k)).wake (f p).wake
    have h4 := hT (o k)
    have e : leastTo f o T p (k + 1) = if leastTo f o T p k < T (o k) + (f (o k)).gap (f p) then T (o k) + (f (o k)).gap (f p) else leastTo f o T p k := rfl
    have g : (f (o k)).gap (f p) = gapZ (f (o k)).lands (f (o k)).wake (f p).wake := rfl
    rw [e, g]
    split <;> omega
theorem keptV_bd {m : Mv} (hm : m.ok = true) {t : Int} (h0 : 0 ≤ t) (hk : keptB m t = true) : 0 ≤ keptV m t ∧ keptV m t ≤ 10000 := by
  have hb := Mv.ok_bd hm
  unfold keptB at hk
  unfold keptV
  simp only [decide_eq_true_eq] at hk
  split <;> (rename_i e; simp only [e, if_true, if_false] at hk) <;> omega
theorem earl_bd {f : Nat → Mv} {o : Nat → Nat} {n : Nat} (hm : movesB f n = true) (ho : ∀ i, i < n → o i < n) : ∀ (i : Nat) (T : Nat → Int), i ≤ n → earl f o i = some T → ∀ p, 0 ≤ T p ∧ T p ≤ 10000
  | 0, T, _, h, p => by simp only [earl, Option.some.injEq] at h; subst h; simp
  | i + 1, T, hi, h, p => by
    cases e : earl f o i with
    | none => simp only [earl, e] at h; cases h
    | some S =>
      have hS := earl_bd hm ho i S (by omega) e
      simp only [earl, e] at h
      split at h
      · rename_i hk
        simp only [Option.some.injEq] at h
        subst h
        have hok := movesB_ok hm (o i) (ho i (by omega))
        have hb := Mv.ok_bd hok
        have hl := leastTo_bd (o := o) (p := o i) ⟨hb.1, by omega⟩ hS i
        have := keptV_bd hok hl.1 hk
        by_cases c : p = o i
        · simp only [if_pos c]; exact this
        · simp only [if_neg c]; exact hS p
      · cases h
end Go.Proofs.Ytlmcblcijndipaa
