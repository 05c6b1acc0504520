/- Texts of the proof, one behind another: EarlP, EarlQ. -/
import Derived.Test.YtlmcblcijndipabGreatM14
import Derived.Test.YtlmcblcijndipabGreatM17
namespace Go.Proofs.YtlmcblcijndipabGreat
def leastTo (f : Nat → Mv) (o : Nat → Nat) (T : Nat → Int) (p : Nat) : Nat → Int
  | 0 => (f p).est
  | k + 1 => if leastTo f o T p k < T (o k) + (f (o k)).gap (f p) then T (o k) + (f (o k)).gap (f p) else leastTo f o T p k
def keptV (m : Mv) (t : Int) : Int := if m.prom = -1 then t else m.prom
def keptB (m : Mv) (t : Int) : Bool := decide (t ≤ if m.prom = -1 then m.late else m.prom)
def earl (f : Nat → Mv) (o : Nat → Nat) : Nat → Option (Nat → Int)
  | 0 => some fun _ => 0
  | i + 1 => match earl f o i with
    | none => none
    | some T => if keptB (f (o i)) (leastTo f o T (o i) i) = true then some (fun p => if p = o i then keptV (f (o i)) (leastTo f o T (o i) i) else T p) else none
theorem earl_none {f : Nat → Mv} {o : Nat → Nat} {i : Nat} (h : earl f o i = none) : ∀ n, i ≤ n → earl f o n = none := by
  intro n hn
  induction n with
  | zero => have : i = 0 := by omega
            subst this; exact h
  | succ n ih =>
    by_cases e : i = n + 1
    · subst e; exact h
    · simp only [earl, ih (by omega)]
theorem earl_no {f : Nat → Mv} {o : Nat → Nat} {i n : Nat} {T : Nat → Int} (h : earl f o i = some T) (hk : keptB (f (o i)) (leastTo f o T (o i) i) = false) (hi : i < n) : earl f o n = none :=
  earl_none (i := i + 1) (by simp only [earl, h, hk]; rfl) n (by omega)
theorem earl_yes {f : Nat → Mv} {o : Nat → Nat} {i : Nat} {T : Nat → Int} (h : earl f o i = some T) (hk : keptB (f (o i)) (leastTo f o T (o i) i) = true) :
    earl f o (i + 1) = some (fun p => if p = o i then keptV (f (o i)) (leastTo f o T (o i) i) else T p) := by
  simp only [earl, h, hk]; rfl
theorem leastTo_bd {f : Nat → Mv} {o : Nat → Nat} {T : Nat → Int} {p : Nat} (hp : 0 ≤ (f p).est ∧ (f p).est ≤ 10000) (hT : ∀ q, 0 ≤ T q ∧ T q ≤ 10000) : ∀ k, 0 ≤ leastTo f o T p k ∧ leastTo f o T p k ≤ 10004
  | 0 => by simp only [leastTo]; omega
  | k + 1 => by
    have h1 := leastTo_bd hp hT k (o := o)
    have h2 := gapZ_pos (f (o k)).lands (f (o k)).wake (f p).wake
    have h3 := gapZ_le (f (o k)).lands (f (o k)).wake (f p).wake
    have h4 := hT (o k)
    have e : leastTo f o T p (k + 1) = if leastTo f o T p k < T (o k) + (f (o k)).gap (f p) then T (o k) + (f (o k)).gap (f p) else leastTo f o T p k := rfl
    have g : (f (o k)).gap (f p) = gapZ (f (o k)).lands (f (o k)).wake (f p).wake := rfl
    rw [e, g]
    split <;> omega
theorem keptV_bd {m : Mv} (hm : m.ok = true) {t : Int} (h0 : 0 ≤ t) (hk : keptB m t = true) : 0 ≤ keptV m t ∧ keptV m t ≤ 10000 := by
  have hb := Mv.ok_bd hm
  unfold keptB at hk
  unfold keptV
  simp only [decide_eq_true_eq] at hk
  split <;> (rename_i e; simp only [e, if_true, if_false] at hk) <;> omega
theorem earl_bd {f : Nat → Mv} {o : Nat → Nat} {n : Nat} (hm : movesB f n = true) (ho : ∀ i, i < n → o i < n) : ∀ (i : Nat) (T : Nat → Int), i ≤ n → earl f o i = some T → ∀ p, 0 ≤ T p ∧ T p ≤ 10000
  | 0, T, _, h, p => by simp only [earl, Option.some.injEq] at h; subst h; simp
  | i + 1, T, hi, h, p => by
    cases e : earl f o i with
    | none => simp only [earl, e] at h; cases h
    | some S =>
      have hS := earl_bd hm ho i S (by omega) e
      simp only [earl, e] at h
      split at h
      · rename_i hk
        simp only [Option.some.injEq] at h
        subst h
        have hok := movesB_ok hm (o i) (ho i (by omega))
        have hb := Mv.ok_bd hok
        have hl := leastTo_bd (o := o) (p := o i) ⟨hb.1, by omega⟩ hS i
        have := keptV_bd hok hl.1 hk
        by_cases c : p = o i
        · simp only [if_pos c]; exact this
        · simp only [if_neg c]; exact hS p
      · cases h
end Go.Proofs.YtlmcblcijndipabGreat

namespace Go.Proofs.YtlmcblcijndipabGreat
theorem leastTo_congr {f : Nat → Mv} {o : Nat → Nat} {S T : Nat → Int} {p : Nat} : ∀ j : Nat, (∀ k, k < j → T (o k) = S (o k)) → leastTo f o T p j = leastTo f o S p j
  | 0, _ => rfl
  | j + 1, h => by
    simp only [leastTo]
    rw [leastTo_congr j (fun k hk => h k (by omega)), h j (by omega)]
theorem leastTo_low {f : Nat → Mv} {o : Nat → Nat} {T : Nat → Int} {p : Nat} : ∀ j : Nat, (f p).est ≤ leastTo f o T p j ∧ (∀ k, k < j → T (o k) + (f (o k)).gap (f p) ≤ leastTo f o T p j) ∧ (leastTo f o T p j = (f p).est ∨ ∃ k, k < j ∧ leastTo f o T p j = T (o k) + (f (o k)).gap (f p))
  | 0 => ⟨Int.le_refl _, fun k hk => absurd hk (Nat.not_lt_zero _), .inl rfl⟩
  | j + 1 => by
    obtain ⟨h1, h2, h3⟩ := leastTo_low (f := f) (o := o) (T := T) (p := p) j
    simp only [leastTo]
    split
    · rename_i hlt
      refine ⟨by omega, fun k hk => ?_, .inr ⟨j, by omega, rfl⟩⟩
      by_cases e : k = j
      · subst e; omega
      · have := h2 k (by omega); omega
    · rename_i hlt
      refine ⟨h1, fun k hk => ?_, ?_⟩
      · by_cases e : k = j
        · subst e; omega
        · exact h2 k (by omega)
      · rcases h3 with h3 | ⟨k, hk, h3⟩
        · exact .inl h3
        · exact .inr ⟨k, by omega, h3⟩
theorem earl_each {f : Nat → Mv} {o : Nat → Nat} : ∀ (i : Nat) (T : Nat → Int), earl f o i = some T → (∀ j k, j < k → k < i → o j ≠ o k) → ∀ j, j < i → keptB (f (o j)) (leastTo f o T (o j) j) = true ∧ T (o j) = keptV (f (o j)) (leastTo f o T (o j) j)
  | 0, _, _, _, j, hj => absurd hj (Nat.not_lt_zero _)
  | i + 1, T, h, hd, j, hj => by
    cases e : earl f o i with
    | none => simp only [earl, e] at h; cases h
    | some S =>
      have ih := earl_each i S e (fun j k h1 h2 => hd j k h1 (by omega))
      simp only [earl, e] at h
      split at h
      · rename_i hk
        simp only [Option.some.injEq] at h
        have hT : ∀ k, k < i → T (o k) = S (o k) := fun k hk => by
          rw [← h]; simp only [if_neg (hd k i hk (by omega))]
        by_cases c : j = i
        · subst c
          have hl : leastTo f o T (o j) j = leastTo f o S (o j) j := leastTo_congr j hT
          rw [hl]
          exact ⟨hk, by rw [← h]; simp⟩
        · have hl : leastTo f o T (o j) j = leastTo f o S (o j) j := leastTo_congr j (fun k hk => hT k (by omega))
          rw [hl, hT j (by omega)]
          exact ih j (by omega)
      · cases h
theorem near_no {a b : Mv} {s t : Int} (h : s + a.gap b ≤ t) : a.near b s t = false ∧ b.near a t s = false := by
  have g := gapZ_pos a.lands a.wake b.wake
  unfold Mv.gap at h
  have h1 := nearB_apart a.lands a.wake b.lands b.wake s t
  have h2 := nearB_apart b.lands b.wake a.lands a.wake t s
  unfold Mv.near
  rw [if_neg (by omega), if_pos (by omega)] at h1
  rw [if_neg (by omega), if_neg (by omega)] at h2
  have q : decide (gapZ a.lands a.wake b.wake ≤ t - s) = true := by simp; omega
  rw [q] at h1 h2
  simpa using And.intro h1 h2
theorem near_yes {a b : Mv} {s t : Int} (h : a.near b s t = false) : (s ≤ t → s + a.gap b ≤ t) ∧ (t ≤ s → t + b.gap a ≤ s) := by
  have h1 := nearB_apart a.lands a.wake b.lands b.wake s t
  unfold Mv.near at h
  rw [h] at h1
  unfold Mv.gap
  by_cases e : s = t
  · subst e; simp at h1
  · rw [if_neg e] at h1
    by_cases hst : s < t
    · rw [if_pos hst] at h1; simp at h1; exact ⟨fun _ => by omega, fun _ => by omega⟩
    · rw [if_neg hst] at h1; simp at h1; exact ⟨fun _ => by omega, fun _ => by omega⟩
structure Earl (f : Nat → Mv) (o : Nat → Nat) (n : Nat) (T : Nat → Int) : Prop where
  fit : FitTo f T n
  up : ∀ i j, i < j → j < n → T (o i) < T (o j)
  least : ∀ i, i < n → ¬ FitTo f (fun p => if p = o i then T p - 1 else T p) n
theorem earl_says {f : Nat → Mv} {o : Nat → Nat} {n : Nat} {T : Nat → Int} (hm : movesB f n = true) (ho : ∀ i, i < n → o i < n) (hd : ∀ j k, j < k → k < n → o j ≠ o k) (h : earl f o n = some T) : Earl f o n T := by
  have he := earl_each n T h hd
  have hv : ∀ j, j < n → leastTo f o T (o j) j ≤ T (o j) ∧ T (o j) ≤ (f (o j)).late ∧ (f (o j)).est ≤ T (o j) ∧ ((f (o j)).prom = -1 ∧ T (o j) = leastTo f o T (o j) j ∨ (f (o j)).prom = T (o j)) := fun j hj => by
    obtain ⟨h1, h2⟩ := he j hj
    have hb := Mv.ok_bd (movesB_ok hm (o j) (ho j hj))
    have hl := (leastTo_low (f := f) (o := o) (T := T) (p := o j) j).1
    unfold keptB at h1
    unfold keptV at h2
    simp only [decide_eq_true_eq] at h1
    by_cases e : (f (o j)).prom = -1
    · rw [if_pos e] at h1 h2; exact ⟨by omega, by omega, by omega, .inl ⟨e, h2⟩⟩
    · rw [if_neg e] at h1 h2; exact ⟨by omega, by omega, by omega, .inr h2.symm⟩
  have hgap : ∀ i j, i < j → j < n → T (o i) + (f (o i)).gap (f (o j)) ≤ T (o j) := fun i j hij hj => by
    have h1 := (leastTo_low (f := f) (o := o) (T := T) (p := o j) j).2.1 i hij
    have h2 := (hv j hj).1
    omega
  have hs : ∀ p, p < n → ∃ i, i < n ∧ o i = p := surj n o ho hd
  refine ⟨⟨fun p hp => ?_, fun q p hpq hq => ?_⟩, fun i j hij hj => ?_, fun i hi hf => ?_⟩
  · obtain ⟨i, hi, rfl⟩ := hs p hp
    obtain ⟨_, h2, h3, h4⟩ := hv i hi
    unfold Mv.suits suitB inB
    simp only [Bool.and_eq_true, Bool.or_eq_true, decide_eq_true_eq, beq_iff_eq]
    omega
  · obtain ⟨i, hi, rfl⟩ := hs p (by omega)
    obtain ⟨j, hj, rfl⟩ := hs q hq
    rcases Nat.lt_trichotomy i j with hij | hij | hij
    · exact (near_no (hgap i j hij hj)).1
    · subst hij; exact absurd hpq (Nat.lt_irrefl _)
    · exact (near_no (hgap j i hij hi)).2
  · have h1 := hgap i j hij hj
    have g := gapZ_pos (f (o i)).lands (f (o i)).wake (f (o j)).wake
    unfold Mv.gap at h1
    omega
  · obtain ⟨h1, h2, h3, h4⟩ := hv i hi
    have hb := Mv.ok_bd (movesB_ok hm (o i) (ho i hi))
    have hsu := hf.1 (o i) (ho i hi)
    simp only [if_true] at hsu
    unfold Mv.suits suitB inB at hsu
    simp only [Bool.and_eq_true, Bool.or_eq_true, decide_eq_true_eq, beq_iff_eq] at hsu
    rcases h4 with ⟨e, hl⟩ | e
    · rcases (leastTo_low (f := f) (o := o) (T := T) (p := o i) i).2.2 with hh | ⟨k, hk, hh⟩
      · omega
      · have hne := hd k i hk hi
        have g := gapZ_pos (f (o k)).lands (f (o k)).wake (f (o i)).wake
        have hgg : (f (o k)).gap (f (o i)) = gapZ (f (o k)).lands (f (o k)).wake (f (o i)).wake := rfl
        rcases Nat.lt_or_gt_of_ne hne with hlt | hlt
        · have := (near_yes (hf.2 (o i) (o k) hlt (ho i hi))).1
          simp only [if_true, if_neg hne] at this
          omega
        · have := (near_yes (hf.2 (o k) (o i) hlt (ho k (by omega)))).2
          simp only [if_true, if_neg hne] at this
          omega
    · omega
end Go.Proofs.YtlmcblcijndipabGreat
