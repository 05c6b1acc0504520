/- Plain mathematics of the earliest ticks: they fit, come in the order, and none can be earlier by itself. Nothing of the program. -/
import Derived.Test.YtlmcblcijndipaaEarlP
namespace Go.Proofs.Ytlmcblcijndipaa

theorem leastTo_congr {f : Nat → Mv} {o : Nat → Nat} {S T : Nat → Int} {p : Nat} : ∀ j : Nat, (∀ k, k < j → T (o k) = S (o k)) → leastTo f o T p j = leastTo f o S p j
  | 0, _ => rfl
  | j + 1, h => by
    simp only [leastTo]
    rw [leastTo_congr j (fun k hk => h k (by omega)), h j (by omega)]
theorem leastTo_low {f : Nat → Mv} {o : Nat → Nat} {T : Nat → Int} {p : Nat} : ∀ j : Nat, (f p).est ≤ leastTo f o T p j ∧ (∀ k, k < j → T (o k) + (f (o k)).gap (f p) ≤ leastTo f o T p j) ∧ (leastTo f o T p j = (f p).est ∨ ∃ k, k < j ∧ leastTo f o T p j = T (o k) + (f (o k)).gap (f p))
  | 0 => ⟨Int.le_refl _, fun k hk => absurd hk (Nat.not_lt_zero _), .inl rfl⟩
  | j + 1 => by
    obtain ⟨h1, h2, h3⟩ := leastTo_low (f := f) (o := o) (T := T) (p := p) j
    simp only [leastTo]
    split
    · rename_i hlt
      refine ⟨by omega, fun k hk => ?_, .inr ⟨j, by omega, rfl⟩⟩
      by_cases e : k = j
      · subst e; omega
      · have := h2 k (by omega); omega
    · rename_i hlt
      refine ⟨h1, fun k hk => ?_, ?_⟩
      · by_cases e : k = j
        · subst e; omega
        · exact h2 k (by omega)
      · rcases h3 with h3 | ⟨k, hk, h3⟩
        · exact .inl h3
        · exact .inr ⟨k, by omega, h3⟩
theorem earl_each {f : Nat → Mv} {o : Nat → Nat} : ∀ (i : Nat) (T : Nat → Int), earl f o i = some T → (∀ j k, j < k → k < i → o j ≠ o k) → ∀ j, j < i → keptB (f (o j)) (leastTo f o T (o j) j) = true ∧ T (o j) = keptV (f (o j)) (leastTo f o T (o j) j)
  | 0, _, _, _, j, hj => absurd hj (Nat.not_lt_zero _)
  | i + 1, T, h, hd, j, hj => by
    cases e : earl f o i with
    | none => simp only [earl, e] at h; cases h
    | some S =>
      have ih := earl_each i S e (fun j k h1 h2 => hd j k h1 (by omega))
      simp only [earl, e] at h
      split at h
      · rename_i hk
        simp only [Option.some.injEq] at h
        have hT : ∀ k, k < i → T (o k) = S (o k) := fun k hk => by
          rw [← h]; simp only [if_neg (hd k i hk (by omega))]
        by_cases c : j = i
        · subst c
          have hl : leastTo f o T (o j) j = leastTo f o S (o j) j := leastTo_congr j hT
          rw [hl]
          exact ⟨hk, by rw [← h]; simp⟩
        · have hl : leastTo f o T (o j) j = leastTo f o S (o j) j := leastTo_congr j (fun k hk => hT k (by omega))
          rw [hl, hT j (by omega)]
          exact ih j (by omega)
      · cases h

theorem near_no {a b : Mv} {s t : Int} (h : s + a.gap b ≤ t) : a.near b s t = false ∧ b.near a t s = false := by
  have g := gapZ_pos a.lands a.wake b.wake
  unfold Mv.gap at h
  have h1 := nearB_apart a.lands a.wake b.lands b.wake s t
  have h2 := nearB_apart b.lands b.wake a.lands a.wake t s
  unfold Mv.near
  rw [if_neg (by omega), if_pos (by omega)] at h1
  rw [if_neg (by omega), if_neg (by omega)] at h2
  have q : decide (gapZ a.lands a.wake b.wake ≤ t - s) = true := by simp; omega
  rw [q] at h1 h2
  simpa using And.intro h1 h2
theorem near_yes {a b : Mv} {s t : Int} (h : a.near b s t = false) : (s ≤ t → s + a.gap b ≤ t) ∧ (t ≤ s → t + b.gap a ≤ s) := by
  have h1 := nearB_apart a.lands a.wake b.lands b.wake s t
  unfold Mv.near at h
  rw [h] at h1
  unfold Mv.gap
  by_cases e : s = t
  · subst e; simp at h1
  · rw [if_neg e] at h1
    by_cases hst : s < t
    · rw [if_pos hst] at h1; simp at h1; exact ⟨fun _ => by omega, fun _ => by omega⟩
    · rw [if_neg hst] at h1; simp at h1; exact ⟨fun _ => by omega, fun _ => by omega⟩

/-- what the earliest ticks are -/
structure Earl (f : Nat → Mv) (o : Nat → Nat) (n : Nat) (T : Nat → Int) : Prop where
  fit : FitTo f T n
  up : ∀ i j, i < j → j < n → T (o i) < T (o j)
  least : ∀ i, i < n → ¬ FitTo f (fun p => if p = o i then T p - 1 else T p) n

theorem earl_says {f : Nat → Mv} {o : Nat → Nat} {n : Nat} {T : Nat → Int} (hm : movesB f n = true) (ho : ∀ i, i < n → o i < n) (hd : ∀ j k, j < k → k < n → o j ≠ o k) (h : earl f o n = some T) : Earl f o n T := by
  have he := earl_each n T h hd
  have hv : ∀ j, j < n → leastTo f o T (o j) j ≤ T (o j) ∧ T (o j) ≤ (f (o j)).late ∧ (f (o j)).est ≤ T (o j) ∧ ((f (o j)).prom = -1 ∧ T (o j) = leastTo f o T (o j) j ∨ (f (o j)).prom = T (o j)) := fun j hj => by
    obtain ⟨h1, h2⟩ := he j hj
    have hb := Mv.ok_bd (movesB_ok hm (o j) (ho j hj))
    have hl := (leastTo_low (f := f) (o := o) (T := T) (p := o j) j).1
    unfold keptB at h1
    unfold keptV at h2
    simp only [decide_eq_true_eq] at h1
    by_cases e : (f (o j)).prom = -1
    · rw [if_pos e] at h1 h2; exact ⟨by omega, by omega, by omega, .inl ⟨e, h2⟩⟩
    · rw [if_neg e] at h1 h2; exact ⟨by omega, by omega, by omega, .inr h2.symm⟩
  have hgap : ∀ i j, i < j → j < n → T (o i) + (f (o i)).gap (f (o j)) ≤ T (o j) := fun i j hij hj => by
    have h1 := (leastTo_low (f := f) (o := o) (T := T) (p := o j) j).2.1 i hij
    have h2 := (hv j hj).1
    omega
  have hs : ∀ p, p < n → ∃ i, i < n ∧ o i = p := surj n o ho hd
  refine ⟨⟨fun p hp => ?_, fun q p hpq hq => ?_⟩, fun i j hij hj => ?_, fun i hi hf => ?_⟩
  · obtain ⟨i, hi, rfl⟩ := hs p hp
    obtain ⟨_, h2, h3, h4⟩ := hv i hi
    unfold Mv.suits suitB inB
    simp only [Bool.and_eq_true, Bool.or_eq_true, decide_eq_true_eq, beq_iff_eq]
    omega
  · obtain ⟨i, hi, rfl⟩ := hs p (by omega)
    obtain ⟨j, hj, rfl⟩ := hs q hq
    rcases Nat.lt_trichotomy i j with hij | hij | hij
    · exact (near_no (hgap i j hij hj)).1
    · subst hij; exact absurd hpq (Nat.lt_irrefl _)
    · exact (near_no (hgap j i hij hi)).2
  · have h1 := hgap i j hij hj
    have g := gapZ_pos (f (o i)).lands (f (o i)).wake (f (o j)).wake
    unfold Mv.gap at h1
    omega
  · obtain ⟨h1, h2, h3, h4⟩ := hv i hi
    have hb := Mv.ok_bd (movesB_ok hm (o i) (ho i hi))
    have hsu := hf.1 (o i) (ho i hi)
    simp only [if_true] at hsu
    unfold Mv.suits suitB inB at hsu
    simp only [Bool.and_eq_true, Bool.or_eq_true, decide_eq_true_eq, beq_iff_eq] at hsu
    rcases h4 with ⟨e, hl⟩ | e
    · rcases (leastTo_low (f := f) (o := o) (T := T) (p := o i) i).2.2 with hh | ⟨k, hk, hh⟩
      · omega
      · have hne := hd k i hk hi
        have g := gapZ_pos (f (o k)).lands (f (o k)).wake (f (o i)).wake
        have hgg : (f (o k)).gap (f (o i)) = gapZ (f (o k)).lands (f (o k)).wake (f (o i)).wake := rfl
        rcases Nat.lt_or_gt_of_ne hne with hlt | hlt
        · have := (near_yes (hf.2 (o i) (o k) hlt (ho i hi))).1
          simp only [if_true, if_neg hne] at this
          omega
        · have := (near_yes (hf.2 (o k) (o i) hlt (ho k (by omega)))).2
          simp only [if_true, if_neg hne] at this
          omega
    · omega
end Go.Proofs.Ytlmcblcijndipaa
