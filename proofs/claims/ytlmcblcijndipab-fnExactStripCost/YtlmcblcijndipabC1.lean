/- What it costs: both StripCost, walked. -/
import Derived.Test.YtlmcblcijndipabF4
namespace Go.Proofs.Ytlmcblcijndipab
open Go.RowKit
set_option linter.unusedVariables false

theorem ret_ii {a b c d : Int} (h : a = c) (h' : b = d) : Ending.returned (.tuple #[.int .i64 a, .int .i64 b]) = .returned (.tuple #[.int .i64 c, .int .i64 d]) := by rw [h, h']

/-- ticks from Est on, within the bounds -/
def LateBd (f : Nat → Mv) (t : Nat → Int) (n : Nat) : Prop := ∀ j, j < n → 0 ≤ (f j).est ∧ (f j).est ≤ t j ∧ t j ≤ 10000
theorem LateBd.sum {f : Nat → Mv} {t : Nat → Int} {n : Nat} (h : LateBd f t n) (i : Nat) (hi : i ≤ n) : 0 ≤ sumTo f t i ∧ sumTo f t i ≤ 10000 * i ∧ 0 ≤ mostTo f t i ∧ mostTo f t i ≤ 10000 :=
  sumTo_bd i fun j hj => by have := h j (by omega); omega
theorem LateBd.fits {f : Nat → Mv} {t : Nat → Int} {n : Nat} (hm : movesB f n = true) (h : FitTo f t n) : LateBd f t n := fun j hj => by
  have h1 := Mv.ok_bd (movesB_ok hm j hj)
  have h2 := suits_bd (h.1 j hj)
  omega

set_option maxHeartbeats 1000000 in
theorem specLate_row (b off n cap : Nat) (f : Nat → Mv) (b' off' m cap' : Nat) (t : Nat → Int) (w : World) (h6 : n ≤ 6) (hmn : n ≤ m) (hbs : b < w.heap.size) (hrow : MvRow w b off n f) (hbs' : b' < w.heap.size) (hrow' : IntRow w b' off' n t) (hbd : LateBd f t n) :
    Calls Try.prog 31 #[.slice (some ⟨b, off, none⟩) n cap, .slice (some ⟨b', off', none⟩) m cap'] w fun e w' => e = .returned (.tuple #[.int .i64 (sumTo f t n), .int .i64 (mostTo f t n)]) ∧ Below w.heap.size w w' := by
  go_enter Try.func31, Try.ntmps31
  go_wp2
  go_loopw [6, 7, 8] (fun s z i w' => ∃ k : Nat, k ≤ n ∧ i = .int .i64 k ∧ s = .int .i64 (sumTo f t k) ∧ z = .int .i64 (mostTo f t k) ∧ Below w.heap.size w w') (fun _ _ i _ => n - (intOf i).toNat)
  case atStart => exact ⟨0, Nat.zero_le _, rfl, rfl, rfl, Below.refl _ _⟩
  case round =>
    obtain ⟨k, hk, rfl, rfl, rfl, hB⟩ := hrel
    by_cases hlt : k < n
    · have hr := hrow.below hB hbs k hlt
      have hr' := hrow'.below hB hbs' k hlt
      have hlt' : (k : Int) < n := by omega
      have hlm' : (k : Int) < m := by omega
      obtain ⟨s0, s1, z0, z1⟩ := hbd.sum k hk
      obtain ⟨x0, x1, x2⟩ := hbd k hlt
      have HS : Hid (sumTo f t (k + 1) = sumTo f t k + (t k - (f k).est)) := rfl
      have HM : Hid (mostTo f t (k + 1) = if mostTo f t k < t k - (f k).est then t k - (f k).est else mostTo f t k) := rfl
      have hne := later_some wr
      have e3 := fun x : Later wr => x.cell hr.c3
      have e6 := fun x : Later wr => x.cell hr'
      go_wp2
      refine wp_region_later (by kernel_rfl) (by kernel_rfl) ?_
      repeat (go_big_quiet_step (fail))
      refine wpQuiet_nil (later_all ?_)
      intro w1 hb1
      by_cases hgt : mostTo f t k < t k - (f k).est
      all_goals
        go_wp2
        go_roundw
        case rel => exact ⟨k + 1, by omega, by go_num, by rw [HS.out], by rw [HM.out]; first | rw [if_pos hgt] | rw [if_neg (by omega)], hB.trans (hb1.mono hB.size)⟩
        case measure => simp [intOf]; omega
    · have hkn : k = n := by omega
      subst hkn
      go_wp2
      go_ret2
      exact ⟨rfl, hB⟩

set_option maxHeartbeats 1000000 in
theorem implLate_row (b off n cap : Nat) (f : Nat → Mv) (b' off' m cap' : Nat) (t : Nat → Int) (w : World) (h6 : n ≤ 6) (hmn : n ≤ m) (hbs : b < w.heap.size) (hrow : MvRow w b off n f) (hbs' : b' < w.heap.size) (hrow' : IntRow w b' off' n t) (hbd : LateBd f t n) :
    Calls Try.prog 34 #[.slice (some ⟨b, off, none⟩) n cap, .slice (some ⟨b', off', none⟩) m cap'] w fun e w' => e = .returned (.tuple #[.int .i64 (sumTo f t n), .int .i64 (mostTo f t n)]) ∧ Below w.heap.size w w' := by
  go_enter Try.func34, Try.ntmps34
  go_wp2
  go_loopw [6, 7, 13] (fun s z i w' => ∃ k : Nat, k ≤ n ∧ i = .int .i64 k ∧ s = .int .i64 (sumTo f t k) ∧ z = .int .i64 (mostTo f t k) ∧ Below w.heap.size w w') (fun _ _ i _ => n - (intOf i).toNat)
  case atStart => exact ⟨0, Nat.zero_le _, rfl, rfl, rfl, Below.refl _ _⟩
  case round =>
    obtain ⟨k, hk, rfl, rfl, rfl, hB⟩ := hrel
    by_cases hlt : k < n
    · have hr := hrow.below hB hbs k hlt
      have hr' := hrow'.below hB hbs' k hlt
      obtain ⟨c0, c1, c2, c3, c4, c5⟩ := hr
      have hlt' : (k : Int) < n := by omega
      have hlm' : (k : Int) < m := by omega
      have hbr' : b' < wr.heap.size := Nat.lt_of_lt_of_le hbs' hB.size
      obtain ⟨s0, s1, z0, z1⟩ := hbd.sum k hk
      obtain ⟨x0, x1, x2⟩ := hbd k hlt
      have HS : Hid (sumTo f t (k + 1) = sumTo f t k + (t k - (f k).est)) := rfl
      have HM : Hid (mostTo f t (k + 1) = if mostTo f t k < t k - (f k).est then t k - (f k).est else mostTo f t k) := rfl
      have hA := boxMv_below wr (f k)
      have hM := boxMv_at wr (f k)
      have hne := later_some (boxMv wr (f k))
      have e3 := fun x : Later (boxMv wr (f k)) => x.cell hM.c3
      have e6 := fun x : Later (boxMv wr (f k)) => x.cell ((hA.cell (p := ⟨b', off' + k, none⟩) hbr').trans hr')
      simp only [Nat.zero_add] at e3
      go_wp2
      refine wp_region_later (by kernel_rfl) (by kernel_rfl) ?_
      repeat (go_big_quiet_step (fail))
      refine wpQuiet_nil (later_all ?_)
      intro w1 hb1
      have hq : Below wr.heap.size wr w1 := hA.trans (hb1.mono hA.size)
      by_cases hgt : mostTo f t k < t k - (f k).est
      all_goals
        go_wp2
        go_roundw
        case rel => exact ⟨k + 1, by omega, by go_num, by rw [HS.out], by rw [HM.out]; first | rw [if_pos hgt] | rw [if_neg (by omega)], hB.trans (hq.mono hB.size)⟩
        case measure => simp [intOf]; omega
    · have hkn : k = n := by omega
      subst hkn
      go_wp2
      go_ret2
      exact ⟨rfl, hB⟩

/-- what it costs: the sum and the most, 0 and 0 where the ticks do not fit -/
def costZ (f : Nat → Mv) (n : Nat) (t : Nat → Int) (m : Nat) : Int × Int := if fitsB f n t m = true then (sumTo f t n, mostTo f t n) else (0, 0)

theorem fitsB_true {f : Nat → Mv} {n m : Nat} {t : Nat → Int} (h : fitsB f n t m = true) : movesB f n = true ∧ m = n ∧ FitTo f t n := by
  have hm : movesB f n = true := by
    cases e : movesB f n with
    | true => rfl
    | false => rw [fitsB_moves e] at h; cases h
  have hl : m = n := by
    by_cases e : m = n
    · exact e
    · rw [fitsB_len e] at h; cases h
  subst hl
  exact ⟨hm, rfl, (fitsB_iff hm).mp h⟩

theorem specCost_row (b off n cap : Nat) (f : Nat → Mv) (b' off' m cap' : Nat) (t : Nat → Int) (w : World) (hn : n ≤ 1048576) (hm1 : m ≤ maxLen) (hbs : b < w.heap.size) (hrow : MvRow w b off n f) (hf : ∀ i, i < n → (f i).Fits) (hbs' : b' < w.heap.size) (hrow' : IntRow w b' off' m t) :
    Calls Try.prog 9 #[.slice (some ⟨b, off, none⟩) n cap, .slice (some ⟨b', off', none⟩) m cap'] w fun e w' => e = .returned (.tuple #[.int .i64 (costZ f n t m).1, .int .i64 (costZ f n t m).2]) ∧ Below w.heap.size w w' := by
  cases h : fitsB f n t m with
  | false =>
    have HC0 : costZ f n t m = (0, 0) := by unfold costZ; rw [h]; rfl
    have HC : Hid _ := HC0
    clear HC0
    go_enter Try.func9, Try.ntmps9
    go_wp2_with (go_at_call 30; refine (specFits_row _ _ _ _ f _ _ _ _ t _ hn hm1 hbs hrow hf hbs' hrow').mono ?_; rintro e w1 ⟨rfl, hb1⟩)
    go_ret2
    exact ⟨ret_ii (by rw [HC.out]) (by rw [HC.out]), hb1⟩
  | true =>
    obtain ⟨hm, rfl, hfit⟩ := fitsB_true h
    have HC0 : costZ f m t m = (sumTo f t m, mostTo f t m) := by unfold costZ; rw [h]; rfl
    have HC : Hid _ := HC0
    clear HC0
    have HM : Hid _ := hm
    clear hm
    go_enter Try.func9, Try.ntmps9
    go_wp2_with (first | (go_at_call 30; refine (specFits_row _ _ _ _ f _ _ _ _ t _ hn hm1 hbs hrow hf hbs' hrow').mono ?_; rintro e w1 ⟨rfl, hb1⟩) | (go_at_call 31; refine (specLate_row _ _ _ _ f _ _ _ _ t _ (movesB_six HM.out) (Nat.le_refl _) (Nat.lt_of_lt_of_le hbs hb1.size) (hrow.below hb1 hbs) (Nat.lt_of_lt_of_le hbs' hb1.size) (hrow'.below hb1 hbs') (LateBd.fits HM.out hfit)).mono ?_; rintro e w2 ⟨rfl, hb2⟩))
    go_ret2
    exact ⟨ret_ii (by rw [HC.out]) (by rw [HC.out]), hb1.trans (hb2.mono hb1.size)⟩

theorem implCost_row (b off n cap : Nat) (f : Nat → Mv) (b' off' m cap' : Nat) (t : Nat → Int) (w : World) (hn : n ≤ 1048576) (hm1 : m ≤ maxLen) (hbs : b < w.heap.size) (hrow : MvRow w b off n f) (hbs' : b' < w.heap.size) (hrow' : IntRow w b' off' m t) :
    Calls Try.prog 12 #[.slice (some ⟨b, off, none⟩) n cap, .slice (some ⟨b', off', none⟩) m cap'] w fun e w' => e = .returned (.tuple #[.int .i64 (costZ f n t m).1, .int .i64 (costZ f n t m).2]) ∧ Below w.heap.size w w' := by
  cases h : fitsB f n t m with
  | false =>
    have HC0 : costZ f n t m = (0, 0) := by unfold costZ; rw [h]; rfl
    have HC : Hid _ := HC0
    clear HC0
    go_enter Try.func12, Try.ntmps12
    go_wp2_with (go_at_call 33; refine (implFits_row _ _ _ _ f _ _ _ _ t _ hn hm1 hbs hrow hbs' hrow').mono ?_; rintro e w1 ⟨rfl, hb1⟩)
    go_ret2
    exact ⟨ret_ii (by rw [HC.out]) (by rw [HC.out]), hb1⟩
  | true =>
    obtain ⟨hm, rfl, hfit⟩ := fitsB_true h
    have HC0 : costZ f m t m = (sumTo f t m, mostTo f t m) := by unfold costZ; rw [h]; rfl
    have HC : Hid _ := HC0
    clear HC0
    have HM : Hid _ := hm
    clear hm
    go_enter Try.func12, Try.ntmps12
    go_wp2_with (first | (go_at_call 33; refine (implFits_row _ _ _ _ f _ _ _ _ t _ hn hm1 hbs hrow hbs' hrow').mono ?_; rintro e w1 ⟨rfl, hb1⟩) | (go_at_call 34; refine (implLate_row _ _ _ _ f _ _ _ _ t _ (movesB_six HM.out) (Nat.le_refl _) (Nat.lt_of_lt_of_le hbs hb1.size) (hrow.below hb1 hbs) (Nat.lt_of_lt_of_le hbs' hb1.size) (hrow'.below hb1 hbs') (LateBd.fits HM.out hfit)).mono ?_; rintro e w2 ⟨rfl, hb2⟩))
    go_ret2
    exact ⟨ret_ii (by rw [HC.out]) (by rw [HC.out]), hb1.trans (hb2.mono hb1.size)⟩
end Go.Proofs.Ytlmcblcijndipab
