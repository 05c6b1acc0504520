/- Texts of the proof, one behind another: F3, C0. -/
import Derived.Test.YtlmcblcijndipabGreatM27
import Derived.Test.YtlmcblcijndipabGreatM19
import Derived.Test.YtlmcblcijndipabGreatM22
namespace Go.Proofs.YtlmcblcijndipabGreat
open Go.RowKit Go.Shelf
attribute [local go_sem] Oper.semAt_some
set_option linter.unusedVariables false
set_option maxHeartbeats 1000000 in
theorem implFits_short (b off n cap : Nat) (f : Nat → Mv) (a' : Option Addr) (m cap' : Nat) (t : Nat → Int) (w : World) (hn : n ≤ 1048576) (hm1 : m ≤ maxLen) (hbs : b < w.heap.size) (hrow : MvRow w b off n f) (h : movesB f n = false ∨ m ≠ n) :
    Calls Tryz0.prog 55 #[.slice (some ⟨b, off, none⟩) n cap, .slice a' m cap'] w fun e w' => e = .returned (.bool (fitsB f n t m)) ∧ Below w.heap.size w w' := by
  unfold maxLen at hm1
  have hB0 : ∀ o1 o2 o3, Below w.heap.size w (((w.alloc o1).alloc o2).alloc o3) := fun o1 o2 o3 => (((Below.refl _ w).alloc (Nat.le_refl _) _).alloc (by simp) _).alloc (by simp; omega) _
  have hF0 : fitsB f n t m = false := by rcases h with h | h; exact fitsB_moves h; exact fitsB_len h
  have HF : Hid (fitsB f n t m = false) := hF0
  clear hF0
  cases hm : movesB f n with
  | false =>
    clear h
    go_enter Tryz0.func55, Tryz.ntmps55
    go_wp2_with (go_at_call 24; refine (implMoves_row _ _ _ _ f _ hn (by simp; omega) (hrow.below (hB0 _ _ _) hbs)).mono ?_; rintro e w1 ⟨rfl, hb1⟩; obtain ⟨hc1, hf1⟩ := bcell hb1)
    have hz := hb1.size
    simp at hz
    refine bodyPost_ret (v := .bool false) (by simp [results, Tryz.results55, go_sem, hc1]) rfl ⟨ret_b HF.out.symm, ?_⟩
    exact ((hB0 _ _ _).trans (hb1.mono (hB0 _ _ _).size)).setCell (by simp; omega) _
  | true =>
    have hl : m ≠ n := by rcases h with h | h; rw [hm] at h; cases h; exact h
    have hl' : ((m : Int) != n) = true := by simp; omega
    clear h
    go_enter Tryz0.func55, Tryz.ntmps55
    go_wp2_with (go_at_call 24; refine (implMoves_row _ _ _ _ f _ hn (by simp; omega) (hrow.below (hB0 _ _ _) hbs)).mono ?_; rintro e w1 ⟨rfl, hb1⟩; obtain ⟨hc1, hf1⟩ := bcell hb1)
    have hz := hb1.size
    simp at hz
    refine bodyPost_ret (v := .bool false) (by simp [results, Tryz.results55, go_sem, hc1]) rfl ⟨ret_b HF.out.symm, ?_⟩
    exact ((hB0 _ _ _).trans (hb1.mono (hB0 _ _ _).size)).setCell (by simp; omega) _
abbrev boxMv (w : World) (m : Mv) : World := w.alloc (.cells #[.string m.name, .bool m.lands, .int .i64 m.wake, .int .i64 m.est, .int .i64 m.late, .int .i64 m.prom] 48)
theorem implFits_early (b off n cap : Nat) (f : Nat → Mv) (b' off' m cap' : Nat) (t : Nat → Int) (w : World) (hn : n ≤ 1048576) (hm1 : m ≤ maxLen) (hbs : b < w.heap.size) (hrow : MvRow w b off n f) (h : movesB f n = false ∨ m ≠ n) :
    Calls Tryz0.prog 55 #[.slice (some ⟨b, off, none⟩) n cap, .slice (some ⟨b', off', none⟩) m cap'] w fun e w' => e = .returned (.bool (fitsB f n t m)) ∧ Below w.heap.size w w' :=
  implFits_short b off n cap f (some ⟨b', off', none⟩) m cap' t w hn hm1 hbs hrow h
theorem boxMv_at (w : World) (m : Mv) : MvAt (boxMv w m) w.heap.size 0 m := by
  constructor <;> simp [boxMv]
theorem boxMv_below (w : World) (m : Mv) : Below w.heap.size w (boxMv w m) := (Below.refl _ _).alloc (Nat.le_refl _) _
set_option maxHeartbeats 2000000 in
theorem implFits_unsuited (b off n cap : Nat) (f : Nat → Mv) (b' off' cap' : Nat) (t : Nat → Int) (w : World) (hn : n ≤ 1048576) (hbs : b < w.heap.size) (hrow : MvRow w b off n f) (hbs' : b' < w.heap.size) (hrow' : IntRow w b' off' n t) (hm : movesB f n = true) (hno : ¬ ∀ i, i < n → (f i).suits (t i) = true) :
    Calls Tryz0.prog 55 #[.slice (some ⟨b, off, none⟩) n cap, .slice (some ⟨b', off', none⟩) n cap'] w fun e w' => e = .returned (.bool (fitsB f n t n)) ∧ Below w.heap.size w w' := by
  have hB0 : ∀ o1 o2 o3, Below w.heap.size w (((w.alloc o1).alloc o2).alloc o3) := fun o1 o2 o3 => (((Below.refl _ w).alloc (Nat.le_refl _) _).alloc (by simp) _).alloc (by simp; omega) _
  go_enter Tryz0.func55, Tryz.ntmps55
  go_wp2_with (go_at_call 24; refine (implMoves_row _ _ _ _ f _ hn (by simp; omega) (hrow.below (hB0 _ _ _) hbs)).mono ?_; rintro e w1 ⟨rfl, hb1⟩; obtain ⟨hc1, hf1⟩ := bcell hb1)
  have hz := hb1.size
  simp at hz
  have hB1 : Below w.heap.size w w1 := (hB0 _ _ _).trans (hb1.mono (hB0 _ _ _).size)
  have l0 : w1.cell? ⟨w.heap.size, 0, none⟩ = some (.slice (some ⟨b, off, none⟩) n cap) := by rw [hc1 w.heap.size 0 (by simp; omega)]; simp [go_sem]
  have l1 : w1.cell? ⟨w.heap.size + 1, 0, none⟩ = some (.slice (some ⟨b', off', none⟩) n cap') := by rw [hc1 (w.heap.size + 1) 0 (by simp)]; simp [go_sem]
  have l2 : w1.cell? ⟨w.heap.size + 1 + 1, 0, none⟩ = some (.bool false) := by rw [hc1 (w.heap.size + 1 + 1) 0 (by simp)]; simp [go_sem]
  have l3 : w1.frozen? ⟨w.heap.size + 1 + 1, 0, none⟩ = false := by rw [hf1 (w.heap.size + 1 + 1) 0 (by simp)]; simp [go_sem]
  clear hc1 hf1 hb1
  go_loopw [21] (fun i wr => ∃ k : Nat, k ≤ n ∧ i = .int .i64 k ∧ (∀ j, j < k → (f j).suits (t j) = true) ∧ Below w1.heap.size w1 wr) (fun i _ => n - (intOf i).toNat)
  case atStart => exact ⟨0, Nat.zero_le _, rfl, fun j hj => absurd hj (Nat.not_lt_zero _), Below.refl _ _⟩
  case round =>
    obtain ⟨k, hk, rfl, hall, hB⟩ := hrel
    by_cases hlt : k < n
    · have hBr : Below w.heap.size w wr := hB1.trans (hB.mono hB1.size)
      have hr := hrow.below hBr hbs k hlt
      have hr' := hrow'.below hBr hbs' k hlt
      obtain ⟨c0, c1, c2, c3, c4, c5⟩ := hr
      have hzr : w1.heap.size ≤ wr.heap.size := hB.size
      have hlt' : (k : Int) < n := by omega
      have hA := boxMv_below wr (f k)
      have hM := boxMv_at wr (f k)
      have m1 : wr.cell? ⟨w.heap.size + 1, 0, none⟩ = some (.slice (some ⟨b', off', none⟩) n cap') := (hB.cell (p := ⟨w.heap.size + 1, 0, none⟩) (by simp; omega)).trans l1
      have m2 : wr.cell? ⟨w.heap.size + 1 + 1, 0, none⟩ = some (.bool false) := (hB.cell (p := ⟨w.heap.size + 1 + 1, 0, none⟩) (by simp; omega)).trans l2
      have m3 : wr.frozen? ⟨w.heap.size + 1 + 1, 0, none⟩ = false := (hB.frozen (p := ⟨w.heap.size + 1 + 1, 0, none⟩) (by simp; omega)).trans l3
      have hne := later_some (boxMv wr (f k))
      have e0 := fun x : Later (boxMv wr (f k)) => x.cell hM.c0
      have e1 := fun x : Later (boxMv wr (f k)) => x.cell hM.c1
      have e2 := fun x : Later (boxMv wr (f k)) => x.cell hM.c2
      have e3 := fun x : Later (boxMv wr (f k)) => x.cell hM.c3
      have e4 := fun x : Later (boxMv wr (f k)) => x.cell hM.c4
      have e5 := fun x : Later (boxMv wr (f k)) => x.cell hM.c5
      have e6 := fun x : Later (boxMv wr (f k)) => x.cell ((hA.cell (p := ⟨w.heap.size + 1, 0, none⟩) (by simp; omega)).trans m1)
      have e7 := fun x : Later (boxMv wr (f k)) => x.cell ((hA.cell (p := ⟨b', off' + k, none⟩) (by simp; omega)).trans hr')
      simp only [Nat.zero_add] at e0 e1 e2 e3 e4 e5
      cases hs : (f k).suits (t k) with
      | true =>
        have HS : Hid _ := hs
        go_wp2
        refine wp_region_later (by kernel_rfl) (by kernel_rfl) ?_
        repeat (go_big_quiet_step ((go_at_call 100; exact later_call (suits_any (f k) _ _))))
        refine wpQuiet_nil (later_all ?_)
        intro w2 hb2
        go_wp2
        go_roundw
        case rel => exact ⟨k + 1, by omega, by go_num, fun j hj => by
          by_cases e : j = k
          · subst e; exact HS.out
          · exact hall j (by omega), hB.trans ((hA.trans (hb2.mono hA.size)).mono hB.size)⟩
        case measure => simp [intOf]; omega
      | false =>
        have HF : Hid (fitsB f n t n = false) := fitsB_suit hlt hs
        go_wp2
        refine wp_region_later (by kernel_rfl) (by kernel_rfl) ?_
        repeat (go_big_quiet_step ((go_at_call 100; exact later_call (suits_any (f k) _ _))))
        refine wpQuiet_nil (later_all ?_)
        intro w2 hb2
        have hq : Below wr.heap.size wr w2 := hA.trans (hb2.mono hA.size)
        have n2 : w2.cell? ⟨w.heap.size + 1 + 1, 0, none⟩ = some (.bool false) := (hq.cell (p := ⟨w.heap.size + 1 + 1, 0, none⟩) (by simp; omega)).trans m2
        have n3 : w2.frozen? ⟨w.heap.size + 1 + 1, 0, none⟩ = false := (hq.frozen (p := ⟨w.heap.size + 1 + 1, 0, none⟩) (by simp; omega)).trans m3
        go_wp2
        refine bodyPost_ret (v := .bool false) (by simp [results, Tryz.results55, go_sem, n2]) rfl ⟨ret_b HF.out.symm, ?_⟩
        exact (hBr.trans (hq.mono hBr.size)).setCell (by simp; omega) _
    · exact absurd (fun i hi => hall i (by omega)) hno
end Go.Proofs.YtlmcblcijndipabGreat

namespace Go.Proofs.YtlmcblcijndipabGreat
open Go.RowKit
set_option linter.unusedVariables false
def LateBd (f : Nat → Mv) (t : Nat → Int) (n : Nat) : Prop := ∀ j, j < n → 0 ≤ (f j).est ∧ (f j).est ≤ t j ∧ t j ≤ 10000
theorem LateBd.sum {f : Nat → Mv} {t : Nat → Int} {n : Nat} (h : LateBd f t n) (i : Nat) (hi : i ≤ n) : 0 ≤ sumTo f t i ∧ sumTo f t i ≤ 10000 * i ∧ 0 ≤ mostTo f t i ∧ mostTo f t i ≤ 10000 :=
  sumTo_bd i fun j hj => by have := h j (by omega); omega
theorem LateBd.fits {f : Nat → Mv} {t : Nat → Int} {n : Nat} (hm : movesB f n = true) (h : FitTo f t n) : LateBd f t n := fun j hj => by
  have h1 := Mv.ok_bd (movesB_ok hm j hj)
  have h2 := suits_bd (h.1 j hj)
  omega
set_option maxHeartbeats 1000000 in
theorem specLate_row (b off n cap : Nat) (f : Nat → Mv) (b' off' m cap' : Nat) (t : Nat → Int) (w : World) (h6 : n ≤ 6) (hmn : n ≤ m) (hbs : b < w.heap.size) (hrow : MvRow w b off n f) (hbs' : b' < w.heap.size) (hrow' : IntRow w b' off' n t) (hbd : LateBd f t n) :
    Calls Tryz0.prog 62 #[.slice (some ⟨b, off, none⟩) n cap, .slice (some ⟨b', off', none⟩) m cap'] w fun e w' => e = .returned (.tuple #[.int .i64 (sumTo f t n), .int .i64 (mostTo f t n)]) ∧ Below w.heap.size w w' := by
  go_enter Tryz0.func62, Tryz.ntmps62
  go_wp2
  go_loopw [6, 7, 8] (fun s z i w' => ∃ k : Nat, k ≤ n ∧ i = .int .i64 k ∧ s = .int .i64 (sumTo f t k) ∧ z = .int .i64 (mostTo f t k) ∧ Below w.heap.size w w') (fun _ _ i _ => n - (intOf i).toNat)
  case atStart => exact ⟨0, Nat.zero_le _, rfl, rfl, rfl, Below.refl _ _⟩
  case round =>
    obtain ⟨k, hk, rfl, rfl, rfl, hB⟩ := hrel
    by_cases hlt : k < n
    · have hr := hrow.below hB hbs k hlt
      have hr' := hrow'.below hB hbs' k hlt
      have hlt' : (k : Int) < n := by omega
      have hlm' : (k : Int) < m := by omega
      obtain ⟨s0, s1, z0, z1⟩ := hbd.sum k hk
      obtain ⟨x0, x1, x2⟩ := hbd k hlt
      have HS : Hid (sumTo f t (k + 1) = sumTo f t k + (t k - (f k).est)) := rfl
      have HM : Hid (mostTo f t (k + 1) = if mostTo f t k < t k - (f k).est then t k - (f k).est else mostTo f t k) := rfl
      have hne := later_some wr
      have e3 := fun x : Later wr => x.cell hr.c3
      have e6 := fun x : Later wr => x.cell hr'
      go_wp2
      refine wp_region_later (by kernel_rfl) (by kernel_rfl) ?_
      repeat (go_big_quiet_step (fail))
      refine wpQuiet_nil (later_all ?_)
      intro w1 hb1
      by_cases hgt : mostTo f t k < t k - (f k).est
      all_goals
        go_wp2
        go_roundw
        case rel => exact ⟨k + 1, by omega, by go_num, by rw [HS.out], by rw [HM.out]; first | rw [if_pos hgt] | rw [if_neg (by omega)], hB.trans (hb1.mono hB.size)⟩
        case measure => simp [intOf]; omega
    · have hkn : k = n := by omega
      subst hkn
      go_wp2
      go_ret2
      exact ⟨rfl, hB⟩
set_option maxHeartbeats 1000000 in
theorem implLate_row (b off n cap : Nat) (f : Nat → Mv) (b' off' m cap' : Nat) (t : Nat → Int) (w : World) (h6 : n ≤ 6) (hmn : n ≤ m) (hbs : b < w.heap.size) (hrow : MvRow w b off n f) (hbs' : b' < w.heap.size) (hrow' : IntRow w b' off' n t) (hbd : LateBd f t n) :
    Calls Tryz0.prog 112 #[.slice (some ⟨b, off, none⟩) n cap, .slice (some ⟨b', off', none⟩) m cap'] w fun e w' => e = .returned (.tuple #[.int .i64 (sumTo f t n), .int .i64 (mostTo f t n)]) ∧ Below w.heap.size w w' := by
  go_enter Tryz0.func112, Tryz.ntmps112
  go_wp2
  go_loopw [6, 7, 13] (fun s z i w' => ∃ k : Nat, k ≤ n ∧ i = .int .i64 k ∧ s = .int .i64 (sumTo f t k) ∧ z = .int .i64 (mostTo f t k) ∧ Below w.heap.size w w') (fun _ _ i _ => n - (intOf i).toNat)
  case atStart => exact ⟨0, Nat.zero_le _, rfl, rfl, rfl, Below.refl _ _⟩
  case round =>
    obtain ⟨k, hk, rfl, rfl, rfl, hB⟩ := hrel
    by_cases hlt : k < n
    · have hr := hrow.below hB hbs k hlt
      have hr' := hrow'.below hB hbs' k hlt
      obtain ⟨c0, c1, c2, c3, c4, c5⟩ := hr
      have hlt' : (k : Int) < n := by omega
      have hlm' : (k : Int) < m := by omega
      have hbr' : b' < wr.heap.size := Nat.lt_of_lt_of_le hbs' hB.size
      obtain ⟨s0, s1, z0, z1⟩ := hbd.sum k hk
      obtain ⟨x0, x1, x2⟩ := hbd k hlt
      have HS : Hid (sumTo f t (k + 1) = sumTo f t k + (t k - (f k).est)) := rfl
      have HM : Hid (mostTo f t (k + 1) = if mostTo f t k < t k - (f k).est then t k - (f k).est else mostTo f t k) := rfl
      have hA := boxMv_below wr (f k)
      have hM := boxMv_at wr (f k)
      have hne := later_some (boxMv wr (f k))
      have e3 := fun x : Later (boxMv wr (f k)) => x.cell hM.c3
      have e6 := fun x : Later (boxMv wr (f k)) => x.cell ((hA.cell (p := ⟨b', off' + k, none⟩) hbr').trans hr')
      simp only [Nat.zero_add] at e3
      go_wp2
      refine wp_region_later (by kernel_rfl) (by kernel_rfl) ?_
      repeat (go_big_quiet_step (fail))
      refine wpQuiet_nil (later_all ?_)
      intro w1 hb1
      have hq : Below wr.heap.size wr w1 := hA.trans (hb1.mono hA.size)
      by_cases hgt : mostTo f t k < t k - (f k).est
      all_goals
        go_wp2
        go_roundw
        case rel => exact ⟨k + 1, by omega, by go_num, by rw [HS.out], by rw [HM.out]; first | rw [if_pos hgt] | rw [if_neg (by omega)], hB.trans (hq.mono hB.size)⟩
        case measure => simp [intOf]; omega
    · have hkn : k = n := by omega
      subst hkn
      go_wp2
      go_ret2
      exact ⟨rfl, hB⟩
end Go.Proofs.YtlmcblcijndipabGreat
