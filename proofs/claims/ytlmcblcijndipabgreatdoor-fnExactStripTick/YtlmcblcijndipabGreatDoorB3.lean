/- The book: whether it is ok, in the program. -/
import Derived.Test.YtlmcblcijndipabGreatDoorB2
namespace Go.Proofs.YtlmcblcijndipabGreatDoor
open Go.RowKit
set_option linter.unusedVariables false

set_option maxRecDepth 10000 in
set_option maxHeartbeats 4000000 in
theorem implBook_row (now shift : Int) (b off n cap : Nat) (f : Nat → Mv) (b' off' m cap' : Nat) (t : Nat → Int) (w : World) (hn : n ≤ 1048576) (hm1 : m ≤ maxLen) (hbs : b < w.heap.size) (hrow : MvRow w b off n f) (hbs' : b' < w.heap.size) (hrow' : IntRow w b' off' m t) :
    Calls Tryz.prog 90 #[.agg #[.int .i64 now, .int .i64 shift, .slice (some ⟨b, off, none⟩) n cap, .slice (some ⟨b', off', none⟩) m cap']] w fun e w' => e = .returned (.bool (bookB now shift f n t m)) ∧ Below w.heap.size w w' := by
  have bA := boxBk_below w now shift (some ⟨b, off, none⟩) n cap (some ⟨b', off', none⟩) m cap'
  have hA := boxBk_at w now shift (some ⟨b, off, none⟩) n cap (some ⟨b', off', none⟩) m cap'
  have H1 := implFits_row b off n cap f b' off' m cap' t _ hn hm1 (Nat.lt_of_lt_of_le hbs bA.size) (hrow.below bA hbs) (Nat.lt_of_lt_of_le hbs' bA.size) (hrow'.below bA hbs')
  cases h1 : inB now 0 10000 with
  | false =>
    have HB : Hid (bookB now shift f n t m = false) := bookB_now h1
    have q : now < 0 ∨ ¬ now < 0 ∧ 10000 < now := by unfold inB at h1; simp at h1; omega
    clear h1
    rcases q with q | ⟨q, q'⟩
    all_goals
      go_enter Tryz.func90, Tryz.ntmps90
      go_wp2
      go_ret
      exact ⟨ret_b HB.out.symm, bA⟩
  | true =>
    have hnow := inB_iff.mp h1
    have q1 : ¬ now < 0 := by omega
    have q2 : ¬ 10000 < now := by omega
    cases h2 : inB shift 0 6 with
    | false =>
      have HB : Hid (bookB now shift f n t m = false) := bookB_shift h2
      have q : shift < 0 ∨ ¬ shift < 0 ∧ 6 < shift := by unfold inB at h2; simp at h2; omega
      clear h2
      rcases q with q | ⟨q, q'⟩
      all_goals
        go_enter Tryz.func90, Tryz.ntmps90
        go_wp2
        go_ret
        exact ⟨ret_b HB.out.symm, bA⟩
    | true =>
      have hsh := inB_iff.mp h2
      have q3 : ¬ shift < 0 := by omega
      have q4 : ¬ 6 < shift := by omega
      cases h3 : fitsB f n t m with
      | false =>
        have HB : Hid (bookB now shift f n t m = false) := bookB_fits h3
        rw [h3] at H1
        go_enter Tryz.func90, Tryz.ntmps90
        go_wp2_with (go_at_call 111; refine H1.mono ?_; clear H1; rintro e w1 ⟨rfl, b1⟩)
        go_ret
        exact ⟨ret_b HB.out.symm, bA.trans (b1.mono bA.size)⟩
      | true =>
        obtain ⟨hm, rfl, hfit⟩ := fits_parts h3
        have h6 := movesB_six hm
        have HM : Hid (movesB f m = true) := hm
        have HY : Hid (soonB now f t m = true → bookB now shift f m t m = true) := by
          have h : soonB now f t m = true → bookB now shift f m t m = true := fun h4 => bookB_yes h1 h2 h3 h4
          exact h
        have hwr : IntKind.i64.wrap (now + 4) = now + 4 := by rw [IntKind.wrap_i64]; omega
        rw [h3] at H1
        clear hm hfit
        obtain ⟨p0, p1, p2, p3⟩ := hA
        go_enter Tryz.func90, Tryz.ntmps90
        go_wp2_with (go_at_call 111; refine H1.mono ?_; clear H1; rintro e w1 ⟨rfl, b1⟩; obtain ⟨g0, g1, g2, g3⟩ := (BkAt.mk p0 p1 p2 p3).below b1 (by simp))
        have hB1 : Below w.heap.size w w1 := bA.trans (b1.mono bA.size)
        have hz1 : w.heap.size < w1.heap.size := Nat.lt_of_lt_of_le (by simp) b1.size
        have hA1 := BkAt.mk g0 g1 g2 g3
        clear p0 p1 p2 p3 b1
        go_loopw [32] (fun x wr => ∃ k : Nat, k ≤ m ∧ x = .int .i64 k ∧ (∀ j, j < k → soonAt now (f j) (t j) = true) ∧ Below w1.heap.size w1 wr) (fun x _ => m - (intOf x).toNat)
        case atStart => exact ⟨0, Nat.zero_le _, rfl, fun j hj => absurd hj (Nat.not_lt_zero _), Below.refl _ _⟩
        case round =>
          obtain ⟨k, hk, rfl, hall, hB⟩ := hrel
          have hBr : Below w.heap.size w wr := hB1.trans (hB.mono hB1.size)
          by_cases hlt : k < m
          · have hlt' : (k : Int) < m := by omega
            have hr' := hrow'.below hBr hbs' k hlt
            obtain ⟨c0, c1, c2, c3, c4, c5⟩ := hrow.below hBr hbs k hlt
            have hA2 := hA1.below hB hz1
            have bM := boxMv_below wr (f k)
            have hM := boxMv_at wr (f k)
            have lz : w.heap.size < wr.heap.size := Nat.lt_of_lt_of_le hz1 hB.size
            have hA3 := hA2.below bM lz
            have hr3 : (boxMv wr (f k)).cell? ⟨b', off' + k, none⟩ = some (.int .i64 (t k)) := (bM.cell (p := ⟨b', off' + k, none⟩) (Nat.lt_of_lt_of_le hbs' hBr.size)).trans hr'
            have hne := later_some (boxMv wr (f k))
            have x0 := fun x : Later (boxMv wr (f k)) => x.cell hA3.c0
            have x3 := fun x : Later (boxMv wr (f k)) => x.cell hA3.c3
            have y6 := fun x : Later (boxMv wr (f k)) => x.cell hr3
            rcases soon_ways now (t k) (movesB_ok HM.out k hlt) with ⟨hs, d1⟩ | ⟨hs, d1, d2⟩ | ⟨hs, d1, d2, d3⟩ | ⟨hs, d1, d2, d3⟩
            · have HB : Hid (bookB now shift f m t m = false) := bookB_soon (soonB_no hlt hs)
              have D1 : Hid (decide (t k < now) = true) := d1
              clear hs d1
              go_wp2
              have d1 := D1.out
              refine wp_region_later (by kernel_rfl) (by kernel_rfl) ?_
              repeat (go_big_quiet_step (fail))
              refine wpQuiet_nil (later_all ?_)
              intro w2 hb2
              go_wp2
              go_ret
              exact ⟨ret_b HB.out.symm, hBr.trans ((bM.trans (hb2.mono bM.size)).mono hBr.size)⟩
            · have HS : Hid (soonAt now (f k) (t k) = true) := hs
              have D1 : Hid (decide (t k < now) = false) := d1
              have D2 : Hid (decide (t k < now + 4) = false) := d2
              clear hs d1 d2
              go_wp2
              have d1 := D1.out
              refine wp_region_later (by kernel_rfl) (by kernel_rfl) ?_
              repeat (go_big_quiet_step (fail))
              refine wpQuiet_nil (later_all ?_)
              intro w2 hb2
              have hq2 : Below wr.heap.size wr w2 := bM.trans (hb2.mono bM.size)
              have hM2 := hM.below hb2 (by simp)
              have hA4 := hA3.below hb2 (Nat.lt_of_lt_of_le lz bM.size)
              have hr4 : w2.cell? ⟨b', off' + k, none⟩ = some (.int .i64 (t k)) := (hb2.cell (p := ⟨b', off' + k, none⟩) (Nat.lt_of_lt_of_le (Nat.lt_of_lt_of_le hbs' hBr.size) bM.size)).trans hr3
              clear x0 x3 y6 hne d1
              have hne := later_some w2
              have x0 := fun x : Later w2 => x.cell hA4.c0
              have x3 := fun x : Later w2 => x.cell hA4.c3
              have y6 := fun x : Later w2 => x.cell hr4
              have z5 := fun x : Later w2 => x.cell hM2.c5
              simp only [Nat.zero_add] at z5
              have D4 : Hid (((f k).prom == -1) = true ∨ ((f k).prom == -1) = false) := by
                have h : ((f k).prom == -1) = true ∨ ((f k).prom == -1) = false := by cases ((f k).prom == -1) <;> simp
                exact h
              go_wp2
              have d2 := D2.out
              rcases D4.out with d4 | d4
              all_goals
                refine wp_region_later (by kernel_rfl) (by kernel_rfl) ?_
                repeat (go_big_quiet_step (fail))
                refine wpQuiet_nil (later_all ?_)
                intro w3 hb3
                go_wp2
                go_roundw
                case rel => exact ⟨k + 1, by omega, by go_num, fun j hj => by
                  by_cases e : j = k
                  · subst e; exact HS.out
                  · exact hall j (by omega), hB.trans ((hq2.trans (hb3.mono hq2.size)).mono hB.size)⟩
                case measure => simp [intOf]; omega
            · have HB : Hid (bookB now shift f m t m = false) := bookB_soon (soonB_no hlt hs)
              have D1 : Hid (decide (t k < now) = false) := d1
              have D2 : Hid (decide (t k < now + 4) = true) := d2
              have D3 : Hid (((f k).prom == -1) = true) := by
                have h : ((f k).prom == -1) = true := by rw [d3]; rfl
                exact h
              clear hs d1 d2 d3
              go_wp2
              have d1 := D1.out
              refine wp_region_later (by kernel_rfl) (by kernel_rfl) ?_
              repeat (go_big_quiet_step (fail))
              refine wpQuiet_nil (later_all ?_)
              intro w2 hb2
              have hq2 : Below wr.heap.size wr w2 := bM.trans (hb2.mono bM.size)
              have hM2 := hM.below hb2 (by simp)
              have hA4 := hA3.below hb2 (Nat.lt_of_lt_of_le lz bM.size)
              have hr4 : w2.cell? ⟨b', off' + k, none⟩ = some (.int .i64 (t k)) := (hb2.cell (p := ⟨b', off' + k, none⟩) (Nat.lt_of_lt_of_le (Nat.lt_of_lt_of_le hbs' hBr.size) bM.size)).trans hr3
              clear x0 x3 y6 hne d1
              have hne := later_some w2
              have x0 := fun x : Later w2 => x.cell hA4.c0
              have x3 := fun x : Later w2 => x.cell hA4.c3
              have y6 := fun x : Later w2 => x.cell hr4
              have z5 := fun x : Later w2 => x.cell hM2.c5
              simp only [Nat.zero_add] at z5
              go_wp2
              have d2 := D2.out
              have d3 := D3.out
              refine wp_region_later (by kernel_rfl) (by kernel_rfl) ?_
              repeat (go_big_quiet_step (fail))
              refine wpQuiet_nil (later_all ?_)
              intro w3 hb3
              go_wp2
              go_ret
              exact ⟨ret_b HB.out.symm, hBr.trans ((hq2.trans (hb3.mono hq2.size)).mono hBr.size)⟩
            · have HS : Hid (soonAt now (f k) (t k) = true) := hs
              have D1 : Hid (decide (t k < now) = false) := d1
              have D2 : Hid (decide (t k < now + 4) = true) := d2
              have D3 : Hid (((f k).prom == -1) = false) := by
                have h : ((f k).prom == -1) = false := by simp; omega
                exact h
              clear hs d1 d2 d3
              go_wp2
              have d1 := D1.out
              refine wp_region_later (by kernel_rfl) (by kernel_rfl) ?_
              repeat (go_big_quiet_step (fail))
              refine wpQuiet_nil (later_all ?_)
              intro w2 hb2
              have hq2 : Below wr.heap.size wr w2 := bM.trans (hb2.mono bM.size)
              have hM2 := hM.below hb2 (by simp)
              have hA4 := hA3.below hb2 (Nat.lt_of_lt_of_le lz bM.size)
              have hr4 : w2.cell? ⟨b', off' + k, none⟩ = some (.int .i64 (t k)) := (hb2.cell (p := ⟨b', off' + k, none⟩) (Nat.lt_of_lt_of_le (Nat.lt_of_lt_of_le hbs' hBr.size) bM.size)).trans hr3
              clear x0 x3 y6 hne d1
              have hne := later_some w2
              have x0 := fun x : Later w2 => x.cell hA4.c0
              have x3 := fun x : Later w2 => x.cell hA4.c3
              have y6 := fun x : Later w2 => x.cell hr4
              have z5 := fun x : Later w2 => x.cell hM2.c5
              simp only [Nat.zero_add] at z5
              go_wp2
              have d2 := D2.out
              have d3 := D3.out
              refine wp_region_later (by kernel_rfl) (by kernel_rfl) ?_
              repeat (go_big_quiet_step (fail))
              refine wpQuiet_nil (later_all ?_)
              intro w3 hb3
              go_wp2
              go_roundw
              case rel => exact ⟨k + 1, by omega, by go_num, fun j hj => by
                by_cases e : j = k
                · subst e; exact HS.out
                · exact hall j (by omega), hB.trans ((hq2.trans (hb3.mono hq2.size)).mono hB.size)⟩
              case measure => simp [intOf]; omega
          · have HB : Hid (bookB now shift f m t m = true) := by
              have h : bookB now shift f m t m = true := HY.out (soonB_yes (fun i hi => hall i (by omega)))
              exact h
            go_wp2
            go_ret
            exact ⟨ret_b HB.out.symm, hBr⟩
end Go.Proofs.YtlmcblcijndipabGreatDoor
