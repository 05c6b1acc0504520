/- Texts of the proof, one behind another: W7. -/
import Derived.Test.YtlmcblcijndipaaGreatM03
import Derived.Test.YtlmcblcijndipaaGreatM06
/- The walks that hold moves in a slice against the rules. -/
namespace Go.Proofs.YtlmcblcijndipaaGreat
open Go.RowKit

theorem specMv {m : Mv} (hm : m.Fits) (w : World) :
    Calls Tryz0.prog 54 #[.agg #[.string m.name, .bool m.lands, .int .i64 m.wake, .int .i64 m.est, .int .i64 m.late, .int .i64 m.prom]] w fun e w' => e = .returned (.bool m.ok) ∧ Below w.heap.size w w' := specMove_any _ _ _ _ _ _ _ hm.name

set_option maxHeartbeats 1000000 in
theorem specMoves_row (b off n cap : Nat) (f : Nat → Mv) (w : World) (hn : n ≤ 1048576) (hbs : b < w.heap.size) (hrow : MvRow w b off n f) (hf : ∀ i, i < n → (f i).Fits) :
    Calls Tryz0.prog 26 #[.slice (some ⟨b, off, none⟩) n cap] w fun e w' => e = .returned (.bool (movesB f n)) ∧ Below w.heap.size w w' := by
  by_cases h6 : 6 < n
  · have hm : movesB f n = false := movesB_long (by omega)
    have h6' : (6 : Int) < n := by omega
    go_enter Tryz0.func26, Tryz.ntmps26
    go_wp2
    go_ret
    exact ⟨ret_b hm.symm, Below.refl _ _⟩
  · go_enter Tryz0.func26, Tryz.ntmps26
    go_wp2
    go_loopw [3] (fun i w' => ∃ k : Nat, k ≤ n ∧ i = .int .i64 k ∧ stepsTo f k ∧ Below w.heap.size w w') (fun i _ => n - (intOf i).toNat)
    case atStart => exact ⟨0, Nat.zero_le _, rfl, fun i hi => absurd hi (Nat.not_lt_zero _), Below.refl _ _⟩
    case round =>
      obtain ⟨k, hk, rfl, hst, hB⟩ := hrel
      by_cases hlt : k < n
      · have hr := hrow.below hB hbs
        obtain ⟨c0, c1, c2, c3, c4, c5⟩ := hr k hlt
        have hfit := hf k hlt
        have hlt' : (k : Int) < n := by omega
        have hbr : b < wr.heap.size := Nat.lt_of_lt_of_le hbs hB.size
        have hne := later_some wr
        have d0 := fun x : Later wr => x.cell c0
        have d1 := fun x : Later wr => x.cell c1
        have d2 := fun x : Later wr => x.cell c2
        have d3 := fun x : Later wr => x.cell c3
        have d4 := fun x : Later wr => x.cell c4
        have d5 := fun x : Later wr => x.cell c5
        cases hok : (f k).ok with
        | false =>
          have hsb : stepB f k = false := by unfold stepB; rw [hok]; rfl
          go_wp2
          refine wp_region_later (by kernel_rfl) (by kernel_rfl) ?_
          repeat (go_big_quiet_step ((go_at_call 54; exact later_call (specMv hfit _))))
          refine wpQuiet_nil (later_all ?_)
          intro w1 hb1
          go_wp2
          go_ret
          exact ⟨ret_b (movesB_no hlt hsb).symm, hB.trans (hb1.mono hB.size)⟩
        | true =>
          by_cases hk0 : k = 0
          · have hsb : stepB f k = true := by unfold stepB; rw [hok, hk0]; rfl
            have HS : Hid (stepsTo f (k + 1)) := stepsTo_succ hst hsb
            go_wp2
            have hz : decide (0 < k) = false := by simp; omega
            clear hk0
            refine wp_region_later (by kernel_rfl) (by kernel_rfl) ?_
            repeat (go_big_quiet_step ((go_at_call 54; exact later_call (specMv hfit _))))
            refine wpQuiet_nil (later_all ?_)
            intro w1 hb1
            go_wp2
            go_roundw
            case rel => exact ⟨k + 1, by omega, by go_num, HS.out, hB.trans (hb1.mono hB.size)⟩
            case measure => simp [intOf]; omega
          · obtain ⟨j, rfl⟩ : ∃ j, k = j + 1 := ⟨k - 1, by omega⟩
            have e0 := fun x : Later wr => x.cell (hr j (by omega)).c0
            have hj1 : (j : Int) < n := by omega
            have hz : (0 : Int) < (j : Int) + 1 := by omega
            cases hless : lessB (f j).name (f (j + 1)).name with
            | true =>
              have HS : Hid (stepsTo f (j + 1 + 1)) := stepsTo_succ hst (by unfold stepB; rw [hok]; simpa using hless)
              unfold lessB at hless
              go_wp2
              refine wp_region_later (by kernel_rfl) (by kernel_rfl) ?_
              repeat (go_big_quiet_step ((go_at_call 54; exact later_call (specMv hfit _))))
              refine wpQuiet_nil (later_all ?_)
              intro w1 hb1
              go_wp2
              go_roundw
              case rel => exact ⟨j + 1 + 1, by omega, by go_num, HS.out, hB.trans (hb1.mono hB.size)⟩
              case measure => simp [intOf]; omega
            | false =>
              have HS : Hid (movesB f n = false) := movesB_no hlt (by unfold stepB; rw [hok]; simpa using hless)
              unfold lessB at hless
              go_wp2
              refine wp_region_later (by kernel_rfl) (by kernel_rfl) ?_
              repeat (go_big_quiet_step ((go_at_call 54; exact later_call (specMv hfit _))))
              refine wpQuiet_nil (later_all ?_)
              intro w1 hb1
              go_wp2
              go_ret
              exact ⟨ret_b HS.out.symm, hB.trans (hb1.mono hB.size)⟩
      · go_wp2
        go_ret
        exact ⟨ret_b (movesB_yes (by omega) (by rw [show n = k by omega]; exact hst)).symm, hB⟩

theorem implMv (m : Mv) (w : World) :
    Calls Tryz0.prog 45 #[.agg #[.string m.name, .bool m.lands, .int .i64 m.wake, .int .i64 m.est, .int .i64 m.late, .int .i64 m.prom]] w fun e w' => e = .returned (.bool m.ok) ∧ Below w.heap.size w w' := implMove_any _ _ _ _ _ _ _

set_option maxHeartbeats 1000000 in
theorem implMoves_row (b off n cap : Nat) (f : Nat → Mv) (w : World) (hn : n ≤ 1048576) (hbs : b < w.heap.size) (hrow : MvRow w b off n f) :
    Calls Tryz0.prog 23 #[.slice (some ⟨b, off, none⟩) n cap] w fun e w' => e = .returned (.bool (movesB f n)) ∧ Below w.heap.size w w' := by
  by_cases h6 : 6 < n
  · have hm : movesB f n = false := movesB_long (by omega)
    have h6' : (6 : Int) < n := by omega
    go_enter Tryz0.func23, Tryz.ntmps23
    go_wp2
    go_ret
    exact ⟨ret_b hm.symm, Below.refl _ _⟩
  · go_enter Tryz0.func23, Tryz.ntmps23
    go_wp2
    go_loopw [10] (fun i w' => ∃ k : Nat, k ≤ n ∧ i = .int .i64 k ∧ stepsTo f k ∧ Below w.heap.size w w') (fun i _ => n - (intOf i).toNat)
    case atStart => exact ⟨0, Nat.zero_le _, rfl, fun i hi => absurd hi (Nat.not_lt_zero _), Below.refl _ _⟩
    case round =>
      obtain ⟨k, hk, rfl, hst, hB⟩ := hrel
      by_cases hlt : k < n
      · have hr := hrow.below hB hbs
        obtain ⟨c0, c1, c2, c3, c4, c5⟩ := hr k hlt
        have hlt' : (k : Int) < n := by omega
        have hbr : b < wr.heap.size := Nat.lt_of_lt_of_le hbs hB.size
        cases hok : (f k).ok with
        | false =>
          have HS : Hid (movesB f n = false) := movesB_no hlt (by unfold stepB; rw [hok]; rfl)
          go_wp2_with (go_at_call 45; refine (implMv (f k) _).mono ?_; rintro e w1 ⟨rfl, hb1⟩; obtain ⟨hc1, hf1⟩ := bcell hb1)
          go_ret
          exact ⟨ret_b HS.out.symm, hB.trans ((one_more (one_new wr _) hb1).2.mono hB.size)⟩
        | true =>
          by_cases hk0 : k = 0
          · have HS : Hid (stepsTo f (k + 1)) := stepsTo_succ hst (by unfold stepB; rw [hok, hk0]; rfl)
            have HK : Hid (k = 0) := hk0
            clear hk0
            go_wp2_with (go_at_call 45; refine (implMv (f k) _).mono ?_; rintro e w1 ⟨rfl, hb1⟩; obtain ⟨hc1, hf1⟩ := bcell hb1)
            have hz : decide (0 < k) = false := by have := HK.out; simp; omega
            have hq := one_more (one_new wr _) hb1
            have hne := later_some w1
            refine wp_region_later (by kernel_rfl) (by kernel_rfl) ?_
            repeat (go_big_quiet_step (fail))
            refine wpQuiet_nil (later_all ?_)
            intro w2 hb2
            go_wp2
            go_roundw
            case rel => exact ⟨k + 1, by omega, by go_num, HS.out, hB.trans ((hq.2.trans (hb2.mono hq.2.size)).mono hB.size)⟩
            case measure => simp [intOf]; omega
          · obtain ⟨j, rfl⟩ : ∃ j, k = j + 1 := ⟨k - 1, by omega⟩
            have hj1 : (j : Int) < n := by omega
            have hz : (0 : Int) < (j : Int) + 1 := by omega
            cases hless : lessB (f j).name (f (j + 1)).name with
            | true =>
              have HS : Hid (stepsTo f (j + 1 + 1)) := stepsTo_succ hst (by unfold stepB; rw [hok]; simpa using hless)
              unfold lessB at hless
              go_wp2_with (go_at_call 45; refine (implMv (f (j + 1)) _).mono ?_; rintro e w1 ⟨rfl, hb1⟩; obtain ⟨hc1, hf1⟩ := bcell hb1)
              have hq := one_more (one_new wr _) hb1
              have hne := later_some w1
              have g0 : w1.cell? ⟨wr.heap.size, 0, none⟩ = some (.string (f (j + 1)).name) := by rw [hc1 _ _ (by simp), World.cell?_alloc_new]; rfl
              have e0 := fun x : Later w1 => x.cell g0
              have e1 := fun x : Later w1 => x.cell ((hr.below hq.2 hbr) j (by omega)).c0
              refine wp_region_later (by kernel_rfl) (by kernel_rfl) ?_
              repeat (go_big_quiet_step (fail))
              refine wpQuiet_nil (later_all ?_)
              intro w2 hb2
              go_wp2
              go_roundw
              case rel => exact ⟨j + 1 + 1, by omega, by go_num, HS.out, hB.trans ((hq.2.trans (hb2.mono hq.2.size)).mono hB.size)⟩
              case measure => simp [intOf]; omega
            | false =>
              have HS : Hid (movesB f n = false) := movesB_no hlt (by unfold stepB; rw [hok]; simpa using hless)
              unfold lessB at hless
              go_wp2_with (go_at_call 45; refine (implMv (f (j + 1)) _).mono ?_; rintro e w1 ⟨rfl, hb1⟩; obtain ⟨hc1, hf1⟩ := bcell hb1)
              have hq := one_more (one_new wr _) hb1
              have hne := later_some w1
              have g0 : w1.cell? ⟨wr.heap.size, 0, none⟩ = some (.string (f (j + 1)).name) := by rw [hc1 _ _ (by simp), World.cell?_alloc_new]; rfl
              have e0 := fun x : Later w1 => x.cell g0
              have e1 := fun x : Later w1 => x.cell ((hr.below hq.2 hbr) j (by omega)).c0
              refine wp_region_later (by kernel_rfl) (by kernel_rfl) ?_
              repeat (go_big_quiet_step (fail))
              refine wpQuiet_nil (later_all ?_)
              intro w2 hb2
              go_wp2
              go_ret
              exact ⟨ret_b HS.out.symm, hB.trans ((hq.2.trans (hb2.mono hq.2.size)).mono hB.size)⟩
      · go_wp2
        go_ret
        exact ⟨ret_b (movesB_yes (by omega) (by rw [show n = k by omega]; exact hst)).symm, hB⟩
end Go.Proofs.YtlmcblcijndipaaGreat
