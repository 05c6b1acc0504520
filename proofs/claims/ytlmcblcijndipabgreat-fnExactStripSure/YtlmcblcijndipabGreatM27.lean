/- Texts of the proof, one behind another: W7, F1. -/
import Derived.Test.YtlmcblcijndipabGreatM15
import Derived.Test.YtlmcblcijndipabGreatM16
import Derived.Test.YtlmcblcijndipabGreatM22
namespace Go.Proofs.YtlmcblcijndipabGreat
open Go.RowKit
theorem specMv {m : Mv} (hm : m.Fits) (w : World) :
    Calls Tryz0.prog 35 #[.agg #[.string m.name, .bool m.lands, .int .i64 m.wake, .int .i64 m.est, .int .i64 m.late, .int .i64 m.prom]] w fun e w' => e = .returned (.bool m.ok) ∧ Below w.heap.size w w' := specMove_any _ _ _ _ _ _ _ hm.name
set_option maxHeartbeats 1000000 in
theorem specMoves_row (b off n cap : Nat) (f : Nat → Mv) (w : World) (hn : n ≤ 1048576) (hbs : b < w.heap.size) (hrow : MvRow w b off n f) (hf : ∀ i, i < n → (f i).Fits) :
    Calls Tryz0.prog 20 #[.slice (some ⟨b, off, none⟩) n cap] w fun e w' => e = .returned (.bool (movesB f n)) ∧ Below w.heap.size w w' := by
  by_cases h6 : 6 < n
  · have hm : movesB f n = false := movesB_long (by omega)
    have h6' : (6 : Int) < n := by omega
    go_enter Tryz0.func20, Tryz.ntmps20
    go_wp2
    go_ret
    exact ⟨ret_b hm.symm, Below.refl _ _⟩
  · go_enter Tryz0.func20, Tryz.ntmps20
    go_wp2
    go_loopw [3] (fun i w' => ∃ k : Nat, k ≤ n ∧ i = .int .i64 k ∧ stepsTo f k ∧ Below w.heap.size w w') (fun i _ => n - (intOf i).toNat)
    case atStart => exact ⟨0, Nat.zero_le _, rfl, fun i hi => absurd hi (Nat.not_lt_zero _), Below.refl _ _⟩
    case round =>
      obtain ⟨k, hk, rfl, hst, hB⟩ := hrel
      by_cases hlt : k < n
      · have hr := hrow.below hB hbs
        obtain ⟨c0, c1, c2, c3, c4, c5⟩ := hr k hlt
        have hfit := hf k hlt
        have hlt' : (k : Int) < n := by omega
        have hbr : b < wr.heap.size := Nat.lt_of_lt_of_le hbs hB.size
        have hne := later_some wr
        have d0 := fun x : Later wr => x.cell c0
        have d1 := fun x : Later wr => x.cell c1
        have d2 := fun x : Later wr => x.cell c2
        have d3 := fun x : Later wr => x.cell c3
        have d4 := fun x : Later wr => x.cell c4
        have d5 := fun x : Later wr => x.cell c5
        cases hok : (f k).ok with
        | false =>
          have hsb : stepB f k = false := by unfold stepB; rw [hok]; rfl
          go_wp2
          refine wp_region_later (by kernel_rfl) (by kernel_rfl) ?_
          repeat (go_big_quiet_step ((go_at_call 35; exact later_call (specMv hfit _))))
          refine wpQuiet_nil (later_all ?_)
          intro w1 hb1
          go_wp2
          go_ret
          exact ⟨ret_b (movesB_no hlt hsb).symm, hB.trans (hb1.mono hB.size)⟩
        | true =>
          by_cases hk0 : k = 0
          · have hsb : stepB f k = true := by unfold stepB; rw [hok, hk0]; rfl
            have HS : Hid (stepsTo f (k + 1)) := stepsTo_succ hst hsb
            go_wp2
            have hz : decide (0 < k) = false := by simp; omega
            clear hk0
            refine wp_region_later (by kernel_rfl) (by kernel_rfl) ?_
            repeat (go_big_quiet_step ((go_at_call 35; exact later_call (specMv hfit _))))
            refine wpQuiet_nil (later_all ?_)
            intro w1 hb1
            go_wp2
            go_roundw
            case rel => exact ⟨k + 1, by omega, by go_num, HS.out, hB.trans (hb1.mono hB.size)⟩
            case measure => simp [intOf]; omega
          · obtain ⟨j, rfl⟩ : ∃ j, k = j + 1 := ⟨k - 1, by omega⟩
            have e0 := fun x : Later wr => x.cell (hr j (by omega)).c0
            have hj1 : (j : Int) < n := by omega
            have hz : (0 : Int) < (j : Int) + 1 := by omega
            cases hless : lessB (f j).name (f (j + 1)).name with
            | true =>
              have HS : Hid (stepsTo f (j + 1 + 1)) := stepsTo_succ hst (by unfold stepB; rw [hok]; simpa using hless)
              unfold lessB at hless
              go_wp2
              refine wp_region_later (by kernel_rfl) (by kernel_rfl) ?_
              repeat (go_big_quiet_step ((go_at_call 35; exact later_call (specMv hfit _))))
              refine wpQuiet_nil (later_all ?_)
              intro w1 hb1
              go_wp2
              go_roundw
              case rel => exact ⟨j + 1 + 1, by omega, by go_num, HS.out, hB.trans (hb1.mono hB.size)⟩
              case measure => simp [intOf]; omega
            | false =>
              have HS : Hid (movesB f n = false) := movesB_no hlt (by unfold stepB; rw [hok]; simpa using hless)
              unfold lessB at hless
              go_wp2
              refine wp_region_later (by kernel_rfl) (by kernel_rfl) ?_
              repeat (go_big_quiet_step ((go_at_call 35; exact later_call (specMv hfit _))))
              refine wpQuiet_nil (later_all ?_)
              intro w1 hb1
              go_wp2
              go_ret
              exact ⟨ret_b HS.out.symm, hB.trans (hb1.mono hB.size)⟩
      · go_wp2
        go_ret
        exact ⟨ret_b (movesB_yes (by omega) (by rw [show n = k by omega]; exact hst)).symm, hB⟩
theorem implMv (m : Mv) (w : World) :
    Calls Tryz0.prog 41 #[.agg #[.string m.name, .bool m.lands, .int .i64 m.wake, .int .i64 m.est, .int .i64 m.late, .int .i64 m.prom]] w fun e w' => e = .returned (.bool m.ok) ∧ Below w.heap.size w w' := implMove_any _ _ _ _ _ _ _
set_option maxHeartbeats 1000000 in
theorem implMoves_row (b off n cap : Nat) (f : Nat → Mv) (w : World) (hn : n ≤ 1048576) (hbs : b < w.heap.size) (hrow : MvRow w b off n f) :
    Calls Tryz0.prog 24 #[.slice (some ⟨b, off, none⟩) n cap] w fun e w' => e = .returned (.bool (movesB f n)) ∧ Below w.heap.size w w' := by
  by_cases h6 : 6 < n
  · have hm : movesB f n = false := movesB_long (by omega)
    have h6' : (6 : Int) < n := by omega
    go_enter Tryz0.func24, Tryz.ntmps24
    go_wp2
    go_ret
    exact ⟨ret_b hm.symm, Below.refl _ _⟩
  · go_enter Tryz0.func24, Tryz.ntmps24
    go_wp2
    go_loopw [10] (fun i w' => ∃ k : Nat, k ≤ n ∧ i = .int .i64 k ∧ stepsTo f k ∧ Below w.heap.size w w') (fun i _ => n - (intOf i).toNat)
    case atStart => exact ⟨0, Nat.zero_le _, rfl, fun i hi => absurd hi (Nat.not_lt_zero _), Below.refl _ _⟩
    case round =>
      obtain ⟨k, hk, rfl, hst, hB⟩ := hrel
      by_cases hlt : k < n
      · have hr := hrow.below hB hbs
        obtain ⟨c0, c1, c2, c3, c4, c5⟩ := hr k hlt
        have hlt' : (k : Int) < n := by omega
        have hbr : b < wr.heap.size := Nat.lt_of_lt_of_le hbs hB.size
        cases hok : (f k).ok with
        | false =>
          have HS : Hid (movesB f n = false) := movesB_no hlt (by unfold stepB; rw [hok]; rfl)
          go_wp2_with (go_at_call 41; refine (implMv (f k) _).mono ?_; rintro e w1 ⟨rfl, hb1⟩; obtain ⟨hc1, hf1⟩ := bcell hb1)
          go_ret
          exact ⟨ret_b HS.out.symm, hB.trans ((one_more (one_new wr _) hb1).2.mono hB.size)⟩
        | true =>
          by_cases hk0 : k = 0
          · have HS : Hid (stepsTo f (k + 1)) := stepsTo_succ hst (by unfold stepB; rw [hok, hk0]; rfl)
            have HK : Hid (k = 0) := hk0
            clear hk0
            go_wp2_with (go_at_call 41; refine (implMv (f k) _).mono ?_; rintro e w1 ⟨rfl, hb1⟩; obtain ⟨hc1, hf1⟩ := bcell hb1)
            have hz : decide (0 < k) = false := by have := HK.out; simp; omega
            have hq := one_more (one_new wr _) hb1
            have hne := later_some w1
            refine wp_region_later (by kernel_rfl) (by kernel_rfl) ?_
            repeat (go_big_quiet_step (fail))
            refine wpQuiet_nil (later_all ?_)
            intro w2 hb2
            go_wp2
            go_roundw
            case rel => exact ⟨k + 1, by omega, by go_num, HS.out, hB.trans ((hq.2.trans (hb2.mono hq.2.size)).mono hB.size)⟩
            case measure => simp [intOf]; omega
          · obtain ⟨j, rfl⟩ : ∃ j, k = j + 1 := ⟨k - 1, by omega⟩
            have hj1 : (j : Int) < n := by omega
            have hz : (0 : Int) < (j : Int) + 1 := by omega
            cases hless : lessB (f j).name (f (j + 1)).name with
            | true =>
              have HS : Hid (stepsTo f (j + 1 + 1)) := stepsTo_succ hst (by unfold stepB; rw [hok]; simpa using hless)
              unfold lessB at hless
              go_wp2_with (go_at_call 41; refine (implMv (f (j + 1)) _).mono ?_; rintro e w1 ⟨rfl, hb1⟩; obtain ⟨hc1, hf1⟩ := bcell hb1)
              have hq := one_more (one_new wr _) hb1
              have hne := later_some w1
              have g0 : w1.cell? ⟨wr.heap.size, 0, none⟩ = some (.string (f (j + 1)).name) := by rw [hc1 _ _ (by simp), World.cell?_alloc_new]; rfl
              have e0 := fun x : Later w1 => x.cell g0
              have e1 := fun x : Later w1 => x.cell ((hr.below hq.2 hbr) j (by omega)).c0
              refine wp_region_later (by kernel_rfl) (by kernel_rfl) ?_
              repeat (go_big_quiet_step (fail))
              refine wpQuiet_nil (later_all ?_)
              intro w2 hb2
              go_wp2
              go_roundw
              case rel => exact ⟨j + 1 + 1, by omega, by go_num, HS.out, hB.trans ((hq.2.trans (hb2.mono hq.2.size)).mono hB.size)⟩
              case measure => simp [intOf]; omega
            | false =>
              have HS : Hid (movesB f n = false) := movesB_no hlt (by unfold stepB; rw [hok]; simpa using hless)
              unfold lessB at hless
              go_wp2_with (go_at_call 41; refine (implMv (f (j + 1)) _).mono ?_; rintro e w1 ⟨rfl, hb1⟩; obtain ⟨hc1, hf1⟩ := bcell hb1)
              have hq := one_more (one_new wr _) hb1
              have hne := later_some w1
              have g0 : w1.cell? ⟨wr.heap.size, 0, none⟩ = some (.string (f (j + 1)).name) := by rw [hc1 _ _ (by simp), World.cell?_alloc_new]; rfl
              have e0 := fun x : Later w1 => x.cell g0
              have e1 := fun x : Later w1 => x.cell ((hr.below hq.2 hbr) j (by omega)).c0
              refine wp_region_later (by kernel_rfl) (by kernel_rfl) ?_
              repeat (go_big_quiet_step (fail))
              refine wpQuiet_nil (later_all ?_)
              intro w2 hb2
              go_wp2
              go_ret
              exact ⟨ret_b HS.out.symm, hB.trans ((hq.2.trans (hb2.mono hq.2.size)).mono hB.size)⟩
      · go_wp2
        go_ret
        exact ⟨ret_b (movesB_yes (by omega) (by rw [show n = k by omega]; exact hst)).symm, hB⟩
end Go.Proofs.YtlmcblcijndipabGreat

namespace Go.Proofs.YtlmcblcijndipabGreat
open Go.RowKit
theorem in_bel (n lo hi : Int) (w : World) :
    Calls Tryz0.prog 21 #[.int .i64 n, .int .i64 lo, .int .i64 hi] w fun e w' => e = .returned (.bool (inB n lo hi)) ∧ Below w.heap.size w w' :=
  (in_any n lo hi w).mono fun _ _ ⟨he, hw⟩ => ⟨he, hw ▸ Below.refl _ _⟩
theorem tick_bd {f : Nat → Mv} {n : Nat} {t : Nat → Int} (hm : movesB f n = true) {k : Nat} (hk : k < n) (hs : (f k).suits (t k) = true) : 0 ≤ t k ∧ t k ≤ 10000 := by
  have h1 := Mv.ok_bd (movesB_ok hm k hk)
  have h2 := suits_bd hs
  omega
theorem prom_ways (p t : Int) : (0 ≤ p ∧ (t != p) = true) ∨ (0 ≤ p ∧ (t != p) = false) ∨ p < 0 := by
  by_cases h : 0 ≤ p
  · cases e : (t != p) with
    | true => exact .inl ⟨h, rfl⟩
    | false => exact .inr (.inl ⟨h, rfl⟩)
  · exact .inr (.inr (by omega))
set_option maxHeartbeats 2000000 in
theorem specFits_row (b off n cap : Nat) (f : Nat → Mv) (b' off' m cap' : Nat) (t : Nat → Int) (w : World) (hn : n ≤ 1048576) (hm1 : m ≤ maxLen) (hbs : b < w.heap.size) (hrow : MvRow w b off n f) (hf : ∀ i, i < n → (f i).Fits) (hbs' : b' < w.heap.size) (hrow' : IntRow w b' off' m t) :
    Calls Tryz0.prog 52 #[.slice (some ⟨b, off, none⟩) n cap, .slice (some ⟨b', off', none⟩) m cap'] w fun e w' => e = .returned (.bool (fitsB f n t m)) ∧ Below w.heap.size w w' := by
  unfold maxLen at hm1
  cases hm : movesB f n with
  | false =>
    have HF : Hid (fitsB f n t m = false) := fitsB_moves hm
    go_enter Tryz0.func52, Tryz.ntmps52
    go_wp2_with (go_at_call 20; refine (specMoves_row _ _ _ _ f _ hn hbs hrow hf).mono ?_; rintro e w1 ⟨rfl, hb1⟩)
    go_ret
    exact ⟨ret_b HF.out.symm, hb1⟩
  | true =>
    by_cases hlen : m = n
    · subst hlen
      have HM : Hid (movesB f m = true) := hm
      have h6 := movesB_six hm
      go_enter Tryz0.func52, Tryz.ntmps52
      go_wp2_with (go_at_call 20; refine (specMoves_row _ _ _ _ f _ hn hbs hrow hf).mono ?_; rintro e w1 ⟨rfl, hb1⟩)
      clear hm
      go_loopw [5] (fun i w' => ∃ k : Nat, k ≤ m ∧ i = .int .i64 k ∧ FitTo f t k ∧ Below w.heap.size w w') (fun i _ => m - (intOf i).toNat)
      case atStart => exact ⟨0, Nat.zero_le _, rfl, FitTo_zero f t, hb1⟩
      case round =>
        obtain ⟨k, hk, rfl, hfit, hB⟩ := hrel
        by_cases hlt : k < m
        · have hr := hrow.below hB hbs
          have hr' := hrow'.below hB hbs'
          obtain ⟨c0, c1, c2, c3, c4, c5⟩ := hr k hlt
          have d0 := hr' k hlt
          have hbr : b < wr.heap.size := Nat.lt_of_lt_of_le hbs hB.size
          have hbr' : b' < wr.heap.size := Nat.lt_of_lt_of_le hbs' hB.size
          have hlt' : (k : Int) < m := by omega
          have hne := later_some wr
          have e3 := fun x : Later wr => x.cell c3
          have e4 := fun x : Later wr => x.cell c4
          have e5 := fun x : Later wr => x.cell c5
          have e6 := fun x : Later wr => x.cell d0
          have hss := suits_spec (movesB_ok HM.out k hlt) (t k)
          cases hi : inB (t k) (f k).est (f k).late with
          | false =>
            have HS : Hid ((f k).suits (t k) = false) := by rw [hss, hi]; rfl
            clear hss
            go_wp2
            refine wp_region_later (by kernel_rfl) (by kernel_rfl) ?_
            repeat (go_big_quiet_step ((go_at_call 21; exact later_call (in_bel _ _ _ _))))
            refine wpQuiet_nil (later_all ?_)
            intro w2 hb2
            go_wp2
            go_ret
            exact ⟨ret_b (fitsB_suit hlt HS.out).symm, hB.trans (hb2.mono hB.size)⟩
          | true =>
            rcases prom_ways (f k).prom (t k) with ⟨hp, he'⟩ | ⟨hp, he'⟩ | hp
            · have HS0 : (f k).suits (t k) = false := by rw [hss, hi, he']; simp [hp]
              have HS : Hid _ := HS0
              clear hss HS0
              go_wp2
              refine wp_region_later (by kernel_rfl) (by kernel_rfl) ?_
              repeat (go_big_quiet_step ((go_at_call 21; exact later_call (in_bel _ _ _ _))))
              refine wpQuiet_nil (later_all ?_)
              intro w2 hb2
              go_wp2
              go_ret
              exact ⟨ret_b (fitsB_suit hlt HS.out).symm, hB.trans (hb2.mono hB.size)⟩
            all_goals
              have HS0 : (f k).suits (t k) = true := by rw [hss, hi]; first | (rw [he']; simp) | (simp; omega)
              have HS : Hid _ := HS0
              have htk := tick_bd HM.out hlt HS0
              obtain ⟨htk0, htk1⟩ := htk
              clear hss HS0
              go_wp2
              try have hp' : decide (0 ≤ (f k).prom) = false := by (simp; omega)
              refine wp_region_later (by kernel_rfl) (by kernel_rfl) ?_
              repeat (go_big_quiet_step ((go_at_call 21; exact later_call (in_bel _ _ _ _))))
              refine wpQuiet_nil (later_all ?_)
              intro w2 hb2
              have hB2 : Below w.heap.size w w2 := hB.trans (hb2.mono hB.size)
              go_wp2
              go_loopw [6] (fun i w' => ∃ q : Nat, q ≤ k ∧ i = .int .i64 q ∧ (∀ p, p < q → (f p).near (f k) (t p) (t k) = false) ∧ Below w.heap.size w w') (fun i _ => k - (intOf i).toNat)
              case atStart => exact ⟨0, Nat.zero_le _, rfl, fun p hp => absurd hp (Nat.not_lt_zero _), hB2⟩
              case round =>
                clear hB hB2 hb2 hr hr' c0 c1 c2 c3 c4 c5 d0 hbr hbr' hne e3 e4 e5 e6
                obtain ⟨q, hq, rfl, hno, hB⟩ := hrel
                by_cases hlq : q < k
                · have hr := hrow.below hB hbs
                  have hr' := hrow'.below hB hbs'
                  have hk0 := hr k hlt
                  have hq0 := hr q (by omega)
                  have hne := later_some wr
                  have a0 := fun x : Later wr => x.cell hk0.c0
                  have a1 := fun x : Later wr => x.cell hk0.c1
                  have a2 := fun x : Later wr => x.cell hk0.c2
                  have a3 := fun x : Later wr => x.cell hk0.c3
                  have a4 := fun x : Later wr => x.cell hk0.c4
                  have a5 := fun x : Later wr => x.cell hk0.c5
                  have b0 := fun x : Later wr => x.cell hq0.c0
                  have b1 := fun x : Later wr => x.cell hq0.c1
                  have b2 := fun x : Later wr => x.cell hq0.c2
                  have b3 := fun x : Later wr => x.cell hq0.c3
                  have b4 := fun x : Later wr => x.cell hq0.c4
                  have b5 := fun x : Later wr => x.cell hq0.c5
                  have d0 := fun x : Later wr => x.cell (hr' k hlt)
                  have d1 := fun x : Later wr => x.cell (hr' q (by omega))
                  have hqm : q < m := by omega
                  have hqm' : (q : Int) < m := by omega
                  have hkm' : (k : Int) < m := by omega
                  obtain ⟨htq0, htq1⟩ := tick_bd HM.out hqm (hfit.1 q hlq)
                  cases hnear : (f q).near (f k) (t q) (t k) with
                  | true =>
                    go_wp2
                    refine wp_region_later (by kernel_rfl) (by kernel_rfl) ?_
                    repeat (go_big_quiet_step ((go_at_call 97; exact later_call (apart_any (f q) (f k) _ _ _ htq0 htq1 htk0 htk1))))
                    refine wpQuiet_nil (later_all ?_)
                    intro w3 hb3
                    go_wp2
                    go_ret
                    exact ⟨ret_b (fitsB_near hlq hlt hnear).symm, hB.trans (hb3.mono hB.size)⟩
                  | false =>
                    go_wp2
                    refine wp_region_later (by kernel_rfl) (by kernel_rfl) ?_
                    repeat (go_big_quiet_step ((go_at_call 97; exact later_call (apart_any (f q) (f k) _ _ _ htq0 htq1 htk0 htk1))))
                    refine wpQuiet_nil (later_all ?_)
                    intro w3 hb3
                    go_wp2
                    go_roundw
                    case rel => exact ⟨q + 1, by omega, by go_num, fun p hp => by
                      by_cases e : p = q
                      · subst e; exact hnear
                      · exact hno p (by omega), hB.trans (hb3.mono hB.size)⟩
                    case measure => simp [intOf]; omega
                · go_wp2
                  go_roundw
                  case rel => exact ⟨k + 1, by omega, by go_num, FitTo_succ hfit HS.out (fun p hp => hno p (by omega)), hB⟩
                  case measure => simp [intOf]; omega
        · go_wp2
          go_ret
          exact ⟨ret_b ((fitsB_iff HM.out).mpr (by rw [show m = k by omega]; exact hfit)).symm, hB⟩
    · have HF : Hid (fitsB f n t m = false) := fitsB_len hlen
      have hl' : ((m : Int) != n) = true := by simp; omega
      go_enter Tryz0.func52, Tryz.ntmps52
      go_wp2_with (go_at_call 20; refine (specMoves_row _ _ _ _ f _ hn hbs hrow hf).mono ?_; rintro e w1 ⟨rfl, hb1⟩)
      go_ret
      exact ⟨ret_b HF.out.symm, hb1⟩
end Go.Proofs.YtlmcblcijndipabGreat
