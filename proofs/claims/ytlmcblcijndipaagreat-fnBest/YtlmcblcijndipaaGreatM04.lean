/- Texts of the proof, one behind another: W9. -/
import Derived.Test.YtlmcblcijndipaaGreatM03
import Derived.Test.YtlmcblcijndipaaGreatM02
/- The walks of the gaps: how far behind one another one may come. -/
namespace Go.Proofs.YtlmcblcijndipaaGreat
open Go.RowKit

theorem ret_i {k : IntKind} {a b : Int} (h : a = b) : Ending.returned (.int k a) = .returned (.int k b) := by rw [h]
theorem inB_t {n lo hi : Int} (h : inB n lo hi = true) : lo ≤ n ∧ n ≤ hi := by unfold inB at h; simpa using h

theorem heavier_any (x y : Int) (w : World) :
    Calls Tryz0.prog 116 #[.int .i64 x, .int .i64 y] w fun e w' => e = .returned (.int .i64 (heavyZ x y)) ∧ w' = w := by
  cases hx : inB x 1 3 with
  | false =>
    go_enter Tryz0.func116, Tryz.ntmps116
    go_wp2_with (go_at_call 84; refine (wake_any _ _).mono ?_; rintro e w' ⟨rfl, rfl⟩)
    all_goals go_ret
    all_goals exact ⟨ret_i (by unfold heavyZ; rw [hx]; rfl), rfl⟩
  | true =>
    have hx' := inB_t hx
    cases hy : inB y 1 3 with
    | false =>
      go_enter Tryz0.func116, Tryz.ntmps116
      go_wp2_with (go_at_call 84; refine (wake_any _ _).mono ?_; rintro e w' ⟨rfl, rfl⟩)
      all_goals go_ret
      all_goals exact ⟨ret_i (by unfold heavyZ; rw [hx, hy]; rfl), rfl⟩
    | true =>
      have hy' := inB_t hy
      obtain ⟨hx1, hx2⟩ := hx'
      obtain ⟨hy1, hy2⟩ := hy'
      by_cases hlt : y < x
      · go_enter Tryz0.func116, Tryz.ntmps116
        go_wp2_with (go_at_call 84; refine (wake_any _ _).mono ?_; rintro e w' ⟨rfl, rfl⟩)
        all_goals go_ret
        all_goals exact ⟨ret_i (by unfold heavyZ; rw [hx, hy]; simp [hlt]), rfl⟩
      · go_enter Tryz0.func116, Tryz.ntmps116
        go_wp2_with (go_at_call 84; refine (wake_any _ _).mono ?_; rintro e w' ⟨rfl, rfl⟩)
        all_goals go_ret
        all_goals exact ⟨ret_i (by unfold heavyZ; rw [hx, hy]; simp; omega), rfl⟩

theorem implGap_any (a b : Mv) (w : World) :
    Calls Tryz0.prog 62 #[.agg #[.string a.name, .bool a.lands, .int .i64 a.wake, .int .i64 a.est, .int .i64 a.late, .int .i64 a.prom], .agg #[.string b.name, .bool b.lands, .int .i64 b.wake, .int .i64 b.est, .int .i64 b.late, .int .i64 b.prom]] w fun e w' => e = .returned (.int .i64 (a.gap b)) ∧ Below w.heap.size w w' := by
  obtain ⟨hb1, hb2⟩ := heavyZ_bd a.wake b.wake
  cases hl : a.lands
  all_goals
    go_enter Tryz0.func62, Tryz.ntmps62
    go_wp2_with (go_at_call 116; refine (heavier_any _ _ _).mono ?_; rintro e w' ⟨rfl, rfl⟩)
    go_ret
    exact ⟨ret_i (by unfold Mv.gap; rw [gapZ_eq, hl]; simp <;> omega), ((Below.refl _ _).alloc (Nat.le_refl _) _).alloc (by simp) _⟩

set_option maxHeartbeats 400000 in
theorem specGap_any (a b : Mv) (w : World) :
    Calls Tryz0.prog 114 #[.agg #[.string a.name, .bool a.lands, .int .i64 a.wake, .int .i64 a.est, .int .i64 a.late, .int .i64 a.prom], .agg #[.string b.name, .bool b.lands, .int .i64 b.wake, .int .i64 b.est, .int .i64 b.late, .int .i64 b.prom]] w fun e w' => e = .returned (.int .i64 (a.gap b)) ∧ Below w.heap.size w w' := by
  by_cases hlt : b.wake < a.wake
  · cases hx : inB a.wake 1 3 with
    | false =>
      cases hl : a.lands
      all_goals
        go_enter Tryz0.func114, Tryz.ntmps114
        go_wp2_with (go_at_call 27; refine (in_any _ _ _ _).mono ?_; rintro e w' ⟨rfl, rfl⟩)
        go_ret
        exact ⟨ret_i (by unfold Mv.gap gapZ; rw [hl, hx]; simp), ((Below.refl _ _).alloc (Nat.le_refl _) _).alloc (by simp) _⟩
    | true =>
      obtain ⟨hx1, hx2⟩ := inB_t hx
      cases hy : inB b.wake 1 3 with
      | false =>
        cases hl : a.lands
        all_goals
          go_enter Tryz0.func114, Tryz.ntmps114
          go_wp2_with (go_at_call 27; refine (in_any _ _ _ _).mono ?_; rintro e w' ⟨rfl, rfl⟩)
          go_ret
          exact ⟨ret_i (by unfold Mv.gap gapZ; rw [hl, hx, hy]; simp), ((Below.refl _ _).alloc (Nat.le_refl _) _).alloc (by simp) _⟩
      | true =>
        obtain ⟨hy1, hy2⟩ := inB_t hy
        cases hl : a.lands
        all_goals
          go_enter Tryz0.func114, Tryz.ntmps114
          go_wp2_with (go_at_call 27; refine (in_any _ _ _ _).mono ?_; rintro e w' ⟨rfl, rfl⟩)
          go_ret
          exact ⟨ret_i (by unfold Mv.gap gapZ; rw [hl, hx, hy]; simp [hlt]; omega), ((Below.refl _ _).alloc (Nat.le_refl _) _).alloc (by simp) _⟩
  · cases hl : a.lands
    all_goals
      go_enter Tryz0.func114, Tryz.ntmps114
      go_wp2_with (go_at_call 27; refine (in_any _ _ _ _).mono ?_; rintro e w' ⟨rfl, rfl⟩)
      go_ret
      exact ⟨ret_i (by unfold Mv.gap gapZ; rw [hl, decide_eq_false (p := b.wake < a.wake) (by omega)]; simp), ((Below.refl _ _).alloc (Nat.le_refl _) _).alloc (by simp) _⟩

theorem suits_any (m : Mv) (t : Int) (w : World) :
    Calls Tryz0.prog 30 #[.agg #[.string m.name, .bool m.lands, .int .i64 m.wake, .int .i64 m.est, .int .i64 m.late, .int .i64 m.prom], .int .i64 t] w fun e w' => e = .returned (.bool (m.suits t)) ∧ Below w.heap.size w w' := by
  cases hi : inB t m.est m.late with
  | false =>
    go_enter Tryz0.func30, Tryz.ntmps30
    go_wp2_with (go_at_call 60; refine (inSpan_any _ _ _ _ _ _ _ _).mono ?_; rintro e w1 ⟨rfl, hb1⟩; obtain ⟨hc1, hf1⟩ := bcell hb1)
    all_goals go_ret
    all_goals exact ⟨ret_b (by unfold Mv.suits suitB; simp [hi]), (one_more (one_new w _) hb1).2⟩
  | true =>
    by_cases h1 : (m.prom == -1) = true
    · go_enter Tryz0.func30, Tryz.ntmps30
      go_wp2_with (go_at_call 60; refine (inSpan_any _ _ _ _ _ _ _ _).mono ?_; rintro e w1 ⟨rfl, hb1⟩; obtain ⟨hc1, hf1⟩ := bcell hb1)
      all_goals go_ret
      all_goals exact ⟨ret_b (by unfold Mv.suits suitB; simp [hi, h1]), (one_more (one_new w _) hb1).2⟩
    · have h1' : (m.prom == -1) = false := by simpa using h1
      clear h1
      go_enter Tryz0.func30, Tryz.ntmps30
      go_wp2_with (go_at_call 60; refine (inSpan_any _ _ _ _ _ _ _ _).mono ?_; rintro e w1 ⟨rfl, hb1⟩; obtain ⟨hc1, hf1⟩ := bcell hb1)
      all_goals go_ret
      all_goals exact ⟨ret_b (by unfold Mv.suits suitB; simp [hi, h1']), (one_more (one_new w _) hb1).2⟩

theorem near_any (a b : Mv) (s t : Int) (w : World) (hs0 : 0 ≤ s) (hs1 : s ≤ 10000) (ht0 : 0 ≤ t) (ht1 : t ≤ 10000) :
    Calls Tryz0.prog 32 #[.agg #[.string a.name, .bool a.lands, .int .i64 a.wake, .int .i64 a.est, .int .i64 a.late, .int .i64 a.prom], .agg #[.string b.name, .bool b.lands, .int .i64 b.wake, .int .i64 b.est, .int .i64 b.late, .int .i64 b.prom], .int .i64 s, .int .i64 t] w fun e w' => e = .returned (.bool (a.near b s t)) ∧ Below w.heap.size w w' := by
  by_cases h : t < s
  · go_enter Tryz0.func32, Tryz.ntmps32
    go_wp2_with (go_at_call 62; refine (implGap_any b a _).mono ?_; rintro e w1 ⟨rfl, hb1⟩; obtain ⟨hc1, hf1⟩ := bcell hb1)
    all_goals go_ret
    all_goals exact ⟨ret_b (by unfold Mv.near nearB; rw [if_pos h]; unfold Mv.gap; rfl), ((((Below.refl _ w).alloc (Nat.le_refl _) _).alloc (by simp) _).trans (hb1.mono (by simp; omega)))⟩
  · go_enter Tryz0.func32, Tryz.ntmps32
    go_wp2_with (go_at_call 62; refine (implGap_any a b _).mono ?_; rintro e w1 ⟨rfl, hb1⟩; obtain ⟨hc1, hf1⟩ := bcell hb1)
    all_goals go_ret
    all_goals exact ⟨ret_b (by unfold Mv.near nearB; rw [if_neg (by omega)]; unfold Mv.gap; rfl), ((((Below.refl _ w).alloc (Nat.le_refl _) _).alloc (by simp) _).trans (hb1.mono (by simp; omega)))⟩

end Go.Proofs.YtlmcblcijndipaaGreat
