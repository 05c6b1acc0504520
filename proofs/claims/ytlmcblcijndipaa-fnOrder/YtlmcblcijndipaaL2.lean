/- What fits by the definition: the law's own loop. -/
import Derived.Test.YtlmcblcijndipaaL1
namespace Go.Proofs.Ytlmcblcijndipaa
open Go.RowKit
set_option linter.unusedVariables false

theorem fit_two {f : Nat → Mv} {t : Nat → Int} {n i k : Nat} (h : FitTo f t n) (hi : i < n) (hk : k < n) (hne : k ≠ i) (hle : t i ≤ t k) : t i + (f i).gap (f k) ≤ t k := by
  by_cases hlt : i < k
  · have := (near_w (h.2 k i hlt hk)).1 hle; omega
  · have := (near_w (h.2 i k (by omega) hi)).2 hle; omega

set_option maxRecDepth 10000 in
set_option maxHeartbeats 4000000 in
theorem wFits_row (b off n cap : Nat) (f : Nat → Mv) (b' off' cap' : Nat) (t : Nat → Int) (w : World) (hbs : b < w.heap.size) (hrow : MvRow w b off n f) (hbs' : b' < w.heap.size) (hrow' : IntRow w b' off' n t) (hm : movesB f n = true) (hfit : FitTo f t n) :
    Calls Try.prog 16 #[.slice (some ⟨b, off, none⟩) n cap, .slice (some ⟨b', off', none⟩) n cap'] w fun e w' => e = .returned (.bool true) ∧ Below w.heap.size w w' := by
  have h6 := movesB_six hm
  have HM : Hid (movesB f n = true) := hm
  clear hm
  go_enter Try.func16, Try.ntmps16
  go_wp2
  go_loopw [5] (fun i wr => ∃ k : Nat, k ≤ n ∧ i = .int .i64 k ∧ Below w.heap.size w wr) (fun i _ => n - (intOf i).toNat)
  case atStart => exact ⟨0, Nat.zero_le _, rfl, Below.refl _ _⟩
  case round =>
    obtain ⟨i, hi, rfl, hB⟩ := hrel
    by_cases hlt : i < n
    · have hr := hrow.below hB hbs i hlt
      have hr' := hrow'.below hB hbs' i hlt
      obtain ⟨c0, c1, c2, c3, c4, c5⟩ := hr
      have hlt' : (i : Int) < n := by omega
      have hA := boxMv_below wr (f i)
      have hMi := boxMv_at wr (f i)
      have hok := movesB_ok HM.out i hlt
      have hbd := Mv.ok_bd hok
      have hbr' : b' < wr.heap.size := Nat.lt_of_lt_of_le hbs' hB.size
      obtain ⟨s1, s2, s3⟩ := suits_w hok (hfit.1 i hlt)
      have Z1 : Hid (decide (t i < (f i).est) = false) := by have h : decide (t i < (f i).est) = false := by simpa using s1
                                                             exact h
      have Z2 : Hid (decide ((f i).late < t i) = false) := by have h : decide ((f i).late < t i) = false := by simpa using s2
                                                              exact h
      have Z3 : Hid (decide (0 ≤ (f i).prom) = false ∨ (decide (0 ≤ (f i).prom) = true ∧ (t i != (f i).prom) = false)) := by
        have h : decide (0 ≤ (f i).prom) = false ∨ (decide (0 ≤ (f i).prom) = true ∧ (t i != (f i).prom) = false) := by
          by_cases hp : 0 ≤ (f i).prom
          · exact .inr ⟨by simpa using hp, by simpa using s3 hp⟩
          · exact .inl (by simpa using hp)
        exact h
      clear s1 s2 s3
      have hne := later_some (boxMv wr (f i))
      have e3 := fun x : Later (boxMv wr (f i)) => x.cell hMi.c3
      have e4 := fun x : Later (boxMv wr (f i)) => x.cell hMi.c4
      have e5 := fun x : Later (boxMv wr (f i)) => x.cell hMi.c5
      have e6 := fun x : Later (boxMv wr (f i)) => x.cell ((hA.cell (p := ⟨b', off' + i, none⟩) hbr').trans hr')
      simp only [Nat.zero_add] at e3 e4 e5
      go_wp2
      have z1 := Z1.out
      have z2 := Z2.out
      rcases Z3.out with z3 | ⟨z3, z4⟩
      all_goals
        refine wp_region_later (by kernel_rfl) (by kernel_rfl) ?_
        repeat (go_big_quiet_step (fail))
        refine wpQuiet_nil (later_all ?_)
        intro w2 hb2
        have hM2 := hMi.below hb2 (by simp)
        have hB2 : Below w.heap.size w w2 := hB.trans ((hA.trans (hb2.mono hA.size)).mono hB.size)
        have hz2 : wr.heap.size < w2.heap.size := Nat.lt_of_lt_of_le (by simp) hb2.size
        clear e3 e4 e5 e6 hne hb2 hA hMi c0 c1 c2 c3 c4 c5 hr'
        try clear z4
        clear z1 z2 z3 Z1 Z2 Z3
        go_wp2
        go_loopw [7] (fun y wv => ∃ k : Nat, k ≤ n ∧ y = .int .i64 k ∧ Below w2.heap.size w2 wv) (fun y _ => n - (intOf y).toNat)
        case atStart => exact ⟨0, Nat.zero_le _, rfl, Below.refl _ _⟩
        case round =>
          obtain ⟨k, hk, rfl, hBv⟩ := hrel
          have hBw : Below w.heap.size w wr := hB2.trans (hBv.mono hB2.size)
          by_cases hlk : k < n
          · have hlk' : (k : Int) < n := by omega
            obtain ⟨m0, m1, m2, m3, m4, m5⟩ := hM2.below hBv hz2
            simp only [Nat.zero_add] at m0 m1 m2 m3 m4 m5
            have hi' := hrow'.below hBw hbs' i hlt
            have hk' := hrow'.below hBw hbs' k hlk
            obtain ⟨d0, d1, d2, d3, d4, d5⟩ := hrow.below hBw hbs k hlk
            have hwk := (Mv.ok_bd (movesB_ok HM.out k hlk)).2.2.2.2
            have hwi := hbd.2.2.2.2
            have hok' := movesB_ok HM.out k hlk
            have hbk := Mv.ok_bd hok'
            have ti := suits_bd (hfit.1 i hlt)
            have tk := suits_bd (hfit.1 k hlk)
            have gp := gapZ_pos (f i).lands (f i).wake (f k).wake
            have gl := gapZ_le (f i).lands (f i).wake (f k).wake
            have hgz : (f i).gap (f k) = gapZ (f i).lands (f i).wake (f k).wake := rfl
            rw [← hgz] at gp gl
            clear hgz
            have hwr : IntKind.i64.wrap (t i + (f i).gap (f k)) = t i + (f i).gap (f k) := by rw [IntKind.wrap_i64]; omega
            have hne := later_some wr
            have a0 := fun x : Later wr => x.cell m0
            have a1 := fun x : Later wr => x.cell m1
            have a2 := fun x : Later wr => x.cell m2
            have a3 := fun x : Later wr => x.cell m3
            have a4 := fun x : Later wr => x.cell m4
            have a5 := fun x : Later wr => x.cell m5
            have b0 := fun x : Later wr => x.cell d0
            have b1 := fun x : Later wr => x.cell d1
            have b2 := fun x : Later wr => x.cell d2
            have b3 := fun x : Later wr => x.cell d3
            have b4 := fun x : Later wr => x.cell d4
            have b5 := fun x : Later wr => x.cell d5
            have x0 := fun x : Later wr => x.cell hi'
            have x1 := fun x : Later wr => x.cell hk'
            have Y : Hid ((k = i) ∨ (((k : Int) != i) = true ∧ decide (t i ≤ t k) = false) ∨ (((k : Int) != i) = true ∧ decide (t i ≤ t k) = true ∧ decide (t k < t i + (f i).gap (f k)) = false)) := by
              have h : (k = i) ∨ (((k : Int) != i) = true ∧ decide (t i ≤ t k) = false) ∨ (((k : Int) != i) = true ∧ decide (t i ≤ t k) = true ∧ decide (t k < t i + (f i).gap (f k)) = false) := by
                by_cases e : k = i
                · exact .inl e
                · have e' : ((k : Int) != i) = true := by simp; omega
                  by_cases hle : t i ≤ t k
                  · have := fit_two hfit hlt hlk e hle
                    exact .inr (.inr ⟨e', by simpa using hle, by simpa using this⟩)
                  · exact .inr (.inl ⟨e', by simpa using hle⟩)
              exact h
            go_wp2
            rcases Y.out with y0 | ⟨y0, y1⟩ | ⟨y0, y1, y2⟩
            · subst y0
              refine wp_region_later (by kernel_rfl) (by kernel_rfl) ?_
              repeat (go_big_quiet_step ((go_at_call 42; exact later_call (wGap_any (f k) (f k) _ hwi hwk))))
              refine wpQuiet_nil (later_all ?_)
              intro w3 hb3
              go_wp2
              go_roundw
              case rel => exact ⟨k + 1, by omega, by go_num, hBv.trans (hb3.mono hBv.size)⟩
              case measure => simp [intOf]; omega
            · refine wp_region_later (by kernel_rfl) (by kernel_rfl) ?_
              repeat (go_big_quiet_step ((go_at_call 42; exact later_call (wGap_any (f i) (f k) _ hwi hwk))))
              refine wpQuiet_nil (later_all ?_)
              intro w3 hb3
              go_wp2
              go_roundw
              case rel => exact ⟨k + 1, by omega, by go_num, hBv.trans (hb3.mono hBv.size)⟩
              case measure => simp [intOf]; omega
            · refine wp_region_later (by kernel_rfl) (by kernel_rfl) ?_
              repeat (go_big_quiet_step ((go_at_call 42; exact later_call (wGap_any (f i) (f k) _ hwi hwk))))
              refine wpQuiet_nil (later_all ?_)
              intro w3 hb3
              go_wp2
              go_roundw
              case rel => exact ⟨k + 1, by omega, by go_num, hBv.trans (hb3.mono hBv.size)⟩
              case measure => simp [intOf]; omega
          · go_wp2
            go_roundw
            case rel => exact ⟨i + 1, by omega, by go_num, hBw⟩
            case measure => simp [intOf]; omega
    · go_wp2
      go_ret
      exact ⟨rfl, hB⟩
end Go.Proofs.Ytlmcblcijndipaa
