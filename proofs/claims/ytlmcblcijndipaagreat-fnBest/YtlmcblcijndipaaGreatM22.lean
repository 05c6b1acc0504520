/- Texts of the proof, one behind another: A2. -/
import Derived.Test.YtlmcblcijndipaaGreatM19
import Derived.Test.YtlmcblcijndipaaGreatM21
import Derived.Test.YtlmcblcijndipaaGreatM11
/- Which ticks the model calls better: l4Better, walked. -/
namespace Go.Proofs.YtlmcblcijndipaaGreat
open Go.RowKit
set_option linter.unusedVariables false

set_option maxHeartbeats 1000000 in
theorem better_row (b off n cap : Nat) (f : Nat → Mv) (B1 c1 B2 c2 : Nat) (T S : Nat → Int) (w : World) (h6 : n ≤ 6) (hbs : b < w.heap.size) (hrow : MvRow w b off n f) (hb1 : B1 < w.heap.size) (hT : IntRow w B1 0 n T) (hbT : LateBd f T n) (hb2 : B2 < w.heap.size) (hS : IntRow w B2 0 n S) (hbS : LateBd f S n) :
    Calls Tryz0.prog 59 #[.slice (some ⟨b, off, none⟩) n cap, .slice (some ⟨B1, 0, none⟩) n c1, .slice (some ⟨B2, 0, none⟩) n c2] w fun e w' => e = .returned (.bool (lexL (keyT f n T) (keyT f n S))) ∧ Below w.heap.size w w' := by
  have H1 := specLate_row b off n cap f B1 0 n c1 T w h6 (Nat.le_refl _) hbs hrow hb1 hT hbT
  have HK : lexL (keyT f n T) (keyT f n S) = if sumTo f T n = sumTo f S n then (if mostTo f T n = mostTo f S n then lexL (rowL T n 0) (rowL S n 0) else decide (mostTo f T n < mostTo f S n)) else decide (sumTo f T n < sumTo f S n) := rfl
  obtain ⟨R, hR⟩ : ∃ R, lexL (keyT f n T) (keyT f n S) = R := ⟨_, rfl⟩
  rw [hR] at HK
  rw [hR]
  clear hR
  obtain ⟨s1, e1⟩ : ∃ s1, sumTo f T n = s1 := ⟨_, rfl⟩
  obtain ⟨s2, e2⟩ : ∃ s2, sumTo f S n = s2 := ⟨_, rfl⟩
  obtain ⟨t1, e3⟩ : ∃ t1, mostTo f T n = t1 := ⟨_, rfl⟩
  obtain ⟨t2, e4⟩ : ∃ t2, mostTo f S n = t2 := ⟨_, rfl⟩
  rw [e1, e2, e3, e4] at HK
  by_cases hs : s1 = s2
  · rw [if_pos hs] at HK
    have hs' : (s1 != s2) = false := by simp [hs]
    clear hs
    by_cases ht : t1 = t2
    · rw [if_pos ht] at HK
      have ht' : (t1 != t2) = false := by simp [ht]
      clear ht
      have HK : Hid _ := HK
      go_enter Tryz0.func59, Tryz.ntmps59
      go_wp2_with (first | (go_at_call 115; refine H1.mono ?_; clear H1; rintro e w1 ⟨rfl, hbw1⟩; rw [e1, e3]) | (go_at_call 115; refine (specLate_row b off n cap f B2 0 n c2 S _ h6 (Nat.le_refl _) (Nat.lt_of_lt_of_le hbs hbw1.size) (hrow.below hbw1 hbs) (Nat.lt_of_lt_of_le hb2 hbw1.size) (hS.below hbw1 hb2) hbS).mono ?_; rintro e w2 ⟨rfl, hbw2⟩; rw [e2, e4]))
      have hB2 : Below w.heap.size w w2 := hbw1.trans (hbw2.mono hbw1.size)
      clear hbw1 hbw2
      go_loopw [11] (fun i wr => ∃ k : Nat, k ≤ n ∧ i = .int .i64 k ∧ lexL (rowL T n 0) (rowL S n 0) = lexL (rowL T (n - k) k) (rowL S (n - k) k) ∧ Below w.heap.size w wr) (fun i _ => n - (intOf i).toNat)
      case atStart => exact ⟨0, Nat.zero_le _, rfl, rfl, hB2⟩
      case round =>
        obtain ⟨k, hk, rfl, hlx, hB⟩ := hrel
        by_cases hlt : k < n
        · have hlt' : (k : Int) < n := by omega
          have cT := hT.below hB hb1 k hlt
          have cS := hS.below hB hb2 k hlt
          simp only [Nat.zero_add] at cT cS
          have hx : lexL (rowL T (n - k) k) (rowL S (n - k) k) = if T k = S k then lexL (rowL T (n - (k + 1)) (k + 1)) (rowL S (n - (k + 1)) (k + 1)) else decide (T k < S k) := by
            rw [show n - k = (n - (k + 1)) + 1 by omega]; rfl
          by_cases he : T k = S k
          · rw [if_pos he] at hx
            have he' : (T k != S k) = false := by simp [he]
            have HX : Hid _ := hlx.trans hx
            clear hlx hx he
            go_wp2
            go_quiet (fail)
            go_wp2
            go_roundw
            case rel => exact ⟨k + 1, by omega, by go_num, HX.out, below_drewN hB _⟩
            case measure => simp [intOf]; omega
          · rw [if_neg he] at hx
            have he' : (T k != S k) = true := by simp [he]
            have HX : Hid _ := HK.out.trans (hlx.trans hx)
            clear hlx hx he HK
            go_wp2
            go_quiet (fail)
            go_wp2
            go_quiet (fail)
            go_wp2
            go_ret
            exact ⟨ret_b HX.out.symm, below_drewN (below_drewN hB _) _⟩
        · obtain rfl : k = n := by omega
          rw [Nat.sub_self] at hlx
          have HX : Hid _ := HK.out.trans hlx
          clear hlx HK
          go_wp2
          go_ret
          exact ⟨ret_b HX.out.symm, hB⟩
    · rw [if_neg ht] at HK
      have ht' : (t1 != t2) = true := by simp [ht]
      clear ht
      have HK : Hid _ := HK
      go_enter Tryz0.func59, Tryz.ntmps59
      go_wp2_with (first | (go_at_call 115; refine H1.mono ?_; clear H1; rintro e w1 ⟨rfl, hbw1⟩; rw [e1, e3]) | (go_at_call 115; refine (specLate_row b off n cap f B2 0 n c2 S _ h6 (Nat.le_refl _) (Nat.lt_of_lt_of_le hbs hbw1.size) (hrow.below hbw1 hbs) (Nat.lt_of_lt_of_le hb2 hbw1.size) (hS.below hbw1 hb2) hbS).mono ?_; rintro e w2 ⟨rfl, hbw2⟩; rw [e2, e4]))
      go_ret
      exact ⟨ret_b HK.out.symm, hbw1.trans (hbw2.mono hbw1.size)⟩
  · rw [if_neg hs] at HK
    have hs' : (s1 != s2) = true := by simp [hs]
    clear hs
    have HK : Hid _ := HK
    go_enter Tryz0.func59, Tryz.ntmps59
    go_wp2_with (first | (go_at_call 115; refine H1.mono ?_; clear H1; rintro e w1 ⟨rfl, hbw1⟩; rw [e1, e3]) | (go_at_call 115; refine (specLate_row b off n cap f B2 0 n c2 S _ h6 (Nat.le_refl _) (Nat.lt_of_lt_of_le hbs hbw1.size) (hrow.below hbw1 hbs) (Nat.lt_of_lt_of_le hb2 hbw1.size) (hS.below hbw1 hb2) hbS).mono ?_; rintro e w2 ⟨rfl, hbw2⟩; rw [e2, e4]))
    go_ret
    exact ⟨ret_b HK.out.symm, hbw1.trans (hbw2.mono hbw1.size)⟩
end Go.Proofs.YtlmcblcijndipaaGreat
