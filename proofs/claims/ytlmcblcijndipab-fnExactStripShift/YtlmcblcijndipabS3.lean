/- Both StripShift, walked. -/
import Derived.Test.YtlmcblcijndipabS2
namespace Go.Proofs.Ytlmcblcijndipab
open Go.RowKit
set_option linter.unusedVariables false

theorem says_len {a b : Nat → Int} {n m : Nat} (h : n ≠ m) : ShiftSays a n b m (-1) := by unfold ShiftSays; rw [if_neg (fun hh => h hh.1)]
theorem says_a {a b : Nat → Int} {n m : Nat} (h : ordB a n n = false) : ShiftSays a n b m (-1) := by unfold ShiftSays; rw [if_neg (fun hh => by rw [h] at hh; exact absurd hh.2.1 (by simp))]
theorem says_b {a b : Nat → Int} {n m : Nat} (h : ordB b n n = false) : ShiftSays a n b m (-1) := by unfold ShiftSays; rw [if_neg (fun hh => by rw [h] at hh; exact absurd hh.2.2 (by simp))]
theorem says_yes {a b : Nat → Int} {n : Nat} {r : Int} (ha : ordB a n n = true) (hb : ordB b n n = true) (h : IsShift a b n r) : ShiftSays a n b n r := by unfold ShiftSays; rw [if_pos ⟨rfl, ha, hb⟩]; exact h

set_option maxHeartbeats 1000000 in
theorem implShift_row (b off n cap b' off' m cap' : Nat) (g h : Nat → Int) (w : World) (hn : n ≤ 1048576) (hm : m ≤ 1048576) (hbs : b < w.heap.size) (hrow : IntRow w b off n g) (hbs' : b' < w.heap.size) (hrow' : IntRow w b' off' m h) :
    Calls Try.prog 23 #[.slice (some ⟨b, off, none⟩) n cap, .slice (some ⟨b', off', none⟩) m cap'] w fun e w' => (∃ r, e = .returned (.int .i64 r) ∧ ShiftSays g n h m r) ∧ Below w.heap.size w w' := by
  have H1 := implOk_row b off n cap n g w (by unfold maxLen; omega) hn hbs hrow
  cases ha : ordB g n n with
  | false =>
    rw [ha] at H1
    have HS : Hid (ShiftSays g n h m (-1)) := says_a ha
    go_enter Try.func23, Try.ntmps23
    go_wp2_with (go_at_call 45; refine H1.mono ?_; clear H1; rintro e w1 ⟨rfl, hb1⟩)
    go_ret
    exact ⟨⟨-1, rfl, HS.out⟩, hb1⟩
  | true =>
    rw [ha] at H1
    cases hb : ordB h m n with
    | false =>
      have HS0 : ShiftSays g n h m (-1) := by
        by_cases e : n = m
        · subst e; exact says_b hb
        · exact says_len e
      have HS : Hid (ShiftSays g n h m (-1)) := HS0
      have HB : Hid _ := hb
      clear HS0
      go_enter Try.func23, Try.ntmps23
      go_wp2_with (first | (go_at_call 45; refine H1.mono ?_; clear H1; rintro e w1 ⟨rfl, hb1⟩) | (go_at_call 45; refine (implOk_row _ _ _ _ n h _ (by unfold maxLen; omega) hn (Nat.lt_of_lt_of_le hbs' hb1.size) (hrow'.below hb1 hbs')).mono ?_; rintro e w2 ⟨rfl, hb2⟩))
      go_ret
      exact ⟨⟨-1, rfl, HS.out⟩, hb1.trans (hb2.mono hb1.size)⟩
    | true =>
      have e : n = m := by
        by_cases e : n = m
        · exact e
        · rw [ordB_len (fun h => e h.symm)] at hb; cases hb
      subst e
      have HA : Hid _ := ha
      have HB : Hid _ := hb
      go_enter Try.func23, Try.ntmps23
      go_wp2_with (first | (go_at_call 45; refine H1.mono ?_; clear H1; rintro e w1 ⟨rfl, hb1⟩) | (go_at_call 45; refine (implOk_row _ _ _ _ n h _ (by unfold maxLen; omega) hn (Nat.lt_of_lt_of_le hbs' hb1.size) (hrow'.below hb1 hbs')).mono ?_; rintro e w2 ⟨rfl, hb2⟩; have hB2 : Below w.heap.size w w2 := hb1.trans (hb2.mono hb1.size)) | (go_at_call 47; refine (shiftFrom_row _ _ _ _ _ _ _ g h _ hn (Nat.lt_of_lt_of_le hbs hB2.size) (hrow.below hB2 hbs) ((ordB_iff g n).mp HA.out) (Nat.lt_of_lt_of_le hbs' hB2.size) (hrow'.below hB2 hbs') ((ordB_iff h n).mp HB.out)).mono ?_; rintro e w3 ⟨⟨r, rfl, hr⟩, hb3⟩))
      go_ret
      exact ⟨⟨r, rfl, says_yes HA.out HB.out hr⟩, hB2.trans (hb3.mono hB2.size)⟩

set_option maxHeartbeats 2000000 in
theorem specShift_row (b off n cap b' off' m cap' : Nat) (g h : Nat → Int) (w : World) (hn : n ≤ 1048576) (hm : m ≤ 1048576) (hbs : b < w.heap.size) (hrow : IntRow w b off n g) (hbs' : b' < w.heap.size) (hrow' : IntRow w b' off' m h) :
    Calls Try.prog 22 #[.slice (some ⟨b, off, none⟩) n cap, .slice (some ⟨b', off', none⟩) m cap'] w fun e w' => (∃ r, e = .returned (.int .i64 r) ∧ ShiftSays g n h m r) ∧ Below w.heap.size w w' := by
  have H1 := specOk_row b off n cap m g w (by unfold maxLen; omega) (by unfold maxLen; omega) hbs hrow
  cases ha : ordB g n m with
  | false =>
    rw [ha] at H1
    have HS0 : ShiftSays g n h m (-1) := by
      by_cases e : n = m
      · subst e; exact says_a ha
      · exact says_len e
    have HS : Hid (ShiftSays g n h m (-1)) := HS0
    clear HS0
    go_enter Try.func22, Try.ntmps22
    go_wp2_with (go_at_call 42; refine H1.mono ?_; clear H1; rintro e w1 ⟨rfl, hb1⟩)
    go_ret
    exact ⟨⟨-1, rfl, HS.out⟩, hb1⟩
  | true =>
    rw [ha] at H1
    have e : n = m := by
      by_cases e : n = m
      · exact e
      · rw [ordB_len e] at ha; cases ha
    subst e
    cases hb : ordB h n n with
    | false =>
      have HS : Hid (ShiftSays g n h n (-1)) := says_b hb
      go_enter Try.func22, Try.ntmps22
      go_wp2_with (first | (go_at_call 42; refine H1.mono ?_; clear H1; rintro e w1 ⟨rfl, hb1⟩) | (go_at_call 42; refine (specOk_row _ _ _ _ n h _ (by unfold maxLen; omega) (by unfold maxLen; omega) (Nat.lt_of_lt_of_le hbs' hb1.size) (hrow'.below hb1 hbs')).mono ?_; rintro e w2 ⟨rfl, hb2⟩))
      go_ret
      exact ⟨⟨-1, rfl, HS.out⟩, hb1.trans (hb2.mono hb1.size)⟩
    | true =>
      have HA : Hid _ := ha
      have HB : Hid _ := hb
      go_enter Try.func22, Try.ntmps22
      go_wp2_with (first | (go_at_call 42; refine H1.mono ?_; clear H1; rintro e w1 ⟨rfl, hb1⟩) | (go_at_call 42; refine (specOk_row _ _ _ _ n h _ (by unfold maxLen; omega) (by unfold maxLen; omega) (Nat.lt_of_lt_of_le hbs' hb1.size) (hrow'.below hb1 hbs')).mono ?_; rintro e w2 ⟨rfl, hb2⟩; have hB2 : Below w.heap.size w w2 := hb1.trans (hb2.mono hb1.size)))
      clear ha hb
      go_loopw [5, 6] (fun z i w' => ∃ (k : Nat) (r : Int), k ≤ n ∧ i = .int .i64 k ∧ z = .int .i64 r ∧ ShTo g h n (fun i q => i < k) r ∧ Below w.heap.size w w') (fun _ i _ => n - (intOf i).toNat)
      case atStart => exact ⟨0, 0, Nat.zero_le _, rfl, rfl, ShTo.none (fun i k h => absurd h (Nat.not_lt_zero _)), hB2⟩
      case round =>
        obtain ⟨k, r, hk, rfl, rfl, hsh, hB⟩ := hrel
        by_cases hlt : k < n
        · have hlt' : (k : Int) < n := by omega
          go_wp2
          go_loopw [5, 7] (fun z i w' => ∃ (q : Nat) (r : Int), q ≤ n ∧ i = .int .i64 q ∧ z = .int .i64 r ∧ ShTo g h n (fun i y => i < k ∨ i = k ∧ y < q) r ∧ Below w.heap.size w w') (fun _ i _ => n - (intOf i).toNat)
          case atStart => exact ⟨0, r, Nat.zero_le _, rfl, rfl, hsh.mono (fun i y _ _ _ h => by omega), hB⟩
          case round =>
            clear hsh hB
            obtain ⟨q, r, hq, rfl, rfl, hsh, hB⟩ := hrel
            by_cases hlq : q < n
            · have hlq' : (q : Int) < n := by omega
              have hrl := hsh.low
              have hrh := hsh.high
              have hcg := (hrow.below hB hbs) k hlt
              have hch := (hrow'.below hB hbs') q hlq
              cases he : (g k == h q) with
              | false =>
                have HE : Hid (∀ x y : Nat, x < n → y < n → g x = h y → (x < k ∨ x = k ∧ y < q + 1) → x < k ∨ x = k ∧ y < q) := by
                  have h0 : ∀ x y : Nat, x < n → y < n → g x = h y → (x < k ∨ x = k ∧ y < q + 1) → x < k ∨ x = k ∧ y < q := by
                    intro x y _ _ hxy hc
                    by_cases e : x = k ∧ y = q
                    · obtain ⟨rfl, rfl⟩ := e; rw [hxy] at he; simp at he
                    · omega
                  exact h0
                have hne := later_some wr
                have c0 := fun x : Later wr => x.cell hcg
                have c1 := fun x : Later wr => x.cell hch
                go_wp2
                refine wp_region_later (by kernel_rfl) (by kernel_rfl) ?_
                repeat (go_big_quiet_step (fail))
                refine wpQuiet_nil (later_all ?_)
                intro w3 hb3
                have hne2 := later_some w3
                have d0 := fun x : Later w3 => x.cell ((hb3.cell (p := ⟨b, off + k, none⟩) (block_lt_of_cell hcg)).trans hcg)
                have d1 := fun x : Later w3 => x.cell ((hb3.cell (p := ⟨b', off' + q, none⟩) (block_lt_of_cell hch)).trans hch)
                go_wp2
                refine wp_region_later (by kernel_rfl) (by kernel_rfl) ?_
                repeat (go_big_quiet_step (fail))
                refine wpQuiet_nil (later_all ?_)
                intro w4 hb4
                go_wp2
                go_roundw
                case rel => exact ⟨q + 1, r, by omega, by go_num, rfl, hsh.mono HE.out, hB.trans ((hb3.trans (hb4.mono hb3.size)).mono hB.size)⟩
                case measure => simp [intOf]; omega
              | true =>
                have HX0 : g k = h q := by simpa using he
                have HX : Hid _ := HX0
                have HQ : Hid (∀ x y : Nat, x < n → y < n → g x = h y → (x < k ∨ x = k ∧ y < q + 1) → (x < k ∨ x = k ∧ y < q) ∨ x = k ∧ y = q) := by
                  have h0 : ∀ x y : Nat, x < n → y < n → g x = h y → (x < k ∨ x = k ∧ y < q + 1) → (x < k ∨ x = k ∧ y < q) ∨ x = k ∧ y = q := by
                    intro x y _ _ _ hc
                    omega
                  exact h0
                clear HX0
                have hne := later_some wr
                have c0 := fun x : Later wr => x.cell hcg
                have c1 := fun x : Later wr => x.cell hch
                by_cases h1 : r < (k : Int) - q
                · have h2 : ¬ (k : Int) - q < (q : Int) - k := by omega
                  go_wp2
                  refine wp_region_later (by kernel_rfl) (by kernel_rfl) ?_
                  repeat (go_big_quiet_step (fail))
                  refine wpQuiet_nil (later_all ?_)
                  intro w3 hb3
                  have hne2 := later_some w3
                  have d0 := fun x : Later w3 => x.cell ((hb3.cell (p := ⟨b, off + k, none⟩) (block_lt_of_cell hcg)).trans hcg)
                  have d1 := fun x : Later w3 => x.cell ((hb3.cell (p := ⟨b', off' + q, none⟩) (block_lt_of_cell hch)).trans hch)
                  go_wp2
                  refine wp_region_later (by kernel_rfl) (by kernel_rfl) ?_
                  repeat (go_big_quiet_step (fail))
                  refine wpQuiet_nil (later_all ?_)
                  intro w4 hb4
                  go_wp2
                  go_roundw
                  case rel => exact ⟨q + 1, (k : Int) - q, by omega, by go_num, by first | rfl | go_num, hsh.more hlt hlq HX.out HQ.out (by omega) (by omega) (by omega) (by omega), hB.trans ((hb3.trans (hb4.mono hb3.size)).mono hB.size)⟩
                  case measure => simp [intOf]; omega
                · by_cases h2 : r < (q : Int) - k
                  all_goals
                    go_wp2
                    refine wp_region_later (by kernel_rfl) (by kernel_rfl) ?_
                    repeat (go_big_quiet_step (fail))
                    refine wpQuiet_nil (later_all ?_)
                    intro w3 hb3
                    have hne2 := later_some w3
                    have d0 := fun x : Later w3 => x.cell ((hb3.cell (p := ⟨b, off + k, none⟩) (block_lt_of_cell hcg)).trans hcg)
                    have d1 := fun x : Later w3 => x.cell ((hb3.cell (p := ⟨b', off' + q, none⟩) (block_lt_of_cell hch)).trans hch)
                    go_wp2
                    refine wp_region_later (by kernel_rfl) (by kernel_rfl) ?_
                    repeat (go_big_quiet_step (fail))
                    refine wpQuiet_nil (later_all ?_)
                    intro w4 hb4
                    go_wp2
                    go_roundw
                    case rel => first
                      | exact ⟨q + 1, (q : Int) - k, by omega, by go_num, by first | rfl | go_num, hsh.more hlt hlq HX.out HQ.out (by omega) (by omega) (by omega) (by omega), hB.trans ((hb3.trans (hb4.mono hb3.size)).mono hB.size)⟩
                      | exact ⟨q + 1, r, by omega, by go_num, by first | rfl | go_num, hsh.more hlt hlq HX.out HQ.out (by omega) (by omega) (by omega) (by omega), hB.trans ((hb3.trans (hb4.mono hb3.size)).mono hB.size)⟩
                    case measure => simp [intOf]; omega
            · go_wp2
              go_roundw
              case rel => exact ⟨k + 1, r, by omega, by go_num, rfl, hsh.mono (fun i y _ hy _ h => by omega), hB⟩
              case measure => simp [intOf]; omega
        · go_wp2
          go_ret
          exact ⟨⟨r, rfl, says_yes HA.out HB.out (hsh.all (fun i y hi _ _ => by omega))⟩, hB⟩
end Go.Proofs.Ytlmcblcijndipab
