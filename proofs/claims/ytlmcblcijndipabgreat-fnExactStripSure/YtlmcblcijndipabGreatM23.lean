/- Texts of the proof, one behind another: K1, P1. -/
import Derived.Test.YtlmcblcijndipabGreatM22
import Derived.Test.YtlmcblcijndipabGreatM15
import Derived.Test.YtlmcblcijndipabGreatM17e
namespace Go.Proofs.YtlmcblcijndipabGreat
open Go.RowKit
set_option linter.unusedVariables false
theorem own_any (m : Mv) (w : World) :
    Calls Tryz0.prog 118 #[.agg #[.string m.name, .bool m.lands, .int .i64 m.wake, .int .i64 m.est, .int .i64 m.late, .int .i64 m.prom]] w fun e w' => e = .returned (.int .i64 m.key) ∧ w' = w.alloc (.cells #[.string m.name, .bool m.lands, .int .i64 m.wake, .int .i64 m.est, .int .i64 m.late, .int .i64 m.prom] 48) := by
  by_cases h : 0 ≤ m.prom
  · go_enter Tryz0.func118, Tryz.ntmps118
    go_wp2
    go_ret
    exact ⟨ret_i (by unfold Mv.key; rw [if_pos h]), rfl⟩
  · go_enter Tryz0.func118, Tryz.ntmps118
    go_wp2
    go_ret
    exact ⟨ret_i (by unfold Mv.key; rw [if_neg (by omega)]), rfl⟩
theorem key_any (m : Mv) (w : World) :
    Calls Tryz0.prog 59 #[.agg #[.string m.name, .bool m.lands, .int .i64 m.wake, .int .i64 m.est, .int .i64 m.late, .int .i64 m.prom]] w fun e w' => e = .returned (.int .i64 m.key) ∧ Below w.heap.size w w' := by
  by_cases h : 0 ≤ m.prom
  · go_enter Tryz0.func59, Tryz.ntmps59
    go_wp2
    go_ret
    exact ⟨ret_i (by unfold Mv.key; rw [if_pos h]), (Below.refl _ _).alloc (Nat.le_refl _) _⟩
  · go_enter Tryz0.func59, Tryz.ntmps59
    go_wp2
    go_ret
    exact ⟨ret_i (by unfold Mv.key; rw [if_neg (by omega)]), (Below.refl _ _).alloc (Nat.le_refl _) _⟩
theorem cmpZ_any (a b : Int) (w : World) :
    Calls Tryz0.prog 88 #[.int .i64 a, .int .i64 b] w fun e w' => e = .returned (.int .i64 (cmpZ a b)) ∧ w' = w := by
  by_cases h : a < b
  · go_enter Tryz0.func88, Tryz.ntmps88
    go_wp2
    go_ret
    exact ⟨ret_i (by unfold cmpZ; rw [if_pos h]), rfl⟩
  · by_cases h' : b < a
    · go_enter Tryz0.func88, Tryz.ntmps88
      go_wp2
      go_ret
      exact ⟨ret_i (by unfold cmpZ; rw [if_neg (by omega), if_pos h']), rfl⟩
    · go_enter Tryz0.func88, Tryz.ntmps88
      go_wp2
      go_ret
      exact ⟨ret_i (by unfold cmpZ; rw [if_neg (by omega), if_neg (by omega)]), rfl⟩
theorem cmpS_any (a b : ByteArray) (w : World) :
    Calls Tryz0.prog 119 #[.string a, .string b] w fun e w' => e = .returned (.int .i64 (cmpS a b)) ∧ w' = w := by
  cases h : lessB a b with
  | true =>
    have HC0 : cmpS a b = -1 := by unfold cmpS; rw [if_pos h]
    have HC : Hid (cmpS a b = -1) := HC0
    clear HC0
    unfold lessB at h
    go_enter Tryz0.func119, Tryz.ntmps119
    go_wp2
    go_ret
    exact ⟨ret_i HC.out.symm, rfl⟩
  | false =>
    cases h' : sameB a b with
    | true =>
      have HC0 : cmpS a b = 0 := by unfold cmpS; rw [if_neg (by simp [h]), if_pos h']
      have HC : Hid (cmpS a b = 0) := HC0
      clear HC0
      unfold lessB at h
      unfold sameB at h'
      go_enter Tryz0.func119, Tryz.ntmps119
      go_wp2
      go_ret
      exact ⟨ret_i HC.out.symm, rfl⟩
    | false =>
      have HC0 : cmpS a b = 1 := by unfold cmpS; rw [if_neg (by simp [h]), if_neg (by simp [h'])]
      have HC : Hid (cmpS a b = 1) := HC0
      clear HC0
      unfold lessB at h
      unfold sameB at h'
      go_enter Tryz0.func119, Tryz.ntmps119
      go_wp2
      go_ret
      exact ⟨ret_i HC.out.symm, rfl⟩
def orAt (c : Nat → Int) (k : Nat) : Prop := ∀ i, i < k → c i = 0
set_option maxHeartbeats 400000 in
theorem or_any (b : Nat) (c : Nat → Int) (w : World) (hc : ∀ i, i < 3 → w.cell? ⟨b, i, none⟩ = some (.int .i64 (c i))) :
    Calls Tryz0.prog 87 #[.slice (some ⟨b, 0, none⟩) 3 3] w fun e w' => e = .returned (.int .i64 (orZ (c 0) (c 1) (c 2))) ∧ w' = w := by
  go_enter Tryz0.func87, Tryz.ntmps87
  go_wp2
  go_loop [8] (fun i => ∃ k : Nat, k ≤ 3 ∧ i = .int .i64 k ∧ orAt c k) (fun i => 3 - (intOf i).toNat)
  case atStart => exact ⟨0, Nat.zero_le _, rfl, fun i hi => absurd hi (Nat.not_lt_zero _)⟩
  case round =>
    obtain ⟨k, hk, rfl, hz⟩ := hrel
    by_cases hlt : k < 3
    · have hk0 := hc k hlt
      have hlt' : (k : Int) < 3 := by omega
      cases hne : (c k != 0) with
      | true =>
        have HO0 : orZ (c 0) (c 1) (c 2) = c k := by
          have hn : c k ≠ 0 := by simpa using hne
          unfold orZ
          by_cases e0 : k = 0
          · subst e0; rw [if_neg hn]
          · rw [if_pos (hz 0 (by omega))]
            by_cases e1 : k = 1
            · subst e1; rw [if_neg hn]
            · rw [if_pos (hz 1 (by omega))]
              obtain rfl : k = 2 := by omega
              rfl
        have HO : Hid (orZ (c 0) (c 1) (c 2) = c k) := HO0
        clear HO0
        go_wp2
        go_ret
        exact ⟨ret_i HO.out.symm, rfl⟩
      | false =>
        have HE0 : c k = 0 := by simpa using hne
        have HE : Hid (c k = 0) := HE0
        clear HE0
        go_wp2
        go_round
        case rel => exact ⟨k + 1, by omega, by go_num, fun i hi => by
          by_cases e : i = k
          · subst e; exact HE.out
          · exact hz i (by omega)⟩
        case measure => simp [intOf]; omega
    · have HO0 : orZ (c 0) (c 1) (c 2) = 0 := by
        unfold orZ
        rw [if_pos (hz 0 (by omega)), if_pos (hz 1 (by omega))]
        exact hz 2 (by omega)
      have HO : Hid (orZ (c 0) (c 1) (c 2) = 0) := HO0
      clear HO0
      go_wp2
      go_ret
      exact ⟨ret_i HO.out.symm, rfl⟩
theorem or3 (b : Nat) (x y z : Int) (w : World) (c0 : w.cell? ⟨b, 0, none⟩ = some (.int .i64 x)) (c1 : w.cell? ⟨b, 1, none⟩ = some (.int .i64 y)) (c2 : w.cell? ⟨b, 2, none⟩ = some (.int .i64 z)) :
    Calls Tryz0.prog 87 #[.slice (some ⟨b, 0, none⟩) 3 3] w fun e w' => e = .returned (.int .i64 (orZ x y z)) ∧ w' = w :=
  or_any b (fun i => if i = 0 then x else if i = 1 then y else z) w (fun i hi => by
    match i, hi with
    | 0, _ => simpa using c0
    | 1, _ => simpa using c1
    | 2, _ => simpa using c2)
end Go.Proofs.YtlmcblcijndipabGreat

namespace Go.Proofs.YtlmcblcijndipabGreat
open Go.RowKit
set_option linter.unusedVariables false
def cmpRow (g g' : Nat → Int) (n n' : Nat) : Nat → Nat → Int
  | 0, _ => if n < n' then -1 else 0
  | f + 1, k => if n' ≤ k then 1 else if cmpZ (g k) (g' k) = 0 then cmpRow g g' n n' f (k + 1) else cmpZ (g k) (g' k)
theorem cmpRow_any (a a' : Option Addr) (n n' cap cap' : Nat) (g g' : Nat → Int) (w : World) (hn : n ≤ 1048576) (hn' : n' ≤ 1048576) (h : LaidI w a n g) (h' : LaidI w a' n' g') :
    Calls Tryz0.prog 89 #[.slice a n cap, .slice a' n' cap'] w fun e w' => e = .returned (.int .i64 (cmpRow g g' n n' n 0)) ∧ w' = w := by
  go_enter Tryz0.func89, Tryz.ntmps89
  go_wp2
  go_loopw [11] (fun i w' => ∃ k : Nat, k ≤ n ∧ i = .int .i64 k ∧ w' = w ∧ cmpRow g g' n n' n 0 = cmpRow g g' n n' (n - k) k) (fun i _ => n - (intOf i).toNat)
  case atStart => exact ⟨0, Nat.zero_le _, rfl, rfl, rfl⟩
  case round =>
    obtain ⟨k, hk, rfl, rfl, hc⟩ := hrel
    by_cases hlt : k < n
    · obtain ⟨b, off, rfl, hrow⟩ := h.resolve_left (by omega)
      have hr := hrow k hlt
      have hlt' : (k : Int) < n := by omega
      have hf : n - k = (n - (k + 1)) + 1 := by omega
      rw [hf, cmpRow] at hc
      by_cases h2 : n' ≤ k
      · rw [if_pos h2] at hc
        have h2' : (n' : Int) ≤ k := by omega
        go_wp2
        go_ret
        exact ⟨ret_i (by first | exact hc.symm | rfl), rfl⟩
      · rw [if_neg h2] at hc
        obtain ⟨b', off', rfl, hrow'⟩ := h'.resolve_left (by omega)
        have hr' := hrow' k (by omega)
        have h2' : ¬ (n' : Int) ≤ k := by omega
        have h3' : (k : Int) < n' := by omega
        by_cases h4 : cmpZ (g k) (g' k) = 0
        · rw [if_pos h4] at hc
          go_wp2_with (go_at_call 88; refine (cmpZ_any _ _ _).mono ?_; rintro e w' ⟨rfl, rfl⟩)
          go_roundw
          case rel => exact ⟨k + 1, by omega, by go_num, (by first | rfl | trivial), hc⟩
          case measure => simp [intOf]; omega
        · rw [if_neg h4] at hc
          go_wp2_with (go_at_call 88; refine (cmpZ_any _ _ _).mono ?_; rintro e w' ⟨rfl, rfl⟩)
          go_ret
          exact ⟨ret_i (by first | exact hc.symm | rfl), rfl⟩
    · obtain rfl : k = n := by omega
      rw [Nat.sub_self, cmpRow] at hc
      by_cases h5 : k < n'
      · rw [if_pos h5] at hc
        have h5' : (k : Int) < n' := by omega
        go_wp2
        go_ret
        exact ⟨ret_i (by first | exact hc.symm | rfl), rfl⟩
      · rw [if_neg h5] at hc
        have h5' : ¬ (k : Int) < n' := by omega
        go_wp2
        go_ret
        exact ⟨ret_i (by first | exact hc.symm | rfl), rfl⟩
def orRow (g : Nat → Int) : Nat → Nat → Int
  | 0, _ => 0
  | f + 1, k => if g k = 0 then orRow g f (k + 1) else g k
end Go.Proofs.YtlmcblcijndipabGreat
