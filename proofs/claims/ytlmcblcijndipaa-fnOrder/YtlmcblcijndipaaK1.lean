/- When a move comes by itself; what comes behind what: the parts, walked. -/
import Derived.Test.YtlmcblcijndipaaWI
import Derived.Test.YtlmcblcijndipaaW5
import Derived.Test.YtlmcblcijndipaaW9
import Derived.Test.YtlmcblcijndipaaFirstP
namespace Go.Proofs.Ytlmcblcijndipaa
open Go.RowKit
set_option linter.unusedVariables false

theorem own_any (m : Mv) (w : World) :
    Calls Try.prog 62 #[.agg #[.string m.name, .bool m.lands, .int .i64 m.wake, .int .i64 m.est, .int .i64 m.late, .int .i64 m.prom]] w fun e w' => e = .returned (.int .i64 m.key) ∧ w' = w.alloc (.cells #[.string m.name, .bool m.lands, .int .i64 m.wake, .int .i64 m.est, .int .i64 m.late, .int .i64 m.prom] 38) := by
  by_cases h : 0 ≤ m.prom
  · go_enter Try.func62, Try.ntmps62
    go_wp2
    go_ret
    exact ⟨ret_i (by unfold Mv.key; rw [if_pos h]), rfl⟩
  · go_enter Try.func62, Try.ntmps62
    go_wp2
    go_ret
    exact ⟨ret_i (by unfold Mv.key; rw [if_neg (by omega)]), rfl⟩
theorem key_any (m : Mv) (w : World) :
    Calls Try.prog 38 #[.agg #[.string m.name, .bool m.lands, .int .i64 m.wake, .int .i64 m.est, .int .i64 m.late, .int .i64 m.prom]] w fun e w' => e = .returned (.int .i64 m.key) ∧ Below w.heap.size w w' := by
  by_cases h : 0 ≤ m.prom
  · go_enter Try.func38, Try.ntmps38
    go_wp2
    go_ret
    exact ⟨ret_i (by unfold Mv.key; rw [if_pos h]), (Below.refl _ _).alloc (Nat.le_refl _) _⟩
  · go_enter Try.func38, Try.ntmps38
    go_wp2
    go_ret
    exact ⟨ret_i (by unfold Mv.key; rw [if_neg (by omega)]), (Below.refl _ _).alloc (Nat.le_refl _) _⟩

theorem cmpZ_any (a b : Int) (w : World) :
    Calls Try.prog 61 #[.int .i64 a, .int .i64 b] w fun e w' => e = .returned (.int .i64 (cmpZ a b)) ∧ w' = w := by
  by_cases h : a < b
  · go_enter Try.func61, Try.ntmps61
    go_wp2
    go_ret
    exact ⟨ret_i (by unfold cmpZ; rw [if_pos h]), rfl⟩
  · by_cases h' : b < a
    · go_enter Try.func61, Try.ntmps61
      go_wp2
      go_ret
      exact ⟨ret_i (by unfold cmpZ; rw [if_neg (by omega), if_pos h']), rfl⟩
    · go_enter Try.func61, Try.ntmps61
      go_wp2
      go_ret
      exact ⟨ret_i (by unfold cmpZ; rw [if_neg (by omega), if_neg (by omega)]), rfl⟩

theorem cmpS_any (a b : ByteArray) (w : World) :
    Calls Try.prog 63 #[.string a, .string b] w fun e w' => e = .returned (.int .i64 (cmpS a b)) ∧ w' = w := by
  cases h : lessB a b with
  | true =>
    have HC0 : cmpS a b = -1 := by unfold cmpS; rw [if_pos h]
    have HC : Hid (cmpS a b = -1) := HC0
    clear HC0
    unfold lessB at h
    go_enter Try.func63, Try.ntmps63
    go_wp2
    go_ret
    exact ⟨ret_i HC.out.symm, rfl⟩
  | false =>
    cases h' : sameB a b with
    | true =>
      have HC0 : cmpS a b = 0 := by unfold cmpS; rw [if_neg (by simp [h]), if_pos h']
      have HC : Hid (cmpS a b = 0) := HC0
      clear HC0
      unfold lessB at h
      unfold sameB at h'
      go_enter Try.func63, Try.ntmps63
      go_wp2
      go_ret
      exact ⟨ret_i HC.out.symm, rfl⟩
    | false =>
      have HC0 : cmpS a b = 1 := by unfold cmpS; rw [if_neg (by simp [h]), if_neg (by simp [h'])]
      have HC : Hid (cmpS a b = 1) := HC0
      clear HC0
      unfold lessB at h
      unfold sameB at h'
      go_enter Try.func63, Try.ntmps63
      go_wp2
      go_ret
      exact ⟨ret_i HC.out.symm, rfl⟩

/-- the first that is not 0, from place k on -/
def orAt (c : Nat → Int) (k : Nat) : Prop := ∀ i, i < k → c i = 0
set_option maxHeartbeats 400000 in
theorem or_any (b : Nat) (c : Nat → Int) (w : World) (hc : ∀ i, i < 3 → w.cell? ⟨b, i, none⟩ = some (.int .i64 (c i))) :
    Calls Try.prog 60 #[.slice (some ⟨b, 0, none⟩) 3 3] w fun e w' => e = .returned (.int .i64 (orZ (c 0) (c 1) (c 2))) ∧ w' = w := by
  go_enter Try.func60, Try.ntmps60
  go_wp2
  go_loop [8] (fun i => ∃ k : Nat, k ≤ 3 ∧ i = .int .i64 k ∧ orAt c k) (fun i => 3 - (intOf i).toNat)
  case atStart => exact ⟨0, Nat.zero_le _, rfl, fun i hi => absurd hi (Nat.not_lt_zero _)⟩
  case round =>
    obtain ⟨k, hk, rfl, hz⟩ := hrel
    by_cases hlt : k < 3
    · have hk0 := hc k hlt
      have hlt' : (k : Int) < 3 := by omega
      cases hne : (c k != 0) with
      | true =>
        have HO0 : orZ (c 0) (c 1) (c 2) = c k := by
          have hn : c k ≠ 0 := by simpa using hne
          unfold orZ
          by_cases e0 : k = 0
          · subst e0; rw [if_neg hn]
          · rw [if_pos (hz 0 (by omega))]
            by_cases e1 : k = 1
            · subst e1; rw [if_neg hn]
            · rw [if_pos (hz 1 (by omega))]
              obtain rfl : k = 2 := by omega
              rfl
        have HO : Hid (orZ (c 0) (c 1) (c 2) = c k) := HO0
        clear HO0
        go_wp2
        go_ret
        exact ⟨ret_i HO.out.symm, rfl⟩
      | false =>
        have HE0 : c k = 0 := by simpa using hne
        have HE : Hid (c k = 0) := HE0
        clear HE0
        go_wp2
        go_round
        case rel => exact ⟨k + 1, by omega, by go_num, fun i hi => by
          by_cases e : i = k
          · subst e; exact HE.out
          · exact hz i (by omega)⟩
        case measure => simp [intOf]; omega
    · have HO0 : orZ (c 0) (c 1) (c 2) = 0 := by
        unfold orZ
        rw [if_pos (hz 0 (by omega)), if_pos (hz 1 (by omega))]
        exact hz 2 (by omega)
      have HO : Hid (orZ (c 0) (c 1) (c 2) = 0) := HO0
      clear HO0
      go_wp2
      go_ret
      exact ⟨ret_i HO.out.symm, rfl⟩
theorem or3 (b : Nat) (x y z : Int) (w : World) (c0 : w.cell? ⟨b, 0, none⟩ = some (.int .i64 x)) (c1 : w.cell? ⟨b, 1, none⟩ = some (.int .i64 y)) (c2 : w.cell? ⟨b, 2, none⟩ = some (.int .i64 z)) :
    Calls Try.prog 60 #[.slice (some ⟨b, 0, none⟩) 3 3] w fun e w' => e = .returned (.int .i64 (orZ x y z)) ∧ w' = w :=
  or_any b (fun i => if i = 0 then x else if i = 1 then y else z) w (fun i hi => by
    match i, hi with
    | 0, _ => simpa using c0
    | 1, _ => simpa using c1
    | 2, _ => simpa using c2)
end Go.Proofs.Ytlmcblcijndipaa
