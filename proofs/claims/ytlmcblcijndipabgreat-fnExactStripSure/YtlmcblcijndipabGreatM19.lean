/- Texts of the proof, one behind another: F2. -/
import Derived.Test.YtlmcblcijndipabGreatM16c
import Derived.Test.YtlmcblcijndipabGreatM15
namespace Go.Proofs.YtlmcblcijndipabGreat
open Go.RowKit Go.Shelf
attribute [local go_sem] Oper.semAt_some
abbrev Two (n : Nat) := { p : Nat × Nat // p.1 < p.2 ∧ p.2 < n }
abbrev Two.vals {n : Nat} (x : Two n) : Array Value := #[.int .i64 (x.1.1 : Int), .int .i64 (x.1.2 : Int)]
def AllTwo (n : Nat) (xs : List (Two n)) : Prop := ∀ i j (h : i < j ∧ j < n), (⟨(i, j), h⟩ : Two n) ∈ xs
theorem pairs_any (n : Int) (w : World) :
    Calls Tryz0.prog 101 #[.int .i64 n] w fun e w' => e = .returned (.func (.func 121) #[] #[.pointer (some ⟨w.heap.size, 0, none⟩)]) ∧ w' = w.alloc (.cells #[.int .i64 n] 3) := by
  go_enter Tryz0.func101, Tryz.ntmps101
  go_wp2
  go_ret
  exact ⟨rfl, rfl⟩
set_option maxHeartbeats 1000000 in
theorem pairs_stops (m : Nat) (Bn n₀ n : Nat) (w : World) (hn : n ≤ 1048576) (hBn : Bn < n₀) (hn₀ : n₀ ≤ w.heap.size) (hc : w.cell? ⟨Bn, 0, none⟩ = some (.int .i64 (n : Int))) :
    SeqStopsK Fence.wide m Tryz0.prog 121 #[.pointer (some ⟨Bn, 0, none⟩)] (Two.vals (n := n)) (Below n₀) (AllTwo n) (fun _ => True) (n * n) w := fun l J Jx W hW _ _ hY h0 => by
  have hcW : W.cell? ⟨Bn, 0, none⟩ = some (.int .i64 (n : Int)) := (hW.cell (p := ⟨Bn, 0, none⟩) (by simp; omega)).trans hc
  refine callsIn_of_wp Tryz0.func121 rfl trivial ?_ rfl
  simp only [Tryz.ntmps121, List.size_toArray, List.length_cons, List.length_nil, Nat.reduceAdd, Nat.reduceSub, Array.replicate_succ, Array.replicate_zero, List.push_toArray, List.append_toArray, List.nil_append, List.cons_append]
  gi_wp2
  gi_loopw [6] (fun i wr => ∃ (k : Nat) (pre : List (Two n)), k ≤ n ∧ i = .int .i64 k ∧ pre.length ≤ k * n ∧ (∀ i j (h : i < j ∧ j < n), i < k → (⟨(i, j), h⟩ : Two n) ∈ pre) ∧ wr.cell? ⟨Bn, 0, none⟩ = some (.int .i64 (n : Int)) ∧ J pre wr)
    (fun i _ => n - (intOf i).toNat)
  case atStart => exact ⟨0, [], Nat.zero_le _, rfl, by simp, fun i j h hi => absurd hi (Nat.not_lt_zero _), hcW, h0⟩
  case round =>
    clear hcW h0
    obtain ⟨k, pre, hk, rfl, hlen, hall, hcr, hJ⟩ := hrel
    by_cases hlt : k < n
    · gi_wp2
      gi_loopw [4] (fun i wr => ∃ (q : Nat) (pre : List (Two n)), k < q ∧ q ≤ n ∧ i = .int .i64 q ∧ pre.length ≤ k * n + q ∧ (∀ i j (h : i < j ∧ j < n), (i < k ∨ i = k ∧ j < q) → (⟨(i, j), h⟩ : Two n) ∈ pre) ∧ wr.cell? ⟨Bn, 0, none⟩ = some (.int .i64 (n : Int)) ∧ J pre wr)
        (fun i _ => n - (intOf i).toNat)
      case atStart => exact ⟨k + 1, pre, by omega, by omega, by go_num, by omega, fun i j h hi => hall i j h (by omega), hcr, hJ⟩
      case round =>
        clear hlen hall hcr hJ
        obtain ⟨q, pre, hkq, hq, rfl, hlen, hall, hcr, hJ⟩ := hrel
        by_cases hlq : q < n
        · have hN : pre.length < n * n := by
            have h1 : (k + 1) * n ≤ n * n := Nat.mul_le_mul_right n hlt
            have h2 : (k + 1) * n = k * n + n := Nat.succ_mul k n
            omega
          obtain ⟨fn, tmps, assign, body, hy, hR⟩ := hY pre ⟨(k, q), hkq, hlq⟩ wr hJ hN
          dsimp only [Two.vals] at hy
          gi_wp2
          refine ⟨fun h => (by simp [Fence.wide] at h), hR.mono ?_⟩
          rintro e W3 (⟨rfl, hJ3, hk3⟩ | ⟨rfl, hJx3⟩)
          · have hc3 : W3.cell? ⟨Bn, 0, none⟩ = some (.int .i64 (n : Int)) := (hk3.cell (p := ⟨Bn, 0, none⟩) hBn).trans hcr
            gi_wp2
            go_roundw
            case rel => exact ⟨q + 1, pre ++ [⟨(k, q), hkq, hlq⟩], by omega, by omega, by go_num, by simp; omega, fun i j h hi => by
              by_cases e : i = k ∧ j = q
              · obtain ⟨rfl, rfl⟩ := e; exact List.mem_append_right _ (by simp)
              · exact List.mem_append_left _ (hall i j h (by omega)), hc3, hJ3⟩
            case measure => simp [intOf]; omega
          · gi_wp2
            refine bodyPost_ret (results_none rfl _ _ _) rfl ?_
            exact ⟨⟨_, rfl⟩, .inr ⟨_, trivial, hJx3⟩⟩
        · gi_wp2
          go_roundw
          case rel => exact ⟨k + 1, pre, by omega, by go_num, by have h2 : (k + 1) * n = k * n + n := Nat.succ_mul k n
                                                                 omega, fun i j h hi => hall i j h (by omega), hcr, hJ⟩
          case measure => simp [intOf]; omega
    · gi_wp2
      go_end0
      exact ⟨⟨_, rfl⟩, .inl ⟨pre, fun i j h => hall i j h (by omega), hJ⟩⟩
end Go.Proofs.YtlmcblcijndipabGreat
