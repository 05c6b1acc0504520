/- A move spoilt. -/
import Derived.Test.YtlmcblcijndipaaD4
namespace Go.Proofs.Ytlmcblcijndipaa
open Go.RowKit
set_option linter.unusedVariables false

set_option maxRecDepth 10000 in
set_option maxHeartbeats 4000000 in
theorem spoil_any (R : Nat) (p : Int) (m : Mv) (w : World) (n₀ : Nat) (h0 : n₀ ≤ R) (hr : Rd w R p) (hp : p ≤ 900000) (hg : Good m) :
    Calls Try.prog 52 #[.pointer (some ⟨R, 0, none⟩), .agg #[.string m.name, .bool m.lands, .int .i64 m.wake, .int .i64 m.est, .int .i64 m.late, .int .i64 m.prom]] w fun e w' => (∃ m' : Mv, e = .returned (.agg #[.string m'.name, .bool m'.lands, .int .i64 m'.wake, .int .i64 m'.est, .int .i64 m'.late, .int .i64 m'.prom]) ∧ Fitting m') ∧ Went R p 7 n₀ w w' := by
  have hR := hr.lt
  have hS0 : St R (w.heap.size + 1) w.heap.size n₀ w m p ((w.alloc (.cells #[.string m.name, .bool m.lands, .int .i64 m.wake, .int .i64 m.est, .int .i64 m.late, .int .i64 m.prom] 38)).alloc (.cells #[.string ByteArray.empty, .bool false, .int .i64 0, .int .i64 0, .int .i64 0, .int .i64 0] 38)) := by
    have bA : Below w.heap.size w (w.alloc (.cells #[.string m.name, .bool m.lands, .int .i64 m.wake, .int .i64 m.est, .int .i64 m.late, .int .i64 m.prom] 38)) := (Below.refl _ _).alloc (Nat.le_refl _) _
    have bB : Below w.heap.size w ((w.alloc (.cells #[.string m.name, .bool m.lands, .int .i64 m.wake, .int .i64 m.est, .int .i64 m.late, .int .i64 m.prom] 38)).alloc (.cells #[.string ByteArray.empty, .bool false, .int .i64 0, .int .i64 0, .int .i64 0, .int .i64 0] 38)) := bA.alloc (by simp) _
    have bC : ∀ o, Below (w.heap.size + 1) (w.alloc (.cells #[.string m.name, .bool m.lands, .int .i64 m.wake, .int .i64 m.est, .int .i64 m.late, .int .i64 m.prom] 38)) ((w.alloc (.cells #[.string m.name, .bool m.lands, .int .i64 m.wake, .int .i64 m.est, .int .i64 m.late, .int .i64 m.prom] 38)).alloc o) := fun o => (Below.refl _ _).alloc (by simp) _
    exact ⟨((bC _).block _ (by omega)).trans (heap_alloc_new _ _), ⟨⟨ByteArray.empty, false, 0, 0, 0, 0⟩, by have := heap_alloc_new (w.alloc (.cells #[.string m.name, .bool m.lands, .int .i64 m.wake, .int .i64 m.est, .int .i64 m.late, .int .i64 m.prom] 38)) (.cells #[.string ByteArray.empty, .bool false, .int .i64 0, .int .i64 0, .int .i64 0, .int .i64 0] 38); simpa [MvOwn] using this⟩, hr.below bB, fun k hk _ => bB.block k hk, bB.mono (by omega)⟩
  have H1 := pick_any R p 5 _ n₀ h0 hS0.rd (by omega) (by omega) (by omega)
  go_enter Try.func52, Try.ntmps52
  go_wp2_with (go_at_call 30; refine H1.mono ?_; clear H1; rintro e w1 ⟨⟨z1, rfl, l1, u1⟩, r1, t1, b1⟩; have hS1 := hS0.to hR (by omega) (by omega) r1 t1 b1)
  · have hS2 := hS1.alloc hR h0 (by omega) (by omega) (.cells #[.string ⟨#[]⟩, .string ⟨#[65]⟩, .string ⟨#[122, 122]⟩, .string ⟨#[97, 49]⟩] 9)
    have H2 := of_any R (p + 1) w1.heap.size fourN _ n₀ h0 hS2.rd (by omega) (by have := hS1.rd.lt; omega) (by simp) (four_at w1)
    go_wp2_with (go_at_call 69; refine H2.mono ?_; clear H2; rintro e w4 ⟨⟨k, hk, rfl⟩, r4, t4, b4⟩; have hS4 := hS2.to hR (by omega) (by omega) r4 t4 b4; obtain ⟨d0, d1, d2, d3, d4, d5⟩ := hS4.mv.at_; simp only [Nat.zero_add] at d0 d1 d2 d3 d4 d5; have fr := hS4.mv.frozen 0; obtain ⟨m0, hm0⟩ := hS4.res; obtain ⟨k0, k1, k2, k3, k4, k5⟩ := hm0.at_; simp only [Nat.zero_add] at k0 k1 k2 k3 k4 k5; have fr0 := hm0.frozen)
    have hf : Fitting { m with name := fourN k } := ⟨four_size k, hg.fitting.wake, hg.fitting.est, hg.fitting.late, hg.fitting.prom⟩
    have hS5 := hS4.turn hR h0 (by omega) (by omega) (by omega) 0 _ (hS4.mv.name (fourN k))
    obtain ⟨m1, hm1⟩ := hS5.res
    have q := setMv_at (w4.setCell ⟨w.heap.size, 0, none⟩ (.string (fourN k))) (w.heap.size + 1) 0 { m with name := fourN k } _ _ hm1 (by simp)
    obtain ⟨q0, q1, q2, q3, q4, q5⟩ := q
    simp only [Nat.zero_add] at q0 q1 q2 q3 q4 q5
    change bodyPost _ _ _ _ _ (setMv (w4.setCell ⟨w.heap.size, 0, none⟩ (.string (fourN k))) (w.heap.size + 1) 0 { m with name := fourN k })
    exact bodyPost_ret (v := .agg #[.string (fourN k), .bool m.lands, .int .i64 m.wake, .int .i64 m.est, .int .i64 m.late, .int .i64 m.prom]) (by simp [results, Try.results52, go_sem, q0, q1, q2, q3, q4, q5]) rfl ⟨⟨{ m with name := fourN k }, rfl, hf⟩, hS5.went h0 (by omega) (by omega) _ (by omega)⟩
  · have hS2 := hS1.alloc hR h0 (by omega) (by omega) (.cells #[.int .i64 0, .int .i64 3, .int .i64 4, .int .i64 (-9223372036854775808)] 3)
    have H2 := pick_any R (p + 1) 4 _ n₀ h0 hS2.rd (by omega) (by omega) (by omega)
    go_wp2_with (go_at_call 30; refine H2.mono ?_; clear H2; rintro e w4 ⟨⟨z, rfl, l4, u4⟩, r4, t4, b4⟩; have hS4 := hS2.to hR (by omega) (by omega) r4 t4 b4; obtain ⟨k, rfl⟩ : ∃ k : Nat, z = (k : Int) := ⟨z.toNat, (by omega)⟩; obtain ⟨v, hv, hvs⟩ := at4 0 3 4 (-9223372036854775808) k (by omega); obtain ⟨d0, d1, d2, d3, d4, d5⟩ := hS4.mv.at_; simp only [Nat.zero_add] at d0 d1 d2 d3 d4 d5; have fr := hS4.mv.frozen 2; obtain ⟨m0, hm0⟩ := hS4.res; obtain ⟨k0, k1, k2, k3, k4, k5⟩ := hm0.at_; simp only [Nat.zero_add] at k0 k1 k2 k3 k4 k5; have fr0 := hm0.frozen; have hcv : w4.cell? ⟨w1.heap.size, k, none⟩ = some (.int .i64 v) := (cell_but t4 (by simp) (by have := hS1.rd.lt; omega)).trans ((World.cell?_alloc_at _ _ _ _ rfl).trans hv))
    have hf : Fitting { m with wake := v } := ⟨hg.fitting.name, by simp only; omega, hg.fitting.est, hg.fitting.late, hg.fitting.prom⟩
    have hS5 := hS4.turn hR h0 (by omega) (by omega) (by omega) 2 _ (hS4.mv.wake v)
    obtain ⟨m1, hm1⟩ := hS5.res
    have q := setMv_at (w4.setCell ⟨w.heap.size, 2, none⟩ (.int .i64 v)) (w.heap.size + 1) 0 { m with wake := v } _ _ hm1 (by simp)
    obtain ⟨q0, q1, q2, q3, q4, q5⟩ := q
    simp only [Nat.zero_add] at q0 q1 q2 q3 q4 q5
    change bodyPost _ _ _ _ _ (setMv (w4.setCell ⟨w.heap.size, 2, none⟩ (.int .i64 v)) (w.heap.size + 1) 0 { m with wake := v })
    exact bodyPost_ret (v := .agg #[.string m.name, .bool m.lands, .int .i64 v, .int .i64 m.est, .int .i64 m.late, .int .i64 m.prom]) (by simp [results, Try.results52, go_sem, q0, q1, q2, q3, q4, q5]) rfl ⟨⟨{ m with wake := v }, rfl, hf⟩, hS5.went h0 (by omega) (by omega) _ (by omega)⟩
  · obtain ⟨c0, c1, c2, c3, c4, c5⟩ := hS1.mv.at_
    simp only [Nat.zero_add] at c0 c1 c2 c3 c4 c5
    have hS2 := hS1.drew
    have hwl : IntKind.i64.wrap (m.late + 1) = m.late + 1 := by have := hg.span; rw [IntKind.wrap_i64]; omega
    have n1 : w.heap.size ≠ w1.heap.size := Nat.ne_of_lt hS1.mv.lt
    have n2 := n1.symm
    have HP : ∀ W, St R (w.heap.size + 1) w.heap.size n₀ w m (p + 1) W → Calls Try.prog 30 #[.pointer (some ⟨R, 0, none⟩), .int .i64 3] W fun e w' => ∃ z : Nat, e = .returned (.int .i64 (z : Int)) ∧ z < 3 ∧ St R (w.heap.size + 1) w.heap.size n₀ w m (p + 1 + 1) w' ∧ But R W w' := fun W hW =>
      (pick_any R (p + 1) 3 W n₀ h0 hW.rd (by omega) (by omega) (by omega)).mono (fun e w' ⟨⟨z, h1, h2, h3⟩, h4, h5, h6⟩ => ⟨z.toNat, by rw [h1]; congr 2; omega, by omega, hW.to hR (by omega) (by omega) h4 h5 h6, h5⟩)
    go_region_with
      (first
        | (go_at_call 30; refine (HP _ hS2).mono ?_; clear HP; rintro e w4 ⟨k, rfl, hk, hS4, t4⟩; obtain ⟨v, hv, hvs⟩ := at3 (-1) m.late (m.late + 1) k hk; have hk1 : (k : Int) < 3 := (by omega); have hk2 : (0 : Int) ≤ (k : Int) := (by omega); obtain ⟨d0, d1, d2, d3, d4, d5⟩ := hS4.mv.at_; simp only [Nat.zero_add] at d0 d1 d2 d3 d4 d5; have fr := hS4.mv.frozen 3; have n4 := Nat.ne_of_lt hS4.mv.lt; have n5 := n4.symm; have cA : ∀ o, (w4.alloc o).cell? ⟨w.heap.size, 3, none⟩ = some (.int .i64 m.est) := fun o => (by have := (hS4.alloc hR h0 (by omega) (by omega) o).mv.at_.c3; simpa using this); have fA : ∀ o, (w4.alloc o).frozen? ⟨w.heap.size, 3, none⟩ = false := fun o => (hS4.alloc hR h0 (by omega) (by omega) o).mv.frozen 3; have cV : (w4.alloc (.cells #[.int .i64 (-1), .int .i64 m.late, .int .i64 (m.late + 1)] 3)).cell? ⟨w4.heap.size, k, none⟩ = some (.int .i64 v) := (World.cell?_alloc_at _ _ _ _ rfl).trans hv; have hvl : [Value.int .i64 (-1), Value.int .i64 m.late, Value.int .i64 (m.late + 1)][k]? = some (.int .i64 v) := (by simpa using hv))
        | (go_at_call 30; refine (HP _ (hS2.alloc hR h0 (by omega) (by omega) _)).mono ?_; clear HP; rintro e w4 ⟨k, rfl, hk, hS4, t4⟩; obtain ⟨v, hv, hvs⟩ := at3 (-1) m.late (m.late + 1) k hk; have hk1 : (k : Int) < 3 := (by omega); have hk2 : (0 : Int) ≤ (k : Int) := (by omega); obtain ⟨d0, d1, d2, d3, d4, d5⟩ := hS4.mv.at_; simp only [Nat.zero_add] at d0 d1 d2 d3 d4 d5; have fr := hS4.mv.frozen 3; have hcv : w4.cell? ⟨w1.heap.size, k, none⟩ = some (.int .i64 v) := (cell_but t4 (by simp) (by have := hS1.rd.lt; omega)).trans ((World.cell?_alloc_at _ _ _ _ rfl).trans hv)))
    all_goals have hf : Fitting { m with est := v } := ⟨hg.fitting.name, hg.fitting.wake, by have := hg.span; simp only; omega, hg.fitting.late, hg.fitting.prom⟩
    all_goals first
      | (have hS5 := hS4.turn hR h0 (by omega) (by omega) (by omega) 3 _ (hS4.mv.est v)
         revert hS5 hf
         generalize w4.setCell ⟨w.heap.size, 3, none⟩ (.int .i64 v) = W5
         generalize ({ m with est := v } : Mv) = m'
         intro hf hS5
         clear hcv)
      | (have hS5 := (hS4.alloc hR h0 (by omega) (by omega) (.cells #[.int .i64 (-1), .int .i64 m.late, .int .i64 (m.late + 1)] 3)).turn hR h0 (by omega) (by omega) (by omega) 3 _ ((hS4.alloc hR h0 (by omega) (by omega) (.cells #[.int .i64 (-1), .int .i64 m.late, .int .i64 (m.late + 1)] 3)).mv.est v)
         revert hS5 hf
         generalize (w4.alloc (.cells #[.int .i64 (-1), .int .i64 m.late, .int .i64 (m.late + 1)] 3)).setCell ⟨w.heap.size, 3, none⟩ (.int .i64 v) = W5
         generalize ({ m with est := v } : Mv) = m'
         intro hf hS5
         clear cA fA cV hvl n4 n5)
    all_goals
      clear hv hvs d0 d1 d2 d3 d4 d5 fr t4 hS4 hS2 hS1 c0 c1 c2 c3 c4 c5 n1 n2
      obtain ⟨d0, d1, d2, d3, d4, d5⟩ := hS5.mv.at_
      simp only [Nat.zero_add] at d0 d1 d2 d3 d4 d5
      obtain ⟨m0, hm0⟩ := hS5.res
      obtain ⟨k0, k1, k2, k3, k4, k5⟩ := hm0.at_
      simp only [Nat.zero_add] at k0 k1 k2 k3 k4 k5
      have fr := hm0.frozen
      go_wp2
      have q := setMv_at W5 (w.heap.size + 1) 0 m' _ _ hm0 (by simp)
      obtain ⟨q0, q1, q2, q3, q4, q5⟩ := q
      simp only [Nat.zero_add] at q0 q1 q2 q3 q4 q5
      change bodyPost _ _ _ _ _ (setMv W5 (w.heap.size + 1) 0 m')
      exact bodyPost_ret (v := .agg #[.string m'.name, .bool m'.lands, .int .i64 m'.wake, .int .i64 m'.est, .int .i64 m'.late, .int .i64 m'.prom]) (by simp [results, Try.results52, go_sem, q0, q1, q2, q3, q4, q5]) rfl ⟨⟨m', rfl, hf⟩, hS5.went h0 (by omega) (by omega) _ (by omega)⟩
  · obtain ⟨c0, c1, c2, c3, c4, c5⟩ := hS1.mv.at_
    simp only [Nat.zero_add] at c0 c1 c2 c3 c4 c5
    have hS2 := hS1.drew
    have n1 : w.heap.size ≠ w1.heap.size := Nat.ne_of_lt hS1.mv.lt
    have n2 := n1.symm
    have HP : ∀ W, St R (w.heap.size + 1) w.heap.size n₀ w m (p + 1) W → Calls Try.prog 30 #[.pointer (some ⟨R, 0, none⟩), .int .i64 3] W fun e w' => ∃ z : Nat, e = .returned (.int .i64 (z : Int)) ∧ z < 3 ∧ St R (w.heap.size + 1) w.heap.size n₀ w m (p + 1 + 1) w' ∧ But R W w' := fun W hW =>
      (pick_any R (p + 1) 3 W n₀ h0 hW.rd (by omega) (by omega) (by omega)).mono (fun e w' ⟨⟨z, h1, h2, h3⟩, h4, h5, h6⟩ => ⟨z.toNat, by rw [h1]; congr 2; omega, by omega, hW.to hR (by omega) (by omega) h4 h5 h6, h5⟩)
    go_region_with
      (first
        | (go_at_call 30; refine (HP _ hS2).mono ?_; clear HP; rintro e w4 ⟨k, rfl, hk, hS4, t4⟩; obtain ⟨v, hv, hvs⟩ := at3 10000 10001 m.est k hk; have hk1 : (k : Int) < 3 := (by omega); have hk2 : (0 : Int) ≤ (k : Int) := (by omega); obtain ⟨d0, d1, d2, d3, d4, d5⟩ := hS4.mv.at_; simp only [Nat.zero_add] at d0 d1 d2 d3 d4 d5; have fr := hS4.mv.frozen 4; have d34 : ∀ v, (w4.setCell ⟨w.heap.size, 4, none⟩ v).cell? ⟨w.heap.size, 3, none⟩ = some (.int .i64 m.est) := fun v => (World.cell?_setCell_other _ _ _ _ (by simp)).trans d3; have n4 := Nat.ne_of_lt hS4.mv.lt; have n5 := n4.symm; have cA : ∀ o, (w4.alloc o).cell? ⟨w.heap.size, 4, none⟩ = some (.int .i64 m.late) := fun o => (by have := (hS4.alloc hR h0 (by omega) (by omega) o).mv.at_.c4; simpa using this); have fA : ∀ o, (w4.alloc o).frozen? ⟨w.heap.size, 4, none⟩ = false := fun o => (hS4.alloc hR h0 (by omega) (by omega) o).mv.frozen 4; have dA : ∀ o v, ((w4.alloc o).setCell ⟨w.heap.size, 4, none⟩ v).cell? ⟨w.heap.size, 3, none⟩ = some (.int .i64 m.est) := fun o v => (World.cell?_setCell_other _ _ _ _ (by simp)).trans ((World.cell?_alloc_past _ _ _ hS4.mv.lt).trans d3); have cV : (w4.alloc (.cells #[.int .i64 10000, .int .i64 10001, .int .i64 m.est] 3)).cell? ⟨w4.heap.size, k, none⟩ = some (.int .i64 v) := (World.cell?_alloc_at _ _ _ _ rfl).trans hv; have hvl : [Value.int .i64 10000, Value.int .i64 10001, Value.int .i64 m.est][k]? = some (.int .i64 v) := (by simpa using hv))
        | (go_at_call 30; refine (HP _ (hS2.alloc hR h0 (by omega) (by omega) _)).mono ?_; clear HP; rintro e w4 ⟨k, rfl, hk, hS4, t4⟩; obtain ⟨v, hv, hvs⟩ := at3 10000 10001 m.est k hk; have hk1 : (k : Int) < 3 := (by omega); have hk2 : (0 : Int) ≤ (k : Int) := (by omega); obtain ⟨d0, d1, d2, d3, d4, d5⟩ := hS4.mv.at_; simp only [Nat.zero_add] at d0 d1 d2 d3 d4 d5; have fr := hS4.mv.frozen 4; have d34 : ∀ v, (w4.setCell ⟨w.heap.size, 4, none⟩ v).cell? ⟨w.heap.size, 3, none⟩ = some (.int .i64 m.est) := fun v => (World.cell?_setCell_other _ _ _ _ (by simp)).trans d3; have hcv : w4.cell? ⟨w1.heap.size, k, none⟩ = some (.int .i64 v) := (cell_but t4 (by simp) (by have := hS1.rd.lt; omega)).trans ((World.cell?_alloc_at _ _ _ _ rfl).trans hv)))
    all_goals have hf : Fitting { m with late := v } := ⟨hg.fitting.name, hg.fitting.wake, hg.fitting.est, by have := hg.span; simp only; omega, hg.fitting.prom⟩
    all_goals first
      | (have hS5 := hS4.turn hR h0 (by omega) (by omega) (by omega) 4 _ (hS4.mv.late v)
         revert hS5 hf
         generalize w4.setCell ⟨w.heap.size, 4, none⟩ (.int .i64 v) = W5
         generalize ({ m with late := v } : Mv) = m'
         intro hf hS5
         clear hcv)
      | (have hS5 := (hS4.alloc hR h0 (by omega) (by omega) (.cells #[.int .i64 10000, .int .i64 10001, .int .i64 m.est] 3)).turn hR h0 (by omega) (by omega) (by omega) 4 _ ((hS4.alloc hR h0 (by omega) (by omega) (.cells #[.int .i64 10000, .int .i64 10001, .int .i64 m.est] 3)).mv.late v)
         revert hS5 hf
         generalize (w4.alloc (.cells #[.int .i64 10000, .int .i64 10001, .int .i64 m.est] 3)).setCell ⟨w.heap.size, 4, none⟩ (.int .i64 v) = W5
         generalize ({ m with late := v } : Mv) = m'
         intro hf hS5
         clear cA fA dA cV hvl n4 n5)
    all_goals
      clear hv hvs d0 d1 d2 d3 d4 d5 fr d34 t4 hS4 hS2 hS1 c0 c1 c2 c3 c4 c5 n1 n2
      obtain ⟨d0, d1, d2, d3, d4, d5⟩ := hS5.mv.at_
      simp only [Nat.zero_add] at d0 d1 d2 d3 d4 d5
      obtain ⟨m0, hm0⟩ := hS5.res
      obtain ⟨k0, k1, k2, k3, k4, k5⟩ := hm0.at_
      simp only [Nat.zero_add] at k0 k1 k2 k3 k4 k5
      have fr := hm0.frozen
      go_wp2
      have q := setMv_at W5 (w.heap.size + 1) 0 m' _ _ hm0 (by simp)
      obtain ⟨q0, q1, q2, q3, q4, q5⟩ := q
      simp only [Nat.zero_add] at q0 q1 q2 q3 q4 q5
      change bodyPost _ _ _ _ _ (setMv W5 (w.heap.size + 1) 0 m')
      exact bodyPost_ret (v := .agg #[.string m'.name, .bool m'.lands, .int .i64 m'.wake, .int .i64 m'.est, .int .i64 m'.late, .int .i64 m'.prom]) (by simp [results, Try.results52, go_sem, q0, q1, q2, q3, q4, q5]) rfl ⟨⟨m', rfl, hf⟩, hS5.went h0 (by omega) (by omega) _ (by omega)⟩
  · obtain ⟨c0, c1, c2, c3, c4, c5⟩ := hS1.mv.at_
    simp only [Nat.zero_add] at c0 c1 c2 c3 c4 c5
    have hS2 := hS1.drew
    have hw1 : IntKind.i64.wrap (m.est - 1) = m.est - 1 := by have := hg.span; rw [IntKind.wrap_i64]; omega
    have hw2 : IntKind.i64.wrap (m.late + 1) = m.late + 1 := by have := hg.span; rw [IntKind.wrap_i64]; omega
    have n1 : w.heap.size ≠ w1.heap.size := Nat.ne_of_lt hS1.mv.lt
    have n2 := n1.symm
    have HP : ∀ W, St R (w.heap.size + 1) w.heap.size n₀ w m (p + 1) W → Calls Try.prog 30 #[.pointer (some ⟨R, 0, none⟩), .int .i64 5] W fun e w' => ∃ z : Nat, e = .returned (.int .i64 (z : Int)) ∧ z < 5 ∧ St R (w.heap.size + 1) w.heap.size n₀ w m (p + 1 + 1) w' ∧ But R W w' := fun W hW =>
      (pick_any R (p + 1) 5 W n₀ h0 hW.rd (by omega) (by omega) (by omega)).mono (fun e w' ⟨⟨z, h1, h2, h3⟩, h4, h5, h6⟩ => ⟨z.toNat, by rw [h1]; congr 2; omega, by omega, hW.to hR (by omega) (by omega) h4 h5 h6, h5⟩)
    refine wp_region_held_drew (S := fun w' => w'.cell? ⟨w.heap.size, 3, none⟩ = some (.int .i64 m.est) ∧ w'.cell? ⟨w.heap.size, 4, none⟩ = some (.int .i64 m.late)) (by kernel_rfl) ⟨c3, c4⟩ (fun hHeld => ?_)
    refine take_at (i := 0) (v := .pointer (some ⟨w.heap.size, 3, none⟩)) 7 rfl rfl (by kernel_rfl) (by kernel_rfl) (by kernel_rfl) (fun _ _ _ h => h) (Or.inl ⟨by rfl, fun w' hSw => by (obtain ⟨hs3, hs4⟩ := hSw; go_simp)⟩) hHeld ?_
    simp only [Act.put, List.setIfInBounds_toArray, List.set_cons_zero, List.set_cons_succ]
    refine take_at (i := 1) (v := .int .i64 m.est) 8 rfl rfl (by kernel_rfl) (by kernel_rfl) (by kernel_rfl) (fun _ _ _ h => h) (Or.inl ⟨by rfl, fun w' hSw => by (obtain ⟨hs3, hs4⟩ := hSw; go_simp)⟩) hHeld ?_
    simp only [Act.put, List.setIfInBounds_toArray, List.set_cons_zero, List.set_cons_succ]
    refine take_at (i := 2) (v := .int .i64 (m.est - 1)) 9 rfl rfl (by kernel_rfl) (by kernel_rfl) (by kernel_rfl) (fun _ _ _ h => h) (Or.inl ⟨by rfl, fun w' hSw => by (obtain ⟨hs3, hs4⟩ := hSw; go_simp)⟩) hHeld ?_
    simp only [Act.put, List.setIfInBounds_toArray, List.set_cons_zero, List.set_cons_succ]
    refine take_at (i := 3) (v := .pointer (some ⟨w.heap.size, 3, none⟩)) 10 rfl rfl (by kernel_rfl) (by kernel_rfl) (by kernel_rfl) (fun _ _ _ h => h) (Or.inl ⟨by rfl, fun w' hSw => by (obtain ⟨hs3, hs4⟩ := hSw; go_simp)⟩) hHeld ?_
    simp only [Act.put, List.setIfInBounds_toArray, List.set_cons_zero, List.set_cons_succ]
    refine take_at (i := 4) (v := .int .i64 m.est) 11 rfl rfl (by kernel_rfl) (by kernel_rfl) (by kernel_rfl) (fun _ _ _ h => h) (Or.inl ⟨by rfl, fun w' hSw => by (obtain ⟨hs3, hs4⟩ := hSw; go_simp)⟩) hHeld ?_
    simp only [Act.put, List.setIfInBounds_toArray, List.set_cons_zero, List.set_cons_succ]
    refine take_at (i := 5) (v := .pointer (some ⟨w.heap.size, 4, none⟩)) 12 rfl rfl (by kernel_rfl) (by kernel_rfl) (by kernel_rfl) (fun _ _ _ h => h) (Or.inl ⟨by rfl, fun w' hSw => by (obtain ⟨hs3, hs4⟩ := hSw; go_simp)⟩) hHeld ?_
    simp only [Act.put, List.setIfInBounds_toArray, List.set_cons_zero, List.set_cons_succ]
    refine take_at (i := 6) (v := .int .i64 m.late) 13 rfl rfl (by kernel_rfl) (by kernel_rfl) (by kernel_rfl) (fun _ _ _ h => h) (Or.inl ⟨by rfl, fun w' hSw => by (obtain ⟨hs3, hs4⟩ := hSw; go_simp)⟩) hHeld ?_
    simp only [Act.put, List.setIfInBounds_toArray, List.set_cons_zero, List.set_cons_succ]
    refine take_at (i := 7) (v := .pointer (some ⟨w.heap.size, 4, none⟩)) 14 rfl rfl (by kernel_rfl) (by kernel_rfl) (by kernel_rfl) (fun _ _ _ h => h) (Or.inl ⟨by rfl, fun w' hSw => by (obtain ⟨hs3, hs4⟩ := hSw; go_simp)⟩) hHeld ?_
    simp only [Act.put, List.setIfInBounds_toArray, List.set_cons_zero, List.set_cons_succ]
    refine take_at (i := 8) (v := .int .i64 m.late) 15 rfl rfl (by kernel_rfl) (by kernel_rfl) (by kernel_rfl) (fun _ _ _ h => h) (Or.inl ⟨by rfl, fun w' hSw => by (obtain ⟨hs3, hs4⟩ := hSw; go_simp)⟩) hHeld ?_
    simp only [Act.put, List.setIfInBounds_toArray, List.set_cons_zero, List.set_cons_succ]
    refine take_at (i := 9) (v := .int .i64 (m.late + 1)) 16 rfl rfl (by kernel_rfl) (by kernel_rfl) (by kernel_rfl) (fun _ _ _ h => h) (Or.inl ⟨by rfl, fun w' hSw => by (obtain ⟨hs3, hs4⟩ := hSw; go_simp)⟩) hHeld ?_
    simp only [Act.put, List.setIfInBounds_toArray, List.set_cons_zero, List.set_cons_succ]
    refine take_at (i := 11) (v := .pointer (some ⟨R, 0, none⟩)) 18 rfl rfl (by kernel_rfl) (by kernel_rfl) (by kernel_rfl) (fun _ _ _ h => h) (Or.inl ⟨by rfl, fun w' hSw => by (obtain ⟨hs3, hs4⟩ := hSw; go_simp)⟩) hHeld ?_
    simp only [Act.put, List.setIfInBounds_toArray, List.set_cons_zero, List.set_cons_succ]
    refine wpAnyH_ready (rs := [10, 12]) (by kernel_rfl) (by simp) ?_
    refine AllReadyH.cons rfl (fun K hK => ?_) (AllReadyH.cons rfl (fun K hK => ?_) AllReadyH.nil)
    · go_simp
      have hSA := (hS1.alloc hR h0 (by omega) (by omega) (.cells #[.int .i64 (-2), .int .i64 (m.est - 1), .int .i64 m.est, .int .i64 m.late, .int .i64 (m.late + 1)] 3)).drew
      obtain ⟨a0, a1, a2, a3, a4, a5⟩ := hSA.mv.at_
      simp only [Nat.zero_add] at a0 a1 a2 a3 a4 a5
      refine hK.out _ _ ⟨a3, a4⟩ (fun hHeld => ?_)
      clear hK K
      refine wpAnyH_ready (rs := [12]) (by kernel_rfl) (by simp) ?_
      refine AllReadyH.cons rfl (fun K hK => ?_) AllReadyH.nil
      go_simp
      go_at_call 30
      refine (HP _ hSA).mono ?_
      rintro e w4 ⟨k, rfl, hk, hS4, t4⟩
      obtain ⟨v, hv, hvs⟩ := at5 (-2) (m.est - 1) m.est m.late (m.late + 1) k hk
      have hk1 : (k : Int) < 5 := by omega
      have hk2 : (0 : Int) ≤ (k : Int) := by omega
      obtain ⟨d0, d1, d2, d3, d4, d5⟩ := hS4.mv.at_
      simp only [Nat.zero_add] at d0 d1 d2 d3 d4 d5
      have hcv : w4.cell? ⟨w1.heap.size, k, none⟩ = some (.int .i64 v) := (cell_but t4 (by simp) (by have := hS1.rd.lt; omega)).trans ((World.cell?_alloc_at _ _ _ _ rfl).trans hv)
      have fr5 := hS4.mv.frozen 5
      go_wp2_with fail
      refine hK.out _ _ ⟨d3, d4⟩ (fun hHeld => ?_)
      clear hK K
      refine wpAnyH_ready (rs := [13]) (by kernel_rfl) (by simp) ?_
      refine AllReadyH.cons rfl (fun K hK => ?_) AllReadyH.nil
      go_simp
      refine hK.out _ _ ⟨d3, d4⟩ (fun hHeld => ?_)
      clear hK K
      refine wpAnyH_ready (rs := [14]) (by kernel_rfl) (by simp) ?_
      refine AllReadyH.cons rfl (fun K hK => ?_) AllReadyH.nil
      go_simp
      refine hK.out _ _ ⟨d3, d4⟩ (fun hHeld => ?_)
      clear hK K
      refine wpAnyH_ready (rs := [15]) (by kernel_rfl) (by simp) ?_
      refine AllReadyH.cons rfl (fun K hK => ?_) AllReadyH.nil
      go_simp
      refine hK.out _ _ ⟨d3, d4⟩ (fun hHeld => ?_)
      clear hK K
      refine wpAnyH_ready (rs := [16]) (by kernel_rfl) (by simp) ?_
      refine AllReadyH.cons rfl (fun K hK => ?_) AllReadyH.nil
      go_simp
      have hS5 := hS4.turn hR h0 (by omega) (by omega) (by omega) 5 _ (hS4.mv.prom v)
      obtain ⟨b0, b1, b2, b3, b4, b5⟩ := hS5.mv.at_
      simp only [Nat.zero_add] at b0 b1 b2 b3 b4 b5
      refine hK.out _ _ ⟨b3, b4⟩ (fun hHeld => ?_)
      clear hK K
      have hf : Fitting { m with prom := v } := ⟨hg.fitting.name, hg.fitting.wake, hg.fitting.est, hg.fitting.late, by have := hg.span; simp only; omega⟩
      refine wpAnyH_done (by kernel_rfl) ?_ _
      revert hS5 hf
      generalize w4.setCell ⟨w.heap.size, 5, none⟩ (.int .i64 v) = W5
      generalize ({ m with prom := v } : Mv) = m'
      intro hS5 hf
      clear hv hvs d0 d1 d2 d3 d4 d5 b0 b1 b2 b3 b4 b5 a0 a1 a2 a3 a4 a5 fr5 hcv hHeld t4 hS4 hSA hS2 hS1 c0 c1 c2 c3 c4 c5 n1 n2 HP
      obtain ⟨d0, d1, d2, d3, d4, d5⟩ := hS5.mv.at_
      simp only [Nat.zero_add] at d0 d1 d2 d3 d4 d5
      obtain ⟨m0, hm0⟩ := hS5.res
      obtain ⟨k0, k1, k2, k3, k4, k5⟩ := hm0.at_
      simp only [Nat.zero_add] at k0 k1 k2 k3 k4 k5
      have fr := hm0.frozen
      go_wp2
      have q := setMv_at W5 (w.heap.size + 1) 0 m' _ _ hm0 (by simp)
      obtain ⟨q0, q1, q2, q3, q4, q5⟩ := q
      simp only [Nat.zero_add] at q0 q1 q2 q3 q4 q5
      change bodyPost _ _ _ _ _ (setMv W5 (w.heap.size + 1) 0 m')
      exact bodyPost_ret (v := .agg #[.string m'.name, .bool m'.lands, .int .i64 m'.wake, .int .i64 m'.est, .int .i64 m'.late, .int .i64 m'.prom]) (by simp [results, Try.results52, go_sem, q0, q1, q2, q3, q4, q5]) rfl ⟨⟨m', rfl, hf⟩, hS5.went h0 (by omega) (by omega) _ (by omega)⟩
    · go_simp
      go_at_call 30
      refine (HP _ hS2).mono ?_
      rintro e w4 ⟨k, rfl, hk, hS4, t4⟩
      obtain ⟨v, hv, hvs⟩ := at5 (-2) (m.est - 1) m.est m.late (m.late + 1) k hk
      have hk1 : (k : Int) < 5 := by omega
      have hk2 : (0 : Int) ≤ (k : Int) := by omega
      obtain ⟨d0, d1, d2, d3, d4, d5⟩ := hS4.mv.at_
      simp only [Nat.zero_add] at d0 d1 d2 d3 d4 d5
      go_wp2_with fail
      refine hK.out _ _ ⟨d3, d4⟩ (fun hHeld => ?_)
      clear hK K
      have hSB := hS4.alloc hR h0 (by omega) (by omega) (.cells #[.int .i64 (-2), .int .i64 (m.est - 1), .int .i64 m.est, .int .i64 m.late, .int .i64 (m.late + 1)] 3)
      obtain ⟨a0, a1, a2, a3, a4, a5⟩ := hSB.mv.at_
      simp only [Nat.zero_add] at a0 a1 a2 a3 a4 a5
      have n4 := Nat.ne_of_lt hS4.mv.lt
      have n5 := n4.symm
      have cV : (w4.alloc (.cells #[.int .i64 (-2), .int .i64 (m.est - 1), .int .i64 m.est, .int .i64 m.late, .int .i64 (m.late + 1)] 3)).cell? ⟨w4.heap.size, k, none⟩ = some (.int .i64 v) := (World.cell?_alloc_at _ _ _ _ rfl).trans hv
      have hvl : [Value.int .i64 (-2), Value.int .i64 (m.est - 1), Value.int .i64 m.est, Value.int .i64 m.late, Value.int .i64 (m.late + 1)][k]? = some (.int .i64 v) := by simpa using hv
      have fr5 := hSB.mv.frozen 5
      refine wpAnyH_ready (rs := [10]) (by kernel_rfl) (by simp) ?_
      refine AllReadyH.cons rfl (fun K hK => ?_) AllReadyH.nil
      go_simp
      refine hK.out _ _ ⟨a3, a4⟩ (fun hHeld => ?_)
      clear hK K
      refine wpAnyH_ready (rs := [13]) (by kernel_rfl) (by simp) ?_
      refine AllReadyH.cons rfl (fun K hK => ?_) AllReadyH.nil
      go_simp
      refine hK.out _ _ ⟨a3, a4⟩ (fun hHeld => ?_)
      clear hK K
      refine wpAnyH_ready (rs := [14]) (by kernel_rfl) (by simp) ?_
      refine AllReadyH.cons rfl (fun K hK => ?_) AllReadyH.nil
      go_simp
      refine hK.out _ _ ⟨a3, a4⟩ (fun hHeld => ?_)
      clear hK K
      refine wpAnyH_ready (rs := [15]) (by kernel_rfl) (by simp) ?_
      refine AllReadyH.cons rfl (fun K hK => ?_) AllReadyH.nil
      go_simp
      refine hK.out _ _ ⟨a3, a4⟩ (fun hHeld => ?_)
      clear hK K
      refine wpAnyH_ready (rs := [16]) (by kernel_rfl) (by simp) ?_
      refine AllReadyH.cons rfl (fun K hK => ?_) AllReadyH.nil
      go_simp
      have hS5 := hSB.turn hR h0 (by omega) (by omega) (by omega) 5 _ (hSB.mv.prom v)
      obtain ⟨b0, b1, b2, b3, b4, b5⟩ := hS5.mv.at_
      simp only [Nat.zero_add] at b0 b1 b2 b3 b4 b5
      refine hK.out _ _ ⟨b3, b4⟩ (fun hHeld => ?_)
      clear hK K
      have hf : Fitting { m with prom := v } := ⟨hg.fitting.name, hg.fitting.wake, hg.fitting.est, hg.fitting.late, by have := hg.span; simp only; omega⟩
      refine wpAnyH_done (by kernel_rfl) ?_ _
      revert hS5 hf
      generalize (w4.alloc (.cells #[.int .i64 (-2), .int .i64 (m.est - 1), .int .i64 m.est, .int .i64 m.late, .int .i64 (m.late + 1)] 3)).setCell ⟨w.heap.size, 5, none⟩ (.int .i64 v) = W5
      generalize ({ m with prom := v } : Mv) = m'
      intro hS5 hf
      clear hv hvs hvl cV n4 n5 d0 d1 d2 d3 d4 d5 b0 b1 b2 b3 b4 b5 a0 a1 a2 a3 a4 a5 fr5 hHeld t4 hS4 hSB hS2 hS1 c0 c1 c2 c3 c4 c5 n1 n2 HP
      obtain ⟨d0, d1, d2, d3, d4, d5⟩ := hS5.mv.at_
      simp only [Nat.zero_add] at d0 d1 d2 d3 d4 d5
      obtain ⟨m0, hm0⟩ := hS5.res
      obtain ⟨k0, k1, k2, k3, k4, k5⟩ := hm0.at_
      simp only [Nat.zero_add] at k0 k1 k2 k3 k4 k5
      have fr := hm0.frozen
      go_wp2
      have q := setMv_at W5 (w.heap.size + 1) 0 m' _ _ hm0 (by simp)
      obtain ⟨q0, q1, q2, q3, q4, q5⟩ := q
      simp only [Nat.zero_add] at q0 q1 q2 q3 q4 q5
      change bodyPost _ _ _ _ _ (setMv W5 (w.heap.size + 1) 0 m')
      exact bodyPost_ret (v := .agg #[.string m'.name, .bool m'.lands, .int .i64 m'.wake, .int .i64 m'.est, .int .i64 m'.late, .int .i64 m'.prom]) (by simp [results, Try.results52, go_sem, q0, q1, q2, q3, q4, q5]) rfl ⟨⟨m', rfl, hf⟩, hS5.went h0 (by omega) (by omega) _ (by omega)⟩
end Go.Proofs.Ytlmcblcijndipaa
