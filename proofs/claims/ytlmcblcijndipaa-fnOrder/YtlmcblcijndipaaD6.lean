/- Moves drawn, one perhaps spoilt. -/
import Derived.Test.YtlmcblcijndipaaD5
namespace Go.Proofs.Ytlmcblcijndipaa
open Go.RowKit
set_option linter.unusedVariables false

/-- the cells of a row of one's own can be written -/
theorem own_open {w : World} {base B n c : Nat} {T : TypeId} {size : Nat} {xs : List Value} (h : w.ownsRow base T size (.slice (some ⟨B, 0, none⟩) n c) n xs) :
    base ≤ B ∧ B < w.heap.size ∧ ∃ cur, w.heap[B]? = some (.cells cur T (0, 0)) ∧ xs.length ≤ cur.size := by
  obtain ⟨h1, h2 | ⟨g, cap, cur, h2, h3, h4, h5, h6, h7, h8⟩⟩ := h
  · exact absurd h2.1 (by simp)
  · simp at h2
    obtain ⟨rfl, rfl⟩ := h2
    refine ⟨h3, (Array.getElem?_eq_some_iff.1 h4).1, cur, h4, ?_⟩
    rw [h1, h7]
    exact Nat.mul_le_mul_right _ h5
/-- a move stored into a row -/
theorem row_set {w : World} {B n k : Nat} {f : Nat → Mv} {cur : Array Value} {T : TypeId} (h : MvRow w B 0 n f) (hg : w.heap[B]? = some (.cells cur T (0, 0))) (hs : n * 6 ≤ cur.size) (hk : k < n) (m : Mv) : MvRow (setMv w B (k * 6) m) B 0 n (fun j => if j = k then m else f j) := by
  intro i hi
  by_cases e : i = k
  · subst e
    simp only [if_true]
    rw [Nat.zero_add]
    exact setMv_at w B (i * 6) m cur T hg (by omega)
  · simp only [if_neg e]
    obtain ⟨c0, c1, c2, c3, c4, c5⟩ := h i hi
    have o : ∀ j, j < 6 → (setMv w B (k * 6) m).cell? ⟨B, 0 + i * 6 + j, none⟩ = w.cell? ⟨B, 0 + i * 6 + j, none⟩ := fun j hj => setMv_other w B (k * 6) m _ (by omega)
    exact ⟨(o 0 (by omega)).trans c0, (o 1 (by omega)).trans c1, (o 2 (by omega)).trans c2, (o 3 (by omega)).trans c3, (o 4 (by omega)).trans c4, (o 5 (by omega)).trans c5⟩

theorem but_setMv {R : Nat} {w W : World} (h : But R w W) {B : Nat} (hB : w.heap.size ≤ B) (o : Nat) (m : Mv) : But R w (setMv W B o m) :=
  ⟨by have := h.size; simpa [setMv] using this, fun k hk hne => (setMv_block W B o m k (by omega)).trans (h.block k hk hne)⟩
theorem fit_put {f : Nat → Mv} {n k : Nat} {m : Mv} (hg : ∀ j, j < n → Good (f j)) (hm : Fitting m) : ∀ j, j < n → Fitting ((fun j => if j = k then m else f j) j) := fun j hj => by
  by_cases e : j = k
  · simp only [if_pos e]; exact hm
  · simp only [if_neg e]; exact (hg j hj).fitting

set_option maxRecDepth 10000 in
set_option maxHeartbeats 4000000 in
theorem anyMoves_any (R : Nat) (p : Int) (w : World) (n₀ : Nat) (h0 : n₀ ≤ R) (hr : Rd w R p) (hp : p ≤ 700000) :
    Calls Try.prog 28 #[.pointer (some ⟨R, 0, none⟩), .int .i64 6] w fun e w' => (∃ (B c n : Nat) (f : Nat → Mv), e = .returned (.slice (some ⟨B, 0, none⟩) n c) ∧ n ≤ 6 ∧ w.heap.size ≤ B ∧ B < w'.heap.size ∧ MvRow w' B 0 n f ∧ ∀ j, j < n → Fitting (f j)) ∧ Went R p 110 n₀ w w' := by
  have hR := hr.lt
  have H1 := l6Moves_any R p w n₀ h0 hr (by omega)
  go_enter Try.func28, Try.ntmps28
  go_wp2_with (first
    | (go_at_call 51; refine H1.mono ?_; clear H1; rintro e w1 ⟨⟨B, c, n, f, rfl, hn, ho, hg⟩, ⟨q, hq0, hq1, r1⟩, t1, b1⟩; have H2 := pick_any R q 16 w1 n₀ h0 r1 (by omega) (by omega) (by omega))
    | (go_at_call 30; refine H2.mono ?_; clear H2; rintro e w2 ⟨⟨z2, rfl, l2, u2⟩, r2, t2, b2⟩; have ho2 := own_but ho hR t2 b2; have T2 := t1.trans t2; have B2 := b1.trans b2; have H3 := pick_any R (q + 1) n w2 n₀ h0 r2 (by omega) (by omega) (by omega))
    | (go_at_call 30; refine H3.mono ?_; clear H3; rintro e w3 ⟨⟨z3, rfl, l3, u3⟩, r3, t3, b3⟩; obtain ⟨k, rfl⟩ : ∃ k : Nat, z3 = (k : Int) := ⟨z3.toNat, (by omega)⟩; have hk : k < n := (by omega); have ho3 := own_but ho2 hR t3 b3; have T3 := T2.trans t3; have B3 := B2.trans b3; obtain ⟨c0, c1, c2, c3, c4, c5⟩ := own_row ho3 k hk; simp only [Nat.zero_add] at c0 c1 c2 c3 c4 c5; have H4 := spoil_any R (q + 1 + 1) (f k) w3 n₀ h0 r3 (by omega) (hg k hk))
    | (go_at_call 52; refine H4.mono ?_; clear H4; rintro e w4 ⟨⟨m', rfl, hf'⟩, ⟨q4, hq2, hq3, r4⟩, t4, b4⟩; have ho4 := own_but ho3 hR t4 b4; have T4 := T3.trans t4; have B4 := B3.trans b4; obtain ⟨hl4, hlt4, cur, hcur, hsz⟩ := own_open ho4; have row4 := own_row ho4; obtain ⟨d0, d1, d2, d3, d4, d5⟩ := row4 k hk; simp only [Nat.zero_add] at d0 d1 d2 d3 d4 d5; have fr := fun j => frozen_of_row w4 _ j _ _ hcur))
  · rw [mcells_len] at hsz
    go_ret
    exact ⟨⟨B, c, n, _, rfl, hn, hl4, by simpa using hlt4, row_set row4 hcur hsz hk m', fit_put hg hf'⟩, ⟨q4, by omega, by omega, r4.setMv (by omega) _ _⟩, but_setMv T4 hl4 _ _, setMv_below B4 (by omega) _ _⟩
  · obtain ⟨hl2, hlt2, _⟩ := own_open ho2
    go_ret
    exact ⟨⟨B, c, n, f, rfl, hn, hl2, hlt2, own_row ho2, fun j hj => (hg j hj).fitting⟩, ⟨q + 1, by omega, by omega, r2⟩, T2, B2⟩
  · obtain ⟨hl1, hlt1, _⟩ := own_open ho
    go_ret
    exact ⟨⟨B, c, n, f, rfl, hn, hl1, hlt1, own_row ho, fun j hj => (hg j hj).fitting⟩, ⟨q, by omega, by omega, r1⟩, t1, b1⟩
end Go.Proofs.Ytlmcblcijndipaa
