/- The reader opened; a move drawn. -/
import Derived.Test.YtlmcblcijndipaaD1
import Derived.Deep.RegionHeld3
namespace Go.Proofs.Ytlmcblcijndipaa
open Go.RowKit
set_option linter.unusedVariables false

theorem Rd.drew {w : World} {R : Nat} {p : Int} (hr : Rd w R p) : Rd w.drew R p := by
  obtain ⟨⟨a, n, cap, c, hR, hn, hrow, hc⟩, hp0⟩ := hr
  refine ⟨⟨a, n, cap, c, hR, hn, ?_, hc⟩, hp0⟩
  rcases hrow with h | ⟨b, off, rfl, hbR, hrow⟩
  · exact .inl h
  · exact .inr ⟨b, off, rfl, hbR, fun i hi => hrow i hi⟩
/-- a code that came in -/
def IsCode (w : World) (a : Option Addr) (n : Nat) (c : Nat → Int) : Prop := n ≤ maxLen ∧ (n = 0 ∨ ∃ b off, a = some ⟨b, off, none⟩ ∧ b < w.heap.size ∧ ByteRow w b off n c) ∧ ∀ i, i < n → 0 ≤ c i ∧ c i ≤ 255

theorem open_any (a : Option Addr) (n cap : Nat) (c : Nat → Int) (w : World) (h : IsCode w a n c) (hcap : n ≤ cap) :
    Calls Try.prog 27 #[.slice a n cap] w fun e w' => e = .returned (.pointer (some ⟨w.heap.size, 0, none⟩)) ∧ Rd w' w.heap.size 0 ∧ Below w.heap.size w w' := by
  obtain ⟨hn, hrow, hc⟩ := h
  unfold maxLen at hn
  have hB : ∀ o, Below w.heap.size w (w.alloc o) := fun o => (Below.refl _ _).alloc (Nat.le_refl _) _
  by_cases hl : n ≤ 2000
  · go_enter Try.func27, Try.ntmps27
    go_wp2
    go_ret
    refine ⟨rfl, ⟨⟨a, n, cap, c, heap_alloc_new _ _, hl, ?_, hc⟩, Int.le_refl _⟩, hB _⟩
    rcases hrow with h | ⟨b, off, rfl, hb, hrow⟩
    · exact .inl h
    · exact .inr ⟨b, off, rfl, hb, fun i hi => ((hB _).cell (p := ⟨b, off + i, none⟩) hb).trans (hrow i hi)⟩
  · obtain ⟨b, off, rfl, hb, hbr⟩ : ∃ b off, a = some ⟨b, off, none⟩ ∧ b < w.heap.size ∧ ByteRow w b off n c := by rcases hrow with h | h; omega; exact h
    have h2 : (2000 : Int) ≤ cap := by omega
    go_enter Try.func27, Try.ntmps27
    go_wp2
    go_ret
    exact ⟨rfl, ⟨⟨some ⟨b, off, none⟩, 2000, cap, c, heap_alloc_new _ _, Nat.le_refl _, .inr ⟨b, off, rfl, hb, fun i hi => ((hB _).cell (p := ⟨b, off + i, none⟩) hb).trans (hbr i (by omega))⟩, fun i hi => hc i (by omega)⟩, Int.le_refl _⟩, hB _⟩

/-- what a drawn move keeps to -/
structure Drawn (m : Mv) (s : ByteArray) : Prop where
  name : m.name = s
  wake : 1 ≤ m.wake ∧ m.wake ≤ 3
  span : 0 ≤ m.est ∧ m.est ≤ m.late ∧ m.late ≤ 10000
  prom : m.prom = -1
/-- the reader went on, nothing else turned -/
structure Went (R : Nat) (p : Int) (k : Int) (n₀ : Nat) (w w' : World) : Prop where
  rd : ∃ q, p ≤ q ∧ q ≤ p + k ∧ Rd w' R q
  but : But R w w'
  below : Below n₀ w w'

/-- a move in a block of one's own -/
def MvOwn (w : World) (b : Nat) (m : Mv) : Prop := w.heap[b]? = some (.cells #[.string m.name, .bool m.lands, .int .i64 m.wake, .int .i64 m.est, .int .i64 m.late, .int .i64 m.prom] 38 (0, 0))
theorem MvOwn.at_ {w : World} {b : Nat} {m : Mv} (h : MvOwn w b m) : MvAt w b 0 m := by
  constructor <;> (rw [cell_of_row _ _ _ _ _ _ h]; rfl)
theorem MvOwn.frozen {w : World} {b : Nat} {m : Mv} (h : MvOwn w b m) (j : Nat) : w.frozen? ⟨b, j, none⟩ = false := frozen_of_row w _ j _ _ h
theorem Rd.set {w : World} {R B : Nat} {p : Int} (hr : Rd w R p) (h : R < B) (o : Nat) (v : Value) : Rd (w.setCell ⟨B, o, none⟩ v) R p := by
  obtain ⟨⟨a, n, cap, c, hR, hn, hrow, hc⟩, hp0⟩ := hr
  refine ⟨⟨a, n, cap, c, (Below.heap_setCell w _ v R (by simp; omega)).trans hR, hn, ?_, hc⟩, hp0⟩
  rcases hrow with h' | ⟨b, off, rfl, hbR, hrow⟩
  · exact .inl h'
  · exact .inr ⟨b, off, rfl, hbR, fun i hi => by rw [World.cell?_setCell_other _ _ _ _ (by simp <;> omega)]; exact hrow i hi⟩

/-- where a move is being made: the move in its block, room for the answer, the reader, and nothing else turned -/
structure St (R Br Bm : Nat) (n₀ : Nat) (w : World) (m : Mv) (q : Int) (W : World) : Prop where
  mv : MvOwn W Bm m
  res : ∃ m0, MvOwn W Br m0
  rd : Rd W R q
  but : ∀ k, k < w.heap.size → k ≠ R → W.heap[k]? = w.heap[k]?
  below : Below n₀ w W
theorem St.drew {R Br Bm n₀ : Nat} {w W : World} {m : Mv} {q : Int} (h : St R Br Bm n₀ w m q W) : St R Br Bm n₀ w m q W.drew := ⟨h.mv, h.res, h.rd.drew, h.but, h.below.drew⟩
theorem St.pick {R Br Bm n₀ : Nat} {w W W' : World} {m : Mv} {q : Int} (h : St R Br Bm n₀ w m q W) (hr : R < w.heap.size) (h1 : R < Br) (h2 : Br < Bm) (hz : w.heap.size ≤ Br) (hRd : Rd W' R (q + 1)) (hb : But R W W') (hB : Below n₀ W W') : St R Br Bm n₀ w m (q + 1) W' := by
  have lm : Bm < W.heap.size := (Array.getElem?_eq_some_iff.1 h.mv).1
  obtain ⟨m0, hm0⟩ := h.res
  exact ⟨(hb.block Bm lm (by omega)).trans h.mv, ⟨m0, (hb.block Br (by omega) (by omega)).trans hm0⟩, hRd, fun k hk hne => (hb.block k (by omega) hne).trans (h.but k hk hne), h.below.trans hB⟩
theorem St.late {R Br Bm n₀ : Nat} {w W : World} {m : Mv} {q : Int} (h : St R Br Bm n₀ w m q W) (h0 : n₀ ≤ R) (h1 : R < Br) (h2 : Br < Bm) (hz : w.heap.size ≤ Br) (x : Int) : St R Br Bm n₀ w { m with late := x } q (W.setCell ⟨Bm, 4, none⟩ (.int .i64 x)) := by
  obtain ⟨m0, hm0⟩ := h.res
  refine ⟨?_, ⟨m0, (Below.heap_setCell W _ _ Br (by simp; omega)).trans hm0⟩, h.rd.set (by omega) _ _, fun k hk hne => (Below.heap_setCell W _ _ k (by simp; omega)).trans (h.but k hk hne), h.below.setCell (by simp; omega) _⟩
  have := heap_setCell_same W Bm 4 _ _ (.int .i64 x) h.mv
  simpa [MvOwn] using this
theorem St.prom {R Br Bm n₀ : Nat} {w W : World} {m : Mv} {q : Int} (h : St R Br Bm n₀ w m q W) (h0 : n₀ ≤ R) (h1 : R < Br) (h2 : Br < Bm) (hz : w.heap.size ≤ Br) (x : Int) : St R Br Bm n₀ w { m with prom := x } q (W.setCell ⟨Bm, 5, none⟩ (.int .i64 x)) := by
  obtain ⟨m0, hm0⟩ := h.res
  refine ⟨?_, ⟨m0, (Below.heap_setCell W _ _ Br (by simp; omega)).trans hm0⟩, h.rd.set (by omega) _ _, fun k hk hne => (Below.heap_setCell W _ _ k (by simp; omega)).trans (h.but k hk hne), h.below.setCell (by simp; omega) _⟩
  have := heap_setCell_same W Bm 5 _ _ (.int .i64 x) h.mv
  simpa [MvOwn] using this

theorem setMv_block (W : World) (B o : Nat) (m : Mv) (k : Nat) (h : k ≠ B) : (setMv W B o m).heap[k]? = W.heap[k]? := by
  unfold setMv
  rw [Below.heap_setCell _ _ _ _ (by simpa using h), Below.heap_setCell _ _ _ _ (by simpa using h), Below.heap_setCell _ _ _ _ (by simpa using h), Below.heap_setCell _ _ _ _ (by simpa using h), Below.heap_setCell _ _ _ _ (by simpa using h), Below.heap_setCell _ _ _ _ (by simpa using h)]
theorem Rd.setMv {W : World} {R B : Nat} {q : Int} (h : Rd W R q) (hB : R < B) (o : Nat) (m : Mv) : Rd (setMv W B o m) R q :=
  (((((h.set hB _ _).set hB _ _).set hB _ _).set hB _ _).set hB _ _).set hB _ _
theorem St.went {R Br Bm n₀ : Nat} {w W : World} {m : Mv} {q p : Int} (h : St R Br Bm n₀ w m q W) (h0 : n₀ ≤ R) (h1 : R < Br) (hz : w.heap.size ≤ Br) (m' : Mv) (hq : p ≤ q ∧ q ≤ p + 7) : Went R p 7 n₀ w (setMv W Br 0 m') :=
  ⟨⟨q, hq.1, hq.2, h.rd.setMv h1 _ _⟩, ⟨by have := h.below.size; simpa [setMv] using this, fun k hk hne => (setMv_block W Br 0 m' k (by omega)).trans (h.but k hk hne)⟩, setMv_below h.below (by omega) 0 m'⟩

set_option maxRecDepth 10000 in
set_option maxHeartbeats 4000000 in
theorem l6Move_any (R : Nat) (p : Int) (s : ByteArray) (now : Int) (w : World) (n₀ : Nat) (h0 : n₀ ≤ R) (hr : Rd w R p) (hp : p ≤ 900000) (hn0 : 0 ≤ now) (hn1 : now ≤ 1000) :
    Calls Try.prog 68 #[.pointer (some ⟨R, 0, none⟩), .string s, .int .i64 now] w fun e w' => (∃ m : Mv, e = .returned (.agg #[.string m.name, .bool m.lands, .int .i64 m.wake, .int .i64 m.est, .int .i64 m.late, .int .i64 m.prom]) ∧ Drawn m s) ∧ Went R p 7 n₀ w w' := by
  have hz := hr.lt
  have H1 := pick_any R p 5 (w.alloc (.cells #[.string ByteArray.empty, .bool false, .int .i64 0, .int .i64 0, .int .i64 0, .int .i64 0] 38)) n₀ h0 (hr.below ((Below.refl _ _).alloc (Nat.le_refl _) _)) (by omega) (by omega) (by omega)
  go_enter Try.func68, Try.ntmps68
  go_wp2_with (first
    | (go_at_call 30; refine H1.mono ?_; clear H1; rintro e w1 ⟨⟨z1, rfl, l1, u1⟩, r1, t1, b1⟩; have H2 := pick_any R _ 3 w1 n₀ h0 r1 (by omega) (by omega) (by omega))
    | (go_at_call 30; refine H2.mono ?_; clear H2; rintro e w2 ⟨⟨z2, rfl, l2, u2⟩, r2, t2, b2⟩; have H3 := pick_any R _ 16 w2 n₀ h0 r2 (by omega) (by omega) (by omega))
    | (go_at_call 30; refine H3.mono ?_; clear H3; rintro e w3 ⟨⟨z3, rfl, l3, u3⟩, r3, t3, b3⟩))
  have hz1 := t1.size
  have hz2 := t2.size
  have hz3 := t3.size
  simp at hz1
  have hS : St R w.heap.size w3.heap.size n₀ w ⟨s, decide (z1 < 3), 1 + z2, now + z3, 0, -1⟩ (p + 1 + 1 + 1) (w3.alloc (.cells #[.string s, .bool (decide (z1 < 3)), .int .i64 (1 + z2), .int .i64 (now + z3), .int .i64 0, .int .i64 (-1)] 38)) := by
    have bA : Below w3.heap.size w3 (w3.alloc (.cells #[.string s, .bool (decide (z1 < 3)), .int .i64 (1 + z2), .int .i64 (now + z3), .int .i64 0, .int .i64 (-1)] 38)) := (Below.refl _ _).alloc (Nat.le_refl _) _
    have b0 : Below w.heap.size w (w.alloc (.cells #[.string ByteArray.empty, .bool false, .int .i64 0, .int .i64 0, .int .i64 0, .int .i64 0] 38)) := (Below.refl _ _).alloc (Nat.le_refl _) _
    have t03 := t1.trans (t2.trans t3)
    refine ⟨heap_alloc_new _ _, ⟨⟨ByteArray.empty, false, 0, 0, 0, 0⟩, ?_⟩, r3.below bA, fun k hk hne => ?_, ?_⟩
    · exact (bA.block w.heap.size (by omega)).trans ((t03.block w.heap.size (by simp) (by omega)).trans (heap_alloc_new _ _))
    · exact (bA.block k (by omega)).trans ((t03.block k (by simp; omega) hne).trans (b0.block k hk))
    · exact (b0.mono (by omega)).trans (b1.trans (b2.trans (b3.trans (bA.mono (by omega)))))
  revert hS
  obtain ⟨Br, hBr⟩ : ∃ Br, Br = w.heap.size := ⟨_, rfl⟩
  obtain ⟨Bm, hBm⟩ : ∃ Bm, Bm = w3.heap.size := ⟨_, rfl⟩
  rw [← hBm]
  rw [← hBr]
  generalize (w3.alloc (.cells #[.string s, .bool (decide (z1 < 3)), .int .i64 (1 + z2), .int .i64 (now + z3), .int .i64 0, .int .i64 (-1)] 38)) = W4
  intro hS
  have g1 : R < Br := by omega
  have g2 : Br < Bm := by omega
  have g3 : w.heap.size ≤ Br := by omega
  clear hBr hBm hz1 hz2 hz3 r1 r2 r3 t1 t2 t3 b1 b2 b3
  obtain ⟨c0, c1, c2, c3, c4, c5⟩ := hS.mv.at_
  simp only [Nat.zero_add] at c0 c1 c2 c3 c4 c5
  have HP := pick_any R _ 20 W4.drew n₀ h0 hS.drew.rd (by omega) (by omega) (by omega)
  go_region_held3 (fun w' => w'.cell? ⟨Bm, 3, none⟩ = some (.int .i64 (now + z3))) (go_keep)
    (first | (go_at_call 30; refine HP.mono ?_; clear HP; rintro e w5 ⟨⟨z4, rfl, l4, u4⟩, r5, t5, b5⟩; have hS5 := hS.drew.pick hz g1 g2 g3 r5 t5 b5; obtain ⟨d0, d1, d2, d3, d4, d5⟩ := hS5.mv.at_; simp only [Nat.zero_add] at d0 d1 d2 d3 d4 d5; have f5 := hS5.mv.frozen 4; have d34 : ∀ v, (w5.setCell ⟨Bm, 4, none⟩ v).cell? ⟨Bm, 3, none⟩ = some (.int .i64 (now + z3)) := fun v => (World.cell?_setCell_other _ _ _ _ (by simp)).trans d3; have hwr : IntKind.i64.wrap (now + z3 + z4) = now + z3 + z4 := by rw [IntKind.wrap_i64]; omega))
  have hS6 := hS5.late h0 g1 g2 g3 (now + z3 + z4)
  revert hS6
  generalize w5.setCell ⟨Bm, 4, none⟩ (.int .i64 (now + z3 + z4)) = W6
  intro hS6
  clear hS5 d0 d1 d2 d3 d4 d5 f5 d34 hwr r5 t5 b5 hS c0 c1 c2 c3 c4 c5
  have H7 := pick_any R _ 3 W6 n₀ h0 hS6.rd (by omega) (by omega) (by omega)
  go_wp2_with (first
    | (go_at_call 30; refine H7.mono ?_; clear H7; rintro e w7 ⟨⟨z5, rfl, l5, u5⟩, r7, t7, b7⟩; have hS7 := hS6.pick hz g1 g2 g3 r7 t7 b7; have H8 := pick_any R _ 30 w7 n₀ h0 hS7.rd (by omega) (by omega) (by omega))
    | (go_at_call 30; refine H8.mono ?_; clear H8; rintro e w8 ⟨⟨z6, rfl, l6, u6⟩, r8, t8, b8⟩; have hS8 := hS7.pick hz g1 g2 g3 r8 t8 b8; obtain ⟨d0, d1, d2, d3, d4, d5⟩ := hS8.mv.at_; simp only [Nat.zero_add] at d0 d1 d2 d3 d4 d5; have f4 := hS8.mv.frozen 4; obtain ⟨m0, hm0⟩ := hS8.res; obtain ⟨k0, k1, k2, k3, k4, k5⟩ := hm0.at_; simp only [Nat.zero_add] at k0 k1 k2 k3 k4 k5; have fr := hm0.frozen))
  · clear H8
    obtain ⟨c0, c1, c2, c3, c4, c5⟩ := hS7.mv.at_
    simp only [Nat.zero_add] at c0 c1 c2 c3 c4 c5
    have HP := pick_any R _ 40 w7.drew n₀ h0 hS7.drew.rd (by omega) (by omega) (by omega)
    have hwa : IntKind.i64.wrap (now + z3 + 20) = now + z3 + 20 := by rw [IntKind.wrap_i64]; omega
    go_region_held3 (fun w' => w'.cell? ⟨Bm, 3, none⟩ = some (.int .i64 (now + z3))) (go_keep)
      (first | (go_at_call 30; refine HP.mono ?_; clear HP; rintro e w5 ⟨⟨z7, rfl, l7, u7⟩, r5, t5, b5⟩; have hS5 := hS7.drew.pick hz g1 g2 g3 r5 t5 b5; obtain ⟨d0, d1, d2, d3, d4, d5⟩ := hS5.mv.at_; simp only [Nat.zero_add] at d0 d1 d2 d3 d4 d5; have f5 := hS5.mv.frozen 4; have d34 : ∀ v, (w5.setCell ⟨Bm, 4, none⟩ v).cell? ⟨Bm, 3, none⟩ = some (.int .i64 (now + z3)) := fun v => (World.cell?_setCell_other _ _ _ _ (by simp)).trans d3; have hwr : IntKind.i64.wrap (now + z3 + 20 + z7) = now + z3 + 20 + z7 := by rw [IntKind.wrap_i64]; omega))
    have hS9 := hS5.late h0 g1 g2 g3 (now + z3 + 20 + z7)
    revert hS9
    generalize w5.setCell ⟨Bm, 4, none⟩ (.int .i64 (now + z3 + 20 + z7)) = W9
    intro hS9
    clear hS5 d0 d1 d2 d3 d4 d5 f5 d34 hwr r5 t5 b5 c0 c1 c2 c3 c4 c5
    have H8 := pick_any R _ 30 W9 n₀ h0 hS9.rd (by omega) (by omega) (by omega)
    go_wp2_with (first
      | (go_at_call 30; refine H8.mono ?_; clear H8; rintro e w8 ⟨⟨z6, rfl, l6, u6⟩, r8, t8, b8⟩; have hS8 := hS9.pick hz g1 g2 g3 r8 t8 b8; obtain ⟨d0, d1, d2, d3, d4, d5⟩ := hS8.mv.at_; simp only [Nat.zero_add] at d0 d1 d2 d3 d4 d5; have f4 := hS8.mv.frozen 4; obtain ⟨m0, hm0⟩ := hS8.res; obtain ⟨k0, k1, k2, k3, k4, k5⟩ := hm0.at_; simp only [Nat.zero_add] at k0 k1 k2 k3 k4 k5; have fr := hm0.frozen))
    · have hm1 := (hS8.late h0 g1 g2 g3 10000)
      obtain ⟨m1, hm1'⟩ := hm1.res
      have q := setMv_at (w8.setCell ⟨Bm, 4, none⟩ (.int .i64 10000)) Br 0 ⟨s, decide (z1 < 3), 1 + z2, now + z3, 10000, -1⟩ _ _ (hm1') (by simp)
      obtain ⟨q0, q1, q2, q3, q4, q5⟩ := q
      simp only [Nat.zero_add] at q0 q1 q2 q3 q4 q5
      change bodyPost _ _ _ _ _ (setMv (w8.setCell ⟨Bm, 4, none⟩ (.int .i64 10000)) Br 0 ⟨s, decide (z1 < 3), 1 + z2, now + z3, 10000, -1⟩)
      exact bodyPost_ret (v := .agg #[.string s, .bool (decide (z1 < 3)), .int .i64 (1 + z2), .int .i64 (now + z3), .int .i64 (10000), .int .i64 (-1)]) (by simp [results, Try.results68, go_sem, q0, q1, q2, q3, q4, q5]) rfl ⟨⟨⟨s, decide (z1 < 3), 1 + z2, now + z3, 10000, -1⟩, rfl, ⟨rfl, by simp only; omega, by simp only; omega, rfl⟩⟩, (hm1).went h0 g1 g3 _ (by omega)⟩
    · have q := setMv_at (w8) Br 0 ⟨s, decide (z1 < 3), 1 + z2, now + z3, now + z3 + 20 + z7, -1⟩ _ _ (hm0) (by simp)
      obtain ⟨q0, q1, q2, q3, q4, q5⟩ := q
      simp only [Nat.zero_add] at q0 q1 q2 q3 q4 q5
      change bodyPost _ _ _ _ _ (setMv (w8) Br 0 ⟨s, decide (z1 < 3), 1 + z2, now + z3, now + z3 + 20 + z7, -1⟩)
      exact bodyPost_ret (v := .agg #[.string s, .bool (decide (z1 < 3)), .int .i64 (1 + z2), .int .i64 (now + z3), .int .i64 (now + z3 + 20 + z7), .int .i64 (-1)]) (by simp [results, Try.results68, go_sem, q0, q1, q2, q3, q4, q5]) rfl ⟨⟨⟨s, decide (z1 < 3), 1 + z2, now + z3, now + z3 + 20 + z7, -1⟩, rfl, ⟨rfl, by simp only; omega, by simp only; omega, rfl⟩⟩, (hS8).went h0 g1 g3 _ (by omega)⟩
  · have hm1 := (hS8.late h0 g1 g2 g3 10000)
    obtain ⟨m1, hm1'⟩ := hm1.res
    have q := setMv_at (w8.setCell ⟨Bm, 4, none⟩ (.int .i64 10000)) Br 0 ⟨s, decide (z1 < 3), 1 + z2, now + z3, 10000, -1⟩ _ _ (hm1') (by simp)
    obtain ⟨q0, q1, q2, q3, q4, q5⟩ := q
    simp only [Nat.zero_add] at q0 q1 q2 q3 q4 q5
    change bodyPost _ _ _ _ _ (setMv (w8.setCell ⟨Bm, 4, none⟩ (.int .i64 10000)) Br 0 ⟨s, decide (z1 < 3), 1 + z2, now + z3, 10000, -1⟩)
    exact bodyPost_ret (v := .agg #[.string s, .bool (decide (z1 < 3)), .int .i64 (1 + z2), .int .i64 (now + z3), .int .i64 (10000), .int .i64 (-1)]) (by simp [results, Try.results68, go_sem, q0, q1, q2, q3, q4, q5]) rfl ⟨⟨⟨s, decide (z1 < 3), 1 + z2, now + z3, 10000, -1⟩, rfl, ⟨rfl, by simp only; omega, by simp only; omega, rfl⟩⟩, (hm1).went h0 g1 g3 _ (by omega)⟩
  · have q := setMv_at (w8) Br 0 ⟨s, decide (z1 < 3), 1 + z2, now + z3, now + z3 + z4, -1⟩ _ _ (hm0) (by simp)
    obtain ⟨q0, q1, q2, q3, q4, q5⟩ := q
    simp only [Nat.zero_add] at q0 q1 q2 q3 q4 q5
    change bodyPost _ _ _ _ _ (setMv (w8) Br 0 ⟨s, decide (z1 < 3), 1 + z2, now + z3, now + z3 + z4, -1⟩)
    exact bodyPost_ret (v := .agg #[.string s, .bool (decide (z1 < 3)), .int .i64 (1 + z2), .int .i64 (now + z3), .int .i64 (now + z3 + z4), .int .i64 (-1)]) (by simp [results, Try.results68, go_sem, q0, q1, q2, q3, q4, q5]) rfl ⟨⟨⟨s, decide (z1 < 3), 1 + z2, now + z3, now + z3 + z4, -1⟩, rfl, ⟨rfl, by simp only; omega, by simp only; omega, rfl⟩⟩, (hS8).went h0 g1 g3 _ (by omega)⟩
end Go.Proofs.Ytlmcblcijndipaa
