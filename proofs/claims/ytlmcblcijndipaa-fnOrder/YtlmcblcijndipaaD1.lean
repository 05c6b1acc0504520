/- The reader of a code: opened, and what it picks. -/
import Derived.Test.YtlmcblcijndipaaBut
namespace Go.Proofs.Ytlmcblcijndipaa
open Go.RowKit
set_option linter.unusedVariables false

/-- a code in memory: n bytes -/
def ByteRow (w : World) (b off n : Nat) (c : Nat → Int) : Prop := ∀ i, i < n → w.cell? ⟨b, off + i, none⟩ = some (.int .u8 (c i))
/-- the reader at block R: its code, how many it has picked -/
structure Rd (w : World) (R : Nat) (p : Int) : Prop where
  mk ::
  at_ : ∃ (a : Option Addr) (n cap : Nat) (c : Nat → Int), w.heap[R]? = some (.cells #[.slice a n cap, .int .i64 p] 74 (0, 0)) ∧ n ≤ 2000 ∧ (n = 0 ∨ ∃ b off, a = some ⟨b, off, none⟩ ∧ b < R ∧ ByteRow w b off n c) ∧ ∀ i, i < n → 0 ≤ c i ∧ c i ≤ 255
  low : 0 ≤ p

/-- what is not negative stays so -/
theorem xor_low (x y : Int) (hx : 0 ≤ x) (hx1 : x < 9223372036854775808) (hy : 0 ≤ y) (hy1 : y < 9223372036854775808) : 0 ≤ bits .xor .i64 x y := by
  obtain ⟨a, rfl⟩ : ∃ a : Nat, x = (a : Int) := ⟨x.toNat, by omega⟩
  obtain ⟨b, rfl⟩ : ∃ b : Nat, y = (b : Int) := ⟨y.toNat, by omega⟩
  have hx : a ^^^ b < 2 ^ 63 := Nat.xor_lt_two_pow (by omega) (by omega)
  have h1 : (BitVec.ofInt 64 (a : Int)).toNat = a := by
    rw [BitVec.ofInt_natCast, BitVec.toNat_ofNat]; exact Nat.mod_eq_of_lt (by omega)
  have h2 : (BitVec.ofInt 64 (b : Int)).toNat = b := by
    rw [BitVec.ofInt_natCast, BitVec.toNat_ofNat]; exact Nat.mod_eq_of_lt (by omega)
  show 0 ≤ IntKind.i64.wrap ((BitVec.ofInt 64 (a : Int) ^^^ BitVec.ofInt 64 (b : Int)).toNat : Int)
  rw [BitVec.toNat_xor, h1, h2, IntKind.wrap_i64]
  omega
theorem tmod_bd (x m : Int) (hx : 0 ≤ x) (hm : 1 ≤ m) : 0 ≤ x.tmod m ∧ x.tmod m < m := by
  rw [Int.tmod_eq_emod_of_nonneg hx]
  exact ⟨Int.emod_nonneg _ (by omega), Int.emod_lt_of_pos _ (by omega)⟩
theorem Rd.below {w w' : World} {R : Nat} {p : Int} (hr : Rd w R p) (hb : Below w.heap.size w w') : Rd w' R p := by
  obtain ⟨⟨a, n, cap, c, hR, hn, hrow, hc⟩, hp0⟩ := hr
  have hlt : R < w.heap.size := (Array.getElem?_eq_some_iff.1 hR).1
  refine ⟨⟨a, n, cap, c, (hb.block R hlt).trans hR, hn, ?_, hc⟩, hp0⟩
  rcases hrow with h | ⟨b, off, rfl, hbR, hrow⟩
  · exact .inl h
  · exact .inr ⟨b, off, rfl, hbR, fun i hi => (hb.cell (p := ⟨b, off + i, none⟩) (by simp; omega)).trans (hrow i hi)⟩
theorem Rd.lt {w : World} {R : Nat} {p : Int} (hr : Rd w R p) : R < w.heap.size := by
  obtain ⟨⟨a, n, cap, c, hR, _⟩, _⟩ := hr
  exact (Array.getElem?_eq_some_iff.1 hR).1

/-- one more picked -/
theorem rd_step {w : World} {R : Nat} {p : Int} (hr : Rd w R p) (n₀ : Nat) (h0 : n₀ ≤ R) : Rd (w.setCell ⟨R, 1, none⟩ (.int .i64 (p + 1))) R (p + 1) ∧ But R w (w.setCell ⟨R, 1, none⟩ (.int .i64 (p + 1))) ∧ Below n₀ w (w.setCell ⟨R, 1, none⟩ (.int .i64 (p + 1))) := by
  obtain ⟨⟨a, n, cap, c, hR, hn, hrow, hc⟩, hp0⟩ := hr
  refine ⟨⟨⟨a, n, cap, c, ?_, hn, ?_, hc⟩, by omega⟩, (But.refl R w).setCell _ _, (Below.refl n₀ w).setCell h0 _⟩
  · have := heap_setCell_same w R 1 _ _ (.int .i64 (p + 1)) hR
    simpa using this
  · rcases hrow with h | ⟨b, off, rfl, hb, hrow⟩
    · exact .inl h
    · exact .inr ⟨b, off, rfl, hb, fun i hi => by rw [World.cell?_setCell_other _ _ _ _ (by simp <;> omega)]; exact hrow i hi⟩

set_option maxRecDepth 10000 in
set_option maxHeartbeats 1000000 in
theorem pick_any (R : Nat) (p : Int) (m : Int) (w : World) (n₀ : Nat) (h0 : n₀ ≤ R) (hr : Rd w R p) (hp : p ≤ 1000000) (hm : 1 ≤ m) (hm1 : m ≤ 100000) :
    Calls Try.prog 30 #[.pointer (some ⟨R, 0, none⟩), .int .i64 m] w fun e w' => (∃ z : Int, e = .returned (.int .i64 z) ∧ 0 ≤ z ∧ z < m) ∧ Rd w' R (p + 1) ∧ But R w w' ∧ Below n₀ w w' := by
  obtain ⟨⟨a, n, cap, c, hR, hn, hrow, hc⟩, hp0⟩ := hr
  have c0 : w.cell? ⟨R, 0, none⟩ = some (.slice a n cap) := by rw [cell_of_row _ _ _ _ _ _ hR]; rfl
  have c1 : w.cell? ⟨R, 1, none⟩ = some (.int .i64 p) := by rw [cell_of_row _ _ _ _ _ _ hR]; rfl
  have f1 : w.frozen? ⟨R, 1, none⟩ = false := frozen_of_row w _ 1 _ _ hR
  obtain ⟨hr1, hb1, hb2⟩ := rd_step ⟨⟨a, n, cap, c, hR, hn, hrow, hc⟩, hp0⟩ n₀ h0
  have HR1 : Hid (Rd (w.setCell ⟨R, 1, none⟩ (.int .i64 (p + 1))) R (p + 1)) := hr1
  have d0 : (w.setCell ⟨R, 1, none⟩ (.int .i64 (p + 1))).cell? ⟨R, 0, none⟩ = some (.slice a n cap) := by rw [World.cell?_setCell_other _ _ _ _ (by simp)]; exact c0
  have d1 : (w.setCell ⟨R, 1, none⟩ (.int .i64 (p + 1))).cell? ⟨R, 1, none⟩ = some (.int .i64 (p + 1)) := World.cell?_setCell_same' _ _ _ (by rw [c1]; rfl)
  clear hr1
  by_cases hn0 : n = 0
  · subst hn0
    go_enter Try.func30, Try.ntmps30
    go_wp2
    go_ret
    exact ⟨⟨0, rfl, by omega, by omega⟩, HR1.out, hb1, hb2⟩
  · obtain ⟨b, off, rfl, hbR, hbr⟩ : ∃ b off, a = some ⟨b, off, none⟩ ∧ b < R ∧ ByteRow w b off n c := by rcases hrow with h | h; exact absurd h hn0; exact h
    have hbr1 : ByteRow (w.setCell ⟨R, 1, none⟩ (.int .i64 (p + 1))) b off n c := fun i hi => by rw [World.cell?_setCell_other _ _ _ _ (by simp <;> omega)]; exact hbr i hi
    have hnp : (0 : Int) < n := by omega
    have hnz : ((n : Int) == 0) = false := by simp; omega
    have hmz : ¬ m < 1 := by omega
    by_cases hlt : p < n
    · obtain ⟨q, hq⟩ : ∃ q : Nat, p = (q : Int) := ⟨p.toNat, by omega⟩
      subst hq
      have hqn : q < n := by omega
      have e0 := hbr1 q hqn
      obtain ⟨z0, z1⟩ := hc q hqn
      have hz0 : 0 ≤ c q % m := Int.emod_nonneg _ (by omega)
      have hz1 : c q % m < m := Int.emod_lt_of_pos _ (by omega)
      have HZ : Hid (0 ≤ c q % m ∧ c q % m < m) := by have h : 0 ≤ c q % m ∧ c q % m < m := ⟨hz0, hz1⟩
                                                      exact h
      clear hz0 hz1
      go_enter Try.func30, Try.ntmps30
      go_wp2
      go_ret
      exact ⟨⟨c q % m, rfl, HZ.out.1, HZ.out.2⟩, HR1.out, hb1, hb2⟩
    · obtain ⟨j1, hj1⟩ : ∃ j1 : Nat, p % (n : Int) = (j1 : Int) := ⟨(p % (n : Int)).toNat, by have := Int.emod_nonneg p (show (n : Int) ≠ 0 by omega); omega⟩
      obtain ⟨j2, hj2⟩ : ∃ j2 : Nat, (p * 7 + 3) % (n : Int) = (j2 : Int) := ⟨((p * 7 + 3) % (n : Int)).toNat, by have := Int.emod_nonneg (p * 7 + 3) (show (n : Int) ≠ 0 by omega); omega⟩
      have hl1 : j1 < n := by have := Int.emod_lt_of_pos p hnp; omega
      have hl2 : j2 < n := by have := Int.emod_lt_of_pos (p * 7 + 3) hnp; omega
      have hl1' : (j1 : Int) < n := by omega
      have hl2' : (j2 : Int) < n := by omega
      obtain ⟨x0, x1⟩ := hc j1 hl1
      obtain ⟨y0, y1⟩ := hc j2 hl2
      have hq0 : 0 ≤ p / (n : Int) := Int.ediv_nonneg hp0 (by omega)
      have hq1 : p / (n : Int) ≤ p := Int.ediv_le_self _ hp0
      have hne := later_some (w.setCell ⟨R, 1, none⟩ (.int .i64 (p + 1)))
      have g0 := fun x : Later (w.setCell ⟨R, 1, none⟩ (.int .i64 (p + 1))) => x.cell d0
      have g1 := fun x : Later (w.setCell ⟨R, 1, none⟩ (.int .i64 (p + 1))) => x.cell (hbr1 j1 hl1)
      have g2 := fun x : Later (w.setCell ⟨R, 1, none⟩ (.int .i64 (p + 1))) => x.cell (hbr1 j2 hl2)
      go_enter Try.func30, Try.ntmps30
      go_wp2
      refine wp_region_later (by kernel_rfl) (by kernel_rfl) ?_
      repeat (go_big_quiet_step (fail))
      refine wpQuiet_nil (later_all ?_)
      intro w2 hb3
      go_wp2
      go_ret
      have hX0 : 0 ≤ c j1 * 131 + c j2 * 1117 + p * 29 + p / (n : Int) * 53 := by omega
      have hX1 : c j1 * 131 + c j2 * 1117 + p * 29 + p / (n : Int) * 53 < 1000000000 := by omega
      have hz := tmod_bd _ m (xor_low _ ((c j1 * 131 + c j2 * 1117 + p * 29 + p / (n : Int) * 53) / 64) hX0 (by omega) (by omega) (by omega)) hm
      have hlt1 : R < (w.setCell ⟨R, 1, none⟩ (.int .i64 (p + 1))).heap.size := HR1.out.lt
      exact ⟨⟨_, rfl, hz.1, hz.2⟩, HR1.out.below hb3, hb1.trans (But.of hb3), hb2.trans (hb3.mono (by omega))⟩
end Go.Proofs.Ytlmcblcijndipaa
