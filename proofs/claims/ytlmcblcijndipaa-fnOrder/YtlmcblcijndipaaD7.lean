/- An order drawn. -/
import Derived.Test.YtlmcblcijndipaaD3
import Derived.Test.YtlmcblcijndipaaK5
namespace Go.Proofs.Ytlmcblcijndipaa
open Go.RowKit
set_option linter.unusedVariables false

namespace Shuf
theorem own_below {w w' : World} {base : Nat} {e : TypeId} {size g n cap : Nat} {xs : List Value} (h : w.ownsRow base e size (.slice (some ⟨g, 0, none⟩) n cap) n xs) (hb : Below w.heap.size w w') : w'.ownsRow base e size (.slice (some ⟨g, 0, none⟩) n cap) n xs := by
  obtain ⟨h1, h2 | ⟨g', cap', cur, h2, h3, h4, h5⟩⟩ := h
  · exact absurd h2.1 (by simp)
  · exact ⟨h1, .inr ⟨g', cap', cur, h2, h3, (hb.block g' (Array.getElem?_eq_some_iff.1 h4).1).trans h4, h5⟩⟩
theorem own_empty {w : World} {base g : Nat} {e : TypeId} (hg : base ≤ g) (h : w.heap[g]? = some (.cells #[] e (0, 0))) : w.ownsRow base e 1 (.slice (some ⟨g, 0, none⟩) 0 0) 0 [] :=
  ⟨rfl, .inr ⟨g, 0, #[], rfl, hg, h, Nat.le_refl _, Nat.zero_le _, rfl, rfl⟩⟩
theorem own_lt {w : World} {base : Nat} {e : TypeId} {size g n cap : Nat} {xs : List Value} (h : w.ownsRow base e size (.slice (some ⟨g, 0, none⟩) n cap) n xs) : g < w.heap.size ∧ n ≤ cap := by
  obtain ⟨h1, h2 | ⟨g', cap', cur, h2, h3, h4, h5⟩⟩ := h
  · exact absurd h2.1 (by simp)
  · simp at h2
    obtain ⟨rfl, rfl⟩ := h2
    exact ⟨(Array.getElem?_eq_some_iff.1 h4).1, h5.1⟩

theorem addr_add (B o j : Nat) : (⟨B, o, none⟩ : Addr).add j = ⟨B, o + j, none⟩ := by unfold Addr.add; split <;> simp_all
theorem one_cell {W : World} {blk : Nat} {v : Value} {T : TypeId} (h : W.heap[blk]? = some (.cells #[v] T (0, 0))) : ∀ (j : Nat) (u : Value), [v][j]? = some u → W.cell? ((⟨blk, 0, none⟩ : Addr).add j) = some u := fun j u hu => by
  match j, hu with
  | 0, hu => rw [addr_add, cell_of_row _ _ _ _ _ _ h]; simpa using hu
theorem own_base {w : World} {base base' : Nat} {e : TypeId} {size : Nat} {v : Value} {n : Nat} {xs : List Value} (h : w.ownsRow base e size v n xs) (hb : base' ≤ base) : w.ownsRow base' e size v n xs := by
  obtain ⟨h1, h2 | ⟨g, cap, cur, h2, h3, h4⟩⟩ := h
  · exact ⟨h1, .inl h2⟩
  · exact ⟨h1, .inr ⟨g, cap, cur, h2, Nat.le_trans hb h3, h4⟩⟩
theorem own_block {w : World} {base : Nat} {e : TypeId} {size : Nat} {v : Value} {n : Nat} {xs : List Value} (h : w.ownsRow base e size v n xs) (r : Nat) (hr : v.ownBlock = some r) : base ≤ r := by
  obtain ⟨h1, h2 | ⟨g, cap, cur, h2, h3, h4⟩⟩ := h
  · rw [h2.1] at hr; cases hr
  · rw [h2] at hr; simp [Value.ownBlock] at hr; omega
theorem own_succ {w : World} {base : Nat} {e : TypeId} {size : Nat} {v : Value} {n : Nat} {xs : List Value} (h : w.ownsRow base e size v (n + 1) xs) : ∃ B c, v = .slice (some ⟨B, 0, none⟩) (n + 1) c := by
  obtain ⟨h1, h2 | ⟨g, cap, cur, h2, h3, h4⟩⟩ := h
  · omega
  · exact ⟨g, cap, h2⟩

set_option maxRecDepth 10000 in
set_option maxHeartbeats 4000000 in
theorem shuffle_any (R : Nat) (p : Int) (n : Nat) (w : World) (n₀ : Nat) (h0 : n₀ ≤ R) (hr : Rd w R p) (hp : p ≤ 900000) (hn : n ≤ 6) :
    Calls Try.prog 29 #[.pointer (some ⟨R, 0, none⟩), .int .i64 (n : Int)] w fun e w' => (∃ (B c : Nat) (g : Nat → Nat), e = .returned (.slice (some ⟨B, 0, none⟩) n c) ∧ w'.ownsRow w.heap.size 3 1 (.slice (some ⟨B, 0, none⟩) n c) n (vals g n)) ∧ Went R p 6 n₀ w w' := by
  have hR := hr.lt
  go_enter Try.func29, Try.ntmps29
  go_wp2
  have hA0 : Below w.heap.size w (w.alloc (.cells #[] 3)) := (Below.refl _ _).alloc (Nat.le_refl _) _
  go_loopw [5, 6] (fun v x W => ∃ (i : Nat) (g : Nat → Nat) (B c : Nat) (q : Int), i ≤ n ∧ x = .int .i64 i ∧ v = .slice (some ⟨B, 0, none⟩) i c ∧ p ≤ q ∧ q ≤ p + i ∧ Rd W R q ∧ W.ownsRow w.heap.size 3 1 (.slice (some ⟨B, 0, none⟩) i c) i (vals g i) ∧ But R w W ∧ Below n₀ w W) (fun _ x _ => n - (intOf x).toNat)
  case atStart => exact ⟨0, id, w.heap.size, 0, p, Nat.zero_le _, rfl, rfl, by omega, by omega, hr.below hA0, own_empty (Nat.le_refl _) (heap_alloc_new _ _), But.of hA0, hA0.mono (by omega)⟩
  case round =>
    obtain ⟨i, g, B, c, q, hi, rfl, rfl, hq0, hq1, hrd, hown, hbut, hB⟩ := hrel
    by_cases hlt : i < n
    · have hlt' : (i : Int) < n := by omega
      have H1 := pick_any R q (i + 1) wr n₀ h0 hrd (by omega) (by omega) (by omega)
      go_wp2_with (go_at_call 30; refine H1.mono ?_; clear H1; rintro e w1 ⟨⟨z, rfl, l1, u1⟩, r1, t1, b1⟩; obtain ⟨k, rfl⟩ : ∃ k : Nat, z = (k : Int) := ⟨z.toNat, (by omega)⟩)
      have hk : k ≤ i := by omega
      have hown1 := own_but hown hR t1 b1
      have hbut1 := hbut.trans t1
      have hB1 := hB.trans b1
      clear hown hbut hB t1 b1 hrd hA0
      obtain ⟨i0, hI, hz0, hz1, hz2⟩ : ∃ i0, Try.prog.info? 3 = some i0 ∧ i0.zero = some (.int .i64 0) ∧ i0.size = 1 ∧ i0.bytes = 8 := by
        have h := info_int
        cases hI : Try.prog.info? 3 with
        | none => rw [hI] at h; simp at h
        | some i0 => rw [hI] at h; simp only [Option.map_some, Option.some.injEq, Prod.mk.injEq] at h; exact ⟨i0, rfl, h.2.2, h.1, h.2.1⟩
      obtain ⟨hBlt1, hic1⟩ := own_lt hown1
      have hkc : (k : Int) ≤ c := by omega
      have hcell1 : ∀ {W' : World}, Below w1.heap.size w1 W' → ∀ j, j < i → W'.cell? ⟨B, j, none⟩ = some (.int .i64 ((g j : Nat) : Int)) := fun hb' j hj => (hb'.cell (p := ⟨B, j, none⟩) hBlt1).trans (by rw [hown1.cellAt j (by omega)]; exact vals_get hj)
      have cellsA : ∀ {W' : World}, Below w1.heap.size w1 W' → ∀ j u, (vals g k)[j]? = some u → W'.cell? ((⟨B, 0, none⟩ : Addr).add j) = some u := fun hb' j u hu => by
        have hj : j < k := by rcases Nat.lt_or_ge j k with h | h; exact h; rw [List.getElem?_eq_none (by rw [vals_len]; exact h)] at hu; cases hu
        rw [vals_get hj] at hu; rw [addr_add, Nat.zero_add, hcell1 hb' j (by omega)]; exact hu
      have cellsC : ∀ {W' : World}, Below w1.heap.size w1 W' → ∀ j u, (vals (fun j => g (k + j)) (i - k))[j]? = some u → W'.cell? ((⟨B, if c = k then 0 else k, none⟩ : Addr).add j) = some u := fun hb' j u hu => by
        have hj : j < i - k := by rcases Nat.lt_or_ge j (i - k) with h | h; exact h; rw [List.getElem?_eq_none (by rw [vals_len]; exact h)] at hu; cases hu
        rw [vals_get hj] at hu; rw [if_neg (by omega), addr_add, hcell1 hb' (k + j) (by omega)]; exact hu
      have oneV : ∀ (g : Nat → Nat) (k : Nat), ∀ u ∈ vals g k, u.oneCell' = true := fun g k u hu => by unfold vals at hu; simp at hu; obtain ⟨_, _, rfl⟩ := hu; rfl
      have hA1 : (w1.alloc (.cells #[] 3)).heap[w1.heap.size]? = some (.cells #[] 3 (0, 0)) := heap_alloc_new _ _
      have hA2 : ((w1.alloc (.cells #[] 3)).alloc (.cells #[.int .i64 (i : Int)] 3)).heap[w1.heap.size]? = some (.cells #[] 3 (0, 0)) := (Below.heap_alloc _ _ _ (by simp)).trans hA1
      have hA3 : ((w1.alloc (.cells #[.int .i64 (i : Int)] 3)).alloc (.cells #[] 3)).heap[w1.heap.size + 1]? = some (.cells #[] 3 (0, 0)) := by have := heap_alloc_new (w1.alloc (.cells #[.int .i64 (i : Int)] 3)) (.cells #[] 3); simpa using this
      have bA1 : Below w1.heap.size w1 (w1.alloc (.cells #[] 3)).drew := ((Below.refl _ w1).alloc (Nat.le_refl _) _).drew
      have bA2 : Below w1.heap.size w1 ((w1.alloc (.cells #[] 3)).alloc (.cells #[.int .i64 (i : Int)] 3)).drew := (((Below.refl _ w1).alloc (Nat.le_refl _) _).alloc (by simp) _).drew
      have bA3 : Below w1.heap.size w1 ((w1.alloc (.cells #[.int .i64 (i : Int)] 3)).alloc (.cells #[] 3)).drew := (((Below.refl _ w1).alloc (Nat.le_refl _) _).alloc (by simp) _).drew
      have hD2 : ((w1.alloc (.cells #[] 3)).alloc (.cells #[.int .i64 (i : Int)] 3)).heap[w1.heap.size + 1]? = some (.cells #[.int .i64 (i : Int)] 3 (0, 0)) := by have := heap_alloc_new (w1.alloc (.cells #[] 3)) (.cells #[.int .i64 (i : Int)] 3); simpa using this
      have hD3 : ((w1.alloc (.cells #[.int .i64 (i : Int)] 3)).alloc (.cells #[] 3)).heap[w1.heap.size]? = some (.cells #[.int .i64 (i : Int)] 3 (0, 0)) := (Below.heap_alloc _ _ _ (by simp)).trans (heap_alloc_new _ _)
      go_region_law (first
        | (refine step_append_own rfl (.tmp 19) (.tmp 22) 24 rfl 3 i0 (.int .i64 0) 1 8 Try.underlying24 hI hz0 hz1 hz2 rfl (by decide) w1.heap.size (.slice (some ⟨_, 0, none⟩) 0 0) 0 [] (by rfl) (own_empty (by simp) hA1) ⟨B, 0, none⟩ k c (vals g k) (by rfl) (by rw [vals_len]; omega) (cellsA bA1) (oneV g k) (by unfold maxLen; omega) (by omega) bA1.size ?_
           intro v2 w2 own2 gr2
           simp only [Nat.zero_add, List.nil_append] at own2
           have B2 : Below w1.heap.size w1 w2 := bA1.grown gr2 bA1.size (fun q hq => by simp [Value.ownBlock] at hq; omega)
           skip
           clear gr2)
        | (refine step_append_own rfl (.tmp 19) (.tmp 22) 24 rfl 3 i0 (.int .i64 0) 1 8 Try.underlying24 hI hz0 hz1 hz2 rfl (by decide) w1.heap.size (.slice (some ⟨_, 0, none⟩) 0 0) 0 [] (by rfl) (own_empty (by simp) hA2) ⟨B, 0, none⟩ k c (vals g k) (by rfl) (by rw [vals_len]; omega) (cellsA bA2) (oneV g k) (by unfold maxLen; omega) (by omega) bA2.size ?_
           intro v2 w2 own2 gr2
           simp only [Nat.zero_add, List.nil_append] at own2
           have B2 : Below w1.heap.size w1 w2 := bA2.grown gr2 bA2.size (fun q hq => by simp [Value.ownBlock] at hq; omega)
           have d2 : w2.heap[w1.heap.size + 1]? = some (.cells #[.int .i64 (i : Int)] 3 (0, 0)) := (gr2.block (w1.heap.size + 1) (by simp) (by simp [Value.ownBlock])).trans hD2
           clear gr2)
        | (refine step_append_own rfl (.tmp 19) (.tmp 22) 24 rfl 3 i0 (.int .i64 0) 1 8 Try.underlying24 hI hz0 hz1 hz2 rfl (by decide) w1.heap.size (.slice (some ⟨_, 0, none⟩) 0 0) 0 [] (by rfl) (own_empty (by simp) hA3) ⟨B, 0, none⟩ k c (vals g k) (by rfl) (by rw [vals_len]; omega) (cellsA bA3) (oneV g k) (by unfold maxLen; omega) (by omega) bA3.size ?_
           intro v2 w2 own2 gr2
           simp only [Nat.zero_add, List.nil_append] at own2
           have B2 : Below w1.heap.size w1 w2 := bA3.grown gr2 bA3.size (fun q hq => by simp [Value.ownBlock] at hq; omega)
           have d2 : w2.heap[w1.heap.size]? = some (.cells #[.int .i64 (i : Int)] 3 (0, 0)) := (gr2.block w1.heap.size (by simp; omega) (by simp [Value.ownBlock])).trans hD3
           clear gr2)
        | (refine step_append_own rfl (.tmp 23) (.tmp 25) 24 rfl 3 i0 (.int .i64 0) 1 8 Try.underlying24 hI hz0 hz1 hz2 rfl (by decide) w1.heap.size v2 k (vals g k) (by rfl) own2 ⟨_, 0, none⟩ 1 1 [.int .i64 (i : Int)] (by rfl) rfl (one_cell d2) (by simp [Value.oneCell']) (by unfold maxLen; omega) (by omega) B2.size ?_
           intro v3 w3 own3 gr3
           have B3 : Below w1.heap.size w1 w3 := B2.grown gr3 B2.size (fun q hq => own_block own2 q hq)
           clear gr3 B2 own2)
        | (refine step_append_own rfl (.tmp 23) (.tmp 25) 24 rfl 3 i0 (.int .i64 0) 1 8 Try.underlying24 hI hz0 hz1 hz2 rfl (by decide) w1.heap.size v2 k (vals g k) (by rfl) (own2.alloc _) ⟨_, 0, none⟩ 1 1 [.int .i64 (i : Int)] (by rfl) rfl (one_cell (heap_alloc_new w2 _)) (by simp [Value.oneCell']) (by unfold maxLen; omega) (by omega) (B2.alloc B2.size _).size ?_
           intro v3 w3 own3 gr3
           have B3 : Below w1.heap.size w1 w3 := (B2.alloc B2.size _).grown gr3 (B2.alloc B2.size _).size (fun q hq => own_block own2 q hq)
           clear gr3 B2 own2)
        | (refine step_append_own rfl (.tmp 26) (.tmp 29) 24 rfl 3 i0 (.int .i64 0) 1 8 Try.underlying24 hI hz0 hz1 hz2 rfl (by decide) w1.heap.size v3 (k + 1) (vals g k ++ [.int .i64 (i : Int)]) (by rfl) own3 ⟨B, if c = k then 0 else k, none⟩ (i - k) (c - k) (vals (fun j => g (k + j)) (i - k)) (by simp [Act.eval]; split <;> rfl) (by rw [vals_len]; omega) (cellsC B3) (oneV _ _) (by unfold maxLen; omega) (by omega) B3.size ?_
           intro v4 w4 own4 gr4
           rw [vals_put g i k hk, show k + 1 + (i - k) = i + 1 by omega] at own4
           have B4 : Below w1.heap.size w1 w4 := B3.grown gr4 B3.size (fun q hq => own_block own3 q hq)
           obtain ⟨b4, c4, rfl⟩ := own_succ own4
           clear gr4 B3 own3))
      all_goals
        go_wp2
        go_roundw
        case rel => exact ⟨i + 1, putAt g k i, b4, c4, q + 1, by omega, by go_num, rfl, by omega, by omega, r1.below B4, own_base own4 hbut1.size, hbut1.trans (But.of B4), hB1.trans (B4.mono (by have := r1.lt; omega))⟩
        case measure => simp [intOf]; omega
    · go_wp2
      go_ret
      have hin : i = n := by omega
      subst hin
      exact ⟨⟨B, c, g, rfl, hown⟩, ⟨q, hq0, by omega, hrd⟩, hbut, hB⟩
end Shuf
end Go.Proofs.Ytlmcblcijndipaa
