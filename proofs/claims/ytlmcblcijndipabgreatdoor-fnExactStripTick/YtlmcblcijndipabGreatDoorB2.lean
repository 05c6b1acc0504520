/- The book: whether it is ok, in the model. -/
import Derived.Test.YtlmcblcijndipabGreatDoorB1
namespace Go.Proofs.YtlmcblcijndipabGreatDoor
open Go.RowKit
set_option linter.unusedVariables false

/-- a book's box, just made -/
abbrev boxBk (w : World) (now shift : Int) (a : Option Addr) (n cap : Nat) (a' : Option Addr) (m cap' : Nat) : World := w.alloc (.cells #[.int .i64 now, .int .i64 shift, .slice a n cap, .slice a' m cap'] 32)
/-- a book's box -/
structure BkAt (w : World) (B : Nat) (now shift : Int) (a : Option Addr) (n cap : Nat) (a' : Option Addr) (m cap' : Nat) : Prop where
  c0 : w.cell? ⟨B, 0, none⟩ = some (.int .i64 now)
  c1 : w.cell? ⟨B, 1, none⟩ = some (.int .i64 shift)
  c2 : w.cell? ⟨B, 2, none⟩ = some (.slice a n cap)
  c3 : w.cell? ⟨B, 3, none⟩ = some (.slice a' m cap')
theorem boxBk_at (w : World) (now shift : Int) (a : Option Addr) (n cap : Nat) (a' : Option Addr) (m cap' : Nat) : BkAt (boxBk w now shift a n cap a' m cap') w.heap.size now shift a n cap a' m cap' := by
  constructor <;> simp [boxBk]
theorem BkAt.below {N B : Nat} {w w' : World} {now shift : Int} {a : Option Addr} {n cap : Nat} {a' : Option Addr} {m cap' : Nat} (h : BkAt w B now shift a n cap a' m cap') (hb : Below N w w') (hB : B < N) : BkAt w' B now shift a n cap a' m cap' :=
  ⟨(hb.cell hB).trans h.c0, (hb.cell hB).trans h.c1, (hb.cell hB).trans h.c2, (hb.cell hB).trans h.c3⟩
theorem boxBk_below (w : World) (now shift : Int) (a : Option Addr) (n cap : Nat) (a' : Option Addr) (m cap' : Nat) : Below w.heap.size w (boxBk w now shift a n cap a' m cap') := (Below.refl _ _).alloc (Nat.le_refl _) _

/-- how a tick is asked whether it is from now on and promised where it is soon -/
theorem soon_ways (now : Int) {m : Mv} (t : Int) (hok : m.ok = true) :
    (soonAt now m t = false ∧ decide (t < now) = true) ∨ (soonAt now m t = true ∧ decide (t < now) = false ∧ decide (t < now + 4) = false)
    ∨ (soonAt now m t = false ∧ decide (t < now) = false ∧ decide (t < now + 4) = true ∧ m.prom = -1) ∨ (soonAt now m t = true ∧ decide (t < now) = false ∧ decide (t < now + 4) = true ∧ 0 ≤ m.prom) := by
  have hb := Mv.ok_bd hok
  unfold soonAt
  by_cases h1 : t < now
  · left; simp [h1]
  · by_cases h2 : t < now + 4
    · rcases hb.2.2.2.1 with h3 | h3
      · right; right; left; simp [h1, h2, h3]
      · right; right; right; have : m.prom ≠ -1 := by omega
        simp [h1, h2, this]; omega
    · right; left; simp [h1, h2]

set_option maxRecDepth 10000 in
set_option maxHeartbeats 4000000 in
theorem specBook_row (now shift : Int) (b off n cap : Nat) (f : Nat → Mv) (b' off' m cap' : Nat) (t : Nat → Int) (w : World) (hn : n ≤ 1048576) (hm1 : m ≤ maxLen) (hbs : b < w.heap.size) (hrow : MvRow w b off n f) (hf : ∀ i, i < n → (f i).Fits) (hbs' : b' < w.heap.size) (hrow' : IntRow w b' off' m t) :
    Calls Tryz.prog 30 #[.agg #[.int .i64 now, .int .i64 shift, .slice (some ⟨b, off, none⟩) n cap, .slice (some ⟨b', off', none⟩) m cap']] w fun e w' => e = .returned (.bool (bookB now shift f n t m)) ∧ Below w.heap.size w w' := by
  have bA := boxBk_below w now shift (some ⟨b, off, none⟩) n cap (some ⟨b', off', none⟩) m cap'
  have hA := boxBk_at w now shift (some ⟨b, off, none⟩) n cap (some ⟨b', off', none⟩) m cap'
  have H1 := specFits_row b off n cap f b' off' m cap' t _ hn hm1 (Nat.lt_of_lt_of_le hbs bA.size) (hrow.below bA hbs) hf (Nat.lt_of_lt_of_le hbs' bA.size) (hrow'.below bA hbs')
  cases h1 : inB now 0 10000 with
  | false =>
    have HB : Hid (bookB now shift f n t m = false) := bookB_now h1
    go_enter Tryz.func30, Tryz.ntmps30
    go_wp2_with (go_at_call 59; refine (in_any _ _ _ _).mono ?_; rintro e w' ⟨rfl, rfl⟩)
    go_ret
    exact ⟨ret_b HB.out.symm, bA⟩
  | true =>
    cases h2 : inB shift 0 6 with
    | false =>
      have HB : Hid (bookB now shift f n t m = false) := bookB_shift h2
      go_enter Tryz.func30, Tryz.ntmps30
      go_wp2_with (go_at_call 59; refine (in_any _ _ _ _).mono ?_; rintro e w' ⟨rfl, rfl⟩)
      go_ret
      exact ⟨ret_b HB.out.symm, bA⟩
    | true =>
      cases h3 : fitsB f n t m with
      | false =>
        have HB : Hid (bookB now shift f n t m = false) := bookB_fits h3
        rw [h3] at H1
        go_enter Tryz.func30, Tryz.ntmps30
        go_wp2_with (first | (go_at_call 59; refine (in_any _ _ _ _).mono ?_; rintro e w' ⟨rfl, rfl⟩) | (go_at_call 60; refine H1.mono ?_; clear H1; rintro e w1 ⟨rfl, b1⟩))
        go_ret
        exact ⟨ret_b HB.out.symm, bA.trans (b1.mono bA.size)⟩
      | true =>
        obtain ⟨hm, rfl, hfit⟩ := fits_parts h3
        have h6 := movesB_six hm
        have HM : Hid (movesB f m = true) := hm
        have HY : Hid (soonB now f t m = true → bookB now shift f m t m = true) := by
          have h : soonB now f t m = true → bookB now shift f m t m = true := fun h4 => bookB_yes h1 h2 h3 h4
          exact h
        have hnow := inB_iff.mp h1
        have hwr : IntKind.i64.wrap (now + 4) = now + 4 := by rw [IntKind.wrap_i64]; omega
        rw [h3] at H1
        clear hm hfit
        go_enter Tryz.func30, Tryz.ntmps30
        go_wp2_with (first | (go_at_call 59; refine (in_any _ _ _ _).mono ?_; rintro e w' ⟨rfl, rfl⟩) | (go_at_call 60; refine H1.mono ?_; clear H1; rintro e w1 ⟨rfl, b1⟩))
        have hB1 : Below w.heap.size w w1 := bA.trans (b1.mono bA.size)
        have hz1 : w.heap.size < w1.heap.size := Nat.lt_of_lt_of_le (by simp) b1.size
        have hA1 := hA.below b1 (by simp)
        clear hA b1
        go_loopw [3] (fun x wr => ∃ k : Nat, k ≤ m ∧ x = .int .i64 k ∧ (∀ j, j < k → soonAt now (f j) (t j) = true) ∧ Below w1.heap.size w1 wr) (fun x _ => m - (intOf x).toNat)
        case atStart => exact ⟨0, Nat.zero_le _, rfl, fun j hj => absurd hj (Nat.not_lt_zero _), Below.refl _ _⟩
        case round =>
          obtain ⟨k, hk, rfl, hall, hB⟩ := hrel
          have hBr : Below w.heap.size w wr := hB1.trans (hB.mono hB1.size)
          obtain ⟨a0, a1, a2, a3⟩ := hA1.below hB hz1
          by_cases hlt : k < m
          · have hlt' : (k : Int) < m := by omega
            have hr' := hrow'.below hBr hbs' k hlt
            have hr := hrow.below hBr hbs k hlt
            have hne := later_some wr
            have x0 := fun x : Later wr => x.cell a0
            have x2 := fun x : Later wr => x.cell a2
            have x3 := fun x : Later wr => x.cell a3
            have y5 := fun x : Later wr => x.cell hr.c5
            have y6 := fun x : Later wr => x.cell hr'
            rcases soon_ways now (t k) (movesB_ok HM.out k hlt) with ⟨hs, d1⟩ | ⟨hs, d1, d2⟩ | ⟨hs, d1, d2, d3⟩ | ⟨hs, d1, d2, d3⟩
            · have HB : Hid (bookB now shift f m t m = false) := bookB_soon (soonB_no hlt hs)
              have D1 : Hid (decide (t k < now) = true) := d1
              clear hs d1
              go_wp2
              have d1 := D1.out
              refine wp_region_later (by kernel_rfl) (by kernel_rfl) ?_
              repeat (go_big_quiet_step (fail))
              refine wpQuiet_nil (later_all ?_)
              intro w2 hb2
              go_wp2
              go_ret
              exact ⟨ret_b HB.out.symm, hBr.trans (hb2.mono hBr.size)⟩
            · have HS : Hid (soonAt now (f k) (t k) = true) := hs
              have D1 : Hid (decide (t k < now) = false) := d1
              have D2 : Hid (decide (t k < now + 4) = false) := d2
              clear hs d1 d2
              go_wp2
              have d1 := D1.out
              have d2 := D2.out
              refine wp_region_later (by kernel_rfl) (by kernel_rfl) ?_
              repeat (go_big_quiet_step (fail))
              refine wpQuiet_nil (later_all ?_)
              intro w2 hb2
              go_wp2
              go_roundw
              case rel => exact ⟨k + 1, by omega, by go_num, fun j hj => by
                by_cases e : j = k
                · subst e; exact HS.out
                · exact hall j (by omega), hB.trans (hb2.mono hB.size)⟩
              case measure => simp [intOf]; omega
            · have HB : Hid (bookB now shift f m t m = false) := bookB_soon (soonB_no hlt hs)
              have D1 : Hid (decide (t k < now) = false) := d1
              have D2 : Hid (decide (t k < now + 4) = true) := d2
              have D3 : Hid (decide ((f k).prom < 0) = true) := by have h : decide ((f k).prom < 0) = true := by rw [d3]; rfl
                                                                   exact h
              clear hs d1 d2 d3
              go_wp2
              have d1 := D1.out
              have d2 := D2.out
              have d3 := D3.out
              refine wp_region_later (by kernel_rfl) (by kernel_rfl) ?_
              repeat (go_big_quiet_step (fail))
              refine wpQuiet_nil (later_all ?_)
              intro w2 hb2
              go_wp2
              go_ret
              exact ⟨ret_b HB.out.symm, hBr.trans (hb2.mono hBr.size)⟩
            · have HS : Hid (soonAt now (f k) (t k) = true) := hs
              have D1 : Hid (decide (t k < now) = false) := d1
              have D2 : Hid (decide (t k < now + 4) = true) := d2
              have D3 : Hid (decide ((f k).prom < 0) = false) := by have h : decide ((f k).prom < 0) = false := by simpa using d3
                                                                    exact h
              clear hs d1 d2 d3
              go_wp2
              have d1 := D1.out
              have d2 := D2.out
              have d3 := D3.out
              refine wp_region_later (by kernel_rfl) (by kernel_rfl) ?_
              repeat (go_big_quiet_step (fail))
              refine wpQuiet_nil (later_all ?_)
              intro w2 hb2
              go_wp2
              go_roundw
              case rel => exact ⟨k + 1, by omega, by go_num, fun j hj => by
                by_cases e : j = k
                · subst e; exact HS.out
                · exact hall j (by omega), hB.trans (hb2.mono hB.size)⟩
              case measure => simp [intOf]; omega
          · have HB : Hid (bookB now shift f m t m = true) := by
              have h : bookB now shift f m t m = true := HY.out (soonB_yes (fun i hi => hall i (by omega)))
              exact h
            go_wp2
            go_ret
            exact ⟨ret_b HB.out.symm, hBr⟩
end Go.Proofs.YtlmcblcijndipabGreatDoor
