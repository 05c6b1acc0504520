/- Texts of the proof, one behind another: O4. -/
import Derived.Test.YtlmcblcijndipaaGreatM09d
import Derived.Test.YtlmcblcijndipaaGreatM23
import Derived.Test.YtlmcblcijndipaaGreatM16
/- Both StripOrder, walked. -/
namespace Go.Proofs.YtlmcblcijndipaaGreat
open Go.RowKit
set_option linter.unusedVariables false

/-- an order as places -/
def plc (g : Nat → Int) (i : Nat) : Nat := (g i).toNat
/-- what StripOrder answers -/
def orderR (f : Nat → Mv) (n : Nat) (g : Nat → Int) (m : Nat) : Option (Nat → Int) := if movesB f n = true ∧ ordB g m n = true then earl f (plc g) n else none
theorem orderR_moves {f : Nat → Mv} {n m : Nat} {g : Nat → Int} (h : movesB f n = false) : orderR f n g m = none := by unfold orderR; rw [h]; simp
theorem orderR_ord {f : Nat → Mv} {n m : Nat} {g : Nat → Int} (h : ordB g m n = false) : orderR f n g m = none := by unfold orderR; rw [h]; simp
theorem orderR_yes {f : Nat → Mv} {n m : Nat} {g : Nat → Int} (h : movesB f n = true) (h' : ordB g m n = true) : orderR f n g m = earl f (plc g) n := by unfold orderR; rw [if_pos ⟨h, h'⟩]
theorem ordB_same {g : Nat → Int} {m n : Nat} (h : ordB g m n = true) : m = n := by
  by_cases e : m = n
  · exact e
  · rw [ordB_len e] at h; cases h
theorem plc_lt {g : Nat → Int} {n : Nat} (h : OrdTo g n n) (i : Nat) (hi : i < n) : plc g i < n := by have := h.1 i hi; unfold plc; omega
theorem plc_row {w : World} {b off n : Nat} {g : Nat → Int} (h : IntRow w b off n g) (ho : OrdTo g n n) : IntRow w b off n (fun i => ((plc g i : Nat) : Int)) := fun i hi => by
  have h1 := h i hi
  have h2 := ho.1 i hi
  rw [h1]; unfold plc; simp only [Int.toNat_of_nonneg h2.1]
theorem EarlSays.from {r : Option (Nat → Int)} {n : Nat} {w w1 : World} {e : Ending} {w' : World} (h : EarlSays r n w1 e w') (hz : w.heap.size ≤ w1.heap.size) : EarlSays r n w e w' := by
  cases r with
  | none => exact h
  | some T => obtain ⟨B, cap, h1, h2, h3⟩ := h; exact ⟨B, cap, Nat.le_trans hz h1, h2, h3⟩
/-- how it ends, opened -/
theorem EarlSays.two {r : Option (Nat → Int)} {n : Nat} {w : World} {e : Ending} {w' : World} (h : EarlSays r n w e w') :
    ∃ (a : Option Addr) (k cap : Nat) (t : Bool), e = .returned (.tuple #[.slice a k cap, .bool t]) := by
  cases r with
  | none => obtain ⟨a, cap, h⟩ := h; exact ⟨a, 0, cap, false, h⟩
  | some T => obtain ⟨B, cap, h1, h2, h3⟩ := h; exact ⟨_, n, cap, true, h2⟩

set_option maxHeartbeats 1000000 in
theorem implOrder_row (b off n cap : Nat) (f : Nat → Mv) (b' off' m cap' : Nat) (g : Nat → Int) (w : World) (hn : n ≤ 1048576) (hm : m ≤ 1048576) (hcap : m ≤ cap') (hbs : b < w.heap.size) (hrow : MvRow w b off n f) (hbs' : b' < w.heap.size) (hrow' : IntRow w b' off' m g) :
    Calls Tryz0.prog 12 #[.slice (some ⟨b, off, none⟩) n cap, .slice (some ⟨b', off', none⟩) m cap'] w fun e w' => EarlSays (orderR f n g m) n w e w' ∧ Below w.heap.size w w' := by
  have H1 := implMoves_row b off n cap f w hn hbs hrow
  cases ha : movesB f n with
  | false =>
    have HR : Hid (orderR f n g m = none) := orderR_moves ha
    rw [ha] at H1
    go_enter Tryz0.func12, Tryz.ntmps12
    go_wp2_with (go_at_call 23; refine H1.mono ?_; clear H1; rintro e w1 ⟨rfl, hb1⟩)
    go_ret2
    exact ⟨by rw [HR.out]; exact ⟨_, _, rfl⟩, hb1⟩
  | true =>
    rw [ha] at H1
    cases hb : ordB g m n with
    | false =>
      have HR : Hid (orderR f n g m = none) := orderR_ord hb
      have HO := fun w1 (hb1 : Below w.heap.size w w1) => implOk_row b' off' m cap' n g w1 (by unfold maxLen; omega) hn (Nat.lt_of_lt_of_le hbs' hb1.size) (hrow'.below hb1 hbs')
      rw [hb] at HO
      go_enter Tryz0.func12, Tryz.ntmps12
      go_wp2_with (first | (go_at_call 23; refine H1.mono ?_; clear H1; rintro e w1 ⟨rfl, hb1⟩) | (go_at_call 36; refine (HO _ hb1).mono ?_; clear HO; rintro e w2 ⟨rfl, hb2⟩))
      go_ret2
      exact ⟨by rw [HR.out]; exact ⟨_, _, rfl⟩, hb1.trans (hb2.mono hb1.size)⟩
    | true =>
      obtain rfl := ordB_same hb
      have hord := (ordB_iff g m).mp hb
      have HR : Hid (orderR f m g m = earl f (plc g) m) := orderR_yes ha hb
      have HO := fun w1 (hb1 : Below w.heap.size w w1) => implOk_row b' off' m cap' m g w1 (by unfold maxLen; omega) hn (Nat.lt_of_lt_of_le hbs' hb1.size) (hrow'.below hb1 hbs')
      rw [hb] at HO
      have HE := fun w1 (hb1 : Below w.heap.size w w1) => earliest_row b off m cap f b' off' cap' (plc g) w1 ha (plc_lt hord) hcap (Nat.lt_of_lt_of_le hbs hb1.size) (hrow.below hb1 hbs) (Nat.lt_of_lt_of_le hbs' hb1.size) (plc_row (hrow'.below hb1 hbs') hord)
      clear ha hb
      go_enter Tryz0.func12, Tryz.ntmps12
      go_wp2_with (first | (go_at_call 23; refine H1.mono ?_; clear H1; rintro e w1 ⟨rfl, hb1⟩) | (go_at_call 36; refine (HO _ hb1).mono ?_; clear HO; rintro e w2 ⟨rfl, hb2⟩; have hB2 : Below w.heap.size w w2 := hb1.trans (hb2.mono hb1.size)) | (go_at_call 37; refine (HE _ hB2).mono ?_; clear HE; rintro e w3 ⟨hs, hb3⟩; obtain ⟨ra, rk, rc, rt, rfl⟩ := hs.two))
      go_ret2
      exact ⟨by rw [HR.out]; exact hs.from hB2.size, hB2.trans (hb3.mono hB2.size)⟩

end Go.Proofs.YtlmcblcijndipaaGreat
