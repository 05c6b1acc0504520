/- The walks over moves in a slice. -/
import Derived.Test.YtlmcblcijndipabGreatDoorW4
namespace Go.Proofs.YtlmcblcijndipabGreatDoor
open Go.RowKit

/-- a move in memory -/
structure MvAt (w : World) (b o : Nat) (m : Mv) : Prop where
  c0 : w.cell? ⟨b, o, none⟩ = some (.string m.name)
  c1 : w.cell? ⟨b, o + 1, none⟩ = some (.bool m.lands)
  c2 : w.cell? ⟨b, o + 2, none⟩ = some (.int .i64 m.wake)
  c3 : w.cell? ⟨b, o + 3, none⟩ = some (.int .i64 m.est)
  c4 : w.cell? ⟨b, o + 4, none⟩ = some (.int .i64 m.late)
  c5 : w.cell? ⟨b, o + 5, none⟩ = some (.int .i64 m.prom)
/-- n moves in memory, in a row -/
def MvRow (w : World) (b off n : Nat) (f : Nat → Mv) : Prop := ∀ i, i < n → MvAt w b (off + i * 6) (f i)

theorem MvAt.below {B : Nat} {w w' : World} {b o : Nat} {m : Mv} (h : MvAt w b o m) (hb : Below B w w') (hB : b < B) : MvAt w' b o m :=
  ⟨(hb.cell hB).trans h.c0, (hb.cell hB).trans h.c1, (hb.cell hB).trans h.c2, (hb.cell hB).trans h.c3, (hb.cell hB).trans h.c4, (hb.cell hB).trans h.c5⟩
theorem MvRow.below {B : Nat} {w w' : World} {b off n : Nat} {f : Nat → Mv} (h : MvRow w b off n f) (hb : Below B w w') (hB : b < B) : MvRow w' b off n f :=
  fun i hi => (h i hi).below hb hB

set_option maxHeartbeats 400000 in
theorem szS_row (b off n cap : Nat) (f : Nat → Mv) (left : Int) (w : World) (hn : n ≤ maxLen) (hbs : b < w.heap.size) (hrow : MvRow w b off n f) (hf : ∀ i, i < n → (f i).Fits) (h0 : 0 ≤ left) (h1 : left ≤ 1048576) :
    Calls Tryz.prog 28 #[.slice (some ⟨b, off, none⟩) n cap, .int .i64 left] w fun e w' => (∃ r : Int, e = .returned (.int .i64 r) ∧ (r = -1 ∨ 0 ≤ r ∧ r + n ≤ left)) ∧ Below w.heap.size w w' := by
  unfold maxLen at hn
  by_cases hl : left < n
  · go_enter Tryz.func28, Tryz.ntmps28
    go_wp2
    go_ret
    exact ⟨⟨-1, rfl, .inl rfl⟩, Below.refl _ _⟩
  · go_enter Tryz.func28, Tryz.ntmps28
    go_wp2
    go_loopw [1, 5] (fun l i w' => ∃ (k : Nat) (t : Int), k ≤ n ∧ i = .int .i64 k ∧ l = .int .i64 t ∧ 0 ≤ t ∧ t + n ≤ left ∧ Below w.heap.size w w') (fun _ i _ => n - (intOf i).toNat)
    case atStart => exact ⟨0, left - n, Nat.zero_le _, rfl, rfl, by omega, by omega, Below.refl _ _⟩
    case round =>
      obtain ⟨k, t, hk, rfl, rfl, ht0, ht1, hB⟩ := hrel
      by_cases hlt : k < n
      · obtain ⟨c0, c1, c2, c3, c4, c5⟩ := (hrow.below hB hbs) k hlt
        have hs := (hf k hlt).name
        by_cases hts : t < (f k).name.size
        · go_wp2_with (go_at_call 9; refine (sz_any _ _ _ _ _ _ _ _ hs (by omega) (by omega)).mono ?_; rintro e w1 ⟨rfl, hb1⟩)
          go_ret
          exact ⟨⟨-1, rfl, .inl rfl⟩, hB.trans (hb1.mono hB.size)⟩
        · go_wp2_with (go_at_call 9; refine (sz_any _ _ _ _ _ _ _ _ hs (by omega) (by omega)).mono ?_; rintro e w1 ⟨rfl, hb1⟩)
          go_roundw
          case rel => exact ⟨k + 1, t - (f k).name.size, by omega, by go_num, by rw [if_neg (by omega)], by omega, by omega, hB.trans (hb1.mono hB.size)⟩
          case measure => simp [intOf]; omega
      · go_wp2
        go_ret
        exact ⟨⟨t, rfl, .inr ⟨ht0, ht1⟩⟩, hB⟩

theorem szS_none (a : Option Addr) (cap : Nat) (left : Int) (w : World) (h0 : 0 ≤ left) (h1 : left ≤ 1048576) :
    Calls Tryz.prog 28 #[.slice a 0 cap, .int .i64 left] w fun e w' => (∃ r : Int, e = .returned (.int .i64 r) ∧ (r = -1 ∨ 0 ≤ r ∧ r + (0 : Nat) ≤ left)) ∧ Below w.heap.size w w' := by
  go_enter Tryz.func28, Tryz.ntmps28
  go_wp2
  go_loopw [1, 5] (fun l i w' => i = .int .i64 0 ∧ l = .int .i64 left ∧ w' = w) (fun _ _ _ => 0)
  case atStart => exact ⟨rfl, rfl, rfl⟩
  case round =>
    obtain ⟨rfl, rfl, rfl⟩ := hrel
    go_wp2
    go_ret
    exact ⟨⟨left, rfl, .inr ⟨h0, by omega⟩⟩, Below.refl _ _⟩
end Go.Proofs.YtlmcblcijndipabGreatDoor
