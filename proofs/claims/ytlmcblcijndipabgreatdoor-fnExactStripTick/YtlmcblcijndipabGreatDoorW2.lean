/- The walks over a name: what the two functions that look at one answer. -/
import Derived.Test.YtlmcblcijndipabGreatDoorW1
namespace Go.Proofs.YtlmcblcijndipabGreatDoor
open Go.RowKit

theorem specName_no (s : ByteArray) (w : World) (h : inB s.size 1 8 = false) :
    Calls Tryz.prog 61 #[.string s] w fun e w' => e = .returned (.bool (nameB s)) ∧ w' = w := by
  have hn : nameB s = false := by
    unfold inB at h
    by_cases h1 : 1 ≤ s.size
    · exact nameB_long (by simp at h; omega)
    · exact nameB_short h1
  go_enter Tryz.func61, Tryz.ntmps61
  go_wp2_with (go_at_call 59; refine (in_any _ _ _ _).mono ?_; rintro e w' ⟨rfl, rfl⟩)
  go_ret
  exact ⟨ret_b hn.symm, rfl⟩

set_option maxHeartbeats 400000 in
theorem specName_yes (s : ByteArray) (w : World) (hs : s.size ≤ maxLen) (hin : inB s.size 1 8 = true) :
    Calls Tryz.prog 61 #[.string s] w fun e w' => e = .returned (.bool (nameB s)) ∧ w' = w := by
  unfold maxLen at hs
  have hb : 1 ≤ s.size ∧ s.size ≤ 8 := by have hin' := hin; unfold inB at hin'; simp at hin'; omega
  go_enter Tryz.func61, Tryz.ntmps61
  go_wp2_with (go_at_call 59; refine (in_any _ _ _ _).mono ?_; rintro e w' ⟨rfl, rfl⟩)
  go_loop [3, 4] (fun i _ => ∃ k : Nat, k ≤ s.size ∧ i = .int .i64 k ∧ okTo s k) (fun i _ => s.size - (intOf i).toNat)
  case atStart => exact ⟨0, Nat.zero_le _, rfl, okTo_zero s⟩
  case round =>
    obtain ⟨k, hk, rfl, ho⟩ := hrel
    by_cases hlt : k < s.size
    · go_wp2
      all_goals first
        | (go_round
           case rel => exact ⟨k + 1, by omega, by go_num, okTo_succ ho hlt (by unfold okB; simp at *; omega)⟩
           case measure => simp [intOf]; omega)
        | (go_ret
           exact ⟨ret_b (nameB_no hlt (by unfold okB; simp at *; omega)).symm, rfl⟩)
    · go_wp2
      go_ret
      exact ⟨ret_b (nameB_yes hb.1 hb.2 (by rw [show s.size = k by omega]; exact ho)).symm, rfl⟩

theorem specName_any (s : ByteArray) (w : World) (hs : s.size ≤ maxLen) :
    Calls Tryz.prog 61 #[.string s] w fun e w' => e = .returned (.bool (nameB s)) ∧ w' = w := by
  by_cases h : inB s.size 1 8 = true
  · exact specName_yes s w hs h
  · exact specName_no s w (by simpa using h)

/-- the iterator of a range over a string is one block more -/
theorem below_iter (w : World) (s : ByteArray) (p : Nat) : Below w.heap.size w (w.iter s p) :=
  (Below.refl _ _).alloc (Nat.le_refl _) _

set_option maxRecDepth 1000000 in
theorem implName_yes (s : ByteArray) (w : World) (hb : 1 ≤ s.size ∧ s.size ≤ 8) :
    Calls Tryz.prog 176 #[.string s] w fun e w' => e = .returned (.bool (nameB s)) ∧ Below w.heap.size w w' := by
  go_enter Tryz.func176, Tryz.ntmps176
  go_wp2
  go_loopw [4] (fun _ w' => ∃ pos : Nat, w' = w.iter s pos ∧ pos ≤ s.size ∧ okTo s pos) (fun _ w' => s.size - w'.iterPos w.heap.size)
  case atStart => exact ⟨0, rfl, Nat.zero_le _, okTo_zero s⟩
  case round =>
    obtain ⟨pos, rfl, hp0, ho⟩ := hrel
    by_cases hp : pos < s.size
    · have hnx : ∀ ty, (Instr.next (.pointer (some ⟨w.heap.size, 0, none⟩)) true ty).run Tryz.prog (w.iter s pos) = _ := fun ty => run_next_any w s pos ty hp
      by_cases ha : (s[pos]'hp).toNat < 128
      · have hd := decode_ascii s pos hp ha
        rw [hd] at hnx
        clear hd
        by_cases hok : okB ((s[pos]'hp).toNat : Int) = true
        · go_wp2_with (go_at_call 197; refine (rune_any _ _).mono ?_; rintro e w' ⟨rfl, rfl⟩)
          go_roundw
          case rel => exact ⟨pos + 1, rfl, by omega, okTo_succ ho hp hok⟩
          case measure => simp; omega
        · have hok' : okB ((s[pos]'hp).toNat : Int) = false := by simpa using hok
          have hnn : nameB s = false := nameB_no hp hok'
          clear hok
          go_wp2_with (go_at_call 197; refine (rune_any _ _).mono ?_; rintro e w' ⟨rfl, rfl⟩)
          go_ret
          exact ⟨ret_b hnn.symm, below_iter _ _ _⟩
      · have hh := decode_high s pos hp (by omega)
        have hno : okB ((Utf8.decode s pos).1 : Int) = false := okB_no (by omega)
        have hnn : nameB s = false := nameB_no hp (okB_no (by omega))
        go_wp2_with (go_at_call 197; refine (rune_any _ _).mono ?_; rintro e w' ⟨rfl, rfl⟩)
        go_ret
        exact ⟨ret_b hnn.symm, below_iter _ _ _⟩
    · have hnx : ∀ ty, (Instr.next (.pointer (some ⟨w.heap.size, 0, none⟩)) true ty).run Tryz.prog (w.iter s pos) = _ := fun ty => run_next_end w s pos ty hp
      go_wp2
      go_ret
      exact ⟨ret_b (nameB_yes hb.1 hb.2 (by rw [show s.size = pos by omega]; exact ho)).symm, below_iter _ _ _⟩

theorem implName_no (s : ByteArray) (w : World) (hb : ¬ (1 ≤ s.size ∧ s.size ≤ 8)) :
    Calls Tryz.prog 176 #[.string s] w fun e w' => e = .returned (.bool (nameB s)) ∧ Below w.heap.size w w' := by
  have hn : nameB s = false := by
    by_cases h1 : 1 ≤ s.size
    · exact nameB_long (by omega)
    · exact nameB_short h1
  by_cases h1 : 1 ≤ s.size
  · have h8 : 8 < s.size := by omega
    go_enter Tryz.func176, Tryz.ntmps176
    go_wp2
    go_ret
    first | exact ⟨ret_b hn.symm, Below.refl _ _⟩ | exact ⟨rfl, Below.refl _ _⟩
  · go_enter Tryz.func176, Tryz.ntmps176
    go_wp2
    go_ret
    first | exact ⟨ret_b hn.symm, Below.refl _ _⟩ | exact ⟨rfl, Below.refl _ _⟩

theorem implName_any (s : ByteArray) (w : World) :
    Calls Tryz.prog 176 #[.string s] w fun e w' => e = .returned (.bool (nameB s)) ∧ Below w.heap.size w w' := by
  by_cases hb : 1 ≤ s.size ∧ s.size ≤ 8
  · exact implName_yes s w hb
  · exact implName_no s w hb
end Go.Proofs.YtlmcblcijndipabGreatDoor
