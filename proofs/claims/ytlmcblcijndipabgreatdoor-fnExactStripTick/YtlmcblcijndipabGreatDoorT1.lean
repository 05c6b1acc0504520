/- The text of a mark, as a function. -/
import Derived.Test.YtlmcblcijndipabGreatDoorBut
import Derived.Laws.BytesArg
namespace Go.Proofs.YtlmcblcijndipabGreatDoor
open Go.RowKit
set_option linter.unusedVariables false

theorem conv_byte (n : Int) (w : World) : (convert 88 9 (.slice (some ⟨w.heap.size, 0, none⟩) 1 1)).run Tryz.prog (w.alloc (.cells #[.int .u8 n] 5)) = .ok (.string (strOfNums [n])) (w.alloc (.cells #[.int .u8 n] 5)) :=
  run_convert_bytes_arg _ 88 5 Tryz.underlying88 Tryz.underlying5 w.heap.size 0 1 1 [n] rfl (fun i hi => by
    obtain rfl : i = 0 := by omega
    simp) 9 Tryz.underlying9

/-- the digits of a number ahead of a text -/
def digs : Nat → Int → ByteArray → ByteArray
  | 0, _, out => out
  | n + 1, k, out => if 0 < k then digs n (k / 10) (strOfNums [48 + k % 10] ++ out) else out
theorem digs_stop : ∀ (n : Nat) (k : Int) (out : ByteArray), k ≤ 0 → digs n k out = out
  | 0, _, _, _ => rfl
  | n + 1, k, out, h => by simp only [digs]; rw [if_neg (by omega)]
/-- enough is enough -/
theorem digs_more : ∀ (n m : Nat) (k : Int) (out : ByteArray), k ≤ n → k ≤ m → digs n k out = digs m k out
  | 0, m, k, out, h, _ => by rw [digs_stop 0 k out (by omega), digs_stop m k out (by omega)]
  | n + 1, 0, k, out, _, h => by rw [digs_stop (n + 1) k out (by omega), digs_stop 0 k out (by omega)]
  | n + 1, m + 1, k, out, h1, h2 => by
    simp only [digs]
    split
    · exact digs_more n m _ _ (by omega) (by omega)
    · rfl
/-- the text of a mark -/
def markB (k : Int) : ByteArray := if k ≤ 0 then ⟨#[109, 48]⟩ else ⟨#[109]⟩ ++ digs k.toNat k ⟨#[]⟩

set_option maxHeartbeats 400000 in
set_option maxRecDepth 10000 in
theorem markText_fn (k : Int) (w : World) (h0 : 0 ≤ k) (h1 : k ≤ 1000000000) :
    Calls Tryz.prog 50 #[.int .i64 k] w fun e w' => e = .returned (.string (markB k)) ∧ Below w.heap.size w w' := by
  by_cases hk : k ≤ 0
  · have HM : Hid (markB k = ⟨#[109, 48]⟩) := by have h : markB k = ⟨#[109, 48]⟩ := by unfold markB; rw [if_pos hk]
                                                 exact h
    go_enter Tryz.func50, Tryz.ntmps50
    go_wp2
    go_ret
    exact ⟨by rw [HM.out]; rfl, Below.refl _ _⟩
  · have HM : Hid (markB k = ⟨#[109]⟩ ++ digs k.toNat k ⟨#[]⟩) := by have h : markB k = ⟨#[109]⟩ ++ digs k.toNat k ⟨#[]⟩ := by unfold markB; rw [if_neg hk]
                                                                     exact h
    go_enter Tryz.func50, Tryz.ntmps50
    go_wp2
    go_loopw [0, 3] (fun x s wr => ∃ (z : Int) (t : ByteArray), x = .int .i64 z ∧ s = .string t ∧ 0 ≤ z ∧ z ≤ k ∧ t.size + z ≤ k ∧ digs k.toNat z t = digs k.toNat k ⟨#[]⟩ ∧ Below w.heap.size w wr) (fun x _ _ => (intOf x).toNat)
    case atStart => exact ⟨k, ⟨#[]⟩, rfl, rfl, by omega, by omega, by (show ((0 : Nat) : Int) + k ≤ k); omega, rfl, Below.refl _ _⟩
    case round =>
      obtain ⟨z, t, rfl, rfl, hz0, hz1, hz2, hd, hB⟩ := hrel
      have HD : Hid (digs k.toNat z t = digs k.toNat k ⟨#[]⟩) := hd
      clear hd
      by_cases hz : 0 < z
      · have hcv := conv_byte
        have hs1 := strOfNums_size [48 + z % 10]
        have HE : Hid (digs k.toNat (z / 10) (strOfNums [48 + z % 10] ++ t) = digs k.toNat z t) := by
          have h : digs k.toNat (z / 10) (strOfNums [48 + z % 10] ++ t) = digs k.toNat z t := by
            obtain ⟨m, hm⟩ : ∃ m, k.toNat = m + 1 := ⟨k.toNat - 1, by omega⟩
            rw [hm]
            conv => rhs; unfold digs
            rw [if_pos hz]
            exact digs_more _ _ _ _ (by omega) (by omega)
          exact h
        go_wp2
        go_roundw
        case rel => exact ⟨z / 10, _, rfl, rfl, by omega, by omega, by simp [strOfNums_size]; omega, HE.out.trans HD.out, hB.alloc hB.size _⟩
        case measure => simp [intOf]; omega
      · have ht : digs k.toNat z t = t := digs_stop _ _ _ (by omega)
        have HT : Hid (markB k = ⟨#[109]⟩ ++ t) := by have h : markB k = ⟨#[109]⟩ ++ t := by rw [HM.out, ← HD.out, ht]
                                                      exact h
        clear ht
        go_wp2
        go_ret
        exact ⟨by rw [HT.out]; rfl, hB⟩
end Go.Proofs.YtlmcblcijndipabGreatDoor
