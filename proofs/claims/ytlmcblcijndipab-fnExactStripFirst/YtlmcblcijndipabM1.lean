/- What the laws write into memory to see whose it is. -/
import Derived.Test.YtlmcblcijndipabBut
import Derived.Laws.BytesArg
namespace Go.Proofs.Ytlmcblcijndipab
open Go.RowKit
set_option linter.unusedVariables false

theorem conv_byte (n : Int) (w : World) : (convert 80 9 (.slice (some ⟨w.heap.size, 0, none⟩) 1 1)).run Try.prog (w.alloc (.cells #[.int .u8 n] 5)) = .ok (.string (strOfNums [n])) (w.alloc (.cells #[.int .u8 n] 5)) :=
  run_convert_bytes_arg _ 80 5 Try.underlying80 Try.underlying5 w.heap.size 0 1 1 [n] rfl (fun i hi => by
    obtain rfl : i = 0 := by omega
    simp) 9 Try.underlying9

set_option maxHeartbeats 400000 in
set_option maxRecDepth 10000 in
theorem markText_any (k : Int) (w : World) (h0 : 0 ≤ k) (h1 : k ≤ 1000000000) :
    Calls Try.prog 40 #[.int .i64 k] w fun e w' => (∃ s : ByteArray, e = .returned (.string s)) ∧ Below w.heap.size w w' := by
  by_cases hk : k ≤ 0
  · go_enter Try.func40, Try.ntmps40
    go_wp2
    go_ret
    exact ⟨⟨_, rfl⟩, Below.refl _ _⟩
  · go_enter Try.func40, Try.ntmps40
    go_wp2
    go_loopw [0, 3] (fun x s wr => ∃ (z : Int) (t : ByteArray), x = .int .i64 z ∧ s = .string t ∧ 0 ≤ z ∧ z ≤ k ∧ t.size + z ≤ k ∧ Below w.heap.size w wr) (fun x _ _ => (intOf x).toNat)
    case atStart => exact ⟨k, ByteArray.empty, rfl, rfl, by omega, by omega, by simp, Below.refl _ _⟩
    case round =>
      obtain ⟨z, t, rfl, rfl, hz0, hz1, hz2, hB⟩ := hrel
      by_cases hz : 0 < z
      · have hcv := conv_byte
        have hs1 := strOfNums_size [48 + z % 10]
        go_wp2
        go_roundw
        case rel => exact ⟨z / 10, _, rfl, rfl, by omega, by omega, by simp [strOfNums_size]; omega, hB.alloc hB.size _⟩
        case measure => simp [intOf]; omega
      · go_wp2
        go_ret
        exact ⟨⟨_, rfl⟩, hB⟩

set_option maxHeartbeats 1000000 in
theorem markS_own (b n cap : Nat) (k : Int) (w : World) (n₀ : Nat) (hn0 : n₀ ≤ b) (hn : n ≤ 1048576) (h0 : 0 ≤ k) (h1 : k ≤ 10000000) (hown : OwnMvs w b n) :
    Calls Try.prog 17 #[.slice (some ⟨b, 0, none⟩) n cap, .int .i64 k] w fun e w' => e = .returned (.int .i64 (k + n * 6)) ∧ But b w w' ∧ Below n₀ w w' := by
  have hlt0 := hown.lt
  go_enter Try.func17, Try.ntmps17
  go_wp2
  go_loopw [1, 5] (fun x i wr => ∃ j : Nat, j ≤ n ∧ i = .int .i64 j ∧ x = .int .i64 (k + j * 6) ∧ OwnMvs wr b n ∧ But b w wr ∧ Below n₀ w wr) (fun _ i _ => n - (intOf i).toNat)
  case atStart => exact ⟨0, Nat.zero_le _, rfl, by simp, hown, But.refl _ _, Below.refl _ _⟩
  case round =>
    obtain ⟨j, hj, rfl, rfl, ho, hbut, hB⟩ := hrel
    by_cases hlt : j < n
    · have hlt' : (j : Int) < n := by omega
      have HT := markText_any (k + j * 6) wr (by omega) (by omega)
      have hzb := ho.lt
      go_wp2_with (go_at_call 40; refine HT.mono ?_; clear HT; rintro e w1 ⟨⟨s, rfl⟩, hb1⟩; have ho1 := ho.below hb1 hzb; obtain ⟨hcell, hfz⟩ := ho1.cells; obtain ⟨v0, e0⟩ := hcell (j * 6) (by omega); obtain ⟨v1, e1⟩ := hcell (j * 6 + 1) (by omega); obtain ⟨v2, e2⟩ := hcell (j * 6 + 2) (by omega); obtain ⟨v3, e3⟩ := hcell (j * 6 + 3) (by omega); obtain ⟨v4, e4⟩ := hcell (j * 6 + 4) (by omega); obtain ⟨v5, e5⟩ := hcell (j * 6 + 5) (by omega))
      have hbut1 : But b w w1 := hbut.trans (But.of hb1)
      have hB1 : Below n₀ w w1 := hB.trans (hb1.mono (by omega))
      go_roundw
      case rel => exact ⟨j + 1, by omega, by go_num, by go_num, (((((ho1.setCell _ _).setCell _ _).setCell _ _).setCell _ _).setCell _ _).setCell _ _, (((((hbut1.setCell _ _).setCell _ _).setCell _ _).setCell _ _).setCell _ _).setCell _ _, (((((hB1.setCell hn0 _).setCell hn0 _).setCell hn0 _).setCell hn0 _).setCell hn0 _).setCell hn0 _⟩
      case measure => simp [intOf]; omega
    · have hjn : j = n := by omega
      subst hjn
      go_wp2
      go_ret
      exact ⟨rfl, hbut, hB⟩
end Go.Proofs.Ytlmcblcijndipab
