/- The walks of the functions on one move: what each of them answers. -/
import Derived.Test.YtlmcblcijndipaaChecked
import Derived.Test.YtlmcblcijndipaaPlain
import Derived.WalkKit
import Derived.ProofKit
import Derived.WalkLawsBesides
namespace Go.Proofs.Ytlmcblcijndipaa
open Go.RowKit

theorem ret_b {a b : Bool} (h : a = b) : Ending.returned (.bool a) = .returned (.bool b) := by rw [h]

theorem in_any (n lo hi : Int) (w : World) :
    Calls Try.prog 44 #[.int .i64 n, .int .i64 lo, .int .i64 hi] w fun e w' => e = .returned (.bool (inB n lo hi)) ∧ w' = w := by
  go_enter Try.func44, Try.ntmps44
  go_wp2
  all_goals go_ret
  all_goals exact ⟨ret_b (by unfold inB; rw [Bool.eq_iff_iff]; simp; omega), rfl⟩

theorem wake_any (n : Int) (w : World) :
    Calls Try.prog 46 #[.int .i64 n] w fun e w' => e = .returned (.bool (inB n 1 3)) ∧ w' = w := by
  go_enter Try.func46, Try.ntmps46
  go_wp2
  all_goals go_ret
  all_goals exact ⟨ret_b (by unfold inB; rw [Bool.eq_iff_iff]; simp; omega), rfl⟩

theorem span_any (a b : Int) (w : World) :
    Calls Try.prog 47 #[.int .i64 a, .int .i64 b] w fun e w' => e = .returned (.bool (inB a 0 b && decide (b ≤ 10000))) ∧ w' = w := by
  go_enter Try.func47, Try.ntmps47
  go_wp2
  all_goals go_ret
  all_goals exact ⟨ret_b (by unfold inB; rw [Bool.eq_iff_iff]; simp; omega), rfl⟩

theorem rune_any (r : Int) (w : World) :
    Calls Try.prog 66 #[.int .i32 r] w fun e w' => e = .returned (.bool (okB r)) ∧ w' = w := by
  go_enter Try.func66, Try.ntmps66
  go_wp2
  all_goals go_ret
  all_goals exact ⟨ret_b (by unfold okB; rw [Bool.eq_iff_iff]; simp; omega), rfl⟩
end Go.Proofs.Ytlmcblcijndipaa
