/- The walks of the functions on one move: what each of them answers. -/
import Derived.Test.YtlmcblcijndipabGreatDoorChecked
import Derived.Test.YtlmcblcijndipabGreatDoorPlain
import Derived.WalkKit
import Derived.ProofKit
import Derived.WalkLawsBesides
namespace Go.Proofs.YtlmcblcijndipabGreatDoor
open Go.RowKit

theorem ret_b {a b : Bool} (h : a = b) : Ending.returned (.bool a) = .returned (.bool b) := by rw [h]

theorem in_any (n lo hi : Int) (w : World) :
    Calls Tryz.prog 59 #[.int .i64 n, .int .i64 lo, .int .i64 hi] w fun e w' => e = .returned (.bool (inB n lo hi)) ∧ w' = w := by
  go_enter Tryz.func59, Tryz.ntmps59
  go_wp2
  all_goals go_ret
  all_goals exact ⟨ret_b (by unfold inB; rw [Bool.eq_iff_iff]; simp; omega), rfl⟩

theorem wake_any (n : Int) (w : World) :
    Calls Tryz.prog 177 #[.int .i64 n] w fun e w' => e = .returned (.bool (inB n 1 3)) ∧ w' = w := by
  go_enter Tryz.func177, Tryz.ntmps177
  go_wp2
  all_goals go_ret
  all_goals exact ⟨ret_b (by unfold inB; rw [Bool.eq_iff_iff]; simp; omega), rfl⟩

theorem span_any (a b : Int) (w : World) :
    Calls Tryz.prog 178 #[.int .i64 a, .int .i64 b] w fun e w' => e = .returned (.bool (inB a 0 b && decide (b ≤ 10000))) ∧ w' = w := by
  go_enter Tryz.func178, Tryz.ntmps178
  go_wp2
  all_goals go_ret
  all_goals exact ⟨ret_b (by unfold inB; rw [Bool.eq_iff_iff]; simp; omega), rfl⟩

theorem rune_any (r : Int) (w : World) :
    Calls Tryz.prog 197 #[.int .i32 r] w fun e w' => e = .returned (.bool (okB r)) ∧ w' = w := by
  go_enter Tryz.func197, Tryz.ntmps197
  go_wp2
  all_goals go_ret
  all_goals exact ⟨ret_b (by unfold okB; rw [Bool.eq_iff_iff]; simp; omega), rfl⟩
end Go.Proofs.YtlmcblcijndipabGreatDoor
