/- The walks over one move: in its span, its promise, whether it is ok; its copy. -/
import Derived.Test.YtlmcblcijndipabGreatDoorW2
namespace Go.Proofs.YtlmcblcijndipabGreatDoor
open Go.RowKit

theorem inSpan_any (s : ByteArray) (l : Bool) (a b c d t : Int) (w : World) :
    Calls Tryz.prog 147 #[.agg #[.string s, .bool l, .int .i64 a, .int .i64 b, .int .i64 c, .int .i64 d], .int .i64 t] w fun e w' => e = .returned (.bool (inB t b c)) ∧ Below w.heap.size w w' := by
  go_enter Tryz.func147, Tryz.ntmps147
  go_wp2
  all_goals go_ret
  all_goals exact ⟨ret_b (by unfold inB; rw [Bool.eq_iff_iff]; simp; omega), (Below.refl _ _).alloc (Nat.le_refl _) _⟩

theorem promise_any (s : ByteArray) (l : Bool) (a b c d : Int) (w : World) :
    Calls Tryz.prog 179 #[.agg #[.string s, .bool l, .int .i64 a, .int .i64 b, .int .i64 c, .int .i64 d]] w fun e w' => e = .returned (.bool (promB b c d)) ∧ Below w.heap.size w w' := by
  by_cases hd : (d == -1) = true
  · go_enter Tryz.func179, Tryz.ntmps179
    go_wp2
    go_ret
    exact ⟨ret_b (by unfold promB; rw [hd]; rfl), (Below.refl _ _).alloc (Nat.le_refl _) _⟩
  · have hd' : (d == -1) = false := by simpa using hd
    clear hd
    go_enter Tryz.func179, Tryz.ntmps179
    go_wp2_with (go_at_call 147; refine (inSpan_any _ _ _ _ _ _ _ _).mono ?_; rintro e w' ⟨rfl, hb⟩)
    go_ret
    exact ⟨ret_b (by unfold promB; rw [hd']; rfl), ((Below.refl _ _).alloc (Nat.le_refl _) _).trans (hb.mono (by simp))⟩
end Go.Proofs.YtlmcblcijndipabGreatDoor
