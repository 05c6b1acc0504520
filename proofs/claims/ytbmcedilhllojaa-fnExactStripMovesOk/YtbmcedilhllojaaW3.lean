/- The walks over one move: in its span, its promise, whether it is ok; its copy. -/
import Derived.Test.YtbmcedilhllojaaW2
namespace Go.Proofs.Ytbmcedilhllojaa
open Go.RowKit

/-- a move -/
structure Mv where
  name : ByteArray
  lands : Bool
  wake : Int
  est : Int
  late : Int
  prom : Int

/-- as a value -/
abbrev Mv.cells (m : Mv) : Array Value := #[.string m.name, .bool m.lands, .int .i64 m.wake, .int .i64 m.est, .int .i64 m.late, .int .i64 m.prom]
/-- its numbers fit their kinds, its name is no longer than a string may be -/
structure Mv.Fits (m : Mv) : Prop where
  name : m.name.size ≤ maxLen
  wake : (Lit.int .i64 m.wake).wf = true
  est : (Lit.int .i64 m.est).wf = true
  late : (Lit.int .i64 m.late).wf = true
  prom : (Lit.int .i64 m.prom).wf = true

def Mv.ok (m : Mv) : Bool := moveB m.name m.wake m.est m.late m.prom

theorem inSpan_any (s : ByteArray) (l : Bool) (a b c d t : Int) (w : World) :
    Calls Try.prog 22 #[.agg #[.string s, .bool l, .int .i64 a, .int .i64 b, .int .i64 c, .int .i64 d], .int .i64 t] w fun e w' => e = .returned (.bool (inB t b c)) ∧ Below w.heap.size w w' := by
  go_enter Try.func22, Try.ntmps22
  go_wp2
  all_goals go_ret
  all_goals exact ⟨ret_b (by unfold inB; rw [Bool.eq_iff_iff]; simp; omega), (Below.refl _ _).alloc (Nat.le_refl _) _⟩

theorem promise_any (s : ByteArray) (l : Bool) (a b c d : Int) (w : World) :
    Calls Try.prog 19 #[.agg #[.string s, .bool l, .int .i64 a, .int .i64 b, .int .i64 c, .int .i64 d]] w fun e w' => e = .returned (.bool (promB b c d)) ∧ Below w.heap.size w w' := by
  by_cases hd : (d == -1) = true
  · go_enter Try.func19, Try.ntmps19
    go_wp2
    go_ret
    exact ⟨ret_b (by unfold promB; rw [hd]; rfl), (Below.refl _ _).alloc (Nat.le_refl _) _⟩
  · have hd' : (d == -1) = false := by simpa using hd
    clear hd
    go_enter Try.func19, Try.ntmps19
    go_wp2_with (go_at_call 22; refine (inSpan_any _ _ _ _ _ _ _ _).mono ?_; rintro e w' ⟨rfl, hb⟩)
    go_ret
    exact ⟨ret_b (by unfold promB; rw [hd']; rfl), ((Below.refl _ _).alloc (Nat.le_refl _) _).trans (hb.mono (by simp))⟩
end Go.Proofs.Ytbmcedilhllojaa
