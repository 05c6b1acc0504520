/- FnOrder: the ticks in a drawn order. -/
import Derived.Test.YtlmcblcijndipaaD8
import Derived.Test.YtlmcblcijndipaaL2
import Derived.Test.YtlmcblcijndipaaO4
import Derived.Test.YtlmcblcijndipaaK4
import Derived.Test.YtlmcblcijndipaaK6
import Derived.Test.YtlmcblcijndipaaEarlQ
namespace Go.Proofs.Ytlmcblcijndipaa
open Go.RowKit
set_option linter.unusedVariables false

theorem i64_min : IntKind.i64.min = -9223372036854775808 := by decide
theorem i64_max : IntKind.i64.max = 9223372036854775807 := by decide
theorem wf_of {x : Int} (h : -9223372036854775808 ≤ x ∧ x ≤ 9223372036854775807) : (Lit.int .i64 x).wf = true := by
  show (decide (IntKind.i64.min ≤ x) && decide (x ≤ IntKind.i64.max)) = true
  rw [i64_min, i64_max]; simpa using h
theorem Fitting.fits {m : Mv} (h : Fitting m) : m.Fits := ⟨by have := h.name; unfold maxLen; omega, wf_of h.wake, wf_of h.est, wf_of h.late, wf_of h.prom⟩
theorem first_one {f : Nat → Mv} {n : Nat} {g g' : Nat → Nat} (h : IsFirst f n g') (h' : IsFirst f n g) : ∀ i, i < n → ((g' i : Nat) : Int) = ((g i : Nat) : Int) := fun i hi => by rw [h.unique h' i hi]
theorem IntRow.congr {w : World} {b off n : Nat} {g g' : Nat → Int} (h : IntRow w b off n g) (e : ∀ i, i < n → g i = g' i) : IntRow w b off n g' := fun i hi => by rw [← e i hi]; exact h i hi
theorem orderR_some {f : Nat → Mv} {n : Nat} {g : Nat → Int} {m : Nat} {T : Nat → Int} (h : orderR f n g m = some T) : movesB f n = true ∧ m = n ∧ OrdTo g n n ∧ Earl f (plc g) n T := by
  unfold orderR at h
  split at h
  · rename_i hc
    obtain ⟨hm, ho⟩ := hc
    have hmn := ordB_same ho
    subst hmn
    have ho' := (ordB_iff g m).mp ho
    refine ⟨hm, rfl, ho', earl_says hm (plc_lt ho') (fun j k hjk hk e => ho'.2 j k hjk hk ?_) h⟩
    have h1 := ho'.1 j (by omega)
    have h2 := ho'.1 k hk
    unfold plc at e
    omega
  · cases h
end Go.Proofs.Ytlmcblcijndipaa
