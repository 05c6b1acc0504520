/- FnExactStripMovesOk answers true at every list of moves and leaves it as it was: the program's StripMovesOk is the model's, and writes into no argument. No condition. -/
import Derived.Test.YtlmcblcijndipaaArgs
import Derived.Test.YtlmcblcijndipaaW7
namespace Go.Proofs.Ytlmcblcijndipaa
open Go.ChangeShapes Go.WideShapes Go.ChangeAt Go.RowKit
set_option linter.unusedVariables false

namespace MovesOk

set_option maxHeartbeats 400000 in
theorem walk (a : Option Addr) (n cap : Nat) (f : Nat → Mv) (w : World) (h : IsMvs w a n cap f) :
    Calls Try.prog 5 #[.slice a n cap] w fun e w' => e = .returned (.bool true) ∧ Below w.heap.size w w' := by
  go_enter Try.func5, Try.ntmps5
  go_wp2_with (go_at_call 21; refine (szS_any _ _ _ f _ _ h (by omega) (by omega)).mono ?_; rintro e w1 ⟨⟨r, rfl, hr⟩, hb1⟩)
  · go_ret
    exact ⟨rfl, hb1⟩
  · have hn : n ≤ 1048576 := by omega
    go_wp2_with (go_at_call 22; refine (toS_any _ _ _ f _ (h.below hb1) hn).mono ?_; rintro e w2 ⟨rfl, hrow2, hlt2, hb2⟩)
    have hB2 : Below w.heap.size w w2 := hb1.trans (hb2.mono hb1.size)
    go_wp2_with (go_at_call 14; refine (specMoves_row _ _ _ _ f _ hn hlt2 hrow2 h.2.2).mono ?_; rintro e w3 ⟨rfl, hb3⟩)
    have hB3 : Below w.heap.size w w3 := hB2.trans (hb3.mono hB2.size)
    go_wp2_with (go_at_call 22; refine (toS_any _ _ _ f _ (h.below hB3) hn).mono ?_; rintro e w4 ⟨rfl, hrow4, hlt4, hb4⟩)
    have hB4 : Below w.heap.size w w4 := hB3.trans (hb4.mono hB3.size)
    go_wp2_with (go_at_call 13; refine (implMoves_row _ _ _ _ f _ hn hlt4 hrow4).mono ?_; rintro e w5 ⟨rfl, hb5⟩)
    have hB5 : Below w.heap.size w w5 := hB4.trans (hb5.mono hB4.size)
    go_wp2_with (go_at_call 22; refine (toS_any _ _ _ f _ (h.below hB5) hn).mono ?_; rintro e w6 ⟨rfl, hrow6, hlt6, hb6⟩)
    have hB6 : Below w.heap.size w w6 := hB5.trans (hb6.mono hB5.size)
    have hlt5 : w3.heap.size < w5.heap.size := Nat.lt_of_lt_of_le hlt4 hb5.size
    have hrow6' : MvRow w6 w3.heap.size 0 n f := (hrow4.below hb5 hlt4).below hb6 hlt5
    go_wp2_with (go_at_call 23; refine (eqS_same _ _ _ _ _ _ _ f _ hn (Nat.lt_of_lt_of_le hlt5 hb6.size) hrow6' hlt6 hrow6).mono ?_; rintro e w7 ⟨rfl, hb7⟩)
    go_ret
    exact ⟨rfl, hB6.trans (hb7.mono hB6.size)⟩

set_option maxRecDepth 100000 in
theorem lifted (os : Os) (started : os.Started) (H : Type) (enc : TypeId × Value → H) :
    ReturnsInHanded {} Try.checked os 5 .any (Rows.fnExactStripMovesOkSpec.pre6 enc Try.prog Try.f5 Rows.fnExactStripMovesOkRow.domain false) (Rows.fnExactStripMovesOkSpec.post enc Try.prog Try.f5 false true false false) := by
  refine returnsInHanded_of_change (C := Try.checked) own started (by kernel_rfl) Try.func5
    (ChangeSpec.witness6 (enc := enc) (C := Try.checked) false ⟨#[], #[.slice none 0 0], []⟩ 8 (by kernel_rfl) (by kernel_rfl) (by kernel_rfl) (by kernel_rfl)) ?_
  intro W base args ds gs before hval0 hW hcnd _
  have hval : ∀ (j : Nat) t v, Try.f5.params[j]? = some t → args[j]? = some v → Value.okWide Try.prog W .any base t v := hval0
  have hW' := hW
  obtain ⟨p, q, hA0, hV, rfl, hfz, hnd⟩ := hW
  have hA : DataW.TrodAll enc Try.prog W 0 (fun _ => true) true Try.f5.params.toList args.toList ds p := hA0
  rw [Try.params5] at hA hval
  obtain ⟨v0, vs0, d0, ds0, p0, q0, hargs, rfl, rfl, h0, r0⟩ := trodAll_cons hA
  obtain ⟨rfl, rfl, rfl⟩ := trodAll_nil r0
  obtain rfl : args = #[v0] := by cases args; simp_all
  obtain ⟨rfl, rfl⟩ := trodVars_none hV
  obtain ⟨a0, len0, cap0, rfl⟩ := okWide_slice Try.underlying41 (hval 0 41 v0 rfl rfl)
  have k0 := h0
  have lt0 : ∀ x ∈ p0, x.block < W.heap.size := by obtain ⟨m, hm⟩ := k0; exact DataW.trod_lt m _ _ _ hm
  obtain ⟨f0, w0⟩ := open_moves h0
  clear hA0 hval0
  refine (walk a0 len0 cap0 f0 W w0).mono fun e W' ⟨he, bel⟩ => ?_
  subst he
  exact ⟨_, rfl, _, _, _, [], _, [], hW', trodAll_mk1 (shut_bool Try.underlying4 _), (trodAll_cons_mk (Below.trod laidOut (by kernel_rfl) (of_decide_eq_true (by kernel_rfl)) k0 bel lt0) trodAll_mk0), rfl, bel.frame _, fun h => by cases h⟩

theorem over : Rows.fnExactStripMovesOkRow.holds Try.pinned (OpenSpec.ofChange Rows.fnExactStripMovesOkSpec) :=
  OpenClaim.holds_of_wide 5 Try.f5 rfl rfl rfl rfl rfl rfl rfl ⟨rfl, rfl, rfl, rfl, rfl⟩ rfl rfl rfl rfl rfl (by kernel_rfl) Try.func5 (by kernel_rfl)
    (of_decide_eq_true (by kernel_rfl)) (by unfold Func.isWrapper; first | (rw [if_pos (by decide +kernel)]; kernel_rfl) | (rw [if_neg (by decide +kernel)]; exact ⟨rfl, rfl⟩))
    (fun os started H enc _ => lifted os started H enc)
end MovesOk

/-- the given statement -/
theorem fnExactStripMovesOk_holds : Rows.FnExactStripMovesOkSaid := MovesOk.over
end Go.Proofs.Ytlmcblcijndipaa
