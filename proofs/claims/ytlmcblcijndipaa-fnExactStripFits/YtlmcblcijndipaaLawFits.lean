/- FnExactStripFits answers true at every list of moves and every list of ticks and leaves both as they were: the program's StripFits is the model's, and writes into no argument. No condition. -/
import Derived.Test.YtlmcblcijndipaaArgs
import Derived.Test.YtlmcblcijndipaaF4
namespace Go.Proofs.Ytlmcblcijndipaa
open Go.ChangeShapes Go.WideShapes Go.ChangeAt Go.RowKit
set_option linter.unusedVariables false

namespace LawFits
set_option maxHeartbeats 1000000 in
theorem walk (a : Option Addr) (n cap : Nat) (f : Nat → Mv) (a' : Option Addr) (m cap' : Nat) (t : Nat → Int) (w : World) (h : IsMvs w a n cap f) (h' : IsInts w a' m t) :
    Calls Try.prog 6 #[.slice a n cap, .slice a' m cap'] w fun e w' => e = .returned (.bool true) ∧ Below w.heap.size w w' := by
  have hm0 := h'.1
  unfold maxLen at hm0
  by_cases hm : m ≤ 1048576
  · go_enter Try.func6, Try.ntmps6
    go_wp2_with (go_at_call 21; refine (szS_any _ _ _ f _ _ h (by omega) (by omega)).mono ?_; rintro e w1 ⟨⟨r, rfl, hr⟩, hb1⟩)
    · go_ret
      exact ⟨rfl, hb1⟩
    · have hn : n ≤ 1048576 := by omega
      go_wp2_with (go_at_call 22; refine (toS_any _ _ _ f _ (h.below hb1) hn).mono ?_; rintro e w2 ⟨rfl, hrow2, hlt2, hb2⟩)
      have hB2 : Below w.heap.size w w2 := hb1.trans (hb2.mono hb1.size)
      go_wp2_with (go_at_call 25; refine (toI_any _ _ _ t _ (h'.below hB2) hm).mono ?_; rintro e w3 ⟨rfl, hrow3, hb3⟩)
      have hB3 : Below w.heap.size w w3 := hB2.trans (hb3.mono hB2.size)
      go_wp2_with (go_at_call 24; refine (specFits_row _ _ _ _ f _ _ _ _ t _ hn (by unfold maxLen; omega) (Nat.lt_of_lt_of_le hlt2 hb3.size) (hrow2.below hb3 hlt2) h.2.2 hrow3.lt hrow3.2).mono ?_; rintro e w4 ⟨rfl, hb4⟩)
      have hB4 : Below w.heap.size w w4 := hB3.trans (hb4.mono hB3.size)
      go_wp2_with (go_at_call 22; refine (toS_any _ _ _ f _ (h.below hB4) hn).mono ?_; rintro e w5 ⟨rfl, hrow5, hlt5, hb5⟩)
      have hB5 : Below w.heap.size w w5 := hB4.trans (hb5.mono hB4.size)
      go_wp2_with (go_at_call 25; refine (toI_any _ _ _ t _ (h'.below hB5) hm).mono ?_; rintro e w6 ⟨rfl, hrow6, hb6⟩)
      have hB6 : Below w.heap.size w w6 := hB5.trans (hb6.mono hB5.size)
      have hlt6 : w4.heap.size < w6.heap.size := Nat.lt_of_lt_of_le hlt5 hb6.size
      have hrow56 := hrow5.below hb6 hlt5
      go_wp2_with (go_at_call 15; refine (implFits_row _ _ _ _ f _ _ _ _ t _ hn (by unfold maxLen; omega) hlt6 hrow56 hrow6.lt hrow6.2).mono ?_; rintro e w7 ⟨rfl, hb7⟩)
      have hB7 : Below w.heap.size w w7 := hB6.trans (hb7.mono hB6.size)
      have hlt7 : w4.heap.size < w7.heap.size := Nat.lt_of_lt_of_le hlt6 hb7.size
      have hrow57 := hrow56.below hb7 hlt6
      have hrow67 := hrow6.below hb7 hrow6.lt
      go_wp2_with (go_at_call 22; refine (toS_any _ _ _ f _ (h.below hB7) hn).mono ?_; rintro e w8 ⟨rfl, hrow8, hlt8, hb8⟩)
      have hB8 : Below w.heap.size w w8 := hB7.trans (hb8.mono hB7.size)
      have hrow68 := hrow67.below hb8 hrow67.lt
      go_wp2_with (go_at_call 23; refine (eqS_same _ _ _ _ _ _ _ f _ hn (Nat.lt_of_lt_of_le hlt7 hb8.size) (hrow57.below hb8 hlt7) hlt8 hrow8).mono ?_; rintro e w9 ⟨rfl, hb9⟩)
      have hB9 : Below w.heap.size w w9 := hB8.trans (hb9.mono hB8.size)
      have hrow69 := hrow68.below hb9 hrow68.lt
      go_wp2_with (go_at_call 25; refine (toI_any _ _ _ t _ (h'.below hB9) hm).mono ?_; rintro e w10 ⟨rfl, hrow10, hb10⟩)
      have hB10 : Below w.heap.size w w10 := hB9.trans (hb10.mono hB9.size)
      have hrow610 := hrow69.below hb10 hrow69.lt
      go_wp2_with (go_at_call 26; refine (eqI_same _ _ _ _ _ _ _ t _ hm hrow610.lt hrow610.2 hrow10.lt hrow10.2).mono ?_; rintro e w11 ⟨rfl, hb11⟩)
      go_ret
      exact ⟨rfl, hB10.trans (hb11.mono hB10.size)⟩
  · have hm' : (1048576 : Int) < m := by omega
    go_enter Try.func6, Try.ntmps6
    go_wp2
    go_ret
    exact ⟨rfl, Below.refl _ _⟩

set_option maxRecDepth 100000 in
theorem lifted (os : Os) (started : os.Started) (H : Type) (enc : TypeId × Value → H) :
    ReturnsInHanded {} Try.checked os 6 .any (Rows.fnExactStripFitsSpec.pre6 enc Try.prog Try.f6 Rows.fnExactStripFitsRow.domain false) (Rows.fnExactStripFitsSpec.post enc Try.prog Try.f6 false true false false) := by
  refine returnsInHanded_of_change (C := Try.checked) own started (by kernel_rfl) Try.func6
    (ChangeSpec.witness6 (enc := enc) (C := Try.checked) false ⟨#[], #[.slice none 0 0, .slice none 0 0], []⟩ 8 (by kernel_rfl) (by kernel_rfl) (by kernel_rfl) (by kernel_rfl)) ?_
  intro W base args ds gs before hval0 hW hcnd _
  have hval : ∀ (j : Nat) t v, Try.f6.params[j]? = some t → args[j]? = some v → Value.okWide Try.prog W .any base t v := hval0
  have hW' := hW
  obtain ⟨p, q, hA0, hV, rfl, hfz, hnd⟩ := hW
  have hA : DataW.TrodAll enc Try.prog W 0 (fun _ => true) true Try.f6.params.toList args.toList ds p := hA0
  rw [Try.params6] at hA hval
  obtain ⟨v0, vs0, d0, ds0, p0, q0, hargs, rfl, rfl, h0, r0⟩ := trodAll_cons hA
  obtain ⟨v1, vs1, d1, ds1, p1, q1, hargs1, rfl, rfl, h1, r1⟩ := trodAll_cons r0
  obtain ⟨rfl, rfl, rfl⟩ := trodAll_nil r1
  obtain rfl : args = #[v0, v1] := by cases args; simp_all
  obtain ⟨rfl, rfl⟩ := trodVars_none hV
  obtain ⟨a0, len0, cap0, rfl⟩ := okWide_slice Try.underlying41 (hval 0 41 v0 rfl rfl)
  obtain ⟨a1, len1, cap1, rfl⟩ := okWide_slice Try.underlying24 (hval 1 24 v1 rfl rfl)
  have k0 := h0
  have k1 := h1
  have lt0 : ∀ x ∈ p0, x.block < W.heap.size := by obtain ⟨m, hm⟩ := k0; exact DataW.trod_lt m _ _ _ hm
  have lt1 : ∀ x ∈ p1, x.block < W.heap.size := by obtain ⟨m, hm⟩ := k1; exact DataW.trod_lt m _ _ _ hm
  obtain ⟨f0, w0⟩ := open_moves h0
  obtain ⟨f1, w1⟩ := open_nums h1
  clear hA0 hval0
  refine (walk a0 len0 cap0 f0 a1 len1 cap1 f1 W w0 w1).mono fun e W' ⟨he, bel⟩ => ?_
  subst he
  exact ⟨_, rfl, _, _, _, [], _, [], hW', trodAll_mk1 (shut_bool Try.underlying4 _), (trodAll_cons_mk (Below.trod laidOut (by kernel_rfl) (of_decide_eq_true (by kernel_rfl)) k0 bel lt0) (trodAll_cons_mk (Below.trod laidOut (by kernel_rfl) (of_decide_eq_true (by kernel_rfl)) k1 bel lt1) trodAll_mk0)), rfl, bel.frame _, fun h => by cases h⟩

theorem over : Rows.fnExactStripFitsRow.holds Try.pinned (OpenSpec.ofChange Rows.fnExactStripFitsSpec) :=
  OpenClaim.holds_of_wide 6 Try.f6 rfl rfl rfl rfl rfl rfl rfl ⟨rfl, rfl, rfl, rfl, rfl⟩ rfl rfl rfl rfl rfl (by kernel_rfl) Try.func6 (by kernel_rfl)
    (of_decide_eq_true (by kernel_rfl)) (by unfold Func.isWrapper; first | (rw [if_pos (by decide +kernel)]; kernel_rfl) | (rw [if_neg (by decide +kernel)]; exact ⟨rfl, rfl⟩))
    (fun os started H enc _ => lifted os started H enc)
end LawFits

/-- the given statement -/
theorem fnExactStripFits_holds : Rows.FnExactStripFitsSaid := LawFits.over
end Go.Proofs.Ytlmcblcijndipaa
