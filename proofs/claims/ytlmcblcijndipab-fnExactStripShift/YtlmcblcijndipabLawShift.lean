/- FnExactStripShift answers true at every two lists of numbers and leaves both as they were: the program's StripShift is the model's, and writes into no argument. No condition. -/
import Derived.Test.YtlmcblcijndipabArgs
import Derived.Test.YtlmcblcijndipabS3
namespace Go.Proofs.Ytlmcblcijndipab
open Go.ChangeShapes Go.WideShapes Go.ChangeAt Go.RowKit
set_option linter.unusedVariables false

namespace LawShift
set_option maxHeartbeats 1000000 in
theorem walk (a : Option Addr) (n cap : Nat) (g : Nat → Int) (a' : Option Addr) (m cap' : Nat) (h : Nat → Int) (w : World) (hg : IsInts w a n g) (hh : IsInts w a' m h) :
    Calls Try.prog 6 #[.slice a n cap, .slice a' m cap'] w fun e w' => e = .returned (.bool true) ∧ Below w.heap.size w w' := by
  have hn0 := hg.1
  have hm0 := hh.1
  unfold maxLen at hn0 hm0
  by_cases hn : n ≤ 1048576
  · by_cases hm : m ≤ 1048576
    · have G := fun W (hW : Below w.heap.size w W) => toI_any a n cap g W (hg.below hW) hn
      have M := fun W (hW : Below w.heap.size w W) => toI_any a' m cap' h W (hh.below hW) hm
      have H1 := G w (Below.refl _ _)
      go_enter Try.func6, Try.ntmps6
      go_wp2_with (first
        | (go_at_call 11; refine H1.mono ?_; clear H1; rintro e w1 ⟨rfl, o1, b1⟩; have B1 : Below w.heap.size w w1 := b1; have H2 := M w1 B1)
        | (go_at_call 11; refine H2.mono ?_; clear H2; rintro e w2 ⟨rfl, o2, b2⟩; have B2 := B1.trans (b2.mono B1.size); have o1' := o1.below b2 o1.lt; have H3 := specShift_row _ _ _ n _ _ _ m g h w2 hn hm o1'.lt o1'.2 o2.lt o2.2)
        | (go_at_call 22; refine H3.mono ?_; clear H3; rintro e w3 ⟨⟨r, rfl, hr⟩, b3⟩; have B3 := B2.trans (b3.mono B2.size); have H4 := G w3 B3)
        | (go_at_call 11; refine H4.mono ?_; clear H4; rintro e w4 ⟨rfl, o4, b4⟩; have B4 := B3.trans (b4.mono B3.size); have H5 := M w4 B4)
        | (go_at_call 11; refine H5.mono ?_; clear H5; rintro e w5 ⟨rfl, o5, b5⟩; have B5 := B4.trans (b5.mono B4.size); have o4' := o4.below b5 o4.lt; have H6 := implShift_row _ _ _ n _ _ _ m g h w5 hn hm o4'.lt o4'.2 o5.lt o5.2)
        | (go_at_call 23; refine H6.mono ?_; clear H6; rintro e w6 ⟨⟨r', rfl, hr'⟩, b6⟩; have B6 := B5.trans (b6.mono B5.size); obtain rfl := hr.unique hr'; have o4'' := o4'.below b6 o4'.lt; have o5' := o5.below b6 o5.lt; have H7 := G w6 B6)
        | (go_at_call 11; refine H7.mono ?_; clear H7; rintro e w7 ⟨rfl, o7, b7⟩; have B7 := B6.trans (b7.mono B6.size); have p4 := o4''.below b7 o4''.lt; have p5 := o5'.below b7 o5'.lt; have H8 := eqI_same _ _ n _ _ n n g w7 hn p4.lt p4.2 o7.lt o7.2)
        | (go_at_call 14; refine H8.mono ?_; clear H8; rintro e w8 ⟨rfl, b8⟩; have B8 := B7.trans (b8.mono B7.size); have q5 := p5.below b8 p5.lt; have H9 := M w8 B8)
        | (go_at_call 11; refine H9.mono ?_; clear H9; rintro e w9 ⟨rfl, o9, b9⟩; have B9 := B8.trans (b9.mono B8.size); have r5 := q5.below b9 q5.lt; have H10 := eqI_same _ _ m _ _ m m h w9 hm r5.lt r5.2 o9.lt o9.2)
        | (go_at_call 14; refine H10.mono ?_; clear H10; rintro e w10 ⟨rfl, b10⟩; have B10 := B9.trans (b10.mono B9.size)))
      go_ret
      exact ⟨rfl, B10⟩
    · have hm' : (1048576 : Int) < m := by omega
      go_enter Try.func6, Try.ntmps6
      go_wp2
      go_ret
      exact ⟨rfl, Below.refl _ _⟩
  · have hn' : (1048576 : Int) < n := by omega
    go_enter Try.func6, Try.ntmps6
    go_wp2
    go_ret
    exact ⟨rfl, Below.refl _ _⟩

set_option maxRecDepth 100000 in
theorem lifted (os : Os) (started : os.Started) (H : Type) (enc : TypeId × Value → H) :
    ReturnsInHanded {} Try.checked os 6 .any (Rows.fnExactStripShiftSpec.pre6 enc Try.prog Try.f6 Rows.fnExactStripShiftRow.domain false) (Rows.fnExactStripShiftSpec.post enc Try.prog Try.f6 false true false false) := by
  refine returnsInHanded_of_change (C := Try.checked) own started (by kernel_rfl) Try.func6
    (ChangeSpec.witness6 (enc := enc) (C := Try.checked) false ⟨#[], #[.slice none 0 0, .slice none 0 0], []⟩ 8 (by kernel_rfl) (by kernel_rfl) (by kernel_rfl) (by kernel_rfl)) ?_
  intro W base args ds gs before hval0 hW hcnd _
  have hval : ∀ (j : Nat) t v, Try.f6.params[j]? = some t → args[j]? = some v → Value.okWide Try.prog W .any base t v := hval0
  have hW' := hW
  obtain ⟨p, q, hA0, hV, rfl, hfz, hnd⟩ := hW
  have hA : DataW.TrodAll enc Try.prog W 0 (fun _ => true) true Try.f6.params.toList args.toList ds p := hA0
  rw [Try.params6] at hA hval
  obtain ⟨v0, vs0, d0, ds0, p0, q0, hargs, rfl, rfl, h0, r0⟩ := trodAll_cons hA
  obtain ⟨v1, vs1, d1, ds1, p1, q1, hargs1, rfl, rfl, h1, r1⟩ := trodAll_cons r0
  obtain ⟨rfl, rfl, rfl⟩ := trodAll_nil r1
  obtain rfl : args = #[v0, v1] := by cases args; simp_all
  obtain ⟨rfl, rfl⟩ := trodVars_none hV
  obtain ⟨a0, len0, cap0, rfl⟩ := okWide_slice Try.underlying23 (hval 0 23 v0 rfl rfl)
  obtain ⟨a1, len1, cap1, rfl⟩ := okWide_slice Try.underlying23 (hval 1 23 v1 rfl rfl)
  have k0 := h0
  have k1 := h1
  have lt0 : ∀ x ∈ p0, x.block < W.heap.size := by obtain ⟨m, hm⟩ := k0; exact DataW.trod_lt m _ _ _ hm
  have lt1 : ∀ x ∈ p1, x.block < W.heap.size := by obtain ⟨m, hm⟩ := k1; exact DataW.trod_lt m _ _ _ hm
  obtain ⟨f0, w0⟩ := open_nums h0
  obtain ⟨f1, w1⟩ := open_nums h1
  clear hA0 hval0
  refine (walk a0 len0 cap0 f0 a1 len1 cap1 f1 W w0 w1).mono fun e W' ⟨he, bel⟩ => ?_
  subst he
  exact ⟨_, rfl, _, _, _, [], _, [], hW', trodAll_mk1 (shut_bool Try.underlying4 _), (trodAll_cons_mk (Below.trod laidOut (by kernel_rfl) (of_decide_eq_true (by kernel_rfl)) k0 bel lt0) (trodAll_cons_mk (Below.trod laidOut (by kernel_rfl) (of_decide_eq_true (by kernel_rfl)) k1 bel lt1) trodAll_mk0)), rfl, bel.frame _, fun h => by cases h⟩

theorem over : Rows.fnExactStripShiftRow.holds Try.pinned (OpenSpec.ofChange Rows.fnExactStripShiftSpec) :=
  OpenClaim.holds_of_wide 6 Try.f6 rfl rfl rfl rfl rfl rfl rfl ⟨rfl, rfl, rfl, rfl, rfl⟩ rfl rfl rfl rfl rfl (by kernel_rfl) Try.func6 (by kernel_rfl)
    (of_decide_eq_true (by kernel_rfl)) (by unfold Func.isWrapper; first | (rw [if_pos (by decide +kernel)]; kernel_rfl) | (rw [if_neg (by decide +kernel)]; exact ⟨rfl, rfl⟩))
    (fun os started H enc _ => lifted os started H enc)
end LawShift

/-- the given statement -/
theorem fnExactStripShift_holds : Rows.FnExactStripShiftSaid := LawShift.over
end Go.Proofs.Ytlmcblcijndipab
