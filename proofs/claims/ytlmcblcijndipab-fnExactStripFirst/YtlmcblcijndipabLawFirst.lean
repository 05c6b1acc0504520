/- FnExactStripFirst answers true at every list of moves and leaves it as it was: the program's StripFirst is the model's, writes into no argument, and its answer owns its memory, behind another call too. No condition. -/
import Derived.Test.YtlmcblcijndipabArgs
import Derived.Test.YtlmcblcijndipabK4
import Derived.Test.YtlmcblcijndipabK6
import Derived.Test.YtlmcblcijndipabM2
namespace Go.Proofs.Ytlmcblcijndipab
open Go.ChangeShapes Go.WideShapes Go.ChangeAt Go.RowKit
set_option linter.unusedVariables false


theorem first_same {f : Nat → Mv} {n : Nat} {g g' : Nat → Nat} (h : IsFirst f n g') (h' : IsFirst f n g) : ∀ i, i < n → ((g' i : Nat) : Int) = ((g i : Nat) : Int) := fun i hi => by rw [h.unique h' i hi]
theorem IntRow.but {w w' : World} {B b off n : Nat} {g : Nat → Int} (h : IntRow w b off n g) (hb : But B w w') (hlt : b < w.heap.size) (hne : b ≠ B) : IntRow w' b off n g :=
  fun i hi => (World.cell?_of_block (a := ⟨b, off + i, none⟩) (hb.block b hlt hne)).trans (h i hi)

namespace LawFirst
set_option maxHeartbeats 4000000 in
theorem walk (a : Option Addr) (n cap : Nat) (f : Nat → Mv) (w : World) (h : IsMvs w a n cap f) :
    Calls Try.prog 4 #[.slice a n cap] w fun e w' => e = .returned (.bool true) ∧ Below w.heap.size w w' := by
  have H1 := szS_any a n cap f 1048576 w h (by omega) (by omega)
  go_enter Try.func4, Try.ntmps4
  go_wp2_with (go_at_call 8; refine H1.mono ?_; clear H1; rintro e w1 ⟨⟨r, rfl, hr⟩, B1⟩)
  · go_ret
    exact ⟨rfl, B1⟩
  · have hn : n ≤ 1048576 := by omega
    have G := fun W (hW : Below w.heap.size w W) => toS_anyOwn a n cap f W (h.below hW) hn
    have H2 := G w1 B1
    go_wp2_with (first
        | (go_at_call 10; refine H2.mono ?_; clear H2; rintro e w2 ⟨rfl, r2, o2, b2⟩; have B2 := B1.trans (b2.mono B1.size); have H3 := specFirst_row _ _ n n f w2 hn o2.lt r2)
        | (go_at_call 15; refine H3.mono ?_; clear H3; rintro e w3 ⟨⟨g, Bs, cs, hg, rfl, l3, s3⟩, b3⟩; have B3 := B2.trans (b3.mono B2.size); have H4 := G w3 B3)
        | (go_at_call 10; refine H4.mono ?_; clear H4; rintro e w4 ⟨rfl, r4, o4, b4⟩; have B4 := B3.trans (b4.mono B3.size); have s4 := s3.below b4 l3; have l4 := Nat.lt_of_lt_of_le l3 b4.size; have H5 := implFirst_row _ _ n n f w4 hn o4.lt r4)
        | (go_at_call 16; refine H5.mono ?_; clear H5; rintro e w5 ⟨⟨g', Bi, ci, hg', hBi, rfl, t5'⟩, b5⟩; have t5 := t5'.congr (first_same hg' hg); clear t5'; have B5 := B4.trans (b5.mono B4.size); have s5 := s4.below b5 l4; have l5 := Nat.lt_of_lt_of_le l4 b5.size; have r5 := r4.below b5 o4.lt; have o5 := o4.below b5 o4.lt; have H6 := eqI_same _ _ ci _ _ cs n _ w5 hn t5.lt t5.2 l5 s5)
        | (go_at_call 14; refine H6.mono ?_; clear H6; rintro e w6 ⟨rfl, b6⟩; have B6 := B5.trans (b6.mono B5.size); have s6 := s5.below b6 l5; have l6 := Nat.lt_of_lt_of_le l5 b6.size; have t6 := t5.below b6 t5.lt; have r6 := r5.below b6 o5.lt; have o6 := o5.below b6 o5.lt; have H7 := G w6 B6)
        | (go_at_call 10; refine H7.mono ?_; clear H7; rintro e w7 ⟨rfl, r7, o7, b7⟩; have B7 := B6.trans (b7.mono B6.size); have s7 := s6.below b7 l6; have l7 := Nat.lt_of_lt_of_le l6 b7.size; have t7 := t6.below b7 t6.lt; have q7 := r6.below b7 o6.lt; have p7 := o6.below b7 o6.lt; have H8 := eqS_same _ _ n _ _ n n f w7 hn p7.lt q7 o7.lt r7)
        | (go_at_call 13; refine H8.mono ?_; clear H8; rintro e w8 ⟨rfl, b8⟩; have B8 := B7.trans (b8.mono B7.size); have s8 := s7.below b8 l7; have l8 := Nat.lt_of_lt_of_le l7 b8.size; have t8 := t7.below b8 t7.lt; have p8 := p7.below b8 p7.lt; have n4 : w3.heap.size < w4.heap.size := o4.lt; have z3 := B3.size; have z4 := B4.size; have H9 := markS_own _ n n 1 w8 w.heap.size z3 hn (by omega) (by omega) p8)
        | (go_at_call 17; refine H9.mono ?_; clear H9; rintro e w9 ⟨rfl, u9, b9⟩; have B9 := B8.trans b9; have s9 := s8.but u9 l8 (by omega); have l9 := Nat.lt_of_lt_of_le l8 u9.size; have t9 := t8.but u9 (by omega); have H10 := eqI_same _ _ ci _ _ cs n _ w9 hn t9.lt t9.2 l9 s9)
        | (go_at_call 14; refine H10.mono ?_; clear H10; rintro e w10 ⟨rfl, b10⟩; have B10 := B9.trans (b10.mono B9.size); have s10 := s9.below b10 l9; have l10 := Nat.lt_of_lt_of_le l9 b10.size; have t10 := t9.below b10 t9.lt; have H11 := markI_own _ n ci _ 1 w10 w.heap.size (by omega) hn (by omega) (by omega) t10)
        | (go_at_call 18; refine H11.mono ?_; clear H11; rintro e w11 ⟨rfl, t11, u11, b11⟩; have B11 := B10.trans b11; have s11 := s10.but u11 l10 (by omega); have l11 := Nat.lt_of_lt_of_le l10 u11.size; have H12 := heldI_own _ n ci 1 w11 hn (by omega) (by omega) t11)
        | (go_at_call 19; refine H12.mono ?_; clear H12; rintro e w12 ⟨rfl, b12⟩; have B12 := B11.trans (b12.mono B11.size); have s12 := s11.below b12 l11; have l12 := Nat.lt_of_lt_of_le l11 b12.size; have t12 := t11.below b12 t11.lt; have H13 := G w12 B12)
        | (go_at_call 10; refine H13.mono ?_; clear H13; rintro e w13 ⟨rfl, r13, o13, b13⟩; have B13 := B12.trans (b13.mono B12.size); have s13 := s12.below b13 l12; have l13 := Nat.lt_of_lt_of_le l12 b13.size; have t13 := t12.below b13 t12.lt; have H14 := implFirst_row _ _ n n f w13 hn o13.lt r13)
        | (go_at_call 16; refine H14.mono ?_; clear H14; rintro e w14 ⟨⟨g'', Bh, ch, hg'', hBh, rfl, v14'⟩, b14⟩; have v14 := v14'.congr (first_same hg'' hg); clear v14'; have B14 := B13.trans (b14.mono B13.size); have s14 := s13.below b14 l13; have l14 := Nat.lt_of_lt_of_le l13 b14.size; have t14 := t13.below b14 t13.lt; have H15 := eqI_same _ _ ch _ _ cs n _ w14 hn v14.lt v14.2 l14 s14)
        | (go_at_call 14; refine H15.mono ?_; clear H15; rintro e w15 ⟨rfl, b15⟩; have B15 := B14.trans (b15.mono B14.size); have t15 := t14.below b15 t14.lt; have H16 := heldI_own _ n ci 1 w15 hn (by omega) (by omega) t15)
        | (go_at_call 19; refine H16.mono ?_; clear H16; rintro e w16 ⟨rfl, b16⟩; have B16 := B15.trans (b16.mono B15.size)))
    go_ret
    exact ⟨rfl, B16⟩

set_option maxRecDepth 100000 in
theorem lifted (os : Os) (started : os.Started) (H : Type) (enc : TypeId × Value → H) :
    ReturnsInHanded {} Try.checked os 4 .any (Rows.fnExactStripFirstSpec.pre6 enc Try.prog Try.f4 Rows.fnExactStripFirstRow.domain false) (Rows.fnExactStripFirstSpec.post enc Try.prog Try.f4 false true false false) := by
  refine returnsInHanded_of_change (C := Try.checked) own started (by kernel_rfl) Try.func4
    (ChangeSpec.witness6 (enc := enc) (C := Try.checked) false ⟨#[], #[.slice none 0 0], []⟩ 8 (by kernel_rfl) (by kernel_rfl) (by kernel_rfl) (by kernel_rfl)) ?_
  intro W base args ds gs before hval0 hW hcnd _
  have hval : ∀ (j : Nat) t v, Try.f4.params[j]? = some t → args[j]? = some v → Value.okWide Try.prog W .any base t v := hval0
  have hW' := hW
  obtain ⟨p, q, hA0, hV, rfl, hfz, hnd⟩ := hW
  have hA : DataW.TrodAll enc Try.prog W 0 (fun _ => true) true Try.f4.params.toList args.toList ds p := hA0
  rw [Try.params4] at hA hval
  obtain ⟨v0, vs0, d0, ds0, p0, q0, hargs, rfl, rfl, h0, r0⟩ := trodAll_cons hA
  obtain ⟨rfl, rfl, rfl⟩ := trodAll_nil r0
  obtain rfl : args = #[v0] := by cases args; simp_all
  obtain ⟨rfl, rfl⟩ := trodVars_none hV
  obtain ⟨a0, len0, cap0, rfl⟩ := okWide_slice Try.underlying22 (hval 0 22 v0 rfl rfl)
  have k0 := h0
  have lt0 : ∀ x ∈ p0, x.block < W.heap.size := by obtain ⟨m, hm⟩ := k0; exact DataW.trod_lt m _ _ _ hm
  obtain ⟨f0, w0⟩ := open_moves h0
  clear hA0 hval0
  refine (walk a0 len0 cap0 f0 W w0).mono fun e W' ⟨he, bel⟩ => ?_
  subst he
  exact ⟨_, rfl, _, _, _, [], _, [], hW', trodAll_mk1 (shut_bool Try.underlying4 _), (trodAll_cons_mk (Below.trod laidOut (by kernel_rfl) (of_decide_eq_true (by kernel_rfl)) k0 bel lt0) trodAll_mk0), rfl, bel.frame _, fun h => by cases h⟩

theorem over : Rows.fnExactStripFirstRow.holds Try.pinned (OpenSpec.ofChange Rows.fnExactStripFirstSpec) :=
  OpenClaim.holds_of_wide 4 Try.f4 rfl rfl rfl rfl rfl rfl rfl ⟨rfl, rfl, rfl, rfl, rfl⟩ rfl rfl rfl rfl rfl (by kernel_rfl) Try.func4 (by kernel_rfl)
    (of_decide_eq_true (by kernel_rfl)) (by unfold Func.isWrapper; first | (rw [if_pos (by decide +kernel)]; kernel_rfl) | (rw [if_neg (by decide +kernel)]; exact ⟨rfl, rfl⟩))
    (fun os started H enc _ => lifted os started H enc)
end LawFirst

/-- the given statement -/
theorem fnExactStripFirst_holds : Rows.FnExactStripFirstSaid := LawFirst.over
end Go.Proofs.Ytlmcblcijndipab
