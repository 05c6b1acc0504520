/- FnExactStripOrder answers true at every list of moves and every list of numbers and leaves both as they were: the program's StripOrder is the model's, writes into no argument, and its answer owns its memory, behind another call too. No condition. -/
import Derived.Test.YtlmcblcijndipabArgs
import Derived.Test.YtlmcblcijndipabO4
import Derived.Test.YtlmcblcijndipabM2
namespace Go.Proofs.Ytlmcblcijndipab
open Go.ChangeShapes Go.WideShapes Go.ChangeAt Go.RowKit
set_option linter.unusedVariables false

namespace LawOrder
set_option maxHeartbeats 4000000 in
theorem walk (a : Option Addr) (n cap : Nat) (f : Nat → Mv) (a' : Option Addr) (m cap' : Nat) (g : Nat → Int) (w : World) (h : IsMvs w a n cap f) (h' : IsInts w a' m g) :
    Calls Try.prog 5 #[.slice a n cap, .slice a' m cap'] w fun e w' => e = .returned (.bool true) ∧ Below w.heap.size w w' := by
  have hm0 := h'.1
  unfold maxLen at hm0
  by_cases hm : m ≤ 1048576
  · have H1 := szS_any a n cap f 1048576 w h (by omega) (by omega)
    go_enter Try.func5, Try.ntmps5
    go_wp2_with (go_at_call 8; refine H1.mono ?_; clear H1; rintro e w1 ⟨⟨r, rfl, hr⟩, B1⟩)
    · go_ret
      exact ⟨rfl, B1⟩
    · have hn : n ≤ 1048576 := by omega
      have G := fun W (hW : Below w.heap.size w W) => toS_anyOwn a n cap f W (h.below hW) hn
      have M := fun W (hW : Below w.heap.size w W) => toI_any a' m cap' g W (h'.below hW) hm
      have H2 := G w1 B1
      cases hR : orderR f n g m with
      | some T =>
        have HR : Hid (orderR f n g m = some T) := hR
        clear hR
        go_wp2_with (first
          | (go_at_call 10; refine H2.mono ?_; clear H2; rintro e w2 ⟨rfl, r2, o2, b2⟩; have B2 := B1.trans (b2.mono B1.size); have H3 := M w2 B2)
          | (go_at_call 11; refine H3.mono ?_; clear H3; rintro e w3 ⟨rfl, i3, b3⟩; have B3 := B2.trans (b3.mono B2.size); have r3 := r2.below b3 o2.lt; have H4 := specOrder_row _ _ n n f _ _ m m g w3 hn hm (Nat.lt_of_lt_of_le o2.lt b3.size) r3 h.2.2 i3.lt i3.2; rw [HR.out] at H4)
          | (go_at_call 20; refine H4.mono ?_; clear H4; rintro e w4 ⟨⟨Bs, cs, hBs, rfl, s4⟩, b4⟩; have B4 := B3.trans (b4.mono B3.size); have H5 := G w4 B4)
          | (go_at_call 10; refine H5.mono ?_; clear H5; rintro e w5 ⟨rfl, r5, o5, b5⟩; have B5 := B4.trans (b5.mono B4.size); have s5 := s4.below b5 s4.lt; have H6 := M w5 B5)
          | (go_at_call 11; refine H6.mono ?_; clear H6; rintro e w6 ⟨rfl, i6, b6⟩; have B6 := B5.trans (b6.mono B5.size); have s6 := s5.below b6 s5.lt; have r6 := r5.below b6 o5.lt; have o6 := o5.below b6 o5.lt; have H7 := implOrder_row _ _ n n f _ _ m m g w6 hn hm (Nat.le_refl _) o6.lt r6 i6.lt i6.2; rw [HR.out] at H7)
          | (go_at_call 21; refine H7.mono ?_; clear H7; rintro e w7 ⟨⟨Bi, ci, hBi, rfl, t7⟩, b7⟩; have B7 := B6.trans (b7.mono B6.size); have s7 := s6.below b7 s6.lt; have r7 := r6.below b7 o6.lt; have o7 := o6.below b7 o6.lt; have i7 := i6.below b7 i6.lt; have H8 := eqI_same _ _ ci _ _ cs n T w7 hn t7.lt t7.2 s7.lt s7.2)
          | (go_at_call 14; refine H8.mono ?_; clear H8; rintro e w8 ⟨rfl, b8⟩; have B8 := B7.trans (b8.mono B7.size); have s8 := s7.below b8 s7.lt; have t8 := t7.below b8 t7.lt; have r8 := r7.below b8 o7.lt; have o8 := o7.below b8 o7.lt; have i8 := i7.below b8 i7.lt; have H9 := G w8 B8)
          | (go_at_call 10; refine H9.mono ?_; clear H9; rintro e w9 ⟨rfl, r9, o9, b9⟩; have B9 := B8.trans (b9.mono B8.size); have s9 := s8.below b9 s8.lt; have t9 := t8.below b9 t8.lt; have q9 := r8.below b9 o8.lt; have p9 := o8.below b9 o8.lt; have i9 := i8.below b9 i8.lt; have H10 := eqS_same _ _ n _ _ n n f w9 hn p9.lt q9 o9.lt r9)
          | (go_at_call 13; refine H10.mono ?_; clear H10; rintro e w10 ⟨rfl, b10⟩; have B10 := B9.trans (b10.mono B9.size); have s10 := s9.below b10 s9.lt; have t10 := t9.below b10 t9.lt; have p10 := p9.below b10 p9.lt; have i10 := i9.below b10 i9.lt; have H11 := M w10 B10)
          | (go_at_call 11; refine H11.mono ?_; clear H11; rintro e w11 ⟨rfl, j11, b11⟩; have B11 := B10.trans (b11.mono B10.size); have s11 := s10.below b11 s10.lt; have t11 := t10.below b11 t10.lt; have p11 := p10.below b11 p10.lt; have i11 := i10.below b11 i10.lt; have H12 := eqI_same _ _ m _ _ m m g w11 hm i11.lt i11.2 j11.lt j11.2)
          | (go_at_call 14; refine H12.mono ?_; clear H12; rintro e w12 ⟨rfl, b12⟩; have B12 := B11.trans (b12.mono B11.size); have s12 := s11.below b12 s11.lt; have t12 := t11.below b12 t11.lt; have p12 := p11.below b12 p11.lt; have i12 := i11.below b12 i11.lt; have n4 : Bs < w4.heap.size := s4.lt; have n5 : w4.heap.size < w5.heap.size := o5.lt; have n6 : w5.heap.size < w6.heap.size := i6.lt; have z4 := B4.size; have z5 := B5.size; have z6 := B6.size; have H13 := markS_own _ n n 1 w12 w.heap.size (by omega) hn (by omega) (by omega) p12)
          | (go_at_call 17; refine H13.mono ?_; clear H13; rintro e w13 ⟨rfl, u13, b13⟩; have B13 := B12.trans b13; have s13 := s12.but u13 (by omega); have t13 := t12.but u13 (by omega); have i13 := i12.but u13 (by omega); have H14 := markI_own _ m m g (1 + n * 6) w13 w.heap.size (by omega) hm (by omega) (by omega) i13)
          | (go_at_call 18; refine H14.mono ?_; clear H14; rintro e w14 ⟨rfl, _, u14, b14⟩; have B14 := B13.trans b14; have s14 := s13.but u14 (by omega); have t14 := t13.but u14 (by omega); have H15 := eqI_same _ _ ci _ _ cs n T w14 hn t14.lt t14.2 s14.lt s14.2)
          | (go_at_call 14; refine H15.mono ?_; clear H15; rintro e w15 ⟨rfl, b15⟩; have B15 := B14.trans (b15.mono B14.size); have s15 := s14.below b15 s14.lt; have t15 := t14.below b15 t14.lt; have H16 := markI_own _ n ci T 1 w15 w.heap.size (by omega) hn (by omega) (by omega) t15)
          | (go_at_call 18; refine H16.mono ?_; clear H16; rintro e w16 ⟨rfl, t16, u16, b16⟩; have B16 := B15.trans b16; have s16 := s15.but u16 (by omega); have H17 := heldI_own _ n ci 1 w16 hn (by omega) (by omega) t16)
          | (go_at_call 19; refine H17.mono ?_; clear H17; rintro e w17 ⟨rfl, b17⟩; have B17 := B16.trans (b17.mono B16.size); have s17 := s16.below b17 s16.lt; have t17 := t16.below b17 t16.lt; have H18 := G w17 B17)
          | (go_at_call 10; refine H18.mono ?_; clear H18; rintro e w18 ⟨rfl, r18, o18, b18⟩; have B18 := B17.trans (b18.mono B17.size); have s18 := s17.below b18 s17.lt; have t18 := t17.below b18 t17.lt; have H19 := M w18 B18)
          | (go_at_call 11; refine H19.mono ?_; clear H19; rintro e w19 ⟨rfl, i19, b19⟩; have B19 := B18.trans (b19.mono B18.size); have s19 := s18.below b19 s18.lt; have t19 := t18.below b19 t18.lt; have r19 := r18.below b19 o18.lt; have H20 := implOrder_row _ _ n n f _ _ m m g w19 hn hm (Nat.le_refl _) (Nat.lt_of_lt_of_le o18.lt b19.size) r19 i19.lt i19.2; rw [HR.out] at H20)
          | (go_at_call 21; refine H20.mono ?_; clear H20; rintro e w20 ⟨⟨Bh, ch, hBh, rfl, v20⟩, b20⟩; have B20 := B19.trans (b20.mono B19.size); have s20 := s19.below b20 s19.lt; have t20 := t19.below b20 t19.lt; have H21 := eqI_same _ _ ch _ _ cs n T w20 hn v20.lt v20.2 s20.lt s20.2)
          | (go_at_call 14; refine H21.mono ?_; clear H21; rintro e w21 ⟨rfl, b21⟩; have B21 := B20.trans (b21.mono B20.size); have t21 := t20.below b21 t20.lt; have H22 := heldI_own _ n ci 1 w21 hn (by omega) (by omega) t21)
          | (go_at_call 19; refine H22.mono ?_; clear H22; rintro e w22 ⟨rfl, b22⟩; have B22 := B21.trans (b22.mono B21.size)))
        go_ret
        exact ⟨rfl, B22⟩
      | none =>
        have HR : Hid (orderR f n g m = none) := hR
        clear hR
        go_wp2_with (first
          | (go_at_call 10; refine H2.mono ?_; clear H2; rintro e w2 ⟨rfl, r2, o2, b2⟩; have B2 := B1.trans (b2.mono B1.size); have H3 := M w2 B2)
          | (go_at_call 11; refine H3.mono ?_; clear H3; rintro e w3 ⟨rfl, i3, b3⟩; have B3 := B2.trans (b3.mono B2.size); have r3 := r2.below b3 o2.lt; have H4 := specOrder_row _ _ n n f _ _ m m g w3 hn hm (Nat.lt_of_lt_of_le o2.lt b3.size) r3 h.2.2 i3.lt i3.2; rw [HR.out] at H4)
          | (go_at_call 20; refine H4.mono ?_; clear H4; rintro e w4 ⟨⟨aw, cs, rfl⟩, b4⟩; have B4 := B3.trans (b4.mono B3.size); have H5 := G w4 B4)
          | (go_at_call 10; refine H5.mono ?_; clear H5; rintro e w5 ⟨rfl, r5, o5, b5⟩; have B5 := B4.trans (b5.mono B4.size); have H6 := M w5 B5)
          | (go_at_call 11; refine H6.mono ?_; clear H6; rintro e w6 ⟨rfl, i6, b6⟩; have B6 := B5.trans (b6.mono B5.size); have r6 := r5.below b6 o5.lt; have o6 := o5.below b6 o5.lt; have H7 := implOrder_row _ _ n n f _ _ m m g w6 hn hm (Nat.le_refl _) o6.lt r6 i6.lt i6.2; rw [HR.out] at H7)
          | (go_at_call 21; refine H7.mono ?_; clear H7; rintro e w7 ⟨⟨ai, ci, rfl⟩, b7⟩; have B7 := B6.trans (b7.mono B6.size); have r7 := r6.below b7 o6.lt; have o7 := o6.below b7 o6.lt; have i7 := i6.below b7 i6.lt; have H8 := eqI_none ai aw ci cs w7)
          | (go_at_call 14; refine H8.mono ?_; clear H8; rintro e w8 ⟨rfl, b8⟩; have B8 := B7.trans (b8.mono B7.size); have r8 := r7.below b8 o7.lt; have o8 := o7.below b8 o7.lt; have i8 := i7.below b8 i7.lt; have H9 := G w8 B8)
          | (go_at_call 10; refine H9.mono ?_; clear H9; rintro e w9 ⟨rfl, r9, o9, b9⟩; have B9 := B8.trans (b9.mono B8.size); have q9 := r8.below b9 o8.lt; have p9 := o8.below b9 o8.lt; have i9 := i8.below b9 i8.lt; have H10 := eqS_same _ _ n _ _ n n f w9 hn p9.lt q9 o9.lt r9)
          | (go_at_call 13; refine H10.mono ?_; clear H10; rintro e w10 ⟨rfl, b10⟩; have B10 := B9.trans (b10.mono B9.size); have p10 := p9.below b10 p9.lt; have i10 := i9.below b10 i9.lt; have H11 := M w10 B10)
          | (go_at_call 11; refine H11.mono ?_; clear H11; rintro e w11 ⟨rfl, j11, b11⟩; have B11 := B10.trans (b11.mono B10.size); have p11 := p10.below b11 p10.lt; have i11 := i10.below b11 i10.lt; have H12 := eqI_same _ _ m _ _ m m g w11 hm i11.lt i11.2 j11.lt j11.2)
          | (go_at_call 14; refine H12.mono ?_; clear H12; rintro e w12 ⟨rfl, b12⟩; have B12 := B11.trans (b12.mono B11.size); have p12 := p11.below b12 p11.lt; have i12 := i11.below b12 i11.lt; have n5 : w4.heap.size < w5.heap.size := o5.lt; have n6 : w5.heap.size < w6.heap.size := i6.lt; have z4 := B4.size; have z5 := B5.size; have z6 := B6.size; have H13 := markS_own _ n n 1 w12 w.heap.size (by omega) hn (by omega) (by omega) p12)
          | (go_at_call 17; refine H13.mono ?_; clear H13; rintro e w13 ⟨rfl, u13, b13⟩; have B13 := B12.trans b13; have i13 := i12.but u13 (by omega); have H14 := markI_own _ m m g (1 + n * 6) w13 w.heap.size (by omega) hm (by omega) (by omega) i13)
          | (go_at_call 18; refine H14.mono ?_; clear H14; rintro e w14 ⟨rfl, _, u14, b14⟩; have B14 := B13.trans b14; have H15 := eqI_none ai aw ci cs w14)
          | (go_at_call 14; refine H15.mono ?_; clear H15; rintro e w15 ⟨rfl, b15⟩; have B15 := B14.trans (b15.mono B14.size); have H16 := markI_none ai ci 1 w15)
          | (go_at_call 18; refine H16.mono ?_; clear H16; rintro e w16 ⟨rfl, rfl⟩; have H17 := heldI_none ai ci 1 w16)
          | (go_at_call 19; refine H17.mono ?_; clear H17; rintro e w17 ⟨rfl, rfl⟩; have H18 := G w17 B15)
          | (go_at_call 10; refine H18.mono ?_; clear H18; rintro e w18 ⟨rfl, r18, o18, b18⟩; have B18 := B15.trans (b18.mono B15.size); have H19 := M w18 B18)
          | (go_at_call 11; refine H19.mono ?_; clear H19; rintro e w19 ⟨rfl, i19, b19⟩; have B19 := B18.trans (b19.mono B18.size); have r19 := r18.below b19 o18.lt; have H20 := implOrder_row _ _ n n f _ _ m m g w19 hn hm (Nat.le_refl _) (Nat.lt_of_lt_of_le o18.lt b19.size) r19 i19.lt i19.2; rw [HR.out] at H20)
          | (go_at_call 21; refine H20.mono ?_; clear H20; rintro e w20 ⟨⟨ah, ch, rfl⟩, b20⟩; have B20 := B19.trans (b20.mono B19.size); have H21 := eqI_none ah aw ch cs w20)
          | (go_at_call 14; refine H21.mono ?_; clear H21; rintro e w21 ⟨rfl, b21⟩; have B21 := B20.trans (b21.mono B20.size); have H22 := heldI_none ai ci 1 w21)
          | (go_at_call 19; refine H22.mono ?_; clear H22; rintro e w22 ⟨rfl, rfl⟩; have B22 := B21))
        go_ret
        exact ⟨rfl, B22⟩
  · have hm' : (1048576 : Int) < m := by omega
    go_enter Try.func5, Try.ntmps5
    go_wp2
    go_ret
    exact ⟨rfl, Below.refl _ _⟩

set_option maxRecDepth 100000 in
theorem lifted (os : Os) (started : os.Started) (H : Type) (enc : TypeId × Value → H) :
    ReturnsInHanded {} Try.checked os 5 .any (Rows.fnExactStripOrderSpec.pre6 enc Try.prog Try.f5 Rows.fnExactStripOrderRow.domain false) (Rows.fnExactStripOrderSpec.post enc Try.prog Try.f5 false true false false) := by
  refine returnsInHanded_of_change (C := Try.checked) own started (by kernel_rfl) Try.func5
    (ChangeSpec.witness6 (enc := enc) (C := Try.checked) false ⟨#[], #[.slice none 0 0, .slice none 0 0], []⟩ 8 (by kernel_rfl) (by kernel_rfl) (by kernel_rfl) (by kernel_rfl)) ?_
  intro W base args ds gs before hval0 hW hcnd _
  have hval : ∀ (j : Nat) t v, Try.f5.params[j]? = some t → args[j]? = some v → Value.okWide Try.prog W .any base t v := hval0
  have hW' := hW
  obtain ⟨p, q, hA0, hV, rfl, hfz, hnd⟩ := hW
  have hA : DataW.TrodAll enc Try.prog W 0 (fun _ => true) true Try.f5.params.toList args.toList ds p := hA0
  rw [Try.params5] at hA hval
  obtain ⟨v0, vs0, d0, ds0, p0, q0, hargs, rfl, rfl, h0, r0⟩ := trodAll_cons hA
  obtain ⟨v1, vs1, d1, ds1, p1, q1, hargs1, rfl, rfl, h1, r1⟩ := trodAll_cons r0
  obtain ⟨rfl, rfl, rfl⟩ := trodAll_nil r1
  obtain rfl : args = #[v0, v1] := by cases args; simp_all
  obtain ⟨rfl, rfl⟩ := trodVars_none hV
  obtain ⟨a0, len0, cap0, rfl⟩ := okWide_slice Try.underlying22 (hval 0 22 v0 rfl rfl)
  obtain ⟨a1, len1, cap1, rfl⟩ := okWide_slice Try.underlying23 (hval 1 23 v1 rfl rfl)
  have k0 := h0
  have k1 := h1
  have lt0 : ∀ x ∈ p0, x.block < W.heap.size := by obtain ⟨m, hm⟩ := k0; exact DataW.trod_lt m _ _ _ hm
  have lt1 : ∀ x ∈ p1, x.block < W.heap.size := by obtain ⟨m, hm⟩ := k1; exact DataW.trod_lt m _ _ _ hm
  obtain ⟨f0, w0⟩ := open_moves h0
  obtain ⟨f1, w1⟩ := open_nums h1
  clear hA0 hval0
  refine (walk a0 len0 cap0 f0 a1 len1 cap1 f1 W w0 w1).mono fun e W' ⟨he, bel⟩ => ?_
  subst he
  exact ⟨_, rfl, _, _, _, [], _, [], hW', trodAll_mk1 (shut_bool Try.underlying4 _), (trodAll_cons_mk (Below.trod laidOut (by kernel_rfl) (of_decide_eq_true (by kernel_rfl)) k0 bel lt0) (trodAll_cons_mk (Below.trod laidOut (by kernel_rfl) (of_decide_eq_true (by kernel_rfl)) k1 bel lt1) trodAll_mk0)), rfl, bel.frame _, fun h => by cases h⟩

theorem over : Rows.fnExactStripOrderRow.holds Try.pinned (OpenSpec.ofChange Rows.fnExactStripOrderSpec) :=
  OpenClaim.holds_of_wide 5 Try.f5 rfl rfl rfl rfl rfl rfl rfl ⟨rfl, rfl, rfl, rfl, rfl⟩ rfl rfl rfl rfl rfl (by kernel_rfl) Try.func5 (by kernel_rfl)
    (of_decide_eq_true (by kernel_rfl)) (by unfold Func.isWrapper; first | (rw [if_pos (by decide +kernel)]; kernel_rfl) | (rw [if_neg (by decide +kernel)]; exact ⟨rfl, rfl⟩))
    (fun os started H enc _ => lifted os started H enc)
end LawOrder

/-- the given statement -/
theorem fnExactStripOrder_holds : Rows.FnExactStripOrderSaid := LawOrder.over
end Go.Proofs.Ytlmcblcijndipab
