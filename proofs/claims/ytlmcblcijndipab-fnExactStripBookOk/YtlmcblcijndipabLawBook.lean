/- FnExactStripBookOk answers true at every book and leaves it as it was: the program's StripBookOk is the model's, and writes into no argument. No condition. -/
import Derived.Test.YtlmcblcijndipabB3
import Derived.Test.YtlmcblcijndipabB5
import Derived.Deep.RegionHeld3
namespace Go.Proofs.Ytlmcblcijndipab
open Go.ChangeShapes Go.WideShapes Go.ChangeAt Go.RowKit
set_option linter.unusedVariables false

namespace LawBook
set_option maxHeartbeats 1000000 in
theorem walk (now shift : Int) (a : Option Addr) (n cap : Nat) (f : Nat → Mv) (a' : Option Addr) (m cap' : Nat) (t : Nat → Int) (w : World) (h : IsMvs w a n cap f) (h' : IsInts w a' m t) :
    Calls Try.prog 7 #[.agg #[.int .i64 now, .int .i64 shift, .slice a n cap, .slice a' m cap']] w fun e w' => e = .returned (.bool true) ∧ Below w.heap.size w w' := by
  have hfits := h.2.2
  have HZ := fun W (hW : Below w.heap.size w W) => szBook_any now shift a n cap f a' m cap' t 1048576 W (h.below hW) (h'.below hW) (by omega) (by omega)
  have G := fun W (hW : Below w.heap.size w W) (hn : n ≤ 1048576) (hm : m ≤ 1048576) => toBook_any now shift a n cap f a' m cap' t W (h.below hW) hn (h'.below hW) hm
  clear h h'
  go_enter Try.func7, Try.ntmps7
  have bA : ∀ o, Below w.heap.size w (w.alloc o) := fun o => (Below.refl _ w).alloc (Nat.le_refl _) _
  go_wp2_with (go_at_call 24; refine (HZ _ (bA _)).mono ?_; clear HZ; rintro e w1 ⟨⟨r, rfl, hr⟩, b1⟩; have B1 := (bA _).trans (b1.mono (bA _).size); obtain ⟨g0, g1, g2, g3⟩ : BkAt w1 w.heap.size now shift a n cap a' m cap' := ⟨(b1.cell (by simp)).trans (by simp), (b1.cell (by simp)).trans (by simp), (b1.cell (by simp)).trans (by simp), (b1.cell (by simp)).trans (by simp)⟩; have hl1 : w.heap.size < w1.heap.size := Nat.lt_of_lt_of_le (by simp) b1.size)
  · go_ret
    exact ⟨rfl, B1⟩
  · have hn : n ≤ 1048576 := by omega
    have hm : m ≤ 1048576 := by omega
    have H2 := G w1 B1 hn hm
    go_wp2_with (first
      | (go_at_call 26; refine H2.mono ?_; clear H2; rintro e w2 ⟨⟨BM, BT, rfl, l2, l2', r2, o2, i2⟩, b2⟩; have B2 := B1.trans (b2.mono B1.size); obtain ⟨k0, k1, k2, k3⟩ := (BkAt.mk g0 g1 g2 g3).below b2 hl1; have hl2 := Nat.lt_of_lt_of_le hl1 b2.size; have H3 := specBook_row now shift BM 0 n n f BT 0 m m t w2 hn (by unfold maxLen; omega) o2.lt r2 hfits i2.lt i2.2)
      | (go_at_call 25; refine H3.mono ?_; clear H3; rintro e w3 ⟨rfl, b3⟩; have B3 := B2.trans (b3.mono B2.size); obtain ⟨p0, p1, p2, p3⟩ := (BkAt.mk k0 k1 k2 k3).below b3 hl2; have hl3 := Nat.lt_of_lt_of_le hl2 b3.size; have H4 := G w3 B3 hn hm)
      | (go_at_call 26; refine H4.mono ?_; clear H4; rintro e w4 ⟨⟨CM, CT, rfl, l4, l4', r4, o4, i4⟩, b4⟩; have B4 := B3.trans (b4.mono B3.size); have hl4 := Nat.lt_of_lt_of_le hl3 b4.size; have bx := boxBk_below w4 now shift (some ⟨CM, 0, none⟩) n n (some ⟨CT, 0, none⟩) m m; have hx := boxBk_at w4 now shift (some ⟨CM, 0, none⟩) n n (some ⟨CT, 0, none⟩) m m; have B5 := B4.trans (bx.mono B4.size); have hA5 := ((BkAt.mk p0 p1 p2 p3).below b4 hl3).below bx hl4; have hl5 := Nat.lt_of_lt_of_le hl4 bx.size; have r5 := r4.below bx o4.lt; have o5 := o4.below bx o4.lt; have i5 := i4.below bx i4.lt; have H5 := implBook_row now shift CM 0 n n f CT 0 m m t _ hn (by unfold maxLen; omega) o5.lt r5 i5.lt i5.2; clear p0 p1 p2 p3)
      | (go_at_call 27; refine H5.mono ?_; clear H5; rintro e w6 ⟨rfl, b6⟩; have B6 := B5.trans (b6.mono B5.size); obtain ⟨q0, q1, q2, q3⟩ := hA5.below b6 hl5; obtain ⟨x0, x1, x2, x3⟩ := hx.below b6 (by simp); have hlx : w4.heap.size < w6.heap.size := Nat.lt_of_lt_of_le (by simp) b6.size; have hl6 := Nat.lt_of_lt_of_le hl5 b6.size; have r6 := r5.below b6 o5.lt; have o6 := o5.below b6 o5.lt; have i6 := i5.below b6 i5.lt; clear hx hA5; have H6 := G w6 B6 hn hm))
    have H6' : ∀ W, W = w6.drew → Calls Try.prog 26 #[.agg #[.int .i64 now, .int .i64 shift, .slice a n cap, .slice a' m cap']] W fun e w' => (∃ BM BT, e = .returned (.agg #[.int .i64 now, .int .i64 shift, .slice (some ⟨BM, 0, none⟩) n n, .slice (some ⟨BT, 0, none⟩) m m]) ∧ W.heap.size ≤ BM ∧ BM < BT ∧ MvRow w' BM 0 n f ∧ OwnMvs w' BM n ∧ OwnInts w' BT m t) ∧ Below w6.heap.size w6 w' := fun W hW => by
      subst hW
      exact (G w6.drew (B6.drew) hn hm).mono (fun e w' ⟨h1, h2⟩ => ⟨h1, ((Below.refl _ w6).drew).trans h2⟩)
    clear H6
    go_region_held3 (fun w' => (w'.cell? ⟨w4.heap.size, 0, none⟩ = some (.int .i64 now) ∧ w'.cell? ⟨w4.heap.size, 1, none⟩ = some (.int .i64 shift) ∧ w'.cell? ⟨w4.heap.size, 2, none⟩ = some (.slice (some ⟨CM, 0, none⟩) n n) ∧ w'.cell? ⟨w4.heap.size, 3, none⟩ = some (.slice (some ⟨CT, 0, none⟩) m m)) ∧ w'.cell? ⟨w.heap.size, 0, none⟩ = some (.int .i64 now) ∧ w'.cell? ⟨w.heap.size, 1, none⟩ = some (.int .i64 shift) ∧ w'.cell? ⟨w.heap.size, 2, none⟩ = some (.slice a n cap) ∧ w'.cell? ⟨w.heap.size, 3, none⟩ = some (.slice a' m cap')) (go_keep)
      (first
      | (go_at_call 26; refine (H6' _ rfl).mono ?_; clear H6'; rintro e w7 ⟨⟨DM, DT, rfl, l7, l7', r7, o7, i7⟩, b7⟩; have B7 := B6.trans (b7.mono B6.size); obtain ⟨z0, z1, z2, z3⟩ := (BkAt.mk x0 x1 x2 x3).below b7 hlx; obtain ⟨y0, y1, y2, y3⟩ := (BkAt.mk q0 q1 q2 q3).below b7 hl6; have hlx7 := Nat.lt_of_lt_of_le hlx b7.size; have hl7 := Nat.lt_of_lt_of_le hl6 b7.size; have r8 := r6.below b7 o6.lt; have o8 := o6.below b7 o6.lt; have i8 := i6.below b7 i6.lt; have H7 := eqBook_same now shift CM 0 n DM 0 n n f CT 0 m DT 0 m m t w7 hn hm o8.lt r8 o7.lt r7 i8.lt i8.2 i7.lt i7.2)
      | (go_at_call 28; refine H7.mono ?_; clear H7; rintro e w8 ⟨rfl, b8⟩; have B8 := B7.trans (b8.mono B7.size); obtain ⟨u0, u1, u2, u3⟩ := (BkAt.mk z0 z1 z2 z3).below b8 hlx7; obtain ⟨v0, v1, v2, v3⟩ := (BkAt.mk y0 y1 y2 y3).below b8 hl7))
    all_goals
      go_wp2
      go_ret
      exact ⟨rfl, B8⟩

set_option maxRecDepth 100000 in
theorem lifted (os : Os) (started : os.Started) (H : Type) (enc : TypeId × Value → H) :
    ReturnsInHanded {} Try.checked os 7 .any (Rows.fnExactStripBookOkSpec.pre6 enc Try.prog Try.f7 Rows.fnExactStripBookOkRow.domain false) (Rows.fnExactStripBookOkSpec.post enc Try.prog Try.f7 false true false false) := by
  refine returnsInHanded_of_change (C := Try.checked) own started (by kernel_rfl) Try.func7
    (ChangeSpec.witness6 (enc := enc) (C := Try.checked) false ⟨#[], #[.agg #[.int .i64 0, .int .i64 0, .slice none 0 0, .slice none 0 0]], []⟩ 8 (by kernel_rfl) (by kernel_rfl) (by kernel_rfl) (by kernel_rfl)) ?_
  intro W base args ds gs before hval0 hW hcnd _
  have hval : ∀ (j : Nat) t v, Try.f7.params[j]? = some t → args[j]? = some v → Value.okWide Try.prog W .any base t v := hval0
  have hW' := hW
  obtain ⟨p, q, hA0, hV, rfl, hfz, hnd⟩ := hW
  have hA : DataW.TrodAll enc Try.prog W 0 (fun _ => true) true Try.f7.params.toList args.toList ds p := hA0
  rw [Try.params7] at hA hval
  obtain ⟨v0, vs0, d0, ds0, p0, q0, hargs, rfl, rfl, h0, r0⟩ := trodAll_cons hA
  obtain ⟨rfl, rfl, rfl⟩ := trodAll_nil r0
  obtain rfl : args = #[v0] := by cases args; simp_all
  obtain ⟨rfl, rfl⟩ := trodVars_none hV
  obtain ⟨now, shift, a, n, cap, f, a', m, cap', t, rfl, w0, w1⟩ := open_book (hval 0 41 v0 rfl rfl) h0
  have k0 := h0
  have lt0 : ∀ x ∈ p0, x.block < W.heap.size := by obtain ⟨n, hn⟩ := k0; exact DataW.trod_lt n _ _ _ hn
  clear hA0 hval0
  refine (walk now shift a n cap f a' m cap' t W w0 w1).mono fun e W' ⟨he, bel⟩ => ?_
  subst he
  exact ⟨_, rfl, _, _, _, [], _, [], hW', trodAll_mk1 (shut_bool Try.underlying4 _), (trodAll_cons_mk (Below.trod laidOut (by kernel_rfl) (of_decide_eq_true (by kernel_rfl)) k0 bel lt0) trodAll_mk0), rfl, bel.frame _, fun h => by cases h⟩

theorem over : Rows.fnExactStripBookOkRow.holds Try.pinned (OpenSpec.ofChange Rows.fnExactStripBookOkSpec) :=
  OpenClaim.holds_of_wide 7 Try.f7 rfl rfl rfl rfl rfl rfl rfl ⟨rfl, rfl, rfl, rfl, rfl⟩ rfl rfl rfl rfl rfl (by kernel_rfl) Try.func7 (by kernel_rfl)
    (of_decide_eq_true (by kernel_rfl)) (by unfold Func.isWrapper; first | (rw [if_pos (by decide +kernel)]; kernel_rfl) | (rw [if_neg (by decide +kernel)]; exact ⟨rfl, rfl⟩))
    (fun os started H enc _ => lifted os started H enc)
end LawBook

/-- the given statement -/
theorem fnExactStripBookOk_holds : Rows.FnExactStripBookOkSaid := LawBook.over
end Go.Proofs.Ytlmcblcijndipab
