/- FnExactStripMovesOk answers true at every list of moves and leaves it as it was: the program's StripMovesOk is the model's, and writes into no argument. No condition. -/
import Derived.Test.YtbmcedilhllojaaRows
import Derived.Test.YtbmcedilhllojaaW7
import Derived.Test.YtbmcedilhllojaaW8
import Derived.Test.YtbmcedilhllojaaOpen
import Derived.OpenShut
import Derived.ShutString
import Derived.ChangeOld
import Derived.Below
namespace Go.Proofs.Ytbmcedilhllojaa
open Go.ChangeShapes Go.WideShapes Go.ChangeAt Go.RowKit
set_option linter.unusedVariables false

/-- moves in a slice that came in: none, or a row of them, each fitting -/
def IsMvs (w : World) (a : Option Addr) (n cap : Nat) (f : Nat → Mv) : Prop :=
  n ≤ maxLen ∧ (n = 0 ∨ ∃ b off, a = some ⟨b, off, none⟩ ∧ b < w.heap.size ∧ MvRow w b off n f) ∧ ∀ i, i < n → (f i).Fits

theorem szS_any (a : Option Addr) (n cap : Nat) (f : Nat → Mv) (left : Int) (w : World) (h : IsMvs w a n cap f) (h0 : 0 ≤ left) (h1 : left ≤ 1048576) :
    Calls Try.prog 9 #[.slice a n cap, .int .i64 left] w fun e w' => (∃ r : Int, e = .returned (.int .i64 r) ∧ (r = -1 ∨ 0 ≤ r ∧ r + n ≤ left)) ∧ Below w.heap.size w w' := by
  obtain ⟨hn, hz | ⟨b, off, rfl, hb, hrow⟩, hf⟩ := h
  · subst hz; exact szS_none a cap left w h0 h1
  · exact szS_row b off n cap f left w hn hb hrow hf h0 h1

theorem toS_any (a : Option Addr) (n cap : Nat) (f : Nat → Mv) (w : World) (h : IsMvs w a n cap f) (hn : n ≤ 1048576) :
    Calls Try.prog 11 #[.slice a n cap] w fun e w' => e = .returned (.slice (some ⟨w.heap.size, 0, none⟩) n n) ∧ MvRow w' w.heap.size 0 n f ∧ w.heap.size < w'.heap.size ∧ Below w.heap.size w w' := by
  obtain ⟨_, hz | ⟨b, off, rfl, hb, hrow⟩, hf⟩ := h
  · subst hz; exact toS_none a cap f w
  · exact toS_row b off n cap f w hn hb hrow

theorem IsMvs.below {w w' : World} {a : Option Addr} {n cap : Nat} {f : Nat → Mv} (h : IsMvs w a n cap f) (hb : Below w.heap.size w w') : IsMvs w' a n cap f := by
  obtain ⟨hn, hz | ⟨b, off, rfl, hlt, hrow⟩, hf⟩ := h
  · exact ⟨hn, .inl hz, hf⟩
  · exact ⟨hn, .inr ⟨b, off, rfl, Nat.lt_of_lt_of_le hlt hb.size, hrow.below hb hlt⟩, hf⟩

namespace MovesOk
theorem own : ownKnob Try.prog.godebug = none := by kernel_rfl
theorem laidOut : laidOutB Try.prog = true := by kernel_rfl

set_option maxHeartbeats 400000 in
theorem walk (a : Option Addr) (n cap : Nat) (f : Nat → Mv) (w : World) (h : IsMvs w a n cap f) :
    Calls Try.prog 4 #[.slice a n cap] w fun e w' => e = .returned (.bool true) ∧ Below w.heap.size w w' := by
  go_enter Try.func4, Try.ntmps4
  go_wp2_with (go_at_call 9; refine (szS_any _ _ _ f _ _ h (by omega) (by omega)).mono ?_; rintro e w1 ⟨⟨r, rfl, hr⟩, hb1⟩)
  · go_ret
    exact ⟨rfl, hb1⟩
  · have hn : n ≤ 1048576 := by omega
    go_wp2_with (go_at_call 11; refine (toS_any _ _ _ f _ (h.below hb1) hn).mono ?_; rintro e w2 ⟨rfl, hrow2, hlt2, hb2⟩)
    have hB2 : Below w.heap.size w w2 := hb1.trans (hb2.mono hb1.size)
    go_wp2_with (go_at_call 10; refine (specMoves_row _ _ _ _ f _ hn hlt2 hrow2 h.2.2).mono ?_; rintro e w3 ⟨rfl, hb3⟩)
    have hB3 : Below w.heap.size w w3 := hB2.trans (hb3.mono hB2.size)
    go_wp2_with (go_at_call 11; refine (toS_any _ _ _ f _ (h.below hB3) hn).mono ?_; rintro e w4 ⟨rfl, hrow4, hlt4, hb4⟩)
    have hB4 : Below w.heap.size w w4 := hB3.trans (hb4.mono hB3.size)
    go_wp2_with (go_at_call 12; refine (implMoves_row _ _ _ _ f _ hn hlt4 hrow4).mono ?_; rintro e w5 ⟨rfl, hb5⟩)
    have hB5 : Below w.heap.size w w5 := hB4.trans (hb5.mono hB4.size)
    go_wp2_with (go_at_call 11; refine (toS_any _ _ _ f _ (h.below hB5) hn).mono ?_; rintro e w6 ⟨rfl, hrow6, hlt6, hb6⟩)
    have hB6 : Below w.heap.size w w6 := hB5.trans (hb6.mono hB5.size)
    have hlt5 : w3.heap.size < w5.heap.size := Nat.lt_of_lt_of_le hlt4 hb5.size
    have hrow6' : MvRow w6 w3.heap.size 0 n f := (hrow4.below hb5 hlt4).below hb6 hlt5
    go_wp2_with (go_at_call 13; refine (eqS_same _ _ _ _ _ _ _ f _ hn (Nat.lt_of_lt_of_le hlt5 hb6.size) hrow6' hlt6 hrow6).mono ?_; rintro e w7 ⟨rfl, hb7⟩)
    go_ret
    exact ⟨rfl, hB6.trans (hb7.mono hB6.size)⟩

theorem open_moves {H : Type} {enc : TypeId × Value → H} {w : World} {a : Option Addr} {n cap : Nat} {d : DataW H} {p : List MemPlace} (h : DataW.Trod enc Try.prog w 0 (fun _ => true) true 29 (.slice a n cap) d p) :
    ∃ f, IsMvs w a n cap f := by
  obtain ⟨fuel, hf⟩ := h
  rcases Deep.open_slice Try.underlying29 hf with ⟨hcs, _⟩ | ⟨x, l, c, m, k, D, Pl, hcs, _, hl, hm, hmm, _, hel⟩
  · simp [Value.cells] at hcs
    obtain ⟨rfl, rfl, rfl⟩ := hcs
    exact ⟨fun _ => ⟨ByteArray.empty, false, 0, 0, 0, 0⟩, Nat.zero_le _, .inl rfl, fun i hi => absurd hi (Nat.not_lt_zero _)⟩
  · simp [Value.cells] at hcs
    obtain ⟨rfl, rfl, rfl⟩ := hcs
    simp only [if_true] at hmm
    subst hmm
    have hi : Inhabited Mv := ⟨⟨ByteArray.empty, false, 0, 0, 0, 0⟩⟩
    have hall : ∀ i, i < n → ∃ m : Mv, m.Fits ∧ w.cells? 0 (x.add (i * 6)) 6 = some m.cells.toList := by
      intro i hin
      obtain ⟨cs', h1, h2⟩ := hel i (by omega)
      obtain ⟨m, hm, rfl⟩ := trod_move h2
      rw [cells_laws] at h1
      exact ⟨m, hm, h1⟩
    obtain ⟨f, hf'⟩ := Deep.choose_lt hall
    refine ⟨f, by omega, ?_, fun i hin => (hf' i hin).1⟩
    by_cases hz : n = 0
    · exact .inl hz
    · right
      obtain ⟨b, off, spot⟩ := x
      have hc : ∀ i, i < n → ∀ j, j < 6 → w.cell? ((Addr.mk b off spot).add (i * 6) |>.add j) = (f i).cells.toList[j]? := by
        intro i hin j hj
        obtain ⟨_, hlen, hcell⟩ := World.cells?_some (hf' i hin).2
        exact hcell j hj
      have h00 := hc 0 (by omega) 0 (by omega)
      have hspot : spot = none := by
        have := World.cell?_spot (a := (Addr.mk b off spot)) (v := .string (f 0).name) (by simpa [Addr.add] using h00)
        simpa using this
      subst hspot
      refine ⟨b, off, rfl, ?_, ?_⟩
      · have := block_lt_of_cell (w := w) (a := ⟨b, off, none⟩) (v := .string (f 0).name) (by simpa [Addr.add] using h00)
        exact this
      · intro i hin
        have q : ∀ j, j < 6 → w.cell? ⟨b, off + i * 6 + j, none⟩ = (f i).cells.toList[j]? := by
          intro j hj
          have := hc i hin j hj
          rw [Deep.add_add] at this
          simpa [add_plain, Nat.add_assoc] using this
        exact ⟨q 0 (by omega), q 1 (by omega), q 2 (by omega), q 3 (by omega), q 4 (by omega), q 5 (by omega)⟩

set_option maxRecDepth 100000 in
theorem lifted (os : Os) (started : os.Started) (H : Type) (enc : TypeId × Value → H) :
    ReturnsInHanded {} Try.checked os 4 .any (Rows.fnExactStripMovesOkSpec.pre6 enc Try.prog Try.f4 Rows.fnExactStripMovesOkRow.domain false) (Rows.fnExactStripMovesOkSpec.post enc Try.prog Try.f4 false true false false) := by
  refine returnsInHanded_of_change (C := Try.checked) own started (by kernel_rfl) Try.func4
    (ChangeSpec.witness6 (enc := enc) (C := Try.checked) false ⟨#[], #[.slice none 0 0], []⟩ 8 (by kernel_rfl) (by kernel_rfl) (by kernel_rfl) (by kernel_rfl)) ?_
  intro W base args ds gs before hval0 hW hcnd _
  have hval : ∀ (j : Nat) t v, Try.f4.params[j]? = some t → args[j]? = some v → Value.okWide Try.prog W .any base t v := hval0
  have hW' := hW
  obtain ⟨p, q, hA0, hV, rfl, hfz, hnd⟩ := hW
  have hA : DataW.TrodAll enc Try.prog W 0 (fun _ => true) true Try.f4.params.toList args.toList ds p := hA0
  rw [Try.params4] at hA hval
  obtain ⟨v0, vs0, d0, ds0, p0, q0, hargs, rfl, rfl, h0, r0⟩ := trodAll_cons hA
  obtain ⟨rfl, rfl, rfl⟩ := trodAll_nil r0
  obtain rfl : args = #[v0] := by cases args; simp_all
  obtain ⟨rfl, rfl⟩ := trodVars_none hV
  obtain ⟨a0, len0, cap0, rfl⟩ := okWide_slice Try.underlying29 (hval 0 29 v0 rfl rfl)
  have k0 := h0
  have lt0 : ∀ x ∈ p0, x.block < W.heap.size := by obtain ⟨m, hm⟩ := k0; exact DataW.trod_lt m _ _ _ hm
  obtain ⟨f0, w0⟩ := open_moves h0
  clear hA0 hval0
  refine (walk a0 len0 cap0 f0 W w0).mono fun e W' ⟨he, bel⟩ => ?_
  subst he
  exact ⟨_, rfl, _, _, _, [], _, [], hW', trodAll_mk1 (shut_bool Try.underlying4 _), (trodAll_cons_mk (Below.trod laidOut (by kernel_rfl) (of_decide_eq_true (by kernel_rfl)) k0 bel lt0) trodAll_mk0), rfl, bel.frame _, fun h => by cases h⟩

theorem over : Rows.fnExactStripMovesOkRow.holds Try.pinned (OpenSpec.ofChange Rows.fnExactStripMovesOkSpec) :=
  OpenClaim.holds_of_wide 4 Try.f4 rfl rfl rfl rfl rfl rfl rfl ⟨rfl, rfl, rfl, rfl, rfl⟩ rfl rfl rfl rfl rfl (by kernel_rfl) Try.func4 (by kernel_rfl)
    (of_decide_eq_true (by kernel_rfl)) (by unfold Func.isWrapper; first | (rw [if_pos (by decide +kernel)]; kernel_rfl) | (rw [if_neg (by decide +kernel)]; exact ⟨rfl, rfl⟩))
    (fun os started H enc _ => lifted os started H enc)
end MovesOk

/-- the given statement -/
theorem fnExactStripMovesOk_holds : Rows.FnExactStripMovesOkSaid := MovesOk.over
end Go.Proofs.Ytbmcedilhllojaa
