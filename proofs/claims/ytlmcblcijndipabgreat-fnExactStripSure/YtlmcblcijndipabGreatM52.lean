/- FnExactStripSure answers true at every book and leaves it as it was: the program's StripSure is the model's, and writes into no argument. No condition. It starts goroutines; they leave. -/
import Derived.Test.YtlmcblcijndipabGreatM51
import Derived.Test.YtlmcblcijndipabGreatM46
import Derived.Test.YtlmcblcijndipabGreatM47
import Derived.Test.YtlmcblcijndipabGreatM33
import Derived.Test.YtlmcblcijndipabGreatM32
namespace Go.Proofs.YtlmcblcijndipabGreat
open Go.ChangeShapes Go.WideShapes Go.ChangeAt Go.RowKit Go.Conc
set_option linter.unusedVariables false
namespace LawSure
theorem keep_below {W W' : World} (h : Keep (fun d => d < W.heap.size) W W') : Below W.heap.size W { W' with tape := W.tape } := ⟨h.os, rfl, h.out, h.size, h.block⟩
theorem keep_frame {W W' : World} (h : Keep (fun d => d < W.heap.size) W W') (may : MemPlace → Prop) : W.keptBut W' may := by
  refine ⟨h.os, h.out, fun i hi => ?_⟩
  rw [h.block i hi]
  split <;> simp_all
theorem cell_block {P : Program} {W : World} {r : Reach} {base : Nat} {t e : TypeId} {x : Addr} {n cap : Nat} (ht : P.underlying t = some (.slice e)) (h : Cell.okWide P W r base t (.slice (some x) n cap)) : ∃ cs e z, W.heap[x.block]? = some (.cells cs e z) := by
  simp only [ht, Cell.okWide, Cell.ok] at h
  obtain ⟨_, _, _, hs, row, cells, hsh, _⟩ := h
  unfold World.shape? at hsh
  split at hsh
  · rename_i c el z hc; exact ⟨c, el, z, hc⟩
  · cases hsh
theorem types_book : Tryz.prog.cellTypes Tryz.prog.depth 35 = some [3, 3, 22, 24] := by kernel_rfl
set_option maxRecDepth 100000 in
theorem book_blocks {W : World} {r : Reach} {base : Nat} {now shift : Int} {a a' : Option Addr} {n cap m cap' : Nat} (h : Value.okWide Tryz.prog W r base 35 (.agg #[.int .i64 now, .int .i64 shift, .slice a n cap, .slice a' m cap'])) :
    ∀ x, a = some x ∨ a' = some x → ∃ cs e z, W.heap[x.block]? = some (.cells cs e z) := by
  simp only [Value.okWide, Tryz.underlying35] at h
  obtain ⟨cs, hc, _, ts, ht, _, hall⟩ := h
  rw [types_book] at ht
  obtain rfl := Option.some.inj ht
  simp only [Value.agg.injEq] at hc
  subst hc
  rintro x (rfl | rfl)
  · obtain ⟨u, hu, h2⟩ := hall 2 (.slice (some x) n cap) (by simp)
    simp at hu
    subst hu
    exact cell_block Tryz.underlying22 h2
  · obtain ⟨u, hu, h2⟩ := hall 3 (.slice (some x) m cap') (by simp)
    simp at hu
    subst hu
    exact cell_block Tryz.underlying24 h2
def heldBy (a a' : Option Addr) (b : Nat) : Bool := a.any (fun x => x.block == b) || a'.any (fun x => x.block == b)
theorem held_iff {a a' : Option Addr} {b : Nat} : heldBy a a' b = true ↔ ∃ x, (a = some x ∨ a' = some x) ∧ x.block = b := by
  unfold heldBy
  rw [Bool.or_eq_true]
  constructor
  · rintro (h | h)
    · cases a with
      | none => simp at h
      | some x => exact ⟨x, .inl rfl, by simpa using h⟩
    · cases a' with
      | none => simp at h
      | some x => exact ⟨x, .inr rfl, by simpa using h⟩
  · rintro ⟨x, rfl | rfl, rfl⟩
    · exact .inl (by simp)
    · exact .inr (by simp)
theorem mv_reads {W V : World} {a : Option Addr} {n cap : Nat} {f : Nat → Mv} (h : IsMvs W a n cap f) (hR : Reads W V) : IsMvs V a n cap f := by
  obtain ⟨h1, h2, h3⟩ := h
  refine ⟨h1, h2.imp id fun ⟨b, off, e, hl, hr⟩ => ⟨b, off, e, by rw [hR.1]; exact hl, fun i hi => ?_⟩, h3⟩
  have q := hr i hi
  exact ⟨hR.2 _ _ _ rfl q.c0, hR.2 _ _ _ rfl q.c1, hR.2 _ _ _ rfl q.c2, hR.2 _ _ _ rfl q.c3, hR.2 _ _ _ rfl q.c4, hR.2 _ _ _ rfl q.c5⟩
theorem int_reads {W V : World} {a : Option Addr} {n : Nat} {t : Nat → Int} (h : IsInts W a n t) (hR : Reads W V) : IsInts V a n t := by
  obtain ⟨h1, h2, h3⟩ := h
  exact ⟨h1, h2.imp id fun ⟨b, off, e, hl, hr⟩ => ⟨b, off, e, by rw [hR.1]; exact hl, fun i hi => hR.2 _ _ _ rfl (hr i hi)⟩, h3⟩
set_option maxRecDepth 100000 in
theorem lifted (os : Os) (started : os.Started) (H : Type) (enc : TypeId × Value → H) :
    ReturnsInLeavingWide {} Tryz.checked os 4 .any (Rows.fnExactStripSureSpec.pre6 enc Tryz.prog Tryz.f4 Rows.fnExactStripSureRow.domain false) (Rows.fnExactStripSureSpec.post enc Tryz.prog Tryz.f4 false true false false) := by
  refine returnsInLeavingWide_of_change_sized (C := Tryz.checked) own started Tryz.func4
    (ChangeSpec.witness6 (enc := enc) (C := Tryz.checked) false ⟨#[], #[.agg #[.int .i64 0, .int .i64 0, .slice none 0 0, .slice none 0 0]], []⟩ 8 (by kernel_rfl) (by kernel_rfl) (by kernel_rfl) (by kernel_rfl)) ?_
  intro W base args ds gs before hval0 hW hcnd _ _
  have hval : ∀ (j : Nat) t v, Tryz.f4.params[j]? = some t → args[j]? = some v → Value.okWide Tryz.prog W .any base t v := hval0
  have hW' := hW
  obtain ⟨p, q, hA0, hV, rfl, hfz, hnd⟩ := hW
  have hA : DataW.TrodAll enc Tryz.prog W 0 (fun _ => true) true Tryz.f4.params.toList args.toList ds p := hA0
  rw [Tryz.params4] at hA hval
  obtain ⟨v0, vs0, d0, ds0, p0, q0, hargs, rfl, rfl, h0, r0⟩ := trodAll_cons hA
  obtain ⟨rfl, rfl, rfl⟩ := trodAll_nil r0
  obtain rfl : args = #[v0] := by cases args; simp_all
  obtain ⟨rfl, rfl⟩ := trodVars_none hV
  have hv0 := hval 0 35 v0 rfl rfl
  obtain ⟨now, shift, a, n, cap, f, a', m, cap', t, rfl, w0, w1⟩ := open_book hv0 h0
  have k0 := h0
  have lt0 : ∀ x ∈ p0, x.block < W.heap.size := by obtain ⟨n, hn⟩ := k0; exact DataW.trod_lt n _ _ _ hn
  clear hA0 hval0
  have hblk := book_blocks hv0
  obtain ⟨M, last, o, w', t', g1, g2, g3, g4⟩ := run_law fnsS_ok fnsS_ini (L := 4) (by kernel_rfl) (W := W) (xs := #[.agg #[.int .i64 now, .int .i64 shift, .slice a n cap, .slice a' m cap']]) (heldBy a a') (fun b hb => by
      obtain ⟨x, hx, rfl⟩ := held_iff.1 hb
      exact hblk x hx)
    (fun ok ρ hρ => by
      letI := gl0
      have hs : ∀ (y : Option Addr) (l c : Nat), (∀ x, y = some x → a = some x ∨ a' = some x) → VRel ok ρ (.slice y l c) (.slice y l c) := fun y l c hy => by
        cases ha : y with
        | none => exact .slice0 _ _
        | some x => exact .slice _ _ ⟨hρ x.block (held_iff.2 ⟨x, hy x ha, rfl⟩), rfl, rfl⟩
      refine ⟨rfl, fun i x x' hx hx' => ?_⟩
      match i with
      | 0 =>
        simp at hx hx'; subst hx hx'
        refine .agg rfl fun i x x' hx hx' => ?_
        match i with
        | 0 => simp at hx hx'; subst hx hx'; exact .int _ _
        | 1 => simp at hx hx'; subst hx hx'; exact .int _ _
        | 2 => simp at hx hx'; subst hx hx'; exact hs _ _ _ fun x h => .inl h
        | 3 => simp at hx hx'; subst hx hx'; exact hs _ _ _ fun x h => .inr h
        | i + 4 => simp at hx
      | i + 1 => simp at hx)
    (fun ok V E h2 hR => by
      letI := gl0
      exact wk_lawSure E (by rw [h2]; kernel_rfl) (by rw [h2]; kernel_rfl) (by rw [h2]; kernel_rfl) (by rw [h2]; kernel_rfl) (by rw [h2]; kernel_rfl) (by rw [h2]; kernel_rfl) (mv_reads w0 hR) (int_reads w1 hR))
  refine ⟨M, last, o, w', t', g1, g2, g3, g4.mono fun v hv => ?_⟩
  obtain ⟨rfl, hk⟩ := hv
  have bel := keep_below hk
  have hh : ({ w' with tape := W.tape } : World).heap = w'.heap := rfl
  have e0 := (Below.trod laidOut (by kernel_rfl) (of_decide_eq_true (by kernel_rfl)) k0 bel lt0).of_heap (w' := w') hh
  exact ⟨_, _, _, [], _, [], hW', trodAll_mk1 (shut_bool Tryz.underlying4 _), (trodAll_cons_mk e0 trodAll_mk0), rfl, keep_frame hk _, fun h => by cases h⟩
theorem over : Rows.fnExactStripSureRow.holds Tryz.pinned (OpenSpec.ofChange Rows.fnExactStripSureSpec) :=
  OpenClaim.holds_of_wide_leaving 4 Tryz.f4 rfl rfl rfl rfl rfl rfl rfl ⟨rfl, rfl, rfl, rfl, rfl⟩ rfl rfl rfl rfl rfl (by kernel_rfl) Tryz.func4 (by kernel_rfl)
    (of_decide_eq_true (by kernel_rfl)) (by unfold Func.isWrapper; first | (rw [if_pos (by decide +kernel)]; kernel_rfl) | (rw [if_neg (by decide +kernel)]; exact ⟨rfl, rfl⟩))
    (fun os started H enc _ => lifted os started H enc)
end LawSure
theorem fnExactStripSure_holds : Rows.FnExactStripSureSaid := LawSure.over
#print axioms fnExactStripSure_holds
end Go.Proofs.YtlmcblcijndipabGreat
