/- Texts of the proof, one behind another: Q40. -/
import Derived.Test.YtlmcblcijndipabGreatM11
import Derived.Test.YtlmcblcijndipabGreatM29
/- What bestTry is fed with: the rows of its caller, and the contracts of what its workers call. -/
namespace Go.Proofs.YtlmcblcijndipabGreat
open Go Go.Conc Go.RowKit
set_option linter.unusedVariables false
def ltTry (y x : TryV) : Bool := decide (cmpTry y x < 0)
theorem flat_cell : ∀ (xs : List TryV) (i : Nat) (y : TryV) (o : Nat), xs[i]? = some y → o < 4 → (xs.flatMap TryV.cells)[i * 4 + o]? = y.cells[o]?
  | [], i, y, o, h, _ => by simp at h
  | x :: xs, 0, y, o, h, ho => by
    simp only [List.getElem?_cons_zero, Option.some.injEq] at h
    subst h
    rw [List.flatMap_cons, Nat.zero_mul, Nat.zero_add, List.getElem?_append_left (by simp [TryV.cells]; exact ho)]
  | x :: xs, i + 1, y, o, h, ho => by
    simp only [List.getElem?_cons_succ] at h
    have hl : x.cells.length = 4 := rfl
    rw [List.flatMap_cons, List.getElem?_append_right (by rw [hl]; omega), hl, show (i + 1) * 4 + o - 4 = i * 4 + o by omega]
    exact flat_cell xs i y o h ho
theorem row_of_flat {V : World} {b : Nat} {xs : List TryV} {T : TypeId} {z : Nat × Nat} (h : V.heap[b]? = some (.cells (xs.flatMap TryV.cells).toArray T z)) (hx : ∀ x ∈ xs, LaidI V x.a x.n x.g ∧ x.n ≤ 1048576) : TryRow V b 0 xs.length (fun i => xs.getD i noTry) := by
  intro i hi
  have hg : xs[i]? = some (xs.getD i noTry) := by simp [hi]
  have hm : xs.getD i noTry ∈ xs := List.mem_of_getElem? hg
  have hc : ∀ o, o < 4 → V.cell? ⟨b, 0 + i * 4 + o, none⟩ = (xs.getD i noTry).cells[o]? := fun o ho => by
    rw [← flat_cell xs i _ o hg ho]; simp [World.cell?, h]
  show TryAt V b (0 + i * 4) (xs.getD i noTry)
  generalize xs.getD i noTry = y at hm hc
  exact ⟨hc 0 (by omega), hc 1 (by omega), hc 2 (by omega), hc 3 (by omega), (hx y hm).1, (hx y hm).2⟩
theorem tryTo_least (J : Jb) (hJ : J.lt = ltTry) (xs : List TryV) : ∀ k, k ≤ xs.length → tryTo (fun i => xs.getD i noTry) k = J.leastL (xs.take k) := by
  intro k
  induction k with
  | zero => intro _; rfl
  | succ k ih =>
    intro hk
    have hlt : k < xs.length := by omega
    simp only [tryTo, ih (by omega)]
    rw [List.take_succ_eq_append_getElem hlt]
    have hg : xs.getD k noTry = xs[k] := by simp [hlt]
    rw [hg]
    cases k with
    | zero => simp [Jb.leastL]
    | succ k =>
      cases xs with
      | nil => simp at hlt
      | cons x xs =>
        simp only [List.take_succ_cons, List.cons_append, Jb.leastL, List.foldl_append, List.foldl_cons, List.foldl_nil, Jb.pick, hJ, ltTry]
        simp
theorem least_feed (J : Jb) (hJ : J.lt = ltTry) (V : World) (b : Nat) (xs : List TryV) (z : Nat × Nat) (hl : xs.length ≤ 1048576) (h : V.heap[b]? = some (.cells (xs.flatMap TryV.cells).toArray 51 z)) (hx : ∀ x ∈ xs, LaidI V x.a x.n x.g ∧ x.n ≤ 1048576) :
    Calls Tryz0.prog 47 #[.slice (some ⟨b, 0, none⟩) xs.length xs.length, .func (.func 48) #[] #[]] V fun e w' => e = .returned (J.leastL xs).val ∧ Below V.heap.size V w' := by
  have hb : b < V.heap.size := (Array.getElem?_eq_some_iff.1 h).1
  refine (leastOf_row b 0 xs.length xs.length (fun i => xs.getD i noTry) V hl hb (row_of_flat h hx)).mono ?_
  rintro e w' ⟨rfl, h2⟩
  rw [tryTo_least J hJ xs _ (Nat.le_refl _), List.take_length]
  exact ⟨rfl, h2⟩
/-- a row of plain values -/
def PlainRow (w : World) (b : Nat) : Prop := ∃ cs e, w.heap[b]? = some (.cells cs e (0, 0)) ∧ ∀ v ∈ cs, (∃ x, v = .bool x) ∨ (∃ k x, v = .int k x) ∨ ∃ s, v = .string s
section
variable [Gl]
theorem feed {ok : Ctx} {M : Nat → Prop} {w : World} {b off n cap nb no nn : Nat} {f : Nat → Mv} {tb toff tc : Nat → Nat} {o : Nat → Nat → Nat} (hm : movesB f n = true)
    (hrow : MvRow w b off n f) (hpb : PlainRow w b) (mb : M b) (mnb : M nb) (hnear : ∀ i, i < nn → w.cell? ⟨nb, no + i, none⟩ = some (.slice (some ⟨tb i, toff i, none⟩) n (tc i)))
    (mtb : ∀ i, i < nn → M (tb i)) (hpt : ∀ i, i < nn → PlainRow w (tb i)) (htc : ∀ i, i < nn → n ≤ tc i) (hti : ∀ i, i < nn → IntRow w (tb i) (toff i) n (fun j => (o i j : Int))) (ho : ∀ i, i < nn → ∀ j, j < n → o i j < n) (hd : ∀ i, i < nn → ∀ j k, j < k → k < n → o i j ≠ o i k)
    (hok : ok.inn 81 = true ∧ ok.inn 47 = true ∧ ok.fn 48 = true) :
    Feed Tryz0.prog ok M w (some ⟨b, off, none⟩) n cap nb no nn (fun i => .slice (some ⟨tb i, toff i, none⟩) n (tc i)) (fun i x => i < nn ∧ (x = b ∨ x = tb i)) (fun i x => TryIs f n (o i) x) ltTry := by
  have n6 := movesB_six hm
  have hplain : ∀ {S : Nat → Prop} {W₁ : World} {x : Nat}, PlainRow w x → W₁.heap[x]? = w.heap[x]? → ∃ cs e, W₁.heap[x]? = some (.cells cs e (0, 0)) ∧ ∀ v ∈ cs, VRel ok (idOn S) v v := by
    rintro S W₁ x ⟨cs, e, h1, h2⟩ hk
    refine ⟨cs, e, hk.trans h1, fun v hv => ?_⟩
    rcases h2 v hv with ⟨x, rfl⟩ | ⟨k, x, rfl⟩ | ⟨s, rfl⟩
    · exact .bool _
    · exact .int _ _
    · exact .string _
  refine ⟨mnb, hnear, fun i x hx => ?_, fun i hi W₁ k => ⟨fun x hx => ?_⟩, fun i hi => .slice _ _ ⟨idOn_iff.2 ⟨⟨hi, .inl rfl⟩, rfl⟩, rfl, rfl⟩, fun i hi => .slice _ _ ⟨idOn_iff.2 ⟨⟨hi, .inr rfl⟩, rfl⟩, rfl, rfl⟩, fun i hi F W₁ k τ d => ?_, ?_, fun V b xs z h1 h2 h3 => least_feed _ rfl V b xs z h1 h2 h3, hok⟩
  · obtain ⟨hi, rfl | rfl⟩ := hx
    · exact mb
    · exact mtb i hi
  · have hk := k.block x (.inr ⟨i, hx⟩)
    obtain ⟨_, rfl | rfl⟩ := hx
    · exact hplain hpb hk
    · exact hplain (hpt i hi) hk
  · have kb := k.block b (.inr ⟨i, hi, .inl rfl⟩)
    have kt := k.block (tb i) (.inr ⟨i, hi, .inr rfl⟩)
    have cb : ∀ j, (re (froze F W₁) τ d).cell? ⟨b, j, none⟩ = w.cell? ⟨b, j, none⟩ := fun j => (froze_cell F W₁ _).trans (by simp only [World.cell?, kb])
    have ct : ∀ j, (re (froze F W₁) τ d).cell? ⟨tb i, j, none⟩ = w.cell? ⟨tb i, j, none⟩ := fun j => (froze_cell F W₁ _).trans (by simp only [World.cell?, kt])
    have hz : (re (froze F W₁) τ d).heap.size = W₁.heap.size := froze_size F W₁
    have lt_of : ∀ x, PlainRow w x → x < W₁.heap.size := fun x hx => by obtain ⟨cs, e, h1, _⟩ := hx; exact Nat.lt_of_lt_of_le (Array.getElem?_eq_some_iff.1 h1).1 k.size
    have hr : MvRow (re (froze F W₁) τ d) b off n f := fun j hj => by
      obtain ⟨c0, c1, c2, c3, c4, c5⟩ := hrow j hj
      exact ⟨(cb _).trans c0, (cb _).trans c1, (cb _).trans c2, (cb _).trans c3, (cb _).trans c4, (cb _).trans c5⟩
    refine (tryOrder_row b off n cap f (tb i) (toff i) (tc i) (o i) _ hm (ho i hi) (hd i hi) (htc i hi) (by rw [hz]; exact lt_of b hpb) hr (by rw [hz]; exact lt_of _ (hpt i hi)) (fun j hj => (ct _).trans (hti i hi j hj))).mono ?_
    rintro e w' ⟨x, rfl, h1, h2, h3⟩
    refine ⟨x, rfl, h1, ?_, ?_, fun a ha => ?_, fun a ha => ?_⟩
    · unfold TryIs at h1
      cases ha : x.a with
      | none =>
        split at h1
        · exact absurd ha h1.2.2.2.2.2.2
        · exact .inl h1.2.2.2.1
      | some a =>
        obtain ⟨B, rfl, _, hO⟩ := h2 a ha
        split at h1
        · refine .inr ⟨B, 0, rfl, ?_⟩
          rw [h1.2.2.2.1]
          exact hO.2
        · rw [h1.2.2.2.2.2] at ha; cases ha
    · unfold TryIs at h1
      split at h1
      · rw [h1.2.2.2.1]; omega
      · rw [h1.2.2.2.1]; omega
    · obtain ⟨B, rfl, hB, ⟨cs, g1, g2⟩, g3⟩ := h2 a ha
      refine ⟨rfl, by rw [← hz]; exact hB, cs, _, g1, fun v hv => ?_⟩
      obtain ⟨j, hj, rfl⟩ := Array.mem_iff_getElem.1 hv
      have := g3 j (by omega)
      simp only [World.cell?, g1, Nat.zero_add] at this
      rw [Array.getElem?_eq_getElem hj] at this
      exact ⟨_, Option.some.inj this⟩
    · obtain ⟨B, rfl, hB, ⟨cs, g1, g2⟩, g3⟩ := h2 a ha
      refine ⟨rfl, cs, g1, ?_⟩
      unfold TryIs at h1
      split at h1
      · rw [g2, h1.2.2.2.1]
      · rw [h1.2.2.2.2.2] at ha; cases ha
  · intro i x a' h1 h2
    unfold TryIs at h1 ⊢
    split at h1
    · refine ⟨h1.1, h1.2.1, h1.2.2.1, h1.2.2.2.1, h1.2.2.2.2.1, h1.2.2.2.2.2.1, fun e => h1.2.2.2.2.2.2 (h2.2 e)⟩
    · exact ⟨h1.1, h1.2.1, h1.2.2.1, h1.2.2.2.1, h1.2.2.2.2.1, h2.1 h1.2.2.2.2.2⟩
end
end Go.Proofs.YtlmcblcijndipabGreat
