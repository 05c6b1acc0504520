/- Texts of the proof, one behind another: P4, Q40. -/
import Derived.Test.YtlmcblcijndipaaGreatM39
import Derived.Test.YtlmcblcijndipaaGreatM23
import Derived.Test.YtlmcblcijndipaaGreatM20
import Derived.Test.YtlmcblcijndipaaGreatM19
import Derived.Test.YtlmcblcijndipaaGreatM37
import Derived.Test.YtlmcblcijndipaaGreatM38
/- What comes of an order: tryOrder, walked. -/
namespace Go.Proofs.YtlmcblcijndipaaGreat
open Go.RowKit
set_option linter.unusedVariables false
/-- what comes of order o of the moves f, but for where its row lies -/
def TryIs (f : Nat → Mv) (n : Nat) (o : Nat → Nat) (x : TryV) : Prop :=
  match earl f o n with
  | some T => x.ok = true ∧ x.sum = sumTo f T n ∧ x.most = mostTo f T n ∧ x.n = n ∧ x.cap = n ∧ (∀ i, i < n → x.g i = T i) ∧ x.a ≠ none
  | none => x.ok = false ∧ x.sum = 0 ∧ x.most = 0 ∧ x.n = 0 ∧ x.cap = 0 ∧ x.a = none
theorem earl_late {f : Nat → Mv} {o : Nat → Nat} {n : Nat} {T : Nat → Int} (hm : movesB f n = true) (ho : ∀ i, i < n → o i < n) (hd : ∀ j k, j < k → k < n → o j ≠ o k) (h : earl f o n = some T) : LateBd f T n := LateBd.fits hm (earl_says hm ho hd h).fit
set_option maxHeartbeats 2000000 in
theorem tryOrder_row (b off n cap : Nat) (f : Nat → Mv) (b' off' cap' : Nat) (o : Nat → Nat) (w : World) (hm : movesB f n = true) (ho : ∀ i, i < n → o i < n) (hd : ∀ j k, j < k → k < n → o j ≠ o k) (hcap : n ≤ cap') (hbs : b < w.heap.size) (hrow : MvRow w b off n f) (hbs' : b' < w.heap.size) (hrow' : IntRow w b' off' n (fun i => (o i : Int))) :
    Calls Tryz0.prog 101 #[.slice (some ⟨b, off, none⟩) n cap, .slice (some ⟨b', off', none⟩) n cap'] w fun e w' => ∃ x : TryV, e = .returned x.val ∧ TryIs f n o x ∧ (∀ a, x.a = some a → ∃ B, a = ⟨B, 0, none⟩ ∧ w.heap.size ≤ B ∧ OwnInts w' B n x.g) ∧ Below w.heap.size w w' := by
  have h6 := movesB_six hm
  have HC := earliest_cap b off n cap f b' off' cap' o (w.alloc (.cells #[.bool false, .int .i64 0, .int .i64 0, .slice none 0 0] 50)) hm ho hcap (by simp; omega) (hrow.below ((Below.refl _ w).alloc (Nat.le_refl _) _) hbs) (by simp; omega) (hrow'.below ((Below.refl _ w).alloc (Nat.le_refl _) _) hbs')
  go_enter Tryz0.func101, Tryz.ntmps101
  cases hE : earl f o n with
  | none =>
    rw [hE] at HC
    go_wp2_with (go_at_call 37; refine HC.mono ?_; clear HC; rintro e w1 ⟨rfl, hb1⟩; have hm0 := (hb1.block w.heap.size (by simp)).trans (heap_alloc_new _ _); have s0 : w1.cell? ⟨w.heap.size, 0, none⟩ = some (.bool false) := (by simp [World.cell?, hm0]); have s1 : w1.cell? ⟨w.heap.size, 1, none⟩ = some (.int .i64 0) := (by simp [World.cell?, hm0]); have s2 : w1.cell? ⟨w.heap.size, 2, none⟩ = some (.int .i64 0) := (by simp [World.cell?, hm0]); have s3 : w1.cell? ⟨w.heap.size, 3, none⟩ = some (.slice none 0 0) := (by simp [World.cell?, hm0]); have sf : ∀ j, w1.frozen? ⟨w.heap.size, j, none⟩ = false := (fun j => by simp [World.frozen?, hm0]); have hB1 := ((Below.refl w.heap.size w).alloc (Nat.le_refl _) (.cells #[.bool false, .int .i64 0, .int .i64 0, .slice none 0 0] 50)).trans (hb1.mono (by simp)))
    rw [put4 hm0]
    have hw5 := setRow_heap w1 w.heap.size _ #[.bool false, .int .i64 0, .int .i64 0, .slice none 0 0] _ _ hm0
    have hb5 := below_setRow hB1 (Nat.le_refl _) #[.bool false, .int .i64 0, .int .i64 0, .slice none 0 0]
    generalize w1.setRow w.heap.size #[.bool false, .int .i64 0, .int .i64 0, .slice none 0 0] = W5 at hw5 hb5 ⊢
    have q0 : W5.cell? ⟨w.heap.size, 0, none⟩ = some (.bool false) := by simp [World.cell?, hw5]
    have q1 : W5.cell? ⟨w.heap.size, 1, none⟩ = some (.int .i64 0) := by simp [World.cell?, hw5]
    have q2 : W5.cell? ⟨w.heap.size, 2, none⟩ = some (.int .i64 0) := by simp [World.cell?, hw5]
    have q3 : W5.cell? ⟨w.heap.size, 3, none⟩ = some (.slice none 0 0) := by simp [World.cell?, hw5]
    refine bodyPost_ret (v := noTry.val) ?_ rfl ⟨noTry, rfl, by simp [TryIs, hE, noTry], fun a ha => by simp [noTry] at ha, hb5⟩
    simp [results, Tryz.f101, go_sem, TryV.val, noTry, q0, q1, q2, q3]
  | some T =>
    rw [hE] at HC
    have hbd : LateBd f T n := earl_late hm ho hd hE
    have sT := (hbd.sum n (Nat.le_refl _))
    go_wp2_with (first | (go_at_call 37; refine HC.mono ?_; clear HC; rintro e w1 ⟨⟨B, hB0, rfl, hown⟩, hb1⟩; have hBl := hown.lt; have HL := implLate_row b off n cap f B 0 n n T w1 h6 (Nat.le_refl _) (Nat.lt_of_lt_of_le hbs (by have := hb1.size; simp at this; omega)) (hrow.below (((Below.refl w.heap.size w).alloc (Nat.le_refl _) (.cells #[.bool false, .int .i64 0, .int .i64 0, .slice none 0 0] 50)).trans (hb1.mono (by simp))) hbs) hBl (fun i hi => by have := hown.2 i hi; simpa using this) hbd) | (go_at_call 29; refine HL.mono ?_; clear HL; rintro e w2 ⟨rfl, hb2⟩; have hB2 := (hb1.trans (hb2.mono hb1.size)); have hm0 := (hB2.block w.heap.size (by simp)).trans (heap_alloc_new _ _); have s0 : w2.cell? ⟨w.heap.size, 0, none⟩ = some (.bool false) := (by simp [World.cell?, hm0]); have s1 : w2.cell? ⟨w.heap.size, 1, none⟩ = some (.int .i64 0) := (by simp [World.cell?, hm0]); have s2 : w2.cell? ⟨w.heap.size, 2, none⟩ = some (.int .i64 0) := (by simp [World.cell?, hm0]); have s3 : w2.cell? ⟨w.heap.size, 3, none⟩ = some (.slice none 0 0) := (by simp [World.cell?, hm0]); have sf : ∀ j, w2.frozen? ⟨w.heap.size, j, none⟩ = false := (fun j => by simp [World.frozen?, hm0])))
    rw [put4 hm0]
    have hBs : B ≠ w.heap.size := by simp at hB0; omega
    have hw5 := setRow_heap w2 w.heap.size _ #[.bool true, .int .i64 (sumTo f T n), .int .i64 (mostTo f T n), .slice (some ⟨B, 0, none⟩) n n] _ _ hm0
    have hb5 := below_setRow (((Below.refl w.heap.size w).alloc (Nat.le_refl _) (.cells #[.bool false, .int .i64 0, .int .i64 0, .slice none 0 0] 50)).trans (hB2.mono (by simp))) (Nat.le_refl _) #[.bool true, .int .i64 (sumTo f T n), .int .i64 (mostTo f T n), .slice (some ⟨B, 0, none⟩) n n]
    have ho5 : (w2.setRow w.heap.size #[.bool true, .int .i64 (sumTo f T n), .int .i64 (mostTo f T n), .slice (some ⟨B, 0, none⟩) n n]).heap[B]? = w2.heap[B]? := setRow_other _ _ _ _ hBs
    have hown2 := hown.below hb2 hBl
    generalize w2.setRow w.heap.size #[.bool true, .int .i64 (sumTo f T n), .int .i64 (mostTo f T n), .slice (some ⟨B, 0, none⟩) n n] = W5 at hw5 hb5 ho5 ⊢
    have hown5 : OwnInts W5 B n T := by
      obtain ⟨⟨cs, g1, g2⟩, g3⟩ := hown2
      exact ⟨⟨cs, ho5.trans g1, g2⟩, fun i hi => by rw [← g3 i hi]; simp only [World.cell?, ho5]⟩
    have q0 : W5.cell? ⟨w.heap.size, 0, none⟩ = some (.bool true) := by simp [World.cell?, hw5]
    have q1 : W5.cell? ⟨w.heap.size, 1, none⟩ = some (.int .i64 (sumTo f T n)) := by simp [World.cell?, hw5]
    have q2 : W5.cell? ⟨w.heap.size, 2, none⟩ = some (.int .i64 (mostTo f T n)) := by simp [World.cell?, hw5]
    have q3 : W5.cell? ⟨w.heap.size, 3, none⟩ = some (.slice (some ⟨B, 0, none⟩) n n) := by simp [World.cell?, hw5]
    refine bodyPost_ret (v := TryV.val ⟨true, sumTo f T n, mostTo f T n, some ⟨B, 0, none⟩, n, n, T⟩) ?_ rfl ⟨⟨true, sumTo f T n, mostTo f T n, some ⟨B, 0, none⟩, n, n, T⟩, rfl, by simp [TryIs, hE], fun a ha => ⟨B, (Option.some.inj ha).symm, by simp at hB0; omega, hown5⟩, hb5⟩
    simp [results, Tryz.f101, go_sem, TryV.val, q0, q1, q2, q3]
end Go.Proofs.YtlmcblcijndipaaGreat

/- What bestTry is fed with: the rows of its caller, and the contracts of what its workers call. -/
namespace Go.Proofs.YtlmcblcijndipaaGreat
open Go Go.Conc Go.RowKit
set_option linter.unusedVariables false
def ltTry (y x : TryV) : Bool := decide (cmpTry y x < 0)
theorem flat_cell : ∀ (xs : List TryV) (i : Nat) (y : TryV) (o : Nat), xs[i]? = some y → o < 4 → (xs.flatMap TryV.cells)[i * 4 + o]? = y.cells[o]?
  | [], i, y, o, h, _ => by simp at h
  | x :: xs, 0, y, o, h, ho => by
    simp only [List.getElem?_cons_zero, Option.some.injEq] at h
    subst h
    rw [List.flatMap_cons, Nat.zero_mul, Nat.zero_add, List.getElem?_append_left (by simp [TryV.cells]; exact ho)]
  | x :: xs, i + 1, y, o, h, ho => by
    simp only [List.getElem?_cons_succ] at h
    have hl : x.cells.length = 4 := rfl
    rw [List.flatMap_cons, List.getElem?_append_right (by rw [hl]; omega), hl, show (i + 1) * 4 + o - 4 = i * 4 + o by omega]
    exact flat_cell xs i y o h ho
theorem row_of_flat {V : World} {b : Nat} {xs : List TryV} {T : TypeId} {z : Nat × Nat} (h : V.heap[b]? = some (.cells (xs.flatMap TryV.cells).toArray T z)) (hx : ∀ x ∈ xs, LaidI V x.a x.n x.g ∧ x.n ≤ 1048576) : TryRow V b 0 xs.length (fun i => xs.getD i noTry) := by
  intro i hi
  have hg : xs[i]? = some (xs.getD i noTry) := by simp [hi]
  have hm : xs.getD i noTry ∈ xs := List.mem_of_getElem? hg
  have hc : ∀ o, o < 4 → V.cell? ⟨b, 0 + i * 4 + o, none⟩ = (xs.getD i noTry).cells[o]? := fun o ho => by
    rw [← flat_cell xs i _ o hg ho]; simp [World.cell?, h]
  show TryAt V b (0 + i * 4) (xs.getD i noTry)
  generalize xs.getD i noTry = y at hm hc
  exact ⟨hc 0 (by omega), hc 1 (by omega), hc 2 (by omega), hc 3 (by omega), (hx y hm).1, (hx y hm).2⟩
theorem tryTo_least (J : Jb) (hJ : J.lt = ltTry) (xs : List TryV) : ∀ k, k ≤ xs.length → tryTo (fun i => xs.getD i noTry) k = J.leastL (xs.take k) := by
  intro k
  induction k with
  | zero => intro _; rfl
  | succ k ih =>
    intro hk
    have hlt : k < xs.length := by omega
    simp only [tryTo, ih (by omega)]
    rw [List.take_succ_eq_append_getElem hlt]
    have hg : xs.getD k noTry = xs[k] := by simp [hlt]
    rw [hg]
    cases k with
    | zero => simp [Jb.leastL]
    | succ k =>
      cases xs with
      | nil => simp at hlt
      | cons x xs =>
        simp only [List.take_succ_cons, List.cons_append, Jb.leastL, List.foldl_append, List.foldl_cons, List.foldl_nil, Jb.pick, hJ, ltTry]
        simp
theorem least_feed (J : Jb) (hJ : J.lt = ltTry) (V : World) (b : Nat) (xs : List TryV) (z : Nat × Nat) (hl : xs.length ≤ 1048576) (h : V.heap[b]? = some (.cells (xs.flatMap TryV.cells).toArray 50 z)) (hx : ∀ x ∈ xs, LaidI V x.a x.n x.g ∧ x.n ≤ 1048576) :
    Calls Tryz0.prog 51 #[.slice (some ⟨b, 0, none⟩) xs.length xs.length, .func (.func 52) #[] #[]] V fun e w' => e = .returned (J.leastL xs).val ∧ Below V.heap.size V w' := by
  have hb : b < V.heap.size := (Array.getElem?_eq_some_iff.1 h).1
  refine (leastOf_row b 0 xs.length xs.length (fun i => xs.getD i noTry) V hl hb (row_of_flat h hx)).mono ?_
  rintro e w' ⟨rfl, h2⟩
  rw [tryTo_least J hJ xs _ (Nat.le_refl _), List.take_length]
  exact ⟨rfl, h2⟩
section
variable [Gl]
theorem feed {ok : Ctx} {M : Nat → Prop} {w : World} {b off n cap nb no nn : Nat} {f : Nat → Mv} {tb toff tc : Nat → Nat} {o : Nat → Nat → Nat} (hm : movesB f n = true)
    (hrow : MvRow w b off n f) (hpb : PlainRow w b) (mb : M b) (mnb : M nb) (hnear : ∀ i, i < nn → w.cell? ⟨nb, no + i, none⟩ = some (.slice (some ⟨tb i, toff i, none⟩) n (tc i)))
    (mtb : ∀ i, i < nn → M (tb i)) (hpt : ∀ i, i < nn → PlainRow w (tb i)) (htc : ∀ i, i < nn → n ≤ tc i) (hti : ∀ i, i < nn → IntRow w (tb i) (toff i) n (fun j => (o i j : Int))) (ho : ∀ i, i < nn → ∀ j, j < n → o i j < n) (hd : ∀ i, i < nn → ∀ j k, j < k → k < n → o i j ≠ o i k)
    (hok : ok.inn 101 = true ∧ ok.inn 51 = true ∧ ok.fn 52 = true) :
    Feed Tryz0.prog ok M w (some ⟨b, off, none⟩) n cap nb no nn (fun i => .slice (some ⟨tb i, toff i, none⟩) n (tc i)) (fun i x => i < nn ∧ (x = b ∨ x = tb i)) (fun i x => TryIs f n (o i) x) ltTry := by
  have n6 := movesB_six hm
  have hplain : ∀ {S : Nat → Prop} {W₁ : World} {x : Nat}, PlainRow w x → W₁.heap[x]? = w.heap[x]? → ∃ cs e, W₁.heap[x]? = some (.cells cs e (0, 0)) ∧ ∀ v ∈ cs, VRel ok (idOn S) v v := by
    rintro S W₁ x ⟨cs, e, h1, h2⟩ hk
    refine ⟨cs, e, hk.trans h1, fun v hv => ?_⟩
    rcases h2 v hv with ⟨x, rfl⟩ | ⟨k, x, rfl⟩ | ⟨s, rfl⟩
    · exact .bool _
    · exact .int _ _
    · exact .string _
  refine ⟨mnb, hnear, fun i x hx => ?_, fun i hi W₁ k => ⟨fun x hx => ?_⟩, fun i hi => .slice _ _ ⟨idOn_iff.2 ⟨⟨hi, .inl rfl⟩, rfl⟩, rfl, rfl⟩, fun i hi => .slice _ _ ⟨idOn_iff.2 ⟨⟨hi, .inr rfl⟩, rfl⟩, rfl, rfl⟩, fun i hi F W₁ k τ d => ?_, ?_, fun V b xs z h1 h2 h3 => least_feed _ rfl V b xs z h1 h2 h3, hok⟩
  · obtain ⟨hi, rfl | rfl⟩ := hx
    · exact mb
    · exact mtb i hi
  · have hk := k.block x (.inr ⟨i, hx⟩)
    obtain ⟨_, rfl | rfl⟩ := hx
    · exact hplain hpb hk
    · exact hplain (hpt i hi) hk
  · have kb := k.block b (.inr ⟨i, hi, .inl rfl⟩)
    have kt := k.block (tb i) (.inr ⟨i, hi, .inr rfl⟩)
    have cb : ∀ j, (re (froze F W₁) τ d).cell? ⟨b, j, none⟩ = w.cell? ⟨b, j, none⟩ := fun j => (froze_cell F W₁ _).trans (by simp only [World.cell?, kb])
    have ct : ∀ j, (re (froze F W₁) τ d).cell? ⟨tb i, j, none⟩ = w.cell? ⟨tb i, j, none⟩ := fun j => (froze_cell F W₁ _).trans (by simp only [World.cell?, kt])
    have hz : (re (froze F W₁) τ d).heap.size = W₁.heap.size := froze_size F W₁
    have lt_of : ∀ x, PlainRow w x → x < W₁.heap.size := fun x hx => by obtain ⟨cs, e, h1, _⟩ := hx; exact Nat.lt_of_lt_of_le (Array.getElem?_eq_some_iff.1 h1).1 k.size
    have hr : MvRow (re (froze F W₁) τ d) b off n f := fun j hj => by
      obtain ⟨c0, c1, c2, c3, c4, c5⟩ := hrow j hj
      exact ⟨(cb _).trans c0, (cb _).trans c1, (cb _).trans c2, (cb _).trans c3, (cb _).trans c4, (cb _).trans c5⟩
    refine (tryOrder_row b off n cap f (tb i) (toff i) (tc i) (o i) _ hm (ho i hi) (hd i hi) (htc i hi) (by rw [hz]; exact lt_of b hpb) hr (by rw [hz]; exact lt_of _ (hpt i hi)) (fun j hj => (ct _).trans (hti i hi j hj))).mono ?_
    rintro e w' ⟨x, rfl, h1, h2, h3⟩
    refine ⟨x, rfl, h1, ?_, ?_, fun a ha => ?_, fun a ha => ?_⟩
    · unfold TryIs at h1
      cases ha : x.a with
      | none =>
        split at h1
        · exact absurd ha h1.2.2.2.2.2.2
        · exact .inl h1.2.2.2.1
      | some a =>
        obtain ⟨B, rfl, _, hO⟩ := h2 a ha
        split at h1
        · refine .inr ⟨B, 0, rfl, ?_⟩
          rw [h1.2.2.2.1]
          exact hO.2
        · rw [h1.2.2.2.2.2] at ha; cases ha
    · unfold TryIs at h1
      split at h1
      · rw [h1.2.2.2.1]; omega
      · rw [h1.2.2.2.1]; omega
    · obtain ⟨B, rfl, hB, ⟨cs, g1, g2⟩, g3⟩ := h2 a ha
      refine ⟨rfl, by rw [← hz]; exact hB, cs, _, g1, fun v hv => ?_⟩
      obtain ⟨j, hj, rfl⟩ := Array.mem_iff_getElem.1 hv
      have := g3 j (by omega)
      simp only [World.cell?, g1, Nat.zero_add] at this
      rw [Array.getElem?_eq_getElem hj] at this
      exact ⟨_, Option.some.inj this⟩
    · obtain ⟨B, rfl, hB, ⟨cs, g1, g2⟩, g3⟩ := h2 a ha
      refine ⟨rfl, cs, g1, ?_⟩
      unfold TryIs at h1
      split at h1
      · rw [g2, h1.2.2.2.1]
      · rw [h1.2.2.2.2.2] at ha; cases ha
  · intro i x a' h1 h2
    unfold TryIs at h1 ⊢
    split at h1
    · refine ⟨h1.1, h1.2.1, h1.2.2.1, h1.2.2.2.1, h1.2.2.2.2.1, h1.2.2.2.2.2.1, fun e => h1.2.2.2.2.2.2 (h2.2 e)⟩
    · exact ⟨h1.1, h1.2.1, h1.2.2.1, h1.2.2.2.1, h1.2.2.2.2.1, h2.1 h1.2.2.2.2.2⟩
end
end Go.Proofs.YtlmcblcijndipaaGreat
