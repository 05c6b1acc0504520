/- Texts of the proof, one behind another: Q40, BestQ. -/
import Derived.Test.YtlmcblcijndipabGreatM11
import Derived.Test.YtlmcblcijndipabGreatM12
import Derived.Test.YtlmcblcijndipabGreatM36
import Derived.Test.YtlmcblcijndipabGreatM37
namespace Go.Proofs.YtlmcblcijndipabGreat
open Go Go.Conc Go.RowKit
set_option linter.unusedVariables false
def ltTry (y x : TryV) : Bool := decide (cmpTry y x < 0)
theorem flat_cell : ∀ (xs : List TryV) (i : Nat) (y : TryV) (o : Nat), xs[i]? = some y → o < 4 → (xs.flatMap TryV.cells)[i * 4 + o]? = y.cells[o]?
  | [], i, y, o, h, _ => by simp at h
  | x :: xs, 0, y, o, h, ho => by
    simp only [List.getElem?_cons_zero, Option.some.injEq] at h
    subst h
    rw [List.flatMap_cons, Nat.zero_mul, Nat.zero_add, List.getElem?_append_left (by simp [TryV.cells]; exact ho)]
  | x :: xs, i + 1, y, o, h, ho => by
    simp only [List.getElem?_cons_succ] at h
    have hl : x.cells.length = 4 := rfl
    rw [List.flatMap_cons, List.getElem?_append_right (by rw [hl]; omega), hl, show (i + 1) * 4 + o - 4 = i * 4 + o by omega]
    exact flat_cell xs i y o h ho
theorem row_of_flat {V : World} {b : Nat} {xs : List TryV} {T : TypeId} {z : Nat × Nat} (h : V.heap[b]? = some (.cells (xs.flatMap TryV.cells).toArray T z)) (hx : ∀ x ∈ xs, LaidI V x.a x.n x.g ∧ x.n ≤ 1048576) : TryRow V b 0 xs.length (fun i => xs.getD i noTry) := by
  intro i hi
  have hg : xs[i]? = some (xs.getD i noTry) := by simp [hi]
  have hm : xs.getD i noTry ∈ xs := List.mem_of_getElem? hg
  have hc : ∀ o, o < 4 → V.cell? ⟨b, 0 + i * 4 + o, none⟩ = (xs.getD i noTry).cells[o]? := fun o ho => by
    rw [← flat_cell xs i _ o hg ho]; simp [World.cell?, h]
  show TryAt V b (0 + i * 4) (xs.getD i noTry)
  generalize xs.getD i noTry = y at hm hc
  exact ⟨hc 0 (by omega), hc 1 (by omega), hc 2 (by omega), hc 3 (by omega), (hx y hm).1, (hx y hm).2⟩
theorem tryTo_least (J : Jb) (hJ : J.lt = ltTry) (xs : List TryV) : ∀ k, k ≤ xs.length → tryTo (fun i => xs.getD i noTry) k = J.leastL (xs.take k) := by
  intro k
  induction k with
  | zero => intro _; rfl
  | succ k ih =>
    intro hk
    have hlt : k < xs.length := by omega
    simp only [tryTo, ih (by omega)]
    rw [List.take_succ_eq_append_getElem hlt]
    have hg : xs.getD k noTry = xs[k] := by simp [hlt]
    rw [hg]
    cases k with
    | zero => simp [Jb.leastL]
    | succ k =>
      cases xs with
      | nil => simp at hlt
      | cons x xs =>
        simp only [List.take_succ_cons, List.cons_append, Jb.leastL, List.foldl_append, List.foldl_cons, List.foldl_nil, Jb.pick, hJ, ltTry]
        simp
theorem least_feed (J : Jb) (hJ : J.lt = ltTry) (V : World) (b : Nat) (xs : List TryV) (z : Nat × Nat) (hl : xs.length ≤ 1048576) (h : V.heap[b]? = some (.cells (xs.flatMap TryV.cells).toArray 51 z)) (hx : ∀ x ∈ xs, LaidI V x.a x.n x.g ∧ x.n ≤ 1048576) :
    Calls Tryz0.prog 47 #[.slice (some ⟨b, 0, none⟩) xs.length xs.length, .func (.func 48) #[] #[]] V fun e w' => e = .returned (J.leastL xs).val ∧ Below V.heap.size V w' := by
  have hb : b < V.heap.size := (Array.getElem?_eq_some_iff.1 h).1
  refine (leastOf_row b 0 xs.length xs.length (fun i => xs.getD i noTry) V hl hb (row_of_flat h hx)).mono ?_
  rintro e w' ⟨rfl, h2⟩
  rw [tryTo_least J hJ xs _ (Nat.le_refl _), List.take_length]
  exact ⟨rfl, h2⟩
section
variable [Gl]
theorem feed {ok : Ctx} {M : Nat → Prop} {w : World} {b off n cap nb no nn : Nat} {f : Nat → Mv} {tb toff tc : Nat → Nat} {o : Nat → Nat → Nat} (hm : movesB f n = true)
    (hrow : MvRow w b off n f) (hpb : PlainRow w b) (mb : M b) (mnb : M nb) (hnear : ∀ i, i < nn → w.cell? ⟨nb, no + i, none⟩ = some (.slice (some ⟨tb i, toff i, none⟩) n (tc i)))
    (mtb : ∀ i, i < nn → M (tb i)) (hpt : ∀ i, i < nn → PlainRow w (tb i)) (htc : ∀ i, i < nn → n ≤ tc i) (hti : ∀ i, i < nn → IntRow w (tb i) (toff i) n (fun j => (o i j : Int))) (ho : ∀ i, i < nn → ∀ j, j < n → o i j < n) (hd : ∀ i, i < nn → ∀ j k, j < k → k < n → o i j ≠ o i k)
    (hok : ok.inn 81 = true ∧ ok.inn 47 = true ∧ ok.fn 48 = true) :
    Feed Tryz0.prog ok M w (some ⟨b, off, none⟩) n cap nb no nn (fun i => .slice (some ⟨tb i, toff i, none⟩) n (tc i)) (fun i x => i < nn ∧ (x = b ∨ x = tb i)) (fun i x => TryIs f n (o i) x) ltTry := by
  have n6 := movesB_six hm
  have hplain : ∀ {S : Nat → Prop} {W₁ : World} {x : Nat}, PlainRow w x → W₁.heap[x]? = w.heap[x]? → ∃ cs e, W₁.heap[x]? = some (.cells cs e (0, 0)) ∧ ∀ v ∈ cs, VRel ok (idOn S) v v := by
    rintro S W₁ x ⟨cs, e, h1, h2⟩ hk
    refine ⟨cs, e, hk.trans h1, fun v hv => ?_⟩
    rcases h2 v hv with ⟨x, rfl⟩ | ⟨k, x, rfl⟩ | ⟨s, rfl⟩
    · exact .bool _
    · exact .int _ _
    · exact .string _
  refine ⟨mnb, hnear, fun i x hx => ?_, fun i hi W₁ k => ⟨fun x hx => ?_⟩, fun i hi => .slice _ _ ⟨idOn_iff.2 ⟨⟨hi, .inl rfl⟩, rfl⟩, rfl, rfl⟩, fun i hi => .slice _ _ ⟨idOn_iff.2 ⟨⟨hi, .inr rfl⟩, rfl⟩, rfl, rfl⟩, fun i hi F W₁ k τ d => ?_, ?_, fun V b xs z h1 h2 h3 => least_feed _ rfl V b xs z h1 h2 h3, hok⟩
  · obtain ⟨hi, rfl | rfl⟩ := hx
    · exact mb
    · exact mtb i hi
  · have hk := k.block x (.inr ⟨i, hx⟩)
    obtain ⟨_, rfl | rfl⟩ := hx
    · exact hplain hpb hk
    · exact hplain (hpt i hi) hk
  · have kb := k.block b (.inr ⟨i, hi, .inl rfl⟩)
    have kt := k.block (tb i) (.inr ⟨i, hi, .inr rfl⟩)
    have cb : ∀ j, (re (froze F W₁) τ d).cell? ⟨b, j, none⟩ = w.cell? ⟨b, j, none⟩ := fun j => (froze_cell F W₁ _).trans (by simp only [World.cell?, kb])
    have ct : ∀ j, (re (froze F W₁) τ d).cell? ⟨tb i, j, none⟩ = w.cell? ⟨tb i, j, none⟩ := fun j => (froze_cell F W₁ _).trans (by simp only [World.cell?, kt])
    have hz : (re (froze F W₁) τ d).heap.size = W₁.heap.size := froze_size F W₁
    have lt_of : ∀ x, PlainRow w x → x < W₁.heap.size := fun x hx => by obtain ⟨cs, e, h1, _⟩ := hx; exact Nat.lt_of_lt_of_le (Array.getElem?_eq_some_iff.1 h1).1 k.size
    have hr : MvRow (re (froze F W₁) τ d) b off n f := fun j hj => by
      obtain ⟨c0, c1, c2, c3, c4, c5⟩ := hrow j hj
      exact ⟨(cb _).trans c0, (cb _).trans c1, (cb _).trans c2, (cb _).trans c3, (cb _).trans c4, (cb _).trans c5⟩
    refine (tryOrder_row b off n cap f (tb i) (toff i) (tc i) (o i) _ hm (ho i hi) (hd i hi) (htc i hi) (by rw [hz]; exact lt_of b hpb) hr (by rw [hz]; exact lt_of _ (hpt i hi)) (fun j hj => (ct _).trans (hti i hi j hj))).mono ?_
    rintro e w' ⟨x, rfl, h1, h2, h3⟩
    refine ⟨x, rfl, h1, ?_, ?_, fun a ha => ?_, fun a ha => ?_⟩
    · unfold TryIs at h1
      cases ha : x.a with
      | none =>
        split at h1
        · exact absurd ha h1.2.2.2.2.2.2
        · exact .inl h1.2.2.2.1
      | some a =>
        obtain ⟨B, rfl, _, hO⟩ := h2 a ha
        split at h1
        · refine .inr ⟨B, 0, rfl, ?_⟩
          rw [h1.2.2.2.1]
          exact hO.2
        · rw [h1.2.2.2.2.2] at ha; cases ha
    · unfold TryIs at h1
      split at h1
      · rw [h1.2.2.2.1]; omega
      · rw [h1.2.2.2.1]; omega
    · obtain ⟨B, rfl, hB, ⟨cs, g1, g2⟩, g3⟩ := h2 a ha
      refine ⟨rfl, by rw [← hz]; exact hB, cs, _, g1, fun v hv => ?_⟩
      obtain ⟨j, hj, rfl⟩ := Array.mem_iff_getElem.1 hv
      have := g3 j (by omega)
      simp only [World.cell?, g1, Nat.zero_add] at this
      rw [Array.getElem?_eq_getElem hj] at this
      exact ⟨_, Option.some.inj this⟩
    · obtain ⟨B, rfl, hB, ⟨cs, g1, g2⟩, g3⟩ := h2 a ha
      refine ⟨rfl, cs, g1, ?_⟩
      unfold TryIs at h1
      split at h1
      · rw [g2, h1.2.2.2.1]
      · rw [h1.2.2.2.2.2] at ha; cases ha
  · intro i x a' h1 h2
    unfold TryIs at h1 ⊢
    split at h1
    · refine ⟨h1.1, h1.2.1, h1.2.2.1, h1.2.2.2.1, h1.2.2.2.2.1, h1.2.2.2.2.2.1, fun e => h1.2.2.2.2.2.2 (h2.2 e)⟩
    · exact ⟨h1.1, h1.2.1, h1.2.2.1, h1.2.2.2.1, h1.2.2.2.2.1, h2.1 h1.2.2.2.2.2⟩
end
end Go.Proofs.YtlmcblcijndipabGreat

namespace Go.Proofs.YtlmcblcijndipabGreat
open Go Go.RowKit
set_option linter.unusedVariables false
set_option linter.unusedSectionVars false
theorem cmpRow_lex (g h : Nat → Int) (n : Nat) : ∀ f k, k + f = n → decide (cmpRow g h n n f k < 0) = lexL (rowL g f k) (rowL h f k)
  | 0, k, _ => by simp [cmpRow, rowL, lexL]
  | f + 1, k, e => by
    rw [cmpRow, if_neg (by omega), rowL, rowL, lexL]
    unfold cmpZ
    by_cases h1 : g k = h k
    · rw [h1]; simp only [Int.lt_irrefl, if_false, if_true]
      exact cmpRow_lex g h n f (k + 1) (by omega)
    · rw [if_neg h1]
      by_cases h2 : g k < h k
      · rw [if_pos h2]; simp [h2]
      · have h3 : h k < g k := by omega
        rw [if_neg h2, if_pos h3]; simp [h2]
def TryV.key (x : TryV) : Option (List Int) := if x.ok = true then some (x.sum :: x.most :: rowL x.g x.n 0) else none
def GoodT (n : Nat) (x : TryV) : Prop := if x.ok = true then x.n = n else x.sum = 0 ∧ x.most = 0 ∧ x.n = 0
theorem GoodT.len {n : Nat} {x : TryV} (h : GoodT n x) : ∀ l, x.key = some l → l.length = n + 2 := by
  intro l hl
  unfold TryV.key at hl
  unfold GoodT at h
  split at hl
  · rename_i e
    rw [if_pos e] at h
    obtain rfl := Option.some.inj hl
    simp [rowL_length, h]
  · cases hl
theorem good_no (n : Nat) : GoodT n noTry := by simp [GoodT, noTry]
theorem orZ_neg (a b c : Int) : decide (orZ a b c < 0) = if a = 0 then (if b = 0 then decide (c < 0) else decide (b < 0)) else decide (a < 0) := by
  unfold orZ; split <;> (try split) <;> rfl
theorem cmpZ_zero {a b : Int} : cmpZ a b = 0 ↔ a = b := by unfold cmpZ; split <;> (try split) <;> omega
theorem cmpZ_neg {a b : Int} : cmpZ a b < 0 ↔ a < b := by unfold cmpZ; split <;> (try split) <;> omega
theorem ltTry_key {n : Nat} {x y : TryV} (hx : GoodT n x) (hy : GoodT n y) : ltTry x y = optLt x.key y.key := by
  unfold ltTry cmpTry TryV.key
  unfold GoodT at hx hy
  cases h1 : x.ok <;> cases h2 : y.ok <;> simp only [h1, h2, if_true, if_false, Bool.false_eq_true, Bool.true_eq_false, optLt] at hx hy ⊢
  · rw [hx.1, hx.2.1, hx.2.2, hy.1, hy.2.1, hy.2.2]; simp [orZ, cmpZ, cmpRow]
  · simp
  · simp
  · rw [hx, hy, orZ_neg, cmpRow_lex _ _ _ n 0 (by omega), lexL, lexL]
    simp only [cmpZ_zero, cmpZ_neg]
theorem TryIs.good {f : Nat → Mv} {n : Nat} {o : Nat → Nat} {x : TryV} (h : TryIs f n o x) : GoodT n x := by
  unfold TryIs at h
  unfold GoodT
  split at h
  · rw [if_pos h.1]; exact h.2.2.2.1
  · rw [if_neg (by rw [h.1]; simp)]; exact ⟨h.2.1, h.2.2.1, h.2.2.2.1⟩
theorem TryIs.key {f : Nat → Mv} {n : Nat} {o : Nat → Nat} {x : TryV} (h : TryIs f n o x) : x.key = (earl f o n).map (keyT f n) := by
  unfold TryIs at h
  unfold TryV.key
  split at h
  · rename_i T e
    rw [if_pos h.1, h.2.1, h.2.2.1, h.2.2.2.1, rowL_congr n 0 (fun i _ hi => h.2.2.2.2.2.1 i (by omega)), e]; rfl
  · rename_i e
    rw [if_neg (by rw [h.1]; simp), e]; rfl
structure Least (J : Jb) (n : Nat) (seq : List Nat) (x : TryV) : Prop where
  is : x = noTry ∨ ∃ i ∈ seq, J.Is i x
  all : ∀ i ∈ seq, ∃ y, J.Is i y ∧ optLt y.key x.key = false
section
variable {J : Jb} {f : Nat → Mv} {n : Nat} {o : Nat → Nat → Nat} (hlt : J.lt = ltTry) (hIs : J.Is = fun i x => TryIs f n (o i) x)
include hlt hIs
theorem Least.good {seq : List Nat} {x : TryV} (h : Least J n seq x) : GoodT n x := by
  rcases h.is with rfl | ⟨i, _, hi⟩
  · exact good_no n
  · rw [hIs] at hi; exact TryIs.good hi
theorem least_of_best {seq : List Nat} {x : TryV} (h : Best J seq x) : Least J n seq x := by
  induction h with
  | nil => exact ⟨.inl rfl, fun i hi => by simp at hi⟩
  | @snoc seq i x y hb hi ih =>
    have gx := ih.good hlt hIs
    have gy : GoodT n y := by rw [hIs] at hi; exact TryIs.good hi
    have hk : J.lt y x = optLt y.key x.key := by rw [hlt]; exact ltTry_key gy gx
    unfold Jb.pick
    rw [hk]
    by_cases hp : optLt y.key x.key = true
    · rw [if_pos hp]
      refine ⟨.inr ⟨i, by simp, hi⟩, fun k hk => ?_⟩
      rcases List.mem_append.1 hk with hk | hk
      · obtain ⟨z, hz, hz'⟩ := ih.all k hk
        have gz : GoodT n z := by rw [hIs] at hz; exact TryIs.good hz
        exact ⟨z, hz, optLt_neg gx.len gy.len hz' hp gz.len⟩
      · simp at hk; subst hk
        exact ⟨y, hi, optLt_irrefl _⟩
    · rw [if_neg hp]
      refine ⟨?_, fun k hk => ?_⟩
      · rcases ih.is with e | ⟨k, hk, e⟩
        · exact .inl e
        · exact .inr ⟨k, by simp [hk], e⟩
      · rcases List.mem_append.1 hk with hk | hk
        · exact ih.all k hk
        · simp at hk; subst hk
          exact ⟨y, hi, by simpa using hp⟩
theorem least_fold : ∀ (xs : List TryV) (x : TryV), GoodT n x → (∀ y ∈ xs, GoodT n y) → GoodT n (xs.foldl J.pick x) ∧ (xs.foldl J.pick x = x ∨ xs.foldl J.pick x ∈ xs) ∧ optLt x.key (xs.foldl J.pick x).key = false ∧ ∀ y ∈ xs, optLt y.key (xs.foldl J.pick x).key = false
  | [], x, gx, _ => ⟨gx, .inl rfl, optLt_irrefl _, fun y hy => by simp at hy⟩
  | y :: xs, x, gx, h => by
    have gy := h y (by simp)
    have hk : J.lt y x = optLt y.key x.key := by rw [hlt]; exact ltTry_key gy gx
    rw [List.foldl_cons]
    by_cases hp : optLt y.key x.key = true
    · have e : J.pick x y = y := by unfold Jb.pick; rw [hk, if_pos hp]
      rw [e]
      obtain ⟨a, b, c, d⟩ := least_fold xs y gy fun z hz => h z (by simp [hz])
      refine ⟨a, b.elim (fun e => .inr (by simp [e])) (fun e => .inr (by simp [e])), ?_, fun z hz => ?_⟩
      · cases hx : optLt x.key (xs.foldl J.pick y).key with
        | false => rfl
        | true => rw [optLt_trans hp hx] at c; cases c
      · rcases List.mem_cons.1 hz with rfl | hz
        · exact c
        · exact d z hz
    · have e : J.pick x y = x := by unfold Jb.pick; rw [hk, if_neg hp]
      rw [e]
      obtain ⟨a, b, c, d⟩ := least_fold xs x gx fun z hz => h z (by simp [hz])
      refine ⟨a, b.elim .inl (fun e => .inr (by simp [e])), c, fun z hz => ?_⟩
      rcases List.mem_cons.1 hz with rfl | hz
      · exact optLt_neg2 gy.len gx.len a.len (by simpa using hp) c
      · exact d z hz
end
theorem ans_least {f : Nat → Mv} {n nn : Nat} {o : Nat → Nat → Nat} {x : TryV} (h : Ans ltTry (fun i x => TryIs f n (o i) x) nn x) :
    (x = noTry ∨ ∃ k, k < nn ∧ TryIs f n (o k) x) ∧ ∀ k, k < nn → optLt ((earl f (o k) n).map (keyT f n)) x.key = false := by
  obtain ⟨J, xs, seq, hlt, hIs, h4, hB, hall, hlow, rfl⟩ := h
  have hL : ∀ i y, xs[i]? = some y → Least J n (seq i) y := fun i y hy => least_of_best hlt hIs (hB i y hy)
  have hg : ∀ y ∈ xs, GoodT n y := fun y hy => by
    obtain ⟨i, hi⟩ := List.getElem?_of_mem hy
    exact (hL i y hi).good hlt hIs
  match xs, h4, hL, hg with
  | x :: r, h4, hL, hg =>
    obtain ⟨a, b, c, d⟩ := least_fold hlt hIs r x (hg x (by simp)) fun y hy => hg y (by simp [hy])
    have hle : ∀ y ∈ x :: r, optLt y.key (r.foldl J.pick x).key = false := fun y hy => by
      rcases List.mem_cons.1 hy with rfl | hy
      · exact c
      · exact d y hy
    have hmem : r.foldl J.pick x ∈ x :: r := b.elim (fun e => by rw [e]; simp) (fun e => by simp [e])
    refine ⟨?_, fun k hk => ?_⟩
    · obtain ⟨i, hi⟩ := List.getElem?_of_mem hmem
      have hi4 : i < 4 := by have := (List.getElem?_eq_some_iff.1 hi).1; omega
      rcases (hL i _ hi).is with e | ⟨k, hk, e⟩
      · exact .inl e
      · rw [hIs] at e
        exact .inr ⟨k, hlow i hi4 k hk, e⟩
    · obtain ⟨i, hi, hm⟩ := hall k hk
      obtain ⟨y, hy⟩ : ∃ y, (x :: r)[i]? = some y := ⟨_, List.getElem?_eq_getElem (by omega)⟩
      have hyL := hL i y hy
      obtain ⟨z, hz, hz'⟩ := hyL.all k hm
      rw [hIs] at hz
      rw [← TryIs.key hz]
      exact optLt_neg2 (TryIs.good hz).len (hyL.good hlt hIs).len a.len hz' (hle y (List.mem_of_getElem? hy))
theorem ans_best {f : Nat → Mv} {n : Nat} {L : List (List Nat)} {x : TryV} (h : Ans ltTry (fun i x => TryIs f n (pl (L.getD i [])) x) L.length x) :
    match bestO f n L with
    | some T => x.ok = true ∧ x.n = n ∧ x.cap = n ∧ x.a ≠ none ∧ ∀ i, i < n → x.g i = T i
    | none => x.ok = false ∧ x.n = 0 ∧ x.cap = 0 ∧ x.a = none := by
  obtain ⟨h1, h2⟩ := ans_least (o := fun i => pl (L.getD i [])) h
  obtain ⟨k1, _, k3⟩ := bestO_le f n L none
  change (bestO f n L = none ∨ ∃ l ∈ L, bestO f n L = earl f (pl l) n) at k1
  change ∀ l ∈ L, optLt _ ((bestO f n L).map (keyT f n)) = false at k3
  have hG : ∀ k, k < L.length → L.getD k [] ∈ L := fun k hk => by simp [hk]
  have hI : ∀ l ∈ L, ∃ k, k < L.length ∧ L.getD k [] = l := fun l hl => by
    obtain ⟨k, hk⟩ := List.getElem?_of_mem hl
    exact ⟨k, (List.getElem?_eq_some_iff.1 hk).1, by simp [List.getD, hk]⟩
  have hno : x.ok = false → x.n = 0 ∧ x.cap = 0 ∧ x.a = none ∧ x.key = none := fun e => by
    refine and_assoc.1 (and_assoc.1 ⟨?_, by simp [TryV.key, e]⟩) |> fun h => h
    rcases h1 with rfl | ⟨k, hk, h1⟩
    · exact ⟨⟨rfl, rfl⟩, rfl⟩
    · unfold TryIs at h1
      split at h1
      · rw [h1.1] at e; cases e
      · exact ⟨⟨h1.2.2.2.1, h1.2.2.2.2.1⟩, h1.2.2.2.2.2⟩
  cases hb : bestO f n L with
  | none =>
    cases hx : x.ok with
    | false => obtain ⟨a, b, c, d⟩ := hno hx; exact ⟨rfl, a, b, c⟩
    | true =>
      exfalso
      rcases h1 with rfl | ⟨k, hk, h1⟩
      · simp [noTry] at hx
      · have := k3 _ (hG k hk)
        rw [hb] at this
        unfold TryIs at h1
        split at h1
        · rename_i T e
          try dsimp only at e
          rw [e] at this; simp [optLt] at this
        · rw [h1.1] at hx; cases hx
  | some T =>
    rw [hb] at k1 k3
    obtain ⟨l, hl, e⟩ := k1.resolve_left (by simp)
    obtain ⟨k, hk, e2⟩ := hI l hl
    have h3 := h2 k hk
    try dsimp only at h3
    rw [e2, ← e] at h3
    cases hx : x.ok with
    | false => rw [(hno hx).2.2.2] at h3; simp [optLt] at h3
    | true =>
      rcases h1 with rfl | ⟨q, hq, h1⟩
      · simp [noTry] at hx
      · have hkey := TryIs.key h1
        have h4 := k3 _ (hG q hq)
        rw [← hkey] at h4
        unfold TryIs at h1
        split at h1
        · rename_i S e3
          try dsimp only at e3
          try dsimp only at hkey
          rw [e3] at hkey
          rw [hkey] at h3 h4
          have := lexL_tri (by rw [keyT_length, keyT_length]) h3 h4
          unfold keyT at this
          simp only [List.cons.injEq] at this
          have hi := rowL_inj n 0 this.2.2
          exact ⟨rfl, h1.2.2.2.1, h1.2.2.2.2.1, h1.2.2.2.2.2.2, fun i hi' => (h1.2.2.2.2.2.1 i hi').trans (hi i (by omega) (by omega)).symm⟩
        · rw [h1.1] at hx; cases hx
end Go.Proofs.YtlmcblcijndipabGreat
