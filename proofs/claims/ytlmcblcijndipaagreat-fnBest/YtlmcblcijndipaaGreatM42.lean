/- Texts of the proof, one behind another: BL, BestQ. -/
import Derived.Test.YtlmcblcijndipaaGreatM36
import Derived.Test.YtlmcblcijndipaaGreatM40
import Derived.Test.YtlmcblcijndipaaGreatM21
/- Nothing old has turned. -/
namespace Go.Proofs.YtlmcblcijndipaaGreat
open Go Go.Conc Go.RowKit
/-- nothing has turned below N -/
structure Bl (N : Nat) (w w' : World) : Prop where
  size : w.heap.size ≤ w'.heap.size
  block : ∀ k, k < N → w'.heap[k]? = w.heap[k]?
theorem Bl.ofR {V w : World} {τ : Nat → Question → Nat} {d : Nat} (h : Below (re V τ d).heap.size (re V τ d) w) : Bl V.heap.size V w := ⟨h.size, h.block⟩
theorem Bl.trans {N M : Nat} {a b c : World} (h : Bl N a b) (k : Bl M b c) (hN : N ≤ M) : Bl N a c := ⟨Nat.le_trans h.size k.size, fun i hi => (k.block i (by omega)).trans (h.block i hi)⟩
end Go.Proofs.YtlmcblcijndipaaGreat

/- The least try is the best ticks. -/
namespace Go.Proofs.YtlmcblcijndipaaGreat
open Go Go.RowKit
set_option linter.unusedVariables false
set_option linter.unusedSectionVars false

theorem cmpRow_lex (g h : Nat → Int) (n : Nat) : ∀ f k, k + f = n → decide (cmpRow g h n n f k < 0) = lexL (rowL g f k) (rowL h f k)
  | 0, k, _ => by simp [cmpRow, rowL, lexL]
  | f + 1, k, e => by
    rw [cmpRow, if_neg (by omega), rowL, rowL, lexL]
    unfold cmpZ
    by_cases h1 : g k = h k
    · rw [h1]; simp only [Int.lt_irrefl, if_false, if_true]
      exact cmpRow_lex g h n f (k + 1) (by omega)
    · rw [if_neg h1]
      by_cases h2 : g k < h k
      · rw [if_pos h2]; simp [h2]
      · have h3 : h k < g k := by omega
        rw [if_neg h2, if_pos h3]; simp [h2]

/-- what a try is worth -/
def TryV.key (x : TryV) : Option (List Int) := if x.ok = true then some (x.sum :: x.most :: rowL x.g x.n 0) else none
def GoodT (n : Nat) (x : TryV) : Prop := if x.ok = true then x.n = n else x.sum = 0 ∧ x.most = 0 ∧ x.n = 0
theorem GoodT.len {n : Nat} {x : TryV} (h : GoodT n x) : ∀ l, x.key = some l → l.length = n + 2 := by
  intro l hl
  unfold TryV.key at hl
  unfold GoodT at h
  split at hl
  · rename_i e
    rw [if_pos e] at h
    obtain rfl := Option.some.inj hl
    simp [rowL_length, h]
  · cases hl
theorem good_no (n : Nat) : GoodT n noTry := by simp [GoodT, noTry]
theorem orZ_neg (a b c : Int) : decide (orZ a b c < 0) = if a = 0 then (if b = 0 then decide (c < 0) else decide (b < 0)) else decide (a < 0) := by
  unfold orZ; split <;> (try split) <;> rfl
theorem cmpZ_zero {a b : Int} : cmpZ a b = 0 ↔ a = b := by unfold cmpZ; split <;> (try split) <;> omega
theorem cmpZ_neg {a b : Int} : cmpZ a b < 0 ↔ a < b := by unfold cmpZ; split <;> (try split) <;> omega
theorem ltTry_key {n : Nat} {x y : TryV} (hx : GoodT n x) (hy : GoodT n y) : ltTry x y = optLt x.key y.key := by
  unfold ltTry cmpTry TryV.key
  unfold GoodT at hx hy
  cases h1 : x.ok <;> cases h2 : y.ok <;> simp only [h1, h2, if_true, if_false, Bool.false_eq_true, Bool.true_eq_false, optLt] at hx hy ⊢
  · rw [hx.1, hx.2.1, hx.2.2, hy.1, hy.2.1, hy.2.2]; simp [orZ, cmpZ, cmpRow]
  · simp
  · simp
  · rw [hx, hy, orZ_neg, cmpRow_lex _ _ _ n 0 (by omega), lexL, lexL]
    simp only [cmpZ_zero, cmpZ_neg]
theorem TryIs.good {f : Nat → Mv} {n : Nat} {o : Nat → Nat} {x : TryV} (h : TryIs f n o x) : GoodT n x := by
  unfold TryIs at h
  unfold GoodT
  split at h
  · rw [if_pos h.1]; exact h.2.2.2.1
  · rw [if_neg (by rw [h.1]; simp)]; exact ⟨h.2.1, h.2.2.1, h.2.2.2.1⟩
theorem TryIs.key {f : Nat → Mv} {n : Nat} {o : Nat → Nat} {x : TryV} (h : TryIs f n o x) : x.key = (earl f o n).map (keyT f n) := by
  unfold TryIs at h
  unfold TryV.key
  split at h
  · rename_i T e
    rw [if_pos h.1, h.2.1, h.2.2.1, h.2.2.2.1, rowL_congr n 0 (fun i _ hi => h.2.2.2.2.2.1 i (by omega)), e]; rfl
  · rename_i e
    rw [if_neg (by rw [h.1]; simp), e]; rfl

/-- the best of some orders -/
structure Least (J : Jb) (n : Nat) (seq : List Nat) (x : TryV) : Prop where
  is : x = noTry ∨ ∃ i ∈ seq, J.Is i x
  all : ∀ i ∈ seq, ∃ y, J.Is i y ∧ optLt y.key x.key = false
section
variable {J : Jb} {f : Nat → Mv} {n : Nat} {o : Nat → Nat → Nat} (hlt : J.lt = ltTry) (hIs : J.Is = fun i x => TryIs f n (o i) x)
include hlt hIs
theorem Least.good {seq : List Nat} {x : TryV} (h : Least J n seq x) : GoodT n x := by
  rcases h.is with rfl | ⟨i, _, hi⟩
  · exact good_no n
  · rw [hIs] at hi; exact TryIs.good hi
theorem least_of_best {seq : List Nat} {x : TryV} (h : Best J seq x) : Least J n seq x := by
  induction h with
  | nil => exact ⟨.inl rfl, fun i hi => by simp at hi⟩
  | @snoc seq i x y hb hi ih =>
    have gx := ih.good hlt hIs
    have gy : GoodT n y := by rw [hIs] at hi; exact TryIs.good hi
    have hk : J.lt y x = optLt y.key x.key := by rw [hlt]; exact ltTry_key gy gx
    unfold Jb.pick
    rw [hk]
    by_cases hp : optLt y.key x.key = true
    · rw [if_pos hp]
      refine ⟨.inr ⟨i, by simp, hi⟩, fun k hk => ?_⟩
      rcases List.mem_append.1 hk with hk | hk
      · obtain ⟨z, hz, hz'⟩ := ih.all k hk
        have gz : GoodT n z := by rw [hIs] at hz; exact TryIs.good hz
        exact ⟨z, hz, optLt_neg gx.len gy.len hz' hp gz.len⟩
      · simp at hk; subst hk
        exact ⟨y, hi, optLt_irrefl _⟩
    · rw [if_neg hp]
      refine ⟨?_, fun k hk => ?_⟩
      · rcases ih.is with e | ⟨k, hk, e⟩
        · exact .inl e
        · exact .inr ⟨k, by simp [hk], e⟩
      · rcases List.mem_append.1 hk with hk | hk
        · exact ih.all k hk
        · simp at hk; subst hk
          exact ⟨y, hi, by simpa using hp⟩
theorem least_fold : ∀ (xs : List TryV) (x : TryV), GoodT n x → (∀ y ∈ xs, GoodT n y) → GoodT n (xs.foldl J.pick x) ∧ (xs.foldl J.pick x = x ∨ xs.foldl J.pick x ∈ xs) ∧ optLt x.key (xs.foldl J.pick x).key = false ∧ ∀ y ∈ xs, optLt y.key (xs.foldl J.pick x).key = false
  | [], x, gx, _ => ⟨gx, .inl rfl, optLt_irrefl _, fun y hy => by simp at hy⟩
  | y :: xs, x, gx, h => by
    have gy := h y (by simp)
    have hk : J.lt y x = optLt y.key x.key := by rw [hlt]; exact ltTry_key gy gx
    rw [List.foldl_cons]
    by_cases hp : optLt y.key x.key = true
    · have e : J.pick x y = y := by unfold Jb.pick; rw [hk, if_pos hp]
      rw [e]
      obtain ⟨a, b, c, d⟩ := least_fold xs y gy fun z hz => h z (by simp [hz])
      refine ⟨a, b.elim (fun e => .inr (by simp [e])) (fun e => .inr (by simp [e])), ?_, fun z hz => ?_⟩
      · cases hx : optLt x.key (xs.foldl J.pick y).key with
        | false => rfl
        | true => rw [optLt_trans hp hx] at c; cases c
      · rcases List.mem_cons.1 hz with rfl | hz
        · exact c
        · exact d z hz
    · have e : J.pick x y = x := by unfold Jb.pick; rw [hk, if_neg hp]
      rw [e]
      obtain ⟨a, b, c, d⟩ := least_fold xs x gx fun z hz => h z (by simp [hz])
      refine ⟨a, b.elim .inl (fun e => .inr (by simp [e])), c, fun z hz => ?_⟩
      rcases List.mem_cons.1 hz with rfl | hz
      · exact optLt_neg2 gy.len gx.len a.len (by simpa using hp) c
      · exact d z hz
end
/-- THE ANSWER: one of the orders', and none is better -/
theorem ans_least {f : Nat → Mv} {n nn : Nat} {o : Nat → Nat → Nat} {x : TryV} (h : Ans ltTry (fun i x => TryIs f n (o i) x) nn x) :
    (x = noTry ∨ ∃ k, k < nn ∧ TryIs f n (o k) x) ∧ ∀ k, k < nn → optLt ((earl f (o k) n).map (keyT f n)) x.key = false := by
  obtain ⟨J, xs, seq, hlt, hIs, h4, hB, hall, hlow, rfl⟩ := h
  have hL : ∀ i y, xs[i]? = some y → Least J n (seq i) y := fun i y hy => least_of_best hlt hIs (hB i y hy)
  have hg : ∀ y ∈ xs, GoodT n y := fun y hy => by
    obtain ⟨i, hi⟩ := List.getElem?_of_mem hy
    exact (hL i y hi).good hlt hIs
  match xs, h4, hL, hg with
  | x :: r, h4, hL, hg =>
    obtain ⟨a, b, c, d⟩ := least_fold hlt hIs r x (hg x (by simp)) fun y hy => hg y (by simp [hy])
    have hle : ∀ y ∈ x :: r, optLt y.key (r.foldl J.pick x).key = false := fun y hy => by
      rcases List.mem_cons.1 hy with rfl | hy
      · exact c
      · exact d y hy
    have hmem : r.foldl J.pick x ∈ x :: r := b.elim (fun e => by rw [e]; simp) (fun e => by simp [e])
    refine ⟨?_, fun k hk => ?_⟩
    · obtain ⟨i, hi⟩ := List.getElem?_of_mem hmem
      have hi4 : i < 4 := by have := (List.getElem?_eq_some_iff.1 hi).1; omega
      rcases (hL i _ hi).is with e | ⟨k, hk, e⟩
      · exact .inl e
      · rw [hIs] at e
        exact .inr ⟨k, hlow i hi4 k hk, e⟩
    · obtain ⟨i, hi, hm⟩ := hall k hk
      obtain ⟨y, hy⟩ : ∃ y, (x :: r)[i]? = some y := ⟨_, List.getElem?_eq_getElem (by omega)⟩
      have hyL := hL i y hy
      obtain ⟨z, hz, hz'⟩ := hyL.all k hm
      rw [hIs] at hz
      rw [← TryIs.key hz]
      exact optLt_neg2 (TryIs.good hz).len (hyL.good hlt hIs).len a.len hz' (hle y (List.mem_of_getElem? hy))

/-- THE LEAST TRY IS WHAT COMES OF GOING ORDER BY ORDER -/
theorem ans_best {f : Nat → Mv} {n : Nat} {L : List (List Nat)} {x : TryV} (h : Ans ltTry (fun i x => TryIs f n (pl (L.getD i [])) x) L.length x) :
    match bestO f n L with
    | some T => x.ok = true ∧ x.n = n ∧ x.cap = n ∧ x.a ≠ none ∧ ∀ i, i < n → x.g i = T i
    | none => x.ok = false ∧ x.n = 0 ∧ x.cap = 0 ∧ x.a = none := by
  obtain ⟨h1, h2⟩ := ans_least (o := fun i => pl (L.getD i [])) h
  obtain ⟨k1, _, k3⟩ := bestO_le f n L none
  change (bestO f n L = none ∨ ∃ l ∈ L, bestO f n L = earl f (pl l) n) at k1
  change ∀ l ∈ L, optLt _ ((bestO f n L).map (keyT f n)) = false at k3
  have hG : ∀ k, k < L.length → L.getD k [] ∈ L := fun k hk => by simp [hk]
  have hI : ∀ l ∈ L, ∃ k, k < L.length ∧ L.getD k [] = l := fun l hl => by
    obtain ⟨k, hk⟩ := List.getElem?_of_mem hl
    exact ⟨k, (List.getElem?_eq_some_iff.1 hk).1, by simp [List.getD, hk]⟩
  have hno : x.ok = false → x.n = 0 ∧ x.cap = 0 ∧ x.a = none ∧ x.key = none := fun e => by
    refine and_assoc.1 (and_assoc.1 ⟨?_, by simp [TryV.key, e]⟩) |> fun h => h
    rcases h1 with rfl | ⟨k, hk, h1⟩
    · exact ⟨⟨rfl, rfl⟩, rfl⟩
    · unfold TryIs at h1
      split at h1
      · rw [h1.1] at e; cases e
      · exact ⟨⟨h1.2.2.2.1, h1.2.2.2.2.1⟩, h1.2.2.2.2.2⟩
  cases hb : bestO f n L with
  | none =>
    cases hx : x.ok with
    | false => obtain ⟨a, b, c, d⟩ := hno hx; exact ⟨rfl, a, b, c⟩
    | true =>
      exfalso
      rcases h1 with rfl | ⟨k, hk, h1⟩
      · simp [noTry] at hx
      · have := k3 _ (hG k hk)
        rw [hb] at this
        unfold TryIs at h1
        split at h1
        · rename_i T e
          try dsimp only at e
          rw [e] at this; simp [optLt] at this
        · rw [h1.1] at hx; cases hx
  | some T =>
    rw [hb] at k1 k3
    obtain ⟨l, hl, e⟩ := k1.resolve_left (by simp)
    obtain ⟨k, hk, e2⟩ := hI l hl
    have h3 := h2 k hk
    try dsimp only at h3
    rw [e2, ← e] at h3
    cases hx : x.ok with
    | false => rw [(hno hx).2.2.2] at h3; simp [optLt] at h3
    | true =>
      rcases h1 with rfl | ⟨q, hq, h1⟩
      · simp [noTry] at hx
      · have hkey := TryIs.key h1
        have h4 := k3 _ (hG q hq)
        rw [← hkey] at h4
        unfold TryIs at h1
        split at h1
        · rename_i S e3
          try dsimp only at e3
          try dsimp only at hkey
          rw [e3] at hkey
          rw [hkey] at h3 h4
          have := lexL_tri (by rw [keyT_length, keyT_length]) h3 h4
          unfold keyT at this
          simp only [List.cons.injEq] at this
          have hi := rowL_inj n 0 this.2.2
          exact ⟨rfl, h1.2.2.2.1, h1.2.2.2.2.1, h1.2.2.2.2.2.2, fun i hi' => (h1.2.2.2.2.2.1 i hi').trans (hi i (by omega) (by omega)).symm⟩
        · rw [h1.1] at hx; cases hx
end Go.Proofs.YtlmcblcijndipaaGreat
