/- Texts of the proof, one behind another: C1, G1. -/
import Derived.Test.YtlmcblcijndipaaGreatM19
import Derived.Test.YtlmcblcijndipaaGreatM26
import Derived.Test.YtlmcblcijndipaaGreatM24
import Derived.Test.YtlmcblcijndipaaGreatM25
/- What it costs: both StripCost, walked. -/
namespace Go.Proofs.YtlmcblcijndipaaGreat
open Go.RowKit
set_option linter.unusedVariables false

/-- what it costs: the sum and the most, 0 and 0 where the ticks do not fit -/
def costZ (f : Nat → Mv) (n : Nat) (t : Nat → Int) (m : Nat) : Int × Int := if fitsB f n t m = true then (sumTo f t n, mostTo f t n) else (0, 0)

theorem fitsB_true {f : Nat → Mv} {n m : Nat} {t : Nat → Int} (h : fitsB f n t m = true) : movesB f n = true ∧ m = n ∧ FitTo f t n := by
  have hm : movesB f n = true := by
    cases e : movesB f n with
    | true => rfl
    | false => rw [fitsB_moves e] at h; cases h
  have hl : m = n := by
    by_cases e : m = n
    · exact e
    · rw [fitsB_len e] at h; cases h
  subst hl
  exact ⟨hm, rfl, (fitsB_iff hm).mp h⟩

theorem implCost_row (b off n cap : Nat) (f : Nat → Mv) (b' off' m cap' : Nat) (t : Nat → Int) (w : World) (hn : n ≤ 1048576) (hm1 : m ≤ maxLen) (hbs : b < w.heap.size) (hrow : MvRow w b off n f) (hbs' : b' < w.heap.size) (hrow' : IntRow w b' off' m t) :
    Calls Tryz0.prog 9 #[.slice (some ⟨b, off, none⟩) n cap, .slice (some ⟨b', off', none⟩) m cap'] w fun e w' => e = .returned (.tuple #[.int .i64 (costZ f n t m).1, .int .i64 (costZ f n t m).2]) ∧ Below w.heap.size w w' := by
  cases h : fitsB f n t m with
  | false =>
    have HC0 : costZ f n t m = (0, 0) := by unfold costZ; rw [h]; rfl
    have HC : Hid _ := HC0
    clear HC0
    go_enter Tryz0.func9, Tryz.ntmps9
    go_wp2_with (go_at_call 10; refine (implFits_row _ _ _ _ f _ _ _ _ t _ hn hm1 hbs hrow hbs' hrow').mono ?_; rintro e w1 ⟨rfl, hb1⟩)
    go_ret2
    exact ⟨ret_ii (by rw [HC.out]) (by rw [HC.out]), hb1⟩
  | true =>
    obtain ⟨hm, rfl, hfit⟩ := fitsB_true h
    have HC0 : costZ f m t m = (sumTo f t m, mostTo f t m) := by unfold costZ; rw [h]; rfl
    have HC : Hid _ := HC0
    clear HC0
    have HM : Hid _ := hm
    clear hm
    go_enter Tryz0.func9, Tryz.ntmps9
    go_wp2_with (first | (go_at_call 10; refine (implFits_row _ _ _ _ f _ _ _ _ t _ hn hm1 hbs hrow hbs' hrow').mono ?_; rintro e w1 ⟨rfl, hb1⟩) | (go_at_call 29; refine (implLate_row _ _ _ _ f _ _ _ _ t _ (movesB_six HM.out) (Nat.le_refl _) (Nat.lt_of_lt_of_le hbs hb1.size) (hrow.below hb1 hbs) (Nat.lt_of_lt_of_le hbs' hb1.size) (hrow'.below hb1 hbs') (LateBd.fits HM.out hfit)).mono ?_; rintro e w2 ⟨rfl, hb2⟩))
    go_ret2
    exact ⟨ret_ii (by rw [HC.out]) (by rw [HC.out]), hb1.trans (hb2.mono hb1.size)⟩
end Go.Proofs.YtlmcblcijndipaaGreat

/- The best, and the orders beside it: plain mathematics. -/
namespace Go.Proofs.YtlmcblcijndipaaGreat
open Go Go.RowKit
set_option linter.unusedVariables false

theorem leastTo_ocongr {f : Nat → Mv} {o o' : Nat → Nat} {T : Nat → Int} {p : Nat} : ∀ j, (∀ k, k < j → o k = o' k) → leastTo f o T p j = leastTo f o' T p j
  | 0, _ => rfl
  | j + 1, h => by simp only [leastTo]; rw [leastTo_ocongr j (fun k hk => h k (by omega)), h j (by omega)]
theorem earl_ocongr {f : Nat → Mv} {o o' : Nat → Nat} : ∀ n, (∀ i, i < n → o i = o' i) → earl f o n = earl f o' n
  | 0, _ => rfl
  | n + 1, h => by
    simp only [earl]
    rw [earl_ocongr n (fun k hk => h k (by omega))]
    cases earl f o' n with
    | none => rfl
    | some T => simp only [h n (by omega), leastTo_ocongr n (fun k hk => h k (by omega))]
/-- the orders that are near enough -/
noncomputable def nearD (f : Nat → Mv) (n : Nat) (shift : Int) (l : List Nat) : Bool := @decide (∃ g r, IsFirst f n g ∧ IsShift (fun i => ((pl l i : Nat) : Int)) (fun i => ((g i : Nat) : Int)) n r ∧ r ≤ shift) (Classical.propDecidable _)
theorem nearD_iff {f : Nat → Mv} {n : Nat} {shift : Int} {l : List Nat} : nearD f n shift l = true ↔ ∃ g r, IsFirst f n g ∧ IsShift (fun i => ((pl l i : Nat) : Int)) (fun i => ((g i : Nat) : Int)) n r ∧ r ≤ shift := by
  unfold nearD; simp only [decide_eq_true_eq]
theorem IsShift.congr {a a' b b' : Nat → Int} {n : Nat} {r : Int} (h : IsShift a b n r) (ha : ∀ i, i < n → a i = a' i) (hb : ∀ i, i < n → b i = b' i) : IsShift a' b' n r :=
  ⟨h.low, h.high, fun i k hi hk e => h.most i k hi hk (by rw [ha i hi, hb k hk]; exact e), h.some.imp id fun ⟨i, k, hi, hk, e, x⟩ => ⟨i, k, hi, hk, by rw [← ha i hi, ← hb k hk]; exact e, x⟩⟩
theorem nearD_near (f : Nat → Mv) (n : Nat) (shift : Int) : NearP f n shift (nearD f n shift) := fun g hg l hl r hr => by
  rw [nearD_iff]
  constructor
  · rintro ⟨g', r', hg', hr', hle⟩
    have := hr.unique (hr'.congr (fun _ _ => rfl) fun i hi => by rw [hg'.unique hg i hi])
    omega
  · intro h; exact ⟨g, r, hg, hr, h⟩
theorem nearD_mono {f : Nat → Mv} {n : Nat} {s s' : Int} (h : s ≤ s') {l : List Nat} (hl : nearD f n s l = true) : nearD f n s' l = true := by
  rw [nearD_iff] at hl ⊢
  obtain ⟨g, r, h1, h2, h3⟩ := hl
  exact ⟨g, r, h1, h2, by omega⟩
theorem key_le {f : Nat → Mv} {n : Nat} {T S : Nat → Int} (h : lexL (keyT f n S) (keyT f n T) = false) : sumTo f T n < sumTo f S n ∨ sumTo f T n = sumTo f S n ∧ mostTo f T n ≤ mostTo f S n := by
  unfold keyT at h
  simp only [lexL] at h
  split at h
  · rename_i e
    split at h
    · rename_i e2; exact .inr ⟨e.symm, by omega⟩
    · simp at h; exact .inr ⟨e.symm, by omega⟩
  · simp at h; omega
/-- what StripBest finds -/
structure Found (f : Nat → Mv) (n : Nat) (shift : Int) (T : Nat → Int) : Prop where
  moves : movesB f n = true
  low : 0 ≤ shift
  high : shift ≤ 6
  is : ∃ l, l ∈ allP n ∧ nearD f n shift l = true ∧ earl f (pl l) n = some T
  least : ∀ l, l ∈ allP n → nearD f n shift l = true → ∀ S, earl f (pl l) n = some S → lexL (keyT f n S) (keyT f n T) = false
theorem found_of {f : Nat → Mv} {n : Nat} {shift : Int} {T : Nat → Int} (h : bestR f n shift (nearD f n shift) = some T) : Found f n shift T := by
  unfold bestR at h
  split at h
  · rename_i hc
    obtain ⟨h1, _, h3⟩ := bestO_le f n ((allP n).filter (nearD f n shift)) none
    change bestO f n ((allP n).filter (nearD f n shift)) = none ∨ ∃ l ∈ (allP n).filter (nearD f n shift), bestO f n ((allP n).filter (nearD f n shift)) = earl f (pl l) n at h1
    change ∀ l ∈ (allP n).filter (nearD f n shift), optLt _ ((bestO f n ((allP n).filter (nearD f n shift))).map (keyT f n)) = false at h3
    rw [h] at h1 h3
    obtain ⟨l, hl, e⟩ := h1.resolve_left (by simp)
    obtain ⟨l1, l2⟩ := List.mem_filter.1 hl
    refine ⟨hc.1, hc.2.1, hc.2.2, ⟨l, l1, l2, e.symm⟩, fun l hl hp S hS => ?_⟩
    have := h3 l (List.mem_filter.2 ⟨hl, hp⟩)
    rw [hS] at this
    exact this
  · cases h
/-- with more shifts there is something, and it costs no more -/
theorem Found.more {f : Nat → Mv} {n : Nat} {shift : Int} {T : Nat → Int} (h : Found f n shift T) : ∃ T6, bestR f n 6 (nearD f n 6) = some T6 ∧ Found f n 6 T6 ∧ (sumTo f T6 n < sumTo f T n ∨ sumTo f T6 n = sumTo f T n ∧ mostTo f T6 n ≤ mostTo f T n) := by
  obtain ⟨l, hl, hp, he⟩ := h.is
  have hp6 := nearD_mono h.high hp
  have h3 := (bestO_le f n ((allP n).filter (nearD f n 6)) none).2.2 l (List.mem_filter.2 ⟨hl, hp6⟩)
  change optLt _ ((bestO f n ((allP n).filter (nearD f n 6))).map (keyT f n)) = false at h3
  rw [he] at h3
  have hR : bestR f n 6 (nearD f n 6) = bestO f n ((allP n).filter (nearD f n 6)) := by
    unfold bestR; rw [if_pos ⟨h.moves, by omega, by omega⟩]
  cases hb : bestO f n ((allP n).filter (nearD f n 6)) with
  | none => rw [hb] at h3; simp [optLt] at h3
  | some T6 =>
    rw [hb] at h3
    exact ⟨T6, hR.trans hb, found_of (hR.trans hb), key_le h3⟩
theorem Found.fits {f : Nat → Mv} {n : Nat} {shift : Int} {T : Nat → Int} (h : Found f n shift T) : fitsB f n T n = true := by
  obtain ⟨l, hl, hp, he⟩ := h.is
  obtain ⟨_, o1, o2⟩ := allP_ord hl
  exact (fitsB_iff h.moves).mpr (earl_says h.moves o1 o2 he).fit
theorem Found.cost {f : Nat → Mv} {n : Nat} {shift : Int} {T : Nat → Int} (h : Found f n shift T) : costZ f n T n = (sumTo f T n, mostTo f T n) := by unfold costZ; rw [if_pos h.fits]
/-- no order that may be costs less -/
theorem Found.order {f : Nat → Mv} {n : Nat} {shift : Int} {T : Nat → Int} (h : Found f n shift T) {g : Nat → Nat} (hg : IsFirst f n g) {o : Nat → Int} {r : Int} (hr : ShiftSays o n (fun i => ((g i : Nat) : Int)) n r) (hle : r ≤ shift) {S : Nat → Int} (hS : orderR f n o n = some S) :
    sumTo f T n ≤ (costZ f n S n).1 := by
  have hc : movesB f n = true ∧ ordB o n n = true := by
    unfold orderR at hS
    split at hS
    · rename_i hc; exact hc
    · cases hS
  have ho := (ordB_iff o n).mp hc.2
  rw [orderR_yes hc.1 hc.2] at hS
  have hgo := (ordB_iff (fun i => ((g i : Nat) : Int)) n).mpr hg.ord
  unfold ShiftSays at hr
  rw [if_pos ⟨rfl, hc.2, hgo⟩] at hr
  have hne : ∀ i j, i < j → j < n → plc o i ≠ plc o j := fun j k hjk hk e => ho.2 j k hjk hk (by
    have h1 := ho.1 j (by omega)
    have h2 := ho.1 k hk
    unfold plc at e
    omega)
  have hlt : ∀ i, i < n → plc o i < n := fun i hi => by have h1 := ho.1 i hi; unfold plc; omega
  obtain ⟨l, hl, hpl⟩ := allP_all (n := n) (g := plc o) hlt hne
  have he : earl f (pl l) n = some S := (earl_ocongr n hpl).trans hS
  have hn : nearD f n shift l = true := by
    rw [nearD_iff]
    exact ⟨g, r, hg, hr.congr (fun i hi => by rw [hpl i hi]; have h1 := ho.1 i hi; unfold plc; omega) (fun _ _ => rfl), hle⟩
  have hk := key_le (h.least l hl hn S he)
  have hf : fitsB f n S n = true := (fitsB_iff h.moves).mpr (earl_says h.moves hlt hne hS).fit
  unfold costZ
  rw [if_pos hf]
  show sumTo f T n ≤ sumTo f S n
  omega
end Go.Proofs.YtlmcblcijndipaaGreat
