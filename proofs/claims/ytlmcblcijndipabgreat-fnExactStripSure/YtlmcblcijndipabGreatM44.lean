/- Texts of the proof, one behind another: G1, Y1. -/
import Derived.Test.YtlmcblcijndipabGreatM43
import Derived.Test.YtlmcblcijndipabGreatM29
import Derived.Test.YtlmcblcijndipabGreatM31
import Derived.Test.YtlmcblcijndipabGreatM17e
import Derived.Test.YtlmcblcijndipabGreatM30
import Derived.Test.YtlmcblcijndipabGreatM15
namespace Go.Proofs.YtlmcblcijndipabGreat
open Go Go.RowKit
set_option linter.unusedVariables false
noncomputable def nearD (f : Nat → Mv) (n : Nat) (shift : Int) (l : List Nat) : Bool := @decide (∃ g r, IsFirst f n g ∧ IsShift (fun i => ((pl l i : Nat) : Int)) (fun i => ((g i : Nat) : Int)) n r ∧ r ≤ shift) (Classical.propDecidable _)
theorem nearD_iff {f : Nat → Mv} {n : Nat} {shift : Int} {l : List Nat} : nearD f n shift l = true ↔ ∃ g r, IsFirst f n g ∧ IsShift (fun i => ((pl l i : Nat) : Int)) (fun i => ((g i : Nat) : Int)) n r ∧ r ≤ shift := by
  unfold nearD; simp only [decide_eq_true_eq]
theorem IsShift.congr {a a' b b' : Nat → Int} {n : Nat} {r : Int} (h : IsShift a b n r) (ha : ∀ i, i < n → a i = a' i) (hb : ∀ i, i < n → b i = b' i) : IsShift a' b' n r :=
  ⟨h.low, h.high, fun i k hi hk e => h.most i k hi hk (by rw [ha i hi, hb k hk]; exact e), h.some.imp id fun ⟨i, k, hi, hk, e, x⟩ => ⟨i, k, hi, hk, by rw [← ha i hi, ← hb k hk]; exact e, x⟩⟩
theorem nearD_near (f : Nat → Mv) (n : Nat) (shift : Int) : NearP f n shift (nearD f n shift) := fun g hg l hl r hr => by
  rw [nearD_iff]
  constructor
  · rintro ⟨g', r', hg', hr', hle⟩
    have := hr.unique (hr'.congr (fun _ _ => rfl) fun i hi => by rw [hg'.unique hg i hi])
    omega
  · intro h; exact ⟨g, r, hg, hr, h⟩
structure Found (f : Nat → Mv) (n : Nat) (shift : Int) (T : Nat → Int) : Prop where
  moves : movesB f n = true
  low : 0 ≤ shift
  high : shift ≤ 6
  is : ∃ l, l ∈ allP n ∧ nearD f n shift l = true ∧ earl f (pl l) n = some T
  least : ∀ l, l ∈ allP n → nearD f n shift l = true → ∀ S, earl f (pl l) n = some S → lexL (keyT f n S) (keyT f n T) = false
end Go.Proofs.YtlmcblcijndipabGreat

namespace Go.Proofs.YtlmcblcijndipabGreat
open Go Go.RowKit
set_option linter.unusedVariables false
def zeroMv : Mv := ⟨ByteArray.empty, false, 0, 0, 0, 0⟩
def mvF (l : List Mv) (i : Nat) : Mv := l.getD i zeroMv
theorem mvF_get {l : List Mv} {i : Nat} (h : i < l.length) : mvF l i = l[i] := by simp [mvF, h]
theorem mvF_mem {l : List Mv} {i : Nat} (h : i < l.length) : mvF l i ∈ l := by rw [mvF_get h]; exact List.getElem_mem h
theorem mvF_app {l : List Mv} {m : Mv} {i : Nat} : mvF (l ++ [m]) i = if i = l.length then m else mvF l i := by
  unfold mvF
  rw [List.getD_eq_getElem?_getD, List.getD_eq_getElem?_getD, List.getElem?_append]
  split
  · rw [if_neg (by omega)]
  · split
    · rename_i h1 h2; subst h2; simp
    · rename_i h1 h2
      rw [List.getElem?_eq_none (l := l) (by omega), List.getElem?_eq_none (by simp; omega)]
def goneMv (m : Mv) (tick : Int) : Mv := { m with est := tick + 6, prom := -1 }
def thenMv (f : Nat → Mv) (t : Nat → Int) (p k : Nat) : Mv := if k = p then goneMv (f p) (t p) else promMv (f k) (t k) (t p)
def thenL (f : Nat → Mv) (t : Nat → Int) (p : Nat) : Nat → List Mv
  | 0 => []
  | k + 1 => if t k < t p then thenL f t p k else thenL f t p k ++ [thenMv f t p k]
def raiseMv (m : Mv) (frm : Int) : Mv := if m.prom = -1 then { m with est := max m.est frm } else m
def raiseOk (m : Mv) (frm : Int) : Bool := !(m.prom == -1) || decide (frm ≤ m.late)
def raiseF (g : Nat → Mv) (frm : Int) (i : Nat) : Mv := raiseMv (g i) frm
noncomputable def planR (g : Nat → Mv) (k : Nat) (now shift : Int) : Option (Nat → Int) :=
  if ∀ i, i < k → raiseOk (g i) (now + 4) = true then bestR (raiseF g (now + 4)) k shift (nearD (raiseF g (now + 4)) k shift) else none
noncomputable def roundR (f : Nat → Mv) (n : Nat) (t : Nat → Int) (p : Nat) : Option (Nat → Int) :=
  if t p + 6 ≤ (f p).late then planR (mvF (thenL f t p n)) (thenL f t p n).length (t p) 6 else none
def sureP (f : Nat → Mv) (n : Nat) (t : Nat → Int) : Prop := ∀ p, p < n → (f p).lands = true → (roundR f n t p).isSome = true
theorem thenL_len (f : Nat → Mv) (t : Nat → Int) (p : Nat) : ∀ k, (thenL f t p k).length ≤ k
  | 0 => Nat.le_refl _
  | k + 1 => by
    have := thenL_len f t p k
    simp only [thenL]
    split
    · omega
    · simp; omega
theorem thenMv_name (f : Nat → Mv) (t : Nat → Int) (p k : Nat) : (thenMv f t p k).name = (f k).name := by
  unfold thenMv
  split
  · rename_i h; subst h; rfl
  · unfold promMv; split <;> rfl
theorem thenL_mem {f : Nat → Mv} {t : Nat → Int} {p : Nat} : ∀ {k : Nat} {m : Mv}, m ∈ thenL f t p k → ∃ i, i < k ∧ t p ≤ t i ∧ m = thenMv f t p i
  | 0, m, h => by simp [thenL] at h
  | k + 1, m, h => by
    simp only [thenL] at h
    split at h
    · obtain ⟨i, h1, h2⟩ := thenL_mem h; exact ⟨i, by omega, h2⟩
    · rename_i hk
      rcases List.mem_append.1 h with h | h
      · obtain ⟨i, h1, h2⟩ := thenL_mem h; exact ⟨i, by omega, h2⟩
      · simp at h; exact ⟨k, by omega, by omega, h⟩
theorem thenL_names (f : Nat → Mv) (t : Nat → Int) (p : Nat) : ∀ k, List.Sublist ((thenL f t p k).map Mv.name) ((List.range k).map fun i => (f i).name)
  | 0 => by simp [thenL]
  | k + 1 => by
    have ih := thenL_names f t p k
    simp only [thenL, List.range_succ, List.map_append, List.map_cons, List.map_nil]
    split
    · exact ih.trans (List.sublist_append_left _ _)
    · rw [List.map_append, List.map_cons, List.map_nil, thenMv_name]
      exact ih.append (List.Sublist.refl _)
theorem names_up {f : Nat → Mv} {n : Nat} (h : movesB f n = true) : ∀ j, j < n → ∀ i, i < j → lessB (f i).name (f j).name = true := by
  have hs : ∀ j, j < n → 0 < j → lessB (f (j - 1)).name (f j).name = true := fun j hj h0 => by
    unfold movesB at h
    simp only [Bool.and_eq_true, decide_eq_true_eq, List.all_eq_true, List.mem_range] at h
    have := h.2 j hj
    unfold stepB at this
    simp only [Bool.and_eq_true, Bool.or_eq_true, beq_iff_eq] at this
    exact this.2.resolve_left (by omega)
  intro j
  induction j with
  | zero => intro _ i hi; omega
  | succ j ih =>
    intro hj i hi
    have h1 := hs (j + 1) hj (by omega)
    simp only [Nat.add_sub_cancel] at h1
    by_cases e : i = j
    · subst e; exact h1
    · exact less_trans (ih (by omega) i (by omega)) h1
theorem names_pair {f : Nat → Mv} {n : Nat} (h : movesB f n = true) : ((List.range n).map fun i => (f i).name).Pairwise (fun a b => lessB a b = true) := by
  rw [List.pairwise_map, List.pairwise_iff_getElem]
  intro i j hi hj hij
  simp only [List.getElem_range]
  simp at hj
  exact names_up h j hj i hij
theorem moves_list {g : Nat → Mv} {l : List Mv} (h6 : l.length ≤ 6) (hok : ∀ i, i < l.length → (g i).ok = true) (hn : ∀ i, i < l.length → (g i).name = (mvF l i).name) (hp : (l.map Mv.name).Pairwise (fun a b => lessB a b = true)) : movesB g l.length = true := by
  refine movesB_yes h6 fun i hi => ?_
  unfold stepB
  rw [hok i hi]
  by_cases h0 : i = 0
  · subst h0; simp
  · rw [List.pairwise_map, List.pairwise_iff_getElem] at hp
    have := hp (i - 1) i (by omega) hi (by omega)
    rw [hn i hi, hn (i - 1) (by omega), mvF_get hi, mvF_get (by omega : i - 1 < l.length), this]
    simp
theorem Mv.ok_of {m m' : Mv} (h : m.ok = true) (hn : m'.name = m.name) (hw : m'.wake = m.wake) (h1 : 0 ≤ m'.est) (h2 : m'.est ≤ m'.late) (h3 : m'.late ≤ 10000) (h4 : m'.prom = -1 ∨ m'.est ≤ m'.prom ∧ m'.prom ≤ m'.late) : m'.ok = true := by
  unfold Mv.ok moveB promB inB at *
  simp only [Bool.and_eq_true, Bool.or_eq_true, decide_eq_true_eq, beq_iff_eq, hn, hw] at *
  refine ⟨⟨⟨⟨h.1.1.1.1, ?_⟩, ?_⟩, ?_⟩, ?_⟩ <;> omega
theorem then_ok {f : Nat → Mv} {n : Nat} {t : Nat → Int} (hm : movesB f n = true) (hf : FitTo f t n) {p : Nat} (hp : p < n) (hl : t p + 6 ≤ (f p).late) {i : Nat} (hi : i < n) : (thenMv f t p i).ok = true := by
  have b1 := Mv.ok_bd (movesB_ok hm i hi)
  have b2 := Mv.ok_bd (movesB_ok hm p hp)
  have s1 := suits_bd (hf.1 i hi)
  have s2 := suits_bd (hf.1 p hp)
  unfold thenMv
  split
  · rename_i e
    refine Mv.ok_of (movesB_ok hm p hp) rfl rfl ?_ ?_ ?_ (.inl rfl) <;> simp only [goneMv] <;> omega
  · unfold promMv
    split
    · refine Mv.ok_of (movesB_ok hm i hi) rfl rfl b1.1 b1.2.1 b1.2.2.1 (.inr ⟨?_, ?_⟩) <;> simp only <;> omega
    · exact movesB_ok hm i hi
theorem raise_ok {m : Mv} {frm : Int} (h : m.ok = true) (h0 : 0 ≤ frm) (hr : raiseOk m frm = true) : (raiseMv m frm).ok = true := by
  have b := Mv.ok_bd h
  unfold raiseOk at hr
  simp only [Bool.or_eq_true, Bool.not_eq_true', beq_eq_false_iff_ne, ne_eq, decide_eq_true_eq] at hr
  unfold raiseMv
  split
  · rename_i e
    have hle : frm ≤ m.late := hr.resolve_left (fun x => x e)
    refine Mv.ok_of h rfl rfl ?_ ?_ b.2.2.1 (.inl e) <;> simp only <;> omega
  · exact h
theorem raiseMv_name (m : Mv) (frm : Int) : (raiseMv m frm).name = m.name := by unfold raiseMv; split <;> rfl
theorem round_moves {f : Nat → Mv} {n : Nat} {t : Nat → Int} (hm : movesB f n = true) (hf : FitTo f t n) {p : Nat} (hp : p < n) (hl : t p + 6 ≤ (f p).late) (hr : ∀ i, i < (thenL f t p n).length → raiseOk (mvF (thenL f t p n) i) (t p + 4) = true) :
    movesB (raiseF (mvF (thenL f t p n)) (t p + 4)) (thenL f t p n).length = true := by
  have h6 := movesB_six hm
  have hz := thenL_len f t p n
  have b2 := Mv.ok_bd (movesB_ok hm p hp)
  have s2 := suits_bd (hf.1 p hp)
  refine moves_list (by omega) (fun i hi => ?_) (fun i hi => raiseMv_name _ _) ((names_pair hm).sublist (thenL_names f t p n))
  obtain ⟨k, hk, _, e⟩ := thenL_mem (mvF_mem hi)
  have := hr i hi
  unfold raiseF
  rw [e] at this ⊢
  exact raise_ok (then_ok hm hf hp hl hk) (by omega) this
theorem round_prom {f : Nat → Mv} {n : Nat} {t : Nat → Int} (hm : movesB f n = true) (hf : FitTo f t n) {p : Nat} (hp : p < n) (hl : t p + 6 ≤ (f p).late) {i : Nat} (hi : i < (thenL f t p n).length) : (mvF (thenL f t p n) i).ok = true := by
  obtain ⟨k, hk, _, e⟩ := thenL_mem (mvF_mem hi)
  rw [e]; exact then_ok hm hf hp hl hk
end Go.Proofs.YtlmcblcijndipabGreat
