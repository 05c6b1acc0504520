/- Texts of the proof, one behind another: BestP, BestR. -/
import Derived.Test.YtlmcblcijndipabGreatM17
import Derived.Test.YtlmcblcijndipabGreatM18
namespace Go.Proofs.YtlmcblcijndipabGreat
open Go.RowKit
def pl (l : List Nat) (i : Nat) : Nat := l.getD i 0
def upP (x : Nat) (p : Nat) : Nat := if x ≤ p then p + 1 else p
def allP : Nat → List (List Nat)
  | 0 => [[]]
  | n + 1 => (List.range (n + 1)).flatMap fun x => (allP n).map fun l => x :: l.map (upP x)
theorem pl_zero (x : Nat) (l : List Nat) : pl (x :: l) 0 = x := rfl
theorem pl_succ (x : Nat) (l : List Nat) (i : Nat) : pl (x :: l) (i + 1) = pl l i := rfl
theorem pl_up (x : Nat) (l : List Nat) (i : Nat) (h : i < l.length) : pl (l.map (upP x)) i = upP x (pl l i) := by
  simp [pl, List.getD, h]
theorem mem_allP {n : Nat} {l : List Nat} : l ∈ allP (n + 1) ↔ ∃ x, x < n + 1 ∧ ∃ l', l' ∈ allP n ∧ l = x :: l'.map (upP x) := by
  simp only [allP, List.mem_flatMap, List.mem_range, List.mem_map]
  constructor
  · rintro ⟨x, hx, l', h', rfl⟩; exact ⟨x, hx, l', h', rfl⟩
  · rintro ⟨x, hx, l', h', rfl⟩; exact ⟨x, hx, l', h', rfl⟩
theorem allP_ord : ∀ {n : Nat} {l : List Nat}, l ∈ allP n → l.length = n ∧ (∀ i, i < n → pl l i < n) ∧ ∀ i j, i < j → j < n → pl l i ≠ pl l j
  | 0, l, h => by
    simp [allP] at h; subst h
    exact ⟨rfl, fun i h => absurd h (Nat.not_lt_zero _), fun i j _ h => absurd h (Nat.not_lt_zero _)⟩
  | n + 1, l, h => by
    obtain ⟨x, hx, l', hl, rfl⟩ := mem_allP.1 h
    obtain ⟨h1, h2, h3⟩ := allP_ord hl
    refine ⟨by simp [h1], fun i hi => ?_, fun i j hij hj => ?_⟩
    · cases i with
      | zero => exact hx
      | succ i =>
        rw [pl_succ, pl_up _ _ _ (by omega)]
        have := h2 i (by omega)
        unfold upP; split <;> omega
    · obtain ⟨j, rfl⟩ : ∃ j', j = j' + 1 := ⟨j - 1, by omega⟩
      rw [pl_succ, pl_up _ _ _ (by omega)]
      cases i with
      | zero => rw [pl_zero]; unfold upP; split <;> omega
      | succ i =>
        rw [pl_succ, pl_up _ _ _ (by omega)]
        have := h3 i j (by omega) (by omega)
        unfold upP; split <;> split <;> omega
theorem allP_all : ∀ {n : Nat} {g : Nat → Nat}, (∀ i, i < n → g i < n) → (∀ i j, i < j → j < n → g i ≠ g j) → ∃ l, l ∈ allP n ∧ ∀ i, i < n → pl l i = g i
  | 0, g, _, _ => ⟨[], by simp [allP], fun i h => absurd h (Nat.not_lt_zero _)⟩
  | n + 1, g, h1, h2 => by
    obtain ⟨l, hl, hg⟩ := allP_all (n := n) (g := fun i => if g 0 < g (i + 1) then g (i + 1) - 1 else g (i + 1)) (fun i hi => by
      have a := h1 0 (by omega); have b := h1 (i + 1) (by omega); have c := h2 0 (i + 1) (by omega) (by omega)
      split <;> omega) (fun i j hij hj => by
      have a := h2 0 (i + 1) (by omega) (by omega); have b := h2 0 (j + 1) (by omega) (by omega); have c := h2 (i + 1) (j + 1) (by omega) (by omega)
      split <;> split <;> omega)
    refine ⟨g 0 :: l.map (upP (g 0)), mem_allP.2 ⟨_, h1 0 (by omega), l, hl, rfl⟩, fun i hi => ?_⟩
    cases i with
    | zero => rfl
    | succ i =>
      rw [pl_succ, pl_up _ _ _ (by rw [(allP_ord hl).1]; omega), hg i (by omega)]
      have a := h2 0 (i + 1) (by omega) (by omega)
      unfold upP; split <;> split <;> omega
def lastAsc (g : Nat → Nat) : Nat → Option Nat
  | 0 => none
  | m + 1 => if g (m + 1) < g m then lastAsc g m else some m
def lastGe (g : Nat → Nat) (x : Nat) : Nat → Nat
  | 0 => 0
  | m + 1 => if g (m + 1) < x then lastGe g x m else m + 1
def swapF (g : Nat → Nat) (i j : Nat) (k : Nat) : Nat := if k = j then g i else if k = i then g j else g k
def turnF (n : Nat) (g : Nat → Nat) (i : Nat) (k : Nat) : Nat := if k ≤ i then g k else g (n + i - k)
def nextF (n : Nat) (g : Nat → Nat) : Option (Nat → Nat) :=
  match lastAsc g (n - 1) with
  | none => none
  | some i => some (turnF n (swapF g i (lastGe g (g i) (n - 1))) i)
def eqTo (n : Nat) (g h : Nat → Nat) : Bool := (List.range n).all fun i => Nat.beq (g i) (h i)
theorem eqTo_iff {n : Nat} {g h : Nat → Nat} : eqTo n g h = true ↔ ∀ i, i < n → g i = h i := by
  simp [eqTo]
def chainOk (n : Nat) : List (List Nat) → Bool
  | [] => true
  | l :: r => (match nextF n (pl l), r.head? with
    | none, none => true
    | some g, some l' => eqTo n g (pl l')
    | _, _ => false) && chainOk n r
theorem chain0 : chainOk 0 (allP 0) = true := by kernel_rfl
theorem chain1 : chainOk 1 (allP 1) = true := by kernel_rfl
theorem chain2 : chainOk 2 (allP 2) = true := by kernel_rfl
theorem chain3 : chainOk 3 (allP 3) = true := by kernel_rfl
theorem chain4 : chainOk 4 (allP 4) = true := by kernel_rfl
theorem chain5 : chainOk 5 (allP 5) = true := by kernel_rfl
theorem chain6 : chainOk 6 (allP 6) = true := by kernel_rfl
theorem chain_ok {n : Nat} (h : n ≤ 6) : chainOk n (allP n) = true := by
  obtain rfl | rfl | rfl | rfl | rfl | rfl | rfl : n = 0 ∨ n = 1 ∨ n = 2 ∨ n = 3 ∨ n = 4 ∨ n = 5 ∨ n = 6 := by omega
  · exact chain0
  · exact chain1
  · exact chain2
  · exact chain3
  · exact chain4
  · exact chain5
  · exact chain6
theorem chain_step {n : Nat} : ∀ {L : List (List Nat)}, chainOk n L = true → ∀ {k : Nat} {l : List Nat}, L[k]? = some l → (∀ l', L[k + 1]? = some l' → ∃ g, nextF n (pl l) = some g ∧ ∀ i, i < n → g i = pl l' i) ∧ (L.length ≤ k + 1 → nextF n (pl l) = none)
  | [], _, k, l, h => by simp at h
  | a :: r, hc, k, l, h => by
    rw [chainOk, Bool.and_eq_true] at hc
    cases k with
    | succ k =>
      have := chain_step hc.2 (k := k) (l := l) (by simpa using h)
      exact ⟨fun l' h' => this.1 l' (by simpa using h'), fun h' => this.2 (by simpa using h')⟩
    | zero =>
      simp at h; subst h
      have h1 := hc.1
      cases r with
      | nil =>
        refine ⟨fun l' h' => by simp at h', fun _ => ?_⟩
        cases hn : nextF n (pl a) with
        | none => rfl
        | some g => rw [hn] at h1; simp at h1
      | cons b r =>
        refine ⟨fun l' h' => ?_, fun h' => by simp at h'⟩
        simp at h'; subst h'
        cases hn : nextF n (pl a) with
        | none => rw [hn] at h1; simp at h1
        | some g => rw [hn] at h1; exact ⟨g, rfl, eqTo_iff.1 h1⟩
theorem allP_first : ∀ n, n ≤ 6 → ∃ l, (allP n)[0]? = some l ∧ ∀ i, i < n → pl l i = i := by
  intro n h
  obtain rfl | rfl | rfl | rfl | rfl | rfl | rfl : n = 0 ∨ n = 1 ∨ n = 2 ∨ n = 3 ∨ n = 4 ∨ n = 5 ∨ n = 6 := by omega
  · exact ⟨[], by kernel_rfl, fun i h => absurd h (Nat.not_lt_zero _)⟩
  · exact ⟨[0], by kernel_rfl, eqTo_iff.1 (by kernel_rfl)⟩
  · exact ⟨[0, 1], by kernel_rfl, eqTo_iff.1 (by kernel_rfl)⟩
  · exact ⟨[0, 1, 2], by kernel_rfl, eqTo_iff.1 (by kernel_rfl)⟩
  · exact ⟨[0, 1, 2, 3], by kernel_rfl, eqTo_iff.1 (by kernel_rfl)⟩
  · exact ⟨[0, 1, 2, 3, 4], by kernel_rfl, eqTo_iff.1 (by kernel_rfl)⟩
  · exact ⟨[0, 1, 2, 3, 4, 5], by kernel_rfl, eqTo_iff.1 (by kernel_rfl)⟩
theorem allP_length : ∀ n, n ≤ 6 → (allP n).length ≤ 720 ∧ 0 < (allP n).length := by
  intro n h
  obtain rfl | rfl | rfl | rfl | rfl | rfl | rfl : n = 0 ∨ n = 1 ∨ n = 2 ∨ n = 3 ∨ n = 4 ∨ n = 5 ∨ n = 6 := by omega
  · have e : (allP 0).length = 1 := by kernel_rfl
    omega
  · have e : (allP 1).length = 1 := by kernel_rfl
    omega
  · have e : (allP 2).length = 2 := by kernel_rfl
    omega
  · have e : (allP 3).length = 6 := by kernel_rfl
    omega
  · have e : (allP 4).length = 24 := by kernel_rfl
    omega
  · have e : (allP 5).length = 120 := by kernel_rfl
    omega
  · have e : (allP 6).length = 720 := by kernel_rfl
    omega
end Go.Proofs.YtlmcblcijndipabGreat

namespace Go.Proofs.YtlmcblcijndipabGreat
open Go Go.RowKit
set_option linter.unusedVariables false
def lexL : List Int → List Int → Bool
  | a :: l, b :: r => if a = b then lexL l r else decide (a < b)
  | _, _ => false
theorem lexL_irrefl : ∀ l, lexL l l = false
  | [] => rfl
  | a :: l => by simp [lexL, lexL_irrefl l]
theorem lexL_trans : ∀ {a b c : List Int}, lexL a b = true → lexL b c = true → lexL a c = true
  | [], _, _, h, _ => by simp [lexL] at h
  | _ :: _, [], _, h, _ => by simp [lexL] at h
  | _ :: _, _ :: _, [], _, h => by simp [lexL] at h
  | x :: a, y :: b, z :: c, h, h' => by
    simp only [lexL] at h h' ⊢
    split at h <;> split at h' <;> split
    · exact lexL_trans h h'
    · omega
    · omega
    · exact h'.trans (by simp; omega) |> fun _ => by simp at h' ⊢; omega
    · simp at h h'; omega
    · simp at h ⊢; omega
    · simp at h h'; omega
    · simp at h h' ⊢; omega
theorem lexL_tri : ∀ {a b : List Int}, a.length = b.length → lexL a b = false → lexL b a = false → a = b
  | [], [], _, _, _ => rfl
  | [], _ :: _, h, _, _ => by simp at h
  | _ :: _, [], h, _, _ => by simp at h
  | x :: a, y :: b, hl, h, h' => by
    simp only [lexL] at h h'
    split at h
    · rename_i e
      subst e
      rw [if_pos rfl] at h'
      rw [lexL_tri (by simpa using hl) h h']
    · rename_i e
      rw [if_neg (fun e' => e e'.symm)] at h'
      simp at h h'
      omega
def optLt : Option (List Int) → Option (List Int) → Bool
  | some a, some b => lexL a b
  | some _, none => true
  | none, _ => false
theorem optLt_irrefl (a : Option (List Int)) : optLt a a = false := by cases a <;> simp [optLt, lexL_irrefl]
theorem optLt_trans {a b c : Option (List Int)} (h : optLt a b = true) (h' : optLt b c = true) : optLt a c = true := by
  cases a <;> cases b <;> cases c <;> simp_all [optLt]
  exact lexL_trans h h'
theorem optLt_neg {m : Nat} {a b c : Option (List Int)} (hb : ∀ l, b = some l → l.length = m) (hc : ∀ l, c = some l → l.length = m) (h : optLt a b = false) (h' : optLt c b = true) (ha : ∀ l, a = some l → l.length = m) : optLt a c = false := by
  cases ht : optLt a c with
  | false => rfl
  | true => rw [optLt_trans ht h'] at h; cases h
theorem optLt_neg2 {m : Nat} {a b c : Option (List Int)} (ha : ∀ l, a = some l → l.length = m) (hb : ∀ l, b = some l → l.length = m) (hc : ∀ l, c = some l → l.length = m) (h : optLt a b = false) (h' : optLt b c = false) : optLt a c = false := by
  cases ht : optLt a c with
  | false => rfl
  | true =>
    cases a with
    | none => simp [optLt] at ht
    | some a =>
      cases b with
      | none => simp [optLt] at h
      | some b =>
        cases c with
        | none => simp [optLt] at h'
        | some c =>
          simp only [optLt] at *
          cases hcb : lexL c b with
          | true => rw [lexL_trans ht hcb] at h; cases h
          | false =>
            have := lexL_tri ((hb _ rfl).trans (hc _ rfl).symm) h' hcb
            subst this
            rw [ht] at h; cases h
def rowL (g : Nat → Int) : Nat → Nat → List Int
  | 0, _ => []
  | f + 1, k => g k :: rowL g f (k + 1)
theorem rowL_length (g : Nat → Int) : ∀ f k, (rowL g f k).length = f
  | 0, _ => rfl
  | f + 1, k => by simp [rowL, rowL_length g f]
theorem rowL_congr {g h : Nat → Int} : ∀ f k, (∀ i, k ≤ i → i < k + f → g i = h i) → rowL g f k = rowL h f k
  | 0, _, _ => rfl
  | f + 1, k, e => by rw [rowL, rowL, e k (by omega) (by omega), rowL_congr f (k + 1) fun i h1 h2 => e i (by omega) (by omega)]
theorem rowL_inj {g h : Nat → Int} : ∀ f k, rowL g f k = rowL h f k → ∀ i, k ≤ i → i < k + f → g i = h i
  | 0, _, _, i, h1, h2 => by omega
  | f + 1, k, e, i, h1, h2 => by
    rw [rowL, rowL, List.cons.injEq] at e
    by_cases hi : i = k
    · subst hi; exact e.1
    · exact rowL_inj f (k + 1) e.2 i (by omega) (by omega)
def keyT (f : Nat → Mv) (n : Nat) (T : Nat → Int) : List Int := sumTo f T n :: mostTo f T n :: rowL T n 0
def betterO (f : Nat → Mv) (n : Nat) (b : Option (Nat → Int)) (l : List Nat) : Option (Nat → Int) :=
  match earl f (pl l) n with
  | none => b
  | some T => match b with
    | none => some T
    | some S => if lexL (keyT f n T) (keyT f n S) = true then some T else some S
def bestO (f : Nat → Mv) (n : Nat) (L : List (List Nat)) : Option (Nat → Int) := L.foldl (betterO f n) none
theorem keyT_length (f : Nat → Mv) (n : Nat) (T : Nat → Int) : (keyT f n T).length = n + 2 := by simp [keyT, rowL_length]
theorem map_len (f : Nat → Mv) (n : Nat) (o : Option (Nat → Int)) : ∀ l, o.map (keyT f n) = some l → l.length = n + 2 := by
  intro l h
  cases o with
  | none => simp at h
  | some T => simp at h; rw [← h]; exact keyT_length f n T
theorem betterO_le (f : Nat → Mv) (n : Nat) (b : Option (Nat → Int)) (l : List Nat) :
    (betterO f n b l = b ∨ betterO f n b l = earl f (pl l) n) ∧ optLt (b.map (keyT f n)) ((betterO f n b l).map (keyT f n)) = false ∧ optLt ((earl f (pl l) n).map (keyT f n)) ((betterO f n b l).map (keyT f n)) = false := by
  unfold betterO
  cases h : earl f (pl l) n with
  | none => exact ⟨.inl rfl, optLt_irrefl _, rfl⟩
  | some T =>
    cases b with
    | none => exact ⟨.inr rfl, rfl, optLt_irrefl _⟩
    | some S =>
      by_cases hp : lexL (keyT f n T) (keyT f n S) = true
      · simp only [hp, if_true]
        refine ⟨.inr (by trivial), ?_, optLt_irrefl _⟩
        cases hq : optLt (some (keyT f n S)) (some (keyT f n T)) with
        | false => exact hq
        | true => exact absurd (optLt_trans (a := some (keyT f n T)) (b := some (keyT f n S)) (c := some (keyT f n T)) hp hq) (by rw [optLt_irrefl]; simp)
      · simp only [hp]
        exact ⟨.inl rfl, optLt_irrefl _, by simpa [optLt] using hp⟩
theorem bestO_le (f : Nat → Mv) (n : Nat) : ∀ (L : List (List Nat)) (b : Option (Nat → Int)), (L.foldl (betterO f n) b = b ∨ ∃ l ∈ L, L.foldl (betterO f n) b = earl f (pl l) n) ∧ optLt (b.map (keyT f n)) ((L.foldl (betterO f n) b).map (keyT f n)) = false ∧ ∀ l ∈ L, optLt ((earl f (pl l) n).map (keyT f n)) ((L.foldl (betterO f n) b).map (keyT f n)) = false
  | [], b => ⟨.inl rfl, optLt_irrefl _, fun l hl => by simp at hl⟩
  | l :: L, b => by
    obtain ⟨h1, h2, h3⟩ := betterO_le f n b l
    obtain ⟨k1, k2, k3⟩ := bestO_le f n L (betterO f n b l)
    rw [List.foldl_cons]
    refine ⟨?_, optLt_neg2 (map_len f n _) (map_len f n _) (map_len f n _) h2 k2, fun x hx => ?_⟩
    · rcases k1 with e | ⟨x, hx, e⟩
      · rw [e]
        exact h1.elim .inl fun e => .inr ⟨l, by simp, e⟩
      · exact .inr ⟨x, by simp [hx], e⟩
    · rcases List.mem_cons.1 hx with rfl | hx
      · exact optLt_neg2 (map_len f n _) (map_len f n _) (map_len f n _) h3 k2
      · exact k3 x hx
end Go.Proofs.YtlmcblcijndipabGreat
