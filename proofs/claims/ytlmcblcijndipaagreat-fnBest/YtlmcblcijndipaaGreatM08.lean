/- Texts of the proof, one behind another: OrdP, BestP. -/
import Derived.Test.YtlmcblcijndipaaGreatM02
/- Plain mathematics of orders and of how far two of them are shifted. Nothing of the program. -/
namespace Go.Proofs.YtlmcblcijndipaaGreat

/-- each of the n places of g is one of 0 to n - 1, and no two are the same, ahead of k -/
def OrdTo (g : Nat → Int) (n k : Nat) : Prop := (∀ i, i < k → 0 ≤ g i ∧ g i < n) ∧ ∀ i j, i < j → j < k → g i ≠ g j
/-- an order of n -/
def ordB (g : Nat → Int) (len n : Nat) : Bool := decide (len = n) && ((List.range n).all fun i => inB (g i) 0 ((n : Int) - 1) && (List.range i).all fun k => g k != g i)

theorem OrdTo_zero (g : Nat → Int) (n : Nat) : OrdTo g n 0 := ⟨fun _ h => absurd h (Nat.not_lt_zero _), fun _ _ _ h => absurd h (Nat.not_lt_zero _)⟩
theorem OrdTo_succ {g : Nat → Int} {n k : Nat} (h : OrdTo g n k) (h1 : 0 ≤ g k ∧ g k < n) (h2 : ∀ i, i < k → g i ≠ g k) : OrdTo g n (k + 1) := by
  refine ⟨fun i hi => ?_, fun i j hij hj => ?_⟩
  · by_cases e : i = k
    · subst e; exact h1
    · exact h.1 i (by omega)
  · by_cases e : j = k
    · subst e; exact h2 i hij
    · exact h.2 i j hij (by omega)
theorem ordB_iff (g : Nat → Int) (n : Nat) : ordB g n n = true ↔ OrdTo g n n := by
  unfold ordB OrdTo inB
  simp only [decide_true, Bool.true_and, List.all_eq_true, List.mem_range, Bool.and_eq_true, decide_eq_true_eq, bne_iff_ne]
  constructor
  · intro h
    exact ⟨fun i hi => by have := (h i hi).1; omega, fun i j hij hj => (h j hj).2 i hij⟩
  · intro h i hi
    exact ⟨by have := h.1 i hi; omega, fun k hk => h.2 k i hk hi⟩
theorem ordB_len {g : Nat → Int} {len n : Nat} (h : len ≠ n) : ordB g len n = false := by
  unfold ordB; simp [h]
theorem ordB_yes {g : Nat → Int} {n : Nat} (h : OrdTo g n n) : ordB g n n = true := (ordB_iff g n).mpr h
theorem ordB_out {g : Nat → Int} {n k : Nat} (hk : k < n) (h : ¬ (0 ≤ g k ∧ g k < n)) : ordB g n n = false := by
  rw [Bool.eq_false_iff]; intro hh; exact h (((ordB_iff g n).mp hh).1 k hk)
theorem ordB_twice {g : Nat → Int} {n i j : Nat} (hij : i < j) (hj : j < n) (h : g i = g j) : ordB g n n = false := by
  rw [Bool.eq_false_iff]; intro hh; exact ((ordB_iff g n).mp hh).2 i j hij hj h

/-- who is all different among n is all of them -/
theorem surj : ∀ (n : Nat) (g : Nat → Nat), (∀ i, i < n → g i < n) → (∀ i j, i < j → j < n → g i ≠ g j) → ∀ p, p < n → ∃ i, i < n ∧ g i = p
  | 0, _, _, _, p, hp => absurd hp (Nat.not_lt_zero _)
  | n + 1, g, hr, hd, p, hp => by
    have hq := hr n (by omega)
    have key := surj n (fun i => if g i = n then g n else g i)
      (fun i hi => by
        have h1 := hr i (by omega)
        have h2 := hd i n hi (by omega)
        split <;> omega)
      (fun i j hij hj => by
        have h1 := hd i j hij (by omega)
        have h2 := hd i n (by omega) (by omega)
        have h3 := hd j n hj (by omega)
        split <;> split <;> omega)
    by_cases e : p = n
    · subst e
      by_cases hn : g p = p
      · exact ⟨p, by omega, hn⟩
      · obtain ⟨i, hi, he⟩ := key (g p) (by omega)
        split at he
        · exact ⟨i, by omega, by assumption⟩
        · exact absurd he (hd i p hi (by omega))
    · obtain ⟨i, hi, he⟩ := key p (by omega)
      split at he
      · exact ⟨n, by omega, he⟩
      · exact ⟨i, by omega, he⟩

theorem OrdTo.surj {g : Nat → Int} {n : Nat} (h : OrdTo g n n) (p : Nat) (hp : p < n) : ∃ i, i < n ∧ g i = p := by
  obtain ⟨i, hi, he⟩ := YtlmcblcijndipaaGreat.surj n (fun i => (g i).toNat) (fun i hi => by have := h.1 i hi; omega)
    (fun i j hij hj e => h.2 i j hij hj (by have := h.1 i (by omega); have := h.1 j hj; omega)) p hp
  exact ⟨i, hi, by have := h.1 i hi; omega⟩

/-- r is by how many places the one is elsewhere than in the other, at most -/
structure IsShift (a b : Nat → Int) (n : Nat) (r : Int) : Prop where
  low : 0 ≤ r
  high : r ≤ n
  most : ∀ i k : Nat, i < n → k < n → a i = b k → (i : Int) - k ≤ r ∧ (k : Int) - i ≤ r
  some : r = 0 ∨ ∃ i k : Nat, i < n ∧ k < n ∧ a i = b k ∧ (r = (i : Int) - k ∨ r = (k : Int) - i)
theorem IsShift.unique {a b : Nat → Int} {n : Nat} {r s : Int} (h : IsShift a b n r) (h' : IsShift a b n s) : r = s := by
  have h1 : r ≤ s := by
    rcases h.some with e | ⟨i, k, hi, hk, he, e⟩
    · have := h'.low; omega
    · have := h'.most i k hi hk he; omega
  have h2 : s ≤ r := by
    rcases h'.some with e | ⟨i, k, hi, hk, he, e⟩
    · have := h.low; omega
    · have := h.most i k hi hk he; omega
  omega

/-- the same of those pairs that P has -/
structure ShTo (a b : Nat → Int) (n : Nat) (P : Nat → Nat → Prop) (r : Int) : Prop where
  low : 0 ≤ r
  high : r ≤ n
  most : ∀ i k : Nat, i < n → k < n → a i = b k → P i k → (i : Int) - k ≤ r ∧ (k : Int) - i ≤ r
  some : r = 0 ∨ ∃ i k : Nat, i < n ∧ k < n ∧ a i = b k ∧ (r = (i : Int) - k ∨ r = (k : Int) - i)
theorem ShTo.all {a b : Nat → Int} {n : Nat} {P : Nat → Nat → Prop} {r : Int} (h : ShTo a b n P r) (hP : ∀ i k : Nat, i < n → k < n → a i = b k → P i k) : IsShift a b n r :=
  ⟨h.low, h.high, fun i k hi hk he => h.most i k hi hk he (hP i k hi hk he), h.some⟩
theorem ShTo.none {a b : Nat → Int} {n : Nat} {P : Nat → Nat → Prop} (hP : ∀ i k, ¬ P i k) : ShTo a b n P 0 :=
  ⟨Int.le_refl _, by omega, fun i k _ _ _ h => absurd h (hP i k), .inl rfl⟩
theorem ShTo.mono {a b : Nat → Int} {n : Nat} {P Q : Nat → Nat → Prop} {r : Int} (h : ShTo a b n P r) (hP : ∀ i k : Nat, i < n → k < n → a i = b k → Q i k → P i k) : ShTo a b n Q r :=
  ⟨h.low, h.high, fun i k hi hk he hq => h.most i k hi hk he (hP i k hi hk he hq), h.some⟩
/-- one pair more -/
theorem ShTo.more {a b : Nat → Int} {n : Nat} {P Q : Nat → Nat → Prop} {r r' : Int} (h : ShTo a b n P r) {i k : Nat} (hi : i < n) (hk : k < n) (he : a i = b k)
    (hQ : ∀ x y : Nat, x < n → y < n → a x = b y → Q x y → P x y ∨ x = i ∧ y = k) (h1 : r ≤ r') (h2 : (i : Int) - k ≤ r') (h3 : (k : Int) - i ≤ r') (h4 : r' = r ∨ r' = (i : Int) - k ∨ r' = (k : Int) - i) : ShTo a b n Q r' := by
  have l := h.low
  have u := h.high
  refine ⟨by omega, by omega, fun x y hx hy hxy hq => ?_, ?_⟩
  · rcases hQ x y hx hy hxy hq with hp | ⟨rfl, rfl⟩
    · have := h.most x y hx hy hxy hp; omega
    · exact ⟨h2, h3⟩
  · rcases h4 with e | e | e
    · rw [e]; exact h.some
    · exact .inr ⟨i, k, hi, hk, he, .inl e⟩
    · exact .inr ⟨i, k, hi, hk, he, .inr e⟩

/-- what is told of two orders -/
def ShiftSays (a : Nat → Int) (n : Nat) (b : Nat → Int) (m : Nat) (r : Int) : Prop := if n = m ∧ ordB a n n = true ∧ ordB b n n = true then IsShift a b n r else r = -1
theorem ShiftSays.unique {a b : Nat → Int} {n m : Nat} {r s : Int} (h : ShiftSays a n b m r) (h' : ShiftSays a n b m s) : r = s := by
  unfold ShiftSays at h h'
  split at h
  · rename_i hc; rw [if_pos hc] at h'; exact h.unique h'
  · rename_i hc; rw [if_neg hc] at h'; rw [h, h']

/-- where in the order a place stands, ahead of k -/
def standTo (g : Nat → Int) : Nat → Nat → Int
  | 0, _ => 0
  | k + 1, p => if g k = p then k else standTo g k p
theorem standTo_eq {g : Nat → Int} {n : Nat} (h : OrdTo g n n) {j p : Nat} (hj : g j = p) : ∀ k, k ≤ n → j < k → standTo g k p = j
  | 0, _, h0 => absurd h0 (Nat.not_lt_zero _)
  | k + 1, hk, hjk => by
    simp only [standTo]
    by_cases e : j = k
    · subst e; rw [if_pos hj]
    · rw [if_neg (fun e' => h.2 j k (by omega) (by omega) (by rw [hj, e']))]
      exact standTo_eq h hj k (by omega) (by omega)
/-- a place has come, ahead of k -/
def seenB (g : Nat → Int) (k : Nat) (p : Nat) : Bool := (List.range k).any fun j => g j == (p : Int)
theorem seenB_iff (g : Nat → Int) (k p : Nat) : seenB g k p = true ↔ ∃ j, j < k ∧ g j = p := by
  unfold seenB
  simp only [List.any_eq_true, List.mem_range, beq_iff_eq]
theorem seenB_succ {g : Nat → Int} {k p : Nat} (h : g k = p) (q : Nat) : seenB g (k + 1) q = if q = p then true else seenB g k q := by
  rw [Bool.eq_iff_iff, seenB_iff]
  by_cases e : q = p
  · subst e; rw [if_pos rfl]; exact ⟨fun _ => rfl, fun _ => ⟨k, by omega, h⟩⟩
  · rw [if_neg e, seenB_iff]
    constructor
    · rintro ⟨j, hj, hq⟩
      by_cases e' : j = k
      · subst e'; rw [h] at hq; exact absurd (by omega) e
      · exact ⟨j, by omega, hq⟩
    · rintro ⟨j, hj, hq⟩; exact ⟨j, by omega, hq⟩
end Go.Proofs.YtlmcblcijndipaaGreat

/- All orders of some places, in order; the order that follows another one. -/
namespace Go.Proofs.YtlmcblcijndipaaGreat
open Go.RowKit

/-- what stands at a place of an order -/
def pl (l : List Nat) (i : Nat) : Nat := l.getD i 0
def upP (x : Nat) (p : Nat) : Nat := if x ≤ p then p + 1 else p
/-- all orders of n places -/
def allP : Nat → List (List Nat)
  | 0 => [[]]
  | n + 1 => (List.range (n + 1)).flatMap fun x => (allP n).map fun l => x :: l.map (upP x)

theorem pl_zero (x : Nat) (l : List Nat) : pl (x :: l) 0 = x := rfl
theorem pl_succ (x : Nat) (l : List Nat) (i : Nat) : pl (x :: l) (i + 1) = pl l i := rfl
theorem pl_up (x : Nat) (l : List Nat) (i : Nat) (h : i < l.length) : pl (l.map (upP x)) i = upP x (pl l i) := by
  simp [pl, List.getD, h]
theorem mem_allP {n : Nat} {l : List Nat} : l ∈ allP (n + 1) ↔ ∃ x, x < n + 1 ∧ ∃ l', l' ∈ allP n ∧ l = x :: l'.map (upP x) := by
  simp only [allP, List.mem_flatMap, List.mem_range, List.mem_map]
  constructor
  · rintro ⟨x, hx, l', h', rfl⟩; exact ⟨x, hx, l', h', rfl⟩
  · rintro ⟨x, hx, l', h', rfl⟩; exact ⟨x, hx, l', h', rfl⟩
/-- each of them has each place once -/
theorem allP_ord : ∀ {n : Nat} {l : List Nat}, l ∈ allP n → l.length = n ∧ (∀ i, i < n → pl l i < n) ∧ ∀ i j, i < j → j < n → pl l i ≠ pl l j
  | 0, l, h => by
    simp [allP] at h; subst h
    exact ⟨rfl, fun i h => absurd h (Nat.not_lt_zero _), fun i j _ h => absurd h (Nat.not_lt_zero _)⟩
  | n + 1, l, h => by
    obtain ⟨x, hx, l', hl, rfl⟩ := mem_allP.1 h
    obtain ⟨h1, h2, h3⟩ := allP_ord hl
    refine ⟨by simp [h1], fun i hi => ?_, fun i j hij hj => ?_⟩
    · cases i with
      | zero => exact hx
      | succ i =>
        rw [pl_succ, pl_up _ _ _ (by omega)]
        have := h2 i (by omega)
        unfold upP; split <;> omega
    · obtain ⟨j, rfl⟩ : ∃ j', j = j' + 1 := ⟨j - 1, by omega⟩
      rw [pl_succ, pl_up _ _ _ (by omega)]
      cases i with
      | zero => rw [pl_zero]; unfold upP; split <;> omega
      | succ i =>
        rw [pl_succ, pl_up _ _ _ (by omega)]
        have := h3 i j (by omega) (by omega)
        unfold upP; split <;> split <;> omega
/-- and they are all -/
theorem allP_all : ∀ {n : Nat} {g : Nat → Nat}, (∀ i, i < n → g i < n) → (∀ i j, i < j → j < n → g i ≠ g j) → ∃ l, l ∈ allP n ∧ ∀ i, i < n → pl l i = g i
  | 0, g, _, _ => ⟨[], by simp [allP], fun i h => absurd h (Nat.not_lt_zero _)⟩
  | n + 1, g, h1, h2 => by
    obtain ⟨l, hl, hg⟩ := allP_all (n := n) (g := fun i => if g 0 < g (i + 1) then g (i + 1) - 1 else g (i + 1)) (fun i hi => by
      have a := h1 0 (by omega); have b := h1 (i + 1) (by omega); have c := h2 0 (i + 1) (by omega) (by omega)
      split <;> omega) (fun i j hij hj => by
      have a := h2 0 (i + 1) (by omega) (by omega); have b := h2 0 (j + 1) (by omega) (by omega); have c := h2 (i + 1) (j + 1) (by omega) (by omega)
      split <;> split <;> omega)
    refine ⟨g 0 :: l.map (upP (g 0)), mem_allP.2 ⟨_, h1 0 (by omega), l, hl, rfl⟩, fun i hi => ?_⟩
    cases i with
    | zero => rfl
    | succ i =>
      rw [pl_succ, pl_up _ _ _ (by rw [(allP_ord hl).1]; omega), hg i (by omega)]
      have a := h2 0 (i + 1) (by omega) (by omega)
      unfold upP; split <;> split <;> omega

/-- the last place below m that is not above the next -/
def lastAsc (g : Nat → Nat) : Nat → Option Nat
  | 0 => none
  | m + 1 => if g (m + 1) < g m then lastAsc g m else some m
/-- the last place up to m that is not below x -/
def lastGe (g : Nat → Nat) (x : Nat) : Nat → Nat
  | 0 => 0
  | m + 1 => if g (m + 1) < x then lastGe g x m else m + 1
def swapF (g : Nat → Nat) (i j : Nat) (k : Nat) : Nat := if k = j then g i else if k = i then g j else g k
def turnF (n : Nat) (g : Nat → Nat) (i : Nat) (k : Nat) : Nat := if k ≤ i then g k else g (n + i - k)
/-- the order that follows -/
def nextF (n : Nat) (g : Nat → Nat) : Option (Nat → Nat) :=
  match lastAsc g (n - 1) with
  | none => none
  | some i => some (turnF n (swapF g i (lastGe g (g i) (n - 1))) i)

def eqTo (n : Nat) (g h : Nat → Nat) : Bool := (List.range n).all fun i => Nat.beq (g i) (h i)
theorem eqTo_iff {n : Nat} {g h : Nat → Nat} : eqTo n g h = true ↔ ∀ i, i < n → g i = h i := by
  simp [eqTo]
def chainOk (n : Nat) : List (List Nat) → Bool
  | [] => true
  | l :: r => (match nextF n (pl l), r.head? with
    | none, none => true
    | some g, some l' => eqTo n g (pl l')
    | _, _ => false) && chainOk n r
theorem chain0 : chainOk 0 (allP 0) = true := by kernel_rfl
theorem chain1 : chainOk 1 (allP 1) = true := by kernel_rfl
theorem chain2 : chainOk 2 (allP 2) = true := by kernel_rfl
theorem chain3 : chainOk 3 (allP 3) = true := by kernel_rfl
theorem chain4 : chainOk 4 (allP 4) = true := by kernel_rfl
theorem chain5 : chainOk 5 (allP 5) = true := by kernel_rfl
theorem chain6 : chainOk 6 (allP 6) = true := by kernel_rfl
theorem chain_ok {n : Nat} (h : n ≤ 6) : chainOk n (allP n) = true := by
  obtain rfl | rfl | rfl | rfl | rfl | rfl | rfl : n = 0 ∨ n = 1 ∨ n = 2 ∨ n = 3 ∨ n = 4 ∨ n = 5 ∨ n = 6 := by omega
  · exact chain0
  · exact chain1
  · exact chain2
  · exact chain3
  · exact chain4
  · exact chain5
  · exact chain6
theorem chain_step {n : Nat} : ∀ {L : List (List Nat)}, chainOk n L = true → ∀ {k : Nat} {l : List Nat}, L[k]? = some l → (∀ l', L[k + 1]? = some l' → ∃ g, nextF n (pl l) = some g ∧ ∀ i, i < n → g i = pl l' i) ∧ (L.length ≤ k + 1 → nextF n (pl l) = none)
  | [], _, k, l, h => by simp at h
  | a :: r, hc, k, l, h => by
    rw [chainOk, Bool.and_eq_true] at hc
    cases k with
    | succ k =>
      have := chain_step hc.2 (k := k) (l := l) (by simpa using h)
      exact ⟨fun l' h' => this.1 l' (by simpa using h'), fun h' => this.2 (by simpa using h')⟩
    | zero =>
      simp at h; subst h
      have h1 := hc.1
      cases r with
      | nil =>
        refine ⟨fun l' h' => by simp at h', fun _ => ?_⟩
        cases hn : nextF n (pl a) with
        | none => rfl
        | some g => rw [hn] at h1; simp at h1
      | cons b r =>
        refine ⟨fun l' h' => ?_, fun h' => by simp at h'⟩
        simp at h'; subst h'
        cases hn : nextF n (pl a) with
        | none => rw [hn] at h1; simp at h1
        | some g => rw [hn] at h1; exact ⟨g, rfl, eqTo_iff.1 h1⟩
theorem allP_first : ∀ n, n ≤ 6 → ∃ l, (allP n)[0]? = some l ∧ ∀ i, i < n → pl l i = i := by
  intro n h
  obtain rfl | rfl | rfl | rfl | rfl | rfl | rfl : n = 0 ∨ n = 1 ∨ n = 2 ∨ n = 3 ∨ n = 4 ∨ n = 5 ∨ n = 6 := by omega
  · exact ⟨[], by kernel_rfl, fun i h => absurd h (Nat.not_lt_zero _)⟩
  · exact ⟨[0], by kernel_rfl, eqTo_iff.1 (by kernel_rfl)⟩
  · exact ⟨[0, 1], by kernel_rfl, eqTo_iff.1 (by kernel_rfl)⟩
  · exact ⟨[0, 1, 2], by kernel_rfl, eqTo_iff.1 (by kernel_rfl)⟩
  · exact ⟨[0, 1, 2, 3], by kernel_rfl, eqTo_iff.1 (by kernel_rfl)⟩
  · exact ⟨[0, 1, 2, 3, 4], by kernel_rfl, eqTo_iff.1 (by kernel_rfl)⟩
  · exact ⟨[0, 1, 2, 3, 4, 5], by kernel_rfl, eqTo_iff.1 (by kernel_rfl)⟩
theorem allP_length : ∀ n, n ≤ 6 → (allP n).length ≤ 720 ∧ 0 < (allP n).length := by
  intro n h
  obtain rfl | rfl | rfl | rfl | rfl | rfl | rfl : n = 0 ∨ n = 1 ∨ n = 2 ∨ n = 3 ∨ n = 4 ∨ n = 5 ∨ n = 6 := by omega
  · have e : (allP 0).length = 1 := by kernel_rfl
    omega
  · have e : (allP 1).length = 1 := by kernel_rfl
    omega
  · have e : (allP 2).length = 2 := by kernel_rfl
    omega
  · have e : (allP 3).length = 6 := by kernel_rfl
    omega
  · have e : (allP 4).length = 24 := by kernel_rfl
    omega
  · have e : (allP 5).length = 120 := by kernel_rfl
    omega
  · have e : (allP 6).length = 720 := by kernel_rfl
    omega
end Go.Proofs.YtlmcblcijndipaaGreat
