/- Texts of the proof, one behind another: BestR. -/
import Derived.Test.YtlmcblcijndipaaGreatM20
import Derived.Test.YtlmcblcijndipaaGreatM08
/- Which ticks are the best: plain mathematics. -/
namespace Go.Proofs.YtlmcblcijndipaaGreat
open Go Go.RowKit
set_option linter.unusedVariables false

/-- two rows of as many numbers, by the first that is another -/
def lexL : List Int → List Int → Bool
  | a :: l, b :: r => if a = b then lexL l r else decide (a < b)
  | _, _ => false
theorem lexL_irrefl : ∀ l, lexL l l = false
  | [] => rfl
  | a :: l => by simp [lexL, lexL_irrefl l]
theorem lexL_trans : ∀ {a b c : List Int}, lexL a b = true → lexL b c = true → lexL a c = true
  | [], _, _, h, _ => by simp [lexL] at h
  | _ :: _, [], _, h, _ => by simp [lexL] at h
  | _ :: _, _ :: _, [], _, h => by simp [lexL] at h
  | x :: a, y :: b, z :: c, h, h' => by
    simp only [lexL] at h h' ⊢
    split at h <;> split at h' <;> split
    · exact lexL_trans h h'
    · omega
    · omega
    · exact h'.trans (by simp; omega) |> fun _ => by simp at h' ⊢; omega
    · simp at h h'; omega
    · simp at h ⊢; omega
    · simp at h h'; omega
    · simp at h h' ⊢; omega
theorem lexL_tri : ∀ {a b : List Int}, a.length = b.length → lexL a b = false → lexL b a = false → a = b
  | [], [], _, _, _ => rfl
  | [], _ :: _, h, _, _ => by simp at h
  | _ :: _, [], h, _, _ => by simp at h
  | x :: a, y :: b, hl, h, h' => by
    simp only [lexL] at h h'
    split at h
    · rename_i e
      subst e
      rw [if_pos rfl] at h'
      rw [lexL_tri (by simpa using hl) h h']
    · rename_i e
      rw [if_neg (fun e' => e e'.symm)] at h'
      simp at h h'
      omega
/-- what can be is better than what cannot -/
def optLt : Option (List Int) → Option (List Int) → Bool
  | some a, some b => lexL a b
  | some _, none => true
  | none, _ => false
theorem optLt_irrefl (a : Option (List Int)) : optLt a a = false := by cases a <;> simp [optLt, lexL_irrefl]
theorem optLt_trans {a b c : Option (List Int)} (h : optLt a b = true) (h' : optLt b c = true) : optLt a c = true := by
  cases a <;> cases b <;> cases c <;> simp_all [optLt]
  exact lexL_trans h h'
/-- who is not better than a worse one is not better than .. -/
theorem optLt_neg {m : Nat} {a b c : Option (List Int)} (hb : ∀ l, b = some l → l.length = m) (hc : ∀ l, c = some l → l.length = m) (h : optLt a b = false) (h' : optLt c b = true) (ha : ∀ l, a = some l → l.length = m) : optLt a c = false := by
  cases ht : optLt a c with
  | false => rfl
  | true => rw [optLt_trans ht h'] at h; cases h
theorem optLt_neg2 {m : Nat} {a b c : Option (List Int)} (ha : ∀ l, a = some l → l.length = m) (hb : ∀ l, b = some l → l.length = m) (hc : ∀ l, c = some l → l.length = m) (h : optLt a b = false) (h' : optLt b c = false) : optLt a c = false := by
  cases ht : optLt a c with
  | false => rfl
  | true =>
    cases a with
    | none => simp [optLt] at ht
    | some a =>
      cases b with
      | none => simp [optLt] at h
      | some b =>
        cases c with
        | none => simp [optLt] at h'
        | some c =>
          simp only [optLt] at *
          cases hcb : lexL c b with
          | true => rw [lexL_trans ht hcb] at h; cases h
          | false =>
            have := lexL_tri ((hb _ rfl).trans (hc _ rfl).symm) h' hcb
            subst this
            rw [ht] at h; cases h

def rowL (g : Nat → Int) : Nat → Nat → List Int
  | 0, _ => []
  | f + 1, k => g k :: rowL g f (k + 1)
theorem rowL_length (g : Nat → Int) : ∀ f k, (rowL g f k).length = f
  | 0, _ => rfl
  | f + 1, k => by simp [rowL, rowL_length g f]
theorem rowL_congr {g h : Nat → Int} : ∀ f k, (∀ i, k ≤ i → i < k + f → g i = h i) → rowL g f k = rowL h f k
  | 0, _, _ => rfl
  | f + 1, k, e => by rw [rowL, rowL, e k (by omega) (by omega), rowL_congr f (k + 1) fun i h1 h2 => e i (by omega) (by omega)]
theorem rowL_inj {g h : Nat → Int} : ∀ f k, rowL g f k = rowL h f k → ∀ i, k ≤ i → i < k + f → g i = h i
  | 0, _, _, i, h1, h2 => by omega
  | f + 1, k, e, i, h1, h2 => by
    rw [rowL, rowL, List.cons.injEq] at e
    by_cases hi : i = k
    · subst hi; exact e.1
    · exact rowL_inj f (k + 1) e.2 i (by omega) (by omega)
/-- what ticks are worth -/
def keyT (f : Nat → Mv) (n : Nat) (T : Nat → Int) : List Int := sumTo f T n :: mostTo f T n :: rowL T n 0
/-- order by order: the ticks that are kept -/
def betterO (f : Nat → Mv) (n : Nat) (b : Option (Nat → Int)) (l : List Nat) : Option (Nat → Int) :=
  match earl f (pl l) n with
  | none => b
  | some T => match b with
    | none => some T
    | some S => if lexL (keyT f n T) (keyT f n S) = true then some T else some S
def bestO (f : Nat → Mv) (n : Nat) (L : List (List Nat)) : Option (Nat → Int) := L.foldl (betterO f n) none
theorem keyT_length (f : Nat → Mv) (n : Nat) (T : Nat → Int) : (keyT f n T).length = n + 2 := by simp [keyT, rowL_length]
theorem map_len (f : Nat → Mv) (n : Nat) (o : Option (Nat → Int)) : ∀ l, o.map (keyT f n) = some l → l.length = n + 2 := by
  intro l h
  cases o with
  | none => simp at h
  | some T => simp at h; rw [← h]; exact keyT_length f n T
theorem betterO_le (f : Nat → Mv) (n : Nat) (b : Option (Nat → Int)) (l : List Nat) :
    (betterO f n b l = b ∨ betterO f n b l = earl f (pl l) n) ∧ optLt (b.map (keyT f n)) ((betterO f n b l).map (keyT f n)) = false ∧ optLt ((earl f (pl l) n).map (keyT f n)) ((betterO f n b l).map (keyT f n)) = false := by
  unfold betterO
  cases h : earl f (pl l) n with
  | none => exact ⟨.inl rfl, optLt_irrefl _, rfl⟩
  | some T =>
    cases b with
    | none => exact ⟨.inr rfl, rfl, optLt_irrefl _⟩
    | some S =>
      by_cases hp : lexL (keyT f n T) (keyT f n S) = true
      · simp only [hp, if_true]
        refine ⟨.inr (by trivial), ?_, optLt_irrefl _⟩
        cases hq : optLt (some (keyT f n S)) (some (keyT f n T)) with
        | false => exact hq
        | true => exact absurd (optLt_trans (a := some (keyT f n T)) (b := some (keyT f n S)) (c := some (keyT f n T)) hp hq) (by rw [optLt_irrefl]; simp)
      · simp only [hp]
        exact ⟨.inl rfl, optLt_irrefl _, by simpa [optLt] using hp⟩
theorem bestO_le (f : Nat → Mv) (n : Nat) : ∀ (L : List (List Nat)) (b : Option (Nat → Int)), (L.foldl (betterO f n) b = b ∨ ∃ l ∈ L, L.foldl (betterO f n) b = earl f (pl l) n) ∧ optLt (b.map (keyT f n)) ((L.foldl (betterO f n) b).map (keyT f n)) = false ∧ ∀ l ∈ L, optLt ((earl f (pl l) n).map (keyT f n)) ((L.foldl (betterO f n) b).map (keyT f n)) = false
  | [], b => ⟨.inl rfl, optLt_irrefl _, fun l hl => by simp at hl⟩
  | l :: L, b => by
    obtain ⟨h1, h2, h3⟩ := betterO_le f n b l
    obtain ⟨k1, k2, k3⟩ := bestO_le f n L (betterO f n b l)
    rw [List.foldl_cons]
    refine ⟨?_, optLt_neg2 (map_len f n _) (map_len f n _) (map_len f n _) h2 k2, fun x hx => ?_⟩
    · rcases k1 with e | ⟨x, hx, e⟩
      · rw [e]
        exact h1.elim .inl fun e => .inr ⟨l, by simp, e⟩
      · exact .inr ⟨x, by simp [hx], e⟩
    · rcases List.mem_cons.1 hx with rfl | hx
      · exact optLt_neg2 (map_len f n _) (map_len f n _) (map_len f n _) h3 k2
      · exact k3 x hx
end Go.Proofs.YtlmcblcijndipaaGreat
