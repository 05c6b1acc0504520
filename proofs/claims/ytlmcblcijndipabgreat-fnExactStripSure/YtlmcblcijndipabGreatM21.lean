/- Texts of the proof, one behind another: BL, WM. -/
import Derived.Test.YtlmcblcijndipabGreatM10
import Derived.Test.YtlmcblcijndipabGreatM10b
namespace Go.Proofs.YtlmcblcijndipabGreat
open Go Go.Conc Go.RowKit
structure Bl (N : Nat) (w w' : World) : Prop where
  size : w.heap.size ≤ w'.heap.size
  block : ∀ k, k < N → w'.heap[k]? = w.heap[k]?
theorem Bl.ofR {V w : World} {τ : Nat → Question → Nat} {d : Nat} (h : Below (re V τ d).heap.size (re V τ d) w) : Bl V.heap.size V w := ⟨h.size, h.block⟩
theorem Bl.trans {N M : Nat} {a b c : World} (h : Bl N a b) (k : Bl M b c) (hN : N ≤ M) : Bl N a c := ⟨Nat.le_trans h.size k.size, fun i hi => (k.block i (by omega)).trans (h.block i hi)⟩
end Go.Proofs.YtlmcblcijndipabGreat

namespace Go.Proofs.YtlmcblcijndipabGreat
open Go Go.Conc
def exPost (K R : Act → World → Prop) : Exit → Act → World → Prop
  | .normal => K
  | .ret => R
  | _ => fun _ _ => False
section
variable [Gl] {P₀ : Program} {ok : Ctx} {c : Frame} {Dr : FuncId → Array Value → World → (Value → World → Prop) → Prop} {Q : Value → World → Prop} {b : Frame} {a : Act} {k : List Item} {cs : List Frame} {V : World}
theorem WkT.chainM (E : Wenv P₀ ok c Dr) (hb : ok.inn b.fn = true) (ss : List Code) (T : Code) (K R : Act → World → Prop)
    (h : ∀ τ d, wpChain P₀ (exPost K R) ss a (re V τ d))
    (hK : ∀ a' w', K a' w' → WkT P₀ ok c Dr Q ⟨b.at a' (.code T :: k), cs, w'⟩) (hR : ∀ a' w' todo, R a' w' → WkT P₀ ok c Dr Q ⟨{ b.at a' todo with mode := .returning }, cs, w'⟩) :
    WkT P₀ ok c Dr Q ⟨b.at a (.code (Proofs.YtlmcblcijndipabGreat.chain ss T) :: k), cs, V⟩ := by
  refine WkT.of_steps E.pair E.shut E.floor (fun s1 => (∃ a' w', K a' w' ∧ s1 = ⟨b.at a' (.code T :: k), cs, w'⟩) ∨ ∃ a' w' todo, R a' w' ∧ s1 = ⟨{ b.at a' todo with mode := .returning }, cs, w'⟩) ?_ (fun τ d => ?_) ?_
  · rintro _ (⟨a', w', _, rfl⟩ | ⟨a', w', todo, _, rfl⟩)
    · exact hb
    · exact hb
  · obtain ⟨e, a', w', hq, harr⟩ := chain_steps (T := T) ss (h τ d) b k (cs ++ [c])
    cases e with
    | normal => exact ⟨_, .inl ⟨a', w', hq, rfl⟩, harr⟩
    | ret =>
      obtain ⟨todo, hs⟩ := harr
      exact ⟨_, .inr ⟨a', w', todo, hq, rfl⟩, hs⟩
    | _ => exact hq.elim
  · rintro _ (⟨a', w', h1, rfl⟩ | ⟨a', w', todo, h1, rfl⟩)
    · exact hK a' w' h1
    · exact hR a' w' todo h1
end
end Go.Proofs.YtlmcblcijndipabGreat
