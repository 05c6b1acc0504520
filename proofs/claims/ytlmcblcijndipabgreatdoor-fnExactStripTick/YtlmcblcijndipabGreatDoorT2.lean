/- Rows of one's own within bounds, and what turns none of them. -/
import Derived.Test.YtlmcblcijndipabGreatDoorB4
import Derived.Test.YtlmcblcijndipabGreatDoorT1
namespace Go.Proofs.YtlmcblcijndipabGreatDoor
open Go.RowKit
set_option linter.unusedVariables false

/-- nothing has turned but blocks from lo to hi that hold cells of the type T -/
structure MidT (T : TypeId) (lo hi : Nat) (w w' : World) : Prop where
  size : w.heap.size ≤ w'.heap.size
  block : ∀ k, k < w.heap.size → (k < lo ∨ hi ≤ k ∨ ∃ cs T', T' ≠ T ∧ w.heap[k]? = some (.cells cs T' (0, 0))) → w'.heap[k]? = w.heap[k]?
  below : Below lo w w'
/-- nothing has turned but blocks from lo to hi -/
structure Mid (lo hi : Nat) (w w' : World) : Prop where
  size : w.heap.size ≤ w'.heap.size
  block : ∀ k, k < w.heap.size → (k < lo ∨ hi ≤ k) → w'.heap[k]? = w.heap[k]?
  below : Below lo w w'
theorem MidT.mid {T : TypeId} {lo hi : Nat} {w w' : World} (h : MidT T lo hi w w') : Mid lo hi w w' := ⟨h.size, fun k hk h' => h.block k hk (h'.elim .inl (fun x => .inr (.inl x))), h.below⟩
theorem Mid.trans {lo hi : Nat} {a b c : World} (h : Mid lo hi a b) (k : Mid lo hi b c) : Mid lo hi a c := ⟨Nat.le_trans h.size k.size, fun i hi' h' => (k.block i (Nat.lt_of_lt_of_le hi' h.size) h').trans (h.block i hi' h'), h.below.trans k.below⟩
theorem Mid.of {lo hi : Nat} {w w' : World} (h : Below w.heap.size w w') (hlo : lo ≤ w.heap.size) : Mid lo hi w w' := ⟨h.size, fun k hk _ => h.block k hk, h.mono hlo⟩
theorem MidT.of {T : TypeId} {lo hi : Nat} {w w' : World} (h : Below w.heap.size w w') (hlo : lo ≤ w.heap.size) : MidT T lo hi w w' := ⟨h.size, fun k hk _ => h.block k hk, h.mono hlo⟩
theorem MidT.refl (T : TypeId) (lo hi : Nat) (w : World) : MidT T lo hi w w := ⟨Nat.le_refl _, fun _ _ _ => rfl, Below.refl _ _⟩

/-- strings in memory, in a row -/
def StrRow (w : World) (b n : Nat) (g : Nat → ByteArray) : Prop := ∀ i, i < n → w.cell? ⟨b, i, none⟩ = some (.string (g i))

def OwnM (w : World) (lo hi : Nat) (v : Value) (n : Nat) (f : Nat → Mv) : Prop :=
  (n = 0 ∧ ∃ a c, v = .slice a 0 c) ∨ ∃ B c cs, v = .slice (some ⟨B, 0, none⟩) n c ∧ n ≤ c ∧ lo ≤ B ∧ B < hi ∧ hi ≤ w.heap.size ∧ w.heap[B]? = some (.cells cs 36 (0, 0)) ∧ n * 6 ≤ cs.size ∧ MvRow w B 0 n f
def OwnI (w : World) (lo hi : Nat) (v : Value) (n : Nat) (g : Nat → Int) : Prop :=
  (n = 0 ∧ ∃ a c, v = .slice a 0 c) ∨ ∃ B c cs, v = .slice (some ⟨B, 0, none⟩) n c ∧ n ≤ c ∧ lo ≤ B ∧ B < hi ∧ hi ≤ w.heap.size ∧ w.heap[B]? = some (.cells cs 3 (0, 0)) ∧ n ≤ cs.size ∧ IntRow w B 0 n g
def OwnS (w : World) (lo hi : Nat) (v : Value) (n : Nat) (g : Nat → ByteArray) : Prop :=
  (n = 0 ∧ ∃ a c, v = .slice a 0 c) ∨ ∃ B c cs, v = .slice (some ⟨B, 0, none⟩) n c ∧ n ≤ c ∧ lo ≤ B ∧ B < hi ∧ hi ≤ w.heap.size ∧ w.heap[B]? = some (.cells cs 9 (0, 0)) ∧ n ≤ cs.size ∧ StrRow w B n g
theorem StrRow.same {w w' : World} {b n : Nat} {g : Nat → ByteArray} (h : StrRow w b n g) (e : w'.heap[b]? = w.heap[b]?) : StrRow w' b n g := fun i hi => (World.cell?_of_block (a := ⟨b, i, none⟩) e).trans (h i hi)
theorem IntRow.same {w w' : World} {b off n : Nat} {g : Nat → Int} (h : IntRow w b off n g) (e : w'.heap[b]? = w.heap[b]?) : IntRow w' b off n g := fun i hi => (World.cell?_of_block (a := ⟨b, off + i, none⟩) e).trans (h i hi)

theorem OwnM.keep {w w' : World} {lo hi : Nat} {v : Value} {n : Nat} {f : Nat → Mv} (h : OwnM w lo hi v n f) (hz : w.heap.size ≤ w'.heap.size) (e : hi ≤ w.heap.size → ∀ B cs, lo ≤ B → B < hi → w.heap[B]? = some (.cells cs 36 (0, 0)) → w'.heap[B]? = w.heap[B]?) : OwnM w' lo hi v n f := by
  rcases h with h | ⟨B, c, cs, h1, h2, h3, h4, h5, h6, h7, h8⟩
  · exact .inl h
  · have := e h5 B cs h3 h4 h6
    exact .inr ⟨B, c, cs, h1, h2, h3, h4, Nat.le_trans h5 hz, this.trans h6, h7, h8.same this⟩
theorem OwnI.keep {w w' : World} {lo hi : Nat} {v : Value} {n : Nat} {g : Nat → Int} (h : OwnI w lo hi v n g) (hz : w.heap.size ≤ w'.heap.size) (e : hi ≤ w.heap.size → ∀ B cs, lo ≤ B → B < hi → w.heap[B]? = some (.cells cs 3 (0, 0)) → w'.heap[B]? = w.heap[B]?) : OwnI w' lo hi v n g := by
  rcases h with h | ⟨B, c, cs, h1, h2, h3, h4, h5, h6, h7, h8⟩
  · exact .inl h
  · have := e h5 B cs h3 h4 h6
    exact .inr ⟨B, c, cs, h1, h2, h3, h4, Nat.le_trans h5 hz, this.trans h6, h7, h8.same this⟩
theorem OwnS.keep {w w' : World} {lo hi : Nat} {v : Value} {n : Nat} {g : Nat → ByteArray} (h : OwnS w lo hi v n g) (hz : w.heap.size ≤ w'.heap.size) (e : hi ≤ w.heap.size → ∀ B cs, lo ≤ B → B < hi → w.heap[B]? = some (.cells cs 9 (0, 0)) → w'.heap[B]? = w.heap[B]?) : OwnS w' lo hi v n g := by
  rcases h with h | ⟨B, c, cs, h1, h2, h3, h4, h5, h6, h7, h8⟩
  · exact .inl h
  · have := e h5 B cs h3 h4 h6
    exact .inr ⟨B, c, cs, h1, h2, h3, h4, Nat.le_trans h5 hz, this.trans h6, h7, h8.same this⟩

/-- a book's rows, and names, within bounds -/
structure Bks (w : World) (lo hi : Nat) (v : Value) (n : Nat) (f : Nat → Mv) (u : Value) (m : Nat) (t : Nat → Int) (s : Value) (k : Nat) (g : Nat → ByteArray) : Prop where
  mv : OwnM w lo hi v n f
  tk : OwnI w lo hi u m t
  nm : OwnS w lo hi s k g
theorem Bks.below {w w' : World} {N lo hi : Nat} {v : Value} {n : Nat} {f : Nat → Mv} {u : Value} {m : Nat} {t : Nat → Int} {s : Value} {k : Nat} {g : Nat → ByteArray} (h : Bks w lo hi v n f u m t s k g) (hb : Below N w w') (hN : hi ≤ N) : Bks w' lo hi v n f u m t s k g :=
  ⟨h.mv.keep hb.size (fun _ B _ _ hB _ => hb.block B (by omega)), h.tk.keep hb.size (fun _ B _ _ hB _ => hb.block B (by omega)), h.nm.keep hb.size (fun _ B _ _ hB _ => hb.block B (by omega))⟩
theorem Bks.mid {w w' : World} {lo' hi' lo hi : Nat} {v : Value} {n : Nat} {f : Nat → Mv} {u : Value} {m : Nat} {t : Nat → Int} {s : Value} {k : Nat} {g : Nat → ByteArray} (h : Bks w lo hi v n f u m t s k g) (hm : Mid lo' hi' w w') (hd : hi ≤ lo' ∨ hi' ≤ lo) : Bks w' lo hi v n f u m t s k g :=
  ⟨h.mv.keep hm.size (fun h5 B _ _ hB _ => hm.block B (by omega) (by omega)), h.tk.keep hm.size (fun h5 B _ _ hB _ => hm.block B (by omega) (by omega)), h.nm.keep hm.size (fun h5 B _ _ hB _ => hm.block B (by omega) (by omega))⟩

/-! ### two held against each other -/
theorem eqS_none (a a' : Option Addr) (cap cap' : Nat) (w : World) :
    Calls Tryz.prog 40 #[.slice a 0 cap, .slice a' 0 cap'] w fun e w' => e = .returned (.bool true) ∧ Below w.heap.size w w' := by
  go_enter Tryz.func40, Tryz.ntmps40
  go_wp2
  go_loopw [5] (fun i w' => i = .int .i64 0 ∧ Below w.heap.size w w') (fun _ _ => 0)
  case atStart => exact ⟨rfl, Below.refl _ _⟩
  case round =>
    obtain ⟨rfl, hB⟩ := hrel
    go_wp2
    go_ret
    exact ⟨rfl, hB⟩
theorem eqM_any {w : World} {lo hi lo' hi' : Nat} {v v' : Value} {n : Nat} {f : Nat → Mv} (hn : n ≤ 1048576) (h : OwnM w lo hi v n f) (h' : OwnM w lo' hi' v' n f) :
    Calls Tryz.prog 40 #[v, v'] w fun e w' => e = .returned (.bool true) ∧ Below w.heap.size w w' := by
  rcases h with ⟨rfl, a, c, rfl⟩ | ⟨B, c, cs, rfl, _, _, hB, hz, hg, _, hr⟩
  · rcases h' with ⟨_, a', c', rfl⟩ | ⟨B', c', cs', rfl, _⟩
    · exact eqS_none _ _ _ _ _
    · exact eqS_none _ _ _ _ _
  · rcases h' with ⟨rfl, a', c', rfl⟩ | ⟨B', c', cs', rfl, _, _, hB', hz', hg', _, hr'⟩
    · exact eqS_none _ _ _ _ _
    · exact eqS_same B 0 c B' 0 c' n f w hn (by omega) hr (by omega) hr'
theorem eqN_any {w : World} {lo hi lo' hi' : Nat} {v v' : Value} {n : Nat} {g : Nat → Int} (hn : n ≤ 1048576) (h : OwnI w lo hi v n g) (h' : OwnI w lo' hi' v' n g) :
    Calls Tryz.prog 41 #[v, v'] w fun e w' => e = .returned (.bool true) ∧ Below w.heap.size w w' := by
  rcases h with ⟨rfl, a, c, rfl⟩ | ⟨B, c, cs, rfl, _, _, hB, hz, hg, _, hr⟩
  · rcases h' with ⟨_, a', c', rfl⟩ | ⟨B', c', cs', rfl, _⟩
    · exact eqI_none _ _ _ _ _
    · exact eqI_none _ _ _ _ _
  · rcases h' with ⟨rfl, a', c', rfl⟩ | ⟨B', c', cs', rfl, _, _, hB', hz', hg', _, hr'⟩
    · exact eqI_none _ _ _ _ _
    · exact eqI_same B 0 c B' 0 c' n g w hn (by omega) hr (by omega) hr'
end Go.Proofs.YtlmcblcijndipabGreatDoor
