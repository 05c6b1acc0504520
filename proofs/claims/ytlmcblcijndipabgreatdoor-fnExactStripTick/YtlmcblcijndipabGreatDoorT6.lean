/- Books marked, looked at again, held against each other. -/
import Derived.Test.YtlmcblcijndipabGreatDoorT5
namespace Go.Proofs.YtlmcblcijndipabGreatDoor
open Go.RowKit
set_option linter.unusedVariables false

abbrev bkV (now shift : Int) (v u : Value) : Value := .agg #[.int .i64 now, .int .i64 shift, v, u]
theorem OwnM.sl {w : World} {lo hi : Nat} {v : Value} {n : Nat} {f : Nat → Mv} (h : OwnM w lo hi v n f) : ∃ a c, v = .slice a n c := by
  rcases h with ⟨rfl, a, c, rfl⟩ | ⟨B, c, cs, rfl, _⟩
  · exact ⟨a, c, rfl⟩
  · exact ⟨_, c, rfl⟩
theorem OwnI.sl {w : World} {lo hi : Nat} {v : Value} {n : Nat} {g : Nat → Int} (h : OwnI w lo hi v n g) : ∃ a c, v = .slice a n c := by
  rcases h with ⟨rfl, a, c, rfl⟩ | ⟨B, c, cs, rfl, _⟩
  · exact ⟨a, c, rfl⟩
  · exact ⟨_, c, rfl⟩
theorem OwnM.below {w w' : World} {N lo hi : Nat} {v : Value} {n : Nat} {f : Nat → Mv} (h : OwnM w lo hi v n f) (hb : Below N w w') (hN : hi ≤ N) : OwnM w' lo hi v n f := h.keep hb.size (fun _ B _ _ hB _ => hb.block B (by omega))
theorem OwnI.below {w w' : World} {N lo hi : Nat} {v : Value} {n : Nat} {f : Nat → Int} (h : OwnI w lo hi v n f) (hb : Below N w w') (hN : hi ≤ N) : OwnI w' lo hi v n f := h.keep hb.size (fun _ B _ _ hB _ => hb.block B (by omega))
theorem OwnS.below {w w' : World} {N lo hi : Nat} {v : Value} {n : Nat} {f : Nat → ByteArray} (h : OwnS w lo hi v n f) (hb : Below N w w') (hN : hi ≤ N) : OwnS w' lo hi v n f := h.keep hb.size (fun _ B _ _ hB _ => hb.block B (by omega))
theorem OwnM.midT {w w' : World} {T : TypeId} {lo hi : Nat} {v : Value} {n : Nat} {f : Nat → Mv} (h : OwnM w lo hi v n f) (hm : MidT T lo hi w w') (hT : 36 ≠ T) : OwnM w' lo hi v n f := h.keep hm.size (fun h5 B cs _ hB hg => hm.block B (by omega) (.inr (.inr ⟨cs, _, hT, hg⟩)))
theorem OwnI.midT {w w' : World} {T : TypeId} {lo hi : Nat} {v : Value} {n : Nat} {f : Nat → Int} (h : OwnI w lo hi v n f) (hm : MidT T lo hi w w') (hT : 3 ≠ T) : OwnI w' lo hi v n f := h.keep hm.size (fun h5 B cs _ hB hg => hm.block B (by omega) (.inr (.inr ⟨cs, _, hT, hg⟩)))
theorem OwnS.midT {w w' : World} {T : TypeId} {lo hi : Nat} {v : Value} {n : Nat} {f : Nat → ByteArray} (h : OwnS w lo hi v n f) (hm : MidT T lo hi w w') (hT : 9 ≠ T) : OwnS w' lo hi v n f := h.keep hm.size (fun h5 B cs _ hB hg => hm.block B (by omega) (.inr (.inr ⟨cs, _, hT, hg⟩)))

set_option maxHeartbeats 400000 in
theorem eqBk_any (now shift : Int) {w : World} {lo hi lo' hi' : Nat} {v v' u u' : Value} {n m : Nat} {f : Nat → Mv} {t : Nat → Int} (hn : n ≤ 1048576) (hm : m ≤ 1048576) (h1 : OwnM w lo hi v n f) (h2 : OwnM w lo' hi' v' n f) (h3 : OwnI w lo hi u m t) (h4 : OwnI w lo' hi' u' m t) (hh : hi ≤ w.heap.size) (hh' : hi' ≤ w.heap.size) :
    Calls Tryz.prog 14 #[bkV now shift v u, bkV now shift v' u'] w fun e w' => e = .returned (.bool true) ∧ Below w.heap.size w w' := by
  have bA : ∀ o1 o2, Below w.heap.size w ((w.alloc o1).alloc o2) := fun o1 o2 => ((Below.refl _ w).alloc (Nat.le_refl _) _).alloc (by simp) _
  have H1 : ∀ W, Below w.heap.size w W → Calls Tryz.prog 40 #[v, v'] W fun e w' => e = .returned (.bool true) ∧ Below W.heap.size W w' := fun W hW => eqM_any hn (h1.below hW hh) (h2.below hW hh')
  have H2 : ∀ W, Below w.heap.size w W → Calls Tryz.prog 41 #[u, u'] W fun e w' => e = .returned (.bool true) ∧ Below W.heap.size W w' := fun W hW => eqN_any hm (h3.below hW hh) (h4.below hW hh')
  obtain ⟨a1, c1, rfl⟩ := h1.sl
  obtain ⟨a2, c2, rfl⟩ := h2.sl
  obtain ⟨a3, c3, rfl⟩ := h3.sl
  obtain ⟨a4, c4, rfl⟩ := h4.sl
  clear h1 h2 h3 h4
  go_enter Tryz.func14, Tryz.ntmps14
  go_wp2_with (first
    | (go_at_call 40; refine (H1 _ (bA _ _)).mono ?_; clear H1; rintro e w1 ⟨rfl, b1⟩; have B1 := (bA _ _).trans (b1.mono (bA _ _).size); obtain ⟨hc1, hf1⟩ := bcell b1)
    | (go_at_call 41; refine (H2 _ B1).mono ?_; clear H2; rintro e w2 ⟨rfl, b2⟩))
  go_ret
  exact ⟨rfl, B1.trans (b2.mono B1.size)⟩

theorem OwnM.up {w : World} {lo hi : Nat} {v : Value} {n : Nat} {f : Nat → Mv} (h : OwnM w lo hi v n f) (h' : 0 < n) : hi ≤ w.heap.size := by
  rcases h with ⟨rfl, _⟩ | ⟨B, c, cs, rfl, hc, hlo, hhi, hz, _⟩
  · omega
  · exact hz

set_option maxHeartbeats 400000 in
/-- the rows of a book marked, from k on -/
theorem markBk_own (now shift : Int) (k : Int) {w : World} {lo hi : Nat} {v u : Value} {n m : Nat} {f : Nat → Mv} {t : Nat → Int} (hn : n ≤ 1048576) (hm : m ≤ 1048576) (h0 : 0 ≤ k) (hk : k ≤ 1000000) (h1 : OwnM w lo hi v n f) (h3 : OwnI w lo hi u m t) (hlo : lo ≤ hi) (hh : hi ≤ w.heap.size) :
    Calls Tryz.prog 15 #[bkV now shift v u, .int .i64 k] w fun e w' => e = .returned (.int .i64 (k + n * 6 + m)) ∧ OwnM w' lo hi v n (markMv k) ∧ OwnI w' lo hi u m (fun i => k + n * 6 + i) ∧ Mid lo hi w w' := by
  have bA : ∀ o, Below w.heap.size w (w.alloc o) := fun o => (Below.refl _ w).alloc (Nat.le_refl _) _
  obtain ⟨a1, c1, rfl⟩ := h1.sl
  obtain ⟨a3, c3, rfl⟩ := h3.sl
  have H1 : ∀ o, Calls Tryz.prog 42 #[.slice a1 n c1, .int .i64 k] (w.alloc o) fun e w' => e = .returned (.int .i64 (k + n * 6)) ∧ OwnM w' lo hi (.slice a1 n c1) n (markMv k) ∧ MidT 36 lo hi (w.alloc o) w' := fun o => markM_own k hn h0 (by omega) (h1.below (bA o) hh)
  have H2 : ∀ W, OwnI W lo hi (.slice a3 m c3) m t → Calls Tryz.prog 43 #[.slice a3 m c3, .int .i64 (k + n * 6)] W fun e w' => e = .returned (.int .i64 (k + n * 6 + m)) ∧ OwnI w' lo hi (.slice a3 m c3) m (fun i => k + n * 6 + i) ∧ MidT 3 lo hi W w' := fun W hW => markN_own (k + n * 6) hm (by omega) (by omega) hW
  go_enter Tryz.func15, Tryz.ntmps15
  go_wp2_with (first
    | (go_at_call 42; refine (H1 _).mono ?_; clear H1; rintro e w1 ⟨rfl, o1, m1⟩; have t1 := (h3.below (bA _) hh).midT m1 (by decide); have g1 := m1.block w.heap.size (by simp) (.inr (.inl hh)); have k3 := World.cell?_of_block (a := ⟨w.heap.size, 3, none⟩) g1; simp at k3)
    | (go_at_call 43; refine (H2 _ t1).mono ?_; clear H2; rintro e w2 ⟨rfl, o2, m2⟩; have o3 := o1.midT m2 (by decide)))
  go_ret
  exact ⟨rfl, o3, o2, ((Mid.of (bA _) (by omega)).trans m1.mid).trans m2.mid⟩

set_option maxHeartbeats 400000 in
theorem heldBk_own (now shift : Int) (k : Int) {w : World} {lo hi : Nat} {v u : Value} {n m : Nat} (hn : n ≤ 1048576) (hm : m ≤ 1048576) (h0 : 0 ≤ k) (hk : k ≤ 1000000) (h1 : OwnM w lo hi v n (markMv k)) (h3 : OwnI w lo hi u m (fun i => k + n * 6 + i)) (hh : hi ≤ w.heap.size) :
    Calls Tryz.prog 16 #[bkV now shift v u, .int .i64 k] w fun e w' => e = .returned (.int .i64 (k + n * 6 + m)) ∧ Below w.heap.size w w' := by
  have bA : ∀ o, Below w.heap.size w (w.alloc o) := fun o => (Below.refl _ w).alloc (Nat.le_refl _) _
  obtain ⟨a1, c1, rfl⟩ := h1.sl
  obtain ⟨a3, c3, rfl⟩ := h3.sl
  have H1 : ∀ o, Calls Tryz.prog 44 #[.slice a1 n c1, .int .i64 k] (w.alloc o) fun e w' => e = .returned (.int .i64 (k + n * 6)) ∧ Below (w.alloc o).heap.size (w.alloc o) w' := fun o => heldM_own k hn h0 (by omega) (h1.below (bA o) hh)
  have H2 : ∀ W, Below w.heap.size w W → Calls Tryz.prog 45 #[.slice a3 m c3, .int .i64 (k + n * 6)] W fun e w' => e = .returned (.int .i64 (k + n * 6 + m)) ∧ Below W.heap.size W w' := fun W hW => heldN_own (k + n * 6) hm (by omega) (by omega) (h3.below hW hh)
  clear h1 h3
  go_enter Tryz.func16, Tryz.ntmps16
  go_wp2_with (first
    | (go_at_call 44; refine (H1 _).mono ?_; clear H1; rintro e w1 ⟨rfl, b1⟩; have B1 := (bA _).trans (b1.mono (bA _).size); obtain ⟨hc1, hf1⟩ := bcell b1)
    | (go_at_call 45; refine (H2 _ B1).mono ?_; clear H2; rintro e w2 ⟨rfl, b2⟩))
  all_goals first | (exfalso; omega) | skip
  go_ret
  exact ⟨rfl, B1.trans (b2.mono B1.size)⟩
end Go.Proofs.YtlmcblcijndipabGreatDoor
