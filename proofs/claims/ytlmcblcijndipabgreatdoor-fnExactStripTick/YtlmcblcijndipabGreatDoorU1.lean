/- A tick passes: what is held while the rows grow. -/
import Derived.Test.YtlmcblcijndipabGreatDoorU0
namespace Go.Proofs.YtlmcblcijndipabGreatDoor
open Go.RowKit
set_option linter.unusedVariables false

theorem own_same {w w' : World} {base : Nat} {e : TypeId} {size : Nat} {v : Value} {n : Nat} {xs : List Value} (h : w.ownsRow base e size v n xs) (hs : ∀ B, v.ownBlock = some B → w'.heap[B]? = w.heap[B]?) : w'.ownsRow base e size v n xs := by
  obtain ⟨h1, h2 | ⟨g, c, cur, rfl, h3, h4, h5⟩⟩ := h
  · exact ⟨h1, .inl h2⟩
  · exact ⟨h1, .inr ⟨g, c, cur, rfl, h3, (hs g rfl).trans h4, h5⟩⟩
theorem own_tag {w : World} {base : Nat} {e : TypeId} {size : Nat} {v : Value} {n : Nat} {xs : List Value} (h : w.ownsRow base e size v n xs) (B : Nat) (hB : v.ownBlock = some B) : ∃ cs, w.heap[B]? = some (.cells cs e (0, 0)) := by
  obtain ⟨h1, h2 | ⟨g, c, cur, rfl, h3, h4, h5⟩⟩ := h
  · rw [h2.1] at hB; cases hB
  · simp [Value.ownBlock] at hB; subst hB; exact ⟨cur, h4⟩
theorem own_apart {w : World} {base base' : Nat} {e e' : TypeId} {size size' : Nat} {v v' : Value} {n n' : Nat} {xs xs' : List Value} (h : w.ownsRow base e size v n xs) (h' : w.ownsRow base' e' size' v' n' xs') (hne : e ≠ e') (B : Nat) (hB : v.ownBlock = some B) : v'.ownBlock ≠ some B := fun hB' => by
  obtain ⟨cs, h1⟩ := own_tag h B hB
  obtain ⟨cs', h2⟩ := own_tag h' B hB'
  rw [h1] at h2; simp at h2; exact hne h2.2
theorem BkAt.same {w w' : World} {B : Nat} {now shift : Int} {a : Option Addr} {n cap : Nat} {a' : Option Addr} {m cap' : Nat} (h : BkAt w B now shift a n cap a' m cap') (e : w'.heap[B]? = w.heap[B]?) : BkAt w' B now shift a n cap a' m cap' :=
  ⟨(World.cell?_of_block (a := ⟨B, 0, none⟩) e).trans h.c0, (World.cell?_of_block (a := ⟨B, 1, none⟩) e).trans h.c1, (World.cell?_of_block (a := ⟨B, 2, none⟩) e).trans h.c2, (World.cell?_of_block (a := ⟨B, 3, none⟩) e).trans h.c3⟩
theorem BkAt.lt {w : World} {B : Nat} {now shift : Int} {a : Option Addr} {n cap : Nat} {a' : Option Addr} {m cap' : Nat} (h : BkAt w B now shift a n cap a' m cap') : B < w.heap.size := block_lt_of_cell h.c0

/-- the old book's box, the answer's, the new one's, and the rows that have grown -/
structure Nx (w : World) (BB RS NX base : Nat) (now shift : Int) (a : Option Addr) (n cap : Nat) (a' : Option Addr) (m cap' : Nat) (v u : Value) (f : Nat → Mv) (t : Nat → Int) (l l2 : List Nat) (W : World) : Prop where
  bb : BkAt W BB now shift a n cap a' m cap'
  nx : W.heap[NX]? = some (.cells #[.int .i64 (now + 1), .int .i64 shift, v, u] 32 (0, 0))
  rs : W.heap[RS]? = some (.cells #[.int .i64 0, .int .i64 0, .slice none 0 0, .slice none 0 0] 32 (0, 0))
  ov : W.ownsRow base 36 6 v l.length (stayM f t now l)
  ou : W.ownsRow base 3 1 u l2.length (stayT t l2)
  size : base ≤ W.heap.size
  below : Below w.heap.size w W
  ord : w.heap.size ≤ BB ∧ w.heap.size ≤ RS ∧ w.heap.size ≤ NX ∧ BB < base ∧ RS < base ∧ NX < base ∧ BB ≠ NX ∧ RS ≠ NX
theorem Nx.grow {w W : World} {BB RS NX base : Nat} {now shift : Int} {a : Option Addr} {n cap : Nat} {a' : Option Addr} {m cap' : Nat} {v u : Value} {f : Nat → Mv} {t : Nat → Int} {l l2 : List Nat} {W' : World} (h : Nx w BB RS NX base now shift a n cap a' m cap' v u f t l l2 W) (hb : Below W.heap.size W W') : Nx w BB RS NX base now shift a n cap a' m cap' v u f t l l2 W' := by
  have hs := h.size
  obtain ⟨o1, o2, o3, o4, o5, o6, o7, o8⟩ := h.ord
  exact ⟨h.bb.below hb (by omega), (hb.block NX (by omega)).trans h.nx, (hb.block RS (by omega)).trans h.rs, own_same h.ov (fun B hB => hb.block B (h.ov.lt B hB).2), own_same h.ou (fun B hB => hb.block B (h.ou.lt B hB).2), Nat.le_trans hs hb.size, h.below.trans (hb.mono h.below.size), h.ord⟩
theorem Nx.drew {w W : World} {BB RS NX base : Nat} {now shift : Int} {a : Option Addr} {n cap : Nat} {a' : Option Addr} {m cap' : Nat} {v u : Value} {f : Nat → Mv} {t : Nat → Int} {l l2 : List Nat} (h : Nx w BB RS NX base now shift a n cap a' m cap' v u f t l l2 W) : Nx w BB RS NX base now shift a n cap a' m cap' v u f t l l2 W.drew := h.grow (Below.refl _ _).drew
theorem Nx.ncell {w W : World} {BB RS NX base : Nat} {now shift : Int} {a : Option Addr} {n cap : Nat} {a' : Option Addr} {m cap' : Nat} {v u : Value} {f : Nat → Mv} {t : Nat → Int} {l l2 : List Nat} (h : Nx w BB RS NX base now shift a n cap a' m cap' v u f t l l2 W) : (W.cell? ⟨NX, 0, none⟩ = some (.int .i64 (now + 1)) ∧ W.cell? ⟨NX, 2, none⟩ = some v ∧ W.cell? ⟨NX, 3, none⟩ = some u) ∧ ∀ j, W.frozen? ⟨NX, j, none⟩ = false :=
  ⟨⟨by rw [cell_of_row _ _ _ _ _ _ h.nx]; rfl, by rw [cell_of_row _ _ _ _ _ _ h.nx]; rfl, by rw [cell_of_row _ _ _ _ _ _ h.nx]; rfl⟩, fun j => frozen_of_row W _ j _ _ h.nx⟩
/-- one more move -/
theorem Nx.moves {w W : World} {BB RS NX base : Nat} {now shift : Int} {a : Option Addr} {n cap : Nat} {a' : Option Addr} {m cap' : Nat} {v u : Value} {f : Nat → Mv} {t : Nat → Int} {l l2 : List Nat} {W' : World} {v' : Value} (h : Nx w BB RS NX base now shift a n cap a' m cap' v u f t l l2 W) (k : Nat) (ho : W'.ownsRow base 36 6 v' (l.length + 1) (stayM f t now l ++ (promMv (f k) (t k) (now + 1)).cells.toList)) (hg : W.grownBy W' v.ownBlock) : Nx w BB RS NX base now shift a n cap a' m cap' v' u f t (l ++ [k]) l2 (W'.setCell ⟨NX, 2, none⟩ v') := by
  have hs := h.size
  obtain ⟨o1, o2, o3, o4, o5, o6, o7, o8⟩ := h.ord
  have hrow : ∀ B, v.ownBlock = some B → base ≤ B := fun B hB => (h.ov.lt B hB).1
  have low : ∀ k, k < base → W'.heap[k]? = W.heap[k]? := fun k hk => hg.block k (by omega) (fun e => by have := hrow k e.symm; omega)
  have low' : ∀ k, k < base → k ≠ NX → (W'.setCell ⟨NX, 2, none⟩ v').heap[k]? = W.heap[k]? := fun k hk hne => (Below.heap_setCell W' _ _ k (by simpa using hne)).trans (low k hk)
  have hnx := heap_setCell_same W' NX 2 _ _ v' ((low NX o6).trans h.nx)
  refine ⟨h.bb.same (low' BB o4 o7), by simpa using hnx, (low' RS o5 o8).trans h.rs, ?_, ?_, by have := hg.size; simp; omega, ?_, h.ord⟩
  · rw [List.length_append, stayM_snoc]
    exact own_same ho (fun B hB => Below.heap_setCell W' _ _ B (by have := (ho.lt B hB).1; simp; omega))
  · exact own_same h.ou (fun B hB => (Below.heap_setCell W' _ _ B (by have := (h.ou.lt B hB).1; simp; omega)).trans (hg.block B (h.ou.lt B hB).2 (fun e => own_apart h.ou h.ov (by decide) B hB e.symm)))
  · exact (h.below.grown hg h.below.size (fun k hk => by have := hrow k hk; omega)).setCell (by simp; omega) _
/-- one more tick -/
theorem Nx.ticks {w W : World} {BB RS NX base : Nat} {now shift : Int} {a : Option Addr} {n cap : Nat} {a' : Option Addr} {m cap' : Nat} {v u : Value} {f : Nat → Mv} {t : Nat → Int} {l l2 : List Nat} {W' : World} {u' : Value} (h : Nx w BB RS NX base now shift a n cap a' m cap' v u f t l l2 W) (k : Nat) (ho : W'.ownsRow base 3 1 u' (l2.length + 1) (stayT t l2 ++ [.int .i64 (t k)])) (hg : W.grownBy W' u.ownBlock) : Nx w BB RS NX base now shift a n cap a' m cap' v u' f t l (l2 ++ [k]) (W'.setCell ⟨NX, 3, none⟩ u') := by
  have hs := h.size
  obtain ⟨o1, o2, o3, o4, o5, o6, o7, o8⟩ := h.ord
  have hrow : ∀ B, u.ownBlock = some B → base ≤ B := fun B hB => (h.ou.lt B hB).1
  have low : ∀ k, k < base → W'.heap[k]? = W.heap[k]? := fun k hk => hg.block k (by omega) (fun e => by have := hrow k e.symm; omega)
  have low' : ∀ k, k < base → k ≠ NX → (W'.setCell ⟨NX, 3, none⟩ u').heap[k]? = W.heap[k]? := fun k hk hne => (Below.heap_setCell W' _ _ k (by simpa using hne)).trans (low k hk)
  have hnx := heap_setCell_same W' NX 3 _ _ u' ((low NX o6).trans h.nx)
  refine ⟨h.bb.same (low' BB o4 o7), by simpa using hnx, (low' RS o5 o8).trans h.rs, ?_, ?_, by have := hg.size; simp; omega, ?_, h.ord⟩
  · exact own_same h.ov (fun B hB => (Below.heap_setCell W' _ _ B (by have := (h.ov.lt B hB).1; simp; omega)).trans (hg.block B (h.ov.lt B hB).2 (fun e => own_apart h.ov h.ou (by decide) B hB e.symm)))
  · rw [List.length_append, stayT_snoc]
    exact own_same ho (fun B hB => Below.heap_setCell W' _ _ B (by have := (ho.lt B hB).1; simp; omega))
  · exact (h.below.grown hg h.below.size (fun k hk => by have := hrow k hk; omega)).setCell (by simp; omega) _
end Go.Proofs.YtlmcblcijndipabGreatDoor
