/- Moves drawn. -/
import Derived.Test.YtlmcblcijndipaaD2
namespace Go.Proofs.Ytlmcblcijndipaa
open Go.RowKit
set_option linter.unusedVariables false

/-- the cells of n moves in a row -/
def mcells (f : Nat → Mv) (n : Nat) : List Value := (List.range n).flatMap fun j => (f j).cells.toList
theorem mcells_len (f : Nat → Mv) : ∀ n, (mcells f n).length = n * 6
  | 0 => rfl
  | n + 1 => by
    have := mcells_len f n
    unfold mcells at this ⊢
    rw [List.range_succ, List.flatMap_append, List.length_append, this]
    simp [Nat.add_mul]
theorem mcells_succ (f : Nat → Mv) (n : Nat) : mcells f (n + 1) = mcells f n ++ (f n).cells.toList := by
  unfold mcells; rw [List.range_succ, List.flatMap_append]; simp
theorem mcells_congr {f g : Nat → Mv} : ∀ {n : Nat}, (∀ j, j < n → f j = g j) → mcells f n = mcells g n
  | 0, _ => rfl
  | n + 1, h => by rw [mcells_succ, mcells_succ, mcells_congr (fun j hj => h j (by omega)), h n (by omega)]
theorem mcells_get (f : Nat → Mv) : ∀ n i k, i < n → k < 6 → (mcells f n)[i * 6 + k]? = (f i).cells.toList[k]?
  | 0, i, k, hi, _ => absurd hi (Nat.not_lt_zero _)
  | n + 1, i, k, hi, hk => by
    rw [mcells_succ]
    by_cases e : i = n
    · subst e
      rw [List.getElem?_append_right (by rw [mcells_len]; omega), mcells_len]
      congr 1; omega
    · rw [List.getElem?_append_left (by rw [mcells_len]; omega)]
      exact mcells_get f n i k (by omega) hk
/-- a row of moves of one's own reads as moves -/
theorem own_row {w : World} {base B n c : Nat} {T : TypeId} {f : Nat → Mv} (h : w.ownsRow base T 6 (.slice (some ⟨B, 0, none⟩) n c) n (mcells f n)) : MvRow w B 0 n f := by
  intro i hi
  have q : ∀ k, k < 6 → w.cell? ⟨B, 0 + i * 6 + k, none⟩ = (f i).cells.toList[k]? := fun k hk => by
    rw [Nat.zero_add, h.cellAt (i * 6 + k) (by omega)]; exact mcells_get f n i k hi hk
  exact ⟨q 0 (by omega), q 1 (by omega), q 2 (by omega), q 3 (by omega), q 4 (by omega), q 5 (by omega)⟩
theorem grown_of_but {R n₀ : Nat} {w w' : World} (h : But R w w') (hb : Below n₀ w w') : w.grownBy w' (some R) :=
  ⟨hb.os, hb.tape, hb.output, h.size, fun k hk hne => h.block k hk (fun e => hne (by rw [e]))⟩
theorem own_but {R n₀ : Nat} {w w' : World} {base : Nat} {T : TypeId} {size : Nat} {v : Value} {n : Nat} {xs : List Value} (h : w.ownsRow base T size v n xs) (hR : R < base) (hb : But R w w') (hB : Below n₀ w w') : w'.ownsRow base T size v n xs := by
  refine h.kept (grown_of_but hb hB) ?_
  obtain ⟨_, h2 | ⟨g, cap, cur, h2, h3, _⟩⟩ := h
  · left; rw [h2.1]; rfl
  · right; rw [h2]; simp [Value.ownBlock]; omega

/-- six names -/
def Nms (cs : Array Value) : Prop := ∀ i, i < 6 → ∃ s : ByteArray, cs[i]? = some (.string s) ∧ s.size ≤ 8
theorem names_any (w : World) :
    Calls Try.prog 67 #[] w fun e w' => e = .returned (.slice (some ⟨w.heap.size, 0, none⟩) 6 6) ∧ (∃ cs, w'.heap[w.heap.size]? = some (.cells cs 9 (0, 0)) ∧ Nms cs) ∧ Below w.heap.size w w' := by
  go_enter Try.func67, Try.ntmps67
  go_wp2
  go_ret
  refine ⟨rfl, ⟨_, heap_alloc_new _ _, fun i hi => ?_⟩, (Below.refl _ _).alloc (Nat.le_refl _) _⟩
  match i, hi with
  | 0, _ => exact ⟨_, rfl, by decide⟩
  | 1, _ => exact ⟨_, rfl, by decide⟩
  | 2, _ => exact ⟨_, rfl, by decide⟩
  | 3, _ => exact ⟨_, rfl, by decide⟩
  | 4, _ => exact ⟨_, rfl, by decide⟩
  | 5, _ => exact ⟨_, rfl, by decide⟩

/-- moves being drawn: those that there are, the names, the reader, and nothing else turned -/
structure Ds (R Bn n₀ : Nat) (w : World) (v : Value) (n : Nat) (f : Nat → Mv) (q : Int) (W : World) : Prop where
  own : W.ownsRow w.heap.size 38 6 v n (mcells f n)
  nm : ∃ cs, W.heap[Bn]? = some (.cells cs 9 (0, 0)) ∧ Nms cs
  rd : Rd W R q
  but : But R w W
  below : Below n₀ w W
theorem Ds.drew {R Bn n₀ : Nat} {w W : World} {v : Value} {n : Nat} {f : Nat → Mv} {q : Int} (h : Ds R Bn n₀ w v n f q W) : Ds R Bn n₀ w v n f q W.drew := ⟨h.own, h.nm, h.rd.drew, ⟨h.but.size, h.but.block⟩, h.below.drew⟩
theorem Ds.nlt {R Bn n₀ : Nat} {w W : World} {v : Value} {n : Nat} {f : Nat → Mv} {q : Int} (h : Ds R Bn n₀ w v n f q W) : Bn < W.heap.size := by
  obtain ⟨cs, hs, _⟩ := h.nm
  exact (Array.getElem?_eq_some_iff.1 hs).1
theorem Ds.names {R Bn n₀ : Nat} {w W : World} {v : Value} {n : Nat} {f : Nat → Mv} {q : Int} (h : Ds R Bn n₀ w v n f q W) (i : Nat) (hi : i < 6) : ∃ s : ByteArray, W.cell? ⟨Bn, i, none⟩ = some (.string s) ∧ s.size ≤ 8 := by
  obtain ⟨cs, hs, h6⟩ := h.nm
  obtain ⟨s, h1, h2⟩ := h6 i hi
  exact ⟨s, (cell_of_row _ _ _ _ _ _ hs).trans h1, h2⟩
/-- the moves do not lie among the names -/
theorem Ds.sep {R Bn n₀ : Nat} {w W : World} {v : Value} {n : Nat} {f : Nat → Mv} {q : Int} (h : Ds R Bn n₀ w v n f q W) : v.ownBlock ≠ some Bn := fun e => by
  obtain ⟨cs, hs, _⟩ := h.nm
  obtain ⟨_, h2 | ⟨g, cap, cur, h2, h3, h4, _⟩⟩ := h.own
  · rw [h2.1] at e; exact absurd e (by simp [Value.ownBlock])
  · rw [h2] at e; simp [Value.ownBlock] at e; rw [e, hs] at h4; simp at h4
theorem Ds.base {R Bn n₀ : Nat} {w W : World} {v : Value} {n : Nat} {f : Nat → Mv} {q : Int} (h : Ds R Bn n₀ w v n f q W) (b : Nat) (hb : v.ownBlock = some b) : w.heap.size ≤ b := by
  obtain ⟨_, h2 | ⟨g, cap, cur, h2, h3, h4, _⟩⟩ := h.own
  · rw [h2.1] at hb; exact absurd hb (by simp [Value.ownBlock])
  · rw [h2] at hb; simp [Value.ownBlock] at hb; omega
theorem Ds.to {R Bn n₀ : Nat} {w W W' : World} {v : Value} {n : Nat} {f : Nat → Mv} {q q' : Int} (h : Ds R Bn n₀ w v n f q W) (hR : R < w.heap.size) (hBn : w.heap.size ≤ Bn) (hr : Rd W' R q') (hb : But R W W') (hB : Below n₀ W W') : Ds R Bn n₀ w v n f q' W' :=
  ⟨own_but h.own hR hb hB, by
    obtain ⟨cs, hs, h8⟩ := h.nm
    exact ⟨cs, (hb.block Bn h.nlt (by omega)).trans hs, h8⟩, hr, h.but.trans hb, h.below.trans hB⟩
theorem Ds.grow {R Bn n₀ : Nat} {w W W' : World} {v : Value} {n : Nat} {f : Nat → Mv} {q : Int} (h : Ds R Bn n₀ w v n f q W) (hR : R < w.heap.size) (h0 : n₀ ≤ R) (hBn : w.heap.size ≤ Bn) (hb : Below W.heap.size W W') : Ds R Bn n₀ w v n f q W' :=
  h.to hR hBn (h.rd.below hb) (But.of hb) (hb.mono (by have := h.rd.lt; omega))
/-- a store into a block that lay not among them -/
theorem Ds.set {R Bn n₀ : Nat} {w W : World} {v : Value} {n : Nat} {f : Nat → Mv} {q : Int} (h : Ds R Bn n₀ w v n f q W) (hR : R < w.heap.size) (h0 : n₀ ≤ R) (B o : Nat) (u : Value) (h1 : w.heap.size ≤ B) (h2 : B ≠ Bn) (h3 : v.ownBlock ≠ some B) : Ds R Bn n₀ w v n f q (W.setCell ⟨B, o, none⟩ u) :=
  ⟨h.own.kept (row := some B) ⟨rfl, rfl, rfl, by simp, fun k hk hne => Below.heap_setCell W _ u k (fun e => hne (by rw [e]))⟩ (.inr h3), by
    obtain ⟨cs, hs, h8⟩ := h.nm
    exact ⟨cs, (Below.heap_setCell W _ u Bn (by simp; omega)).trans hs, h8⟩, h.rd.set (by omega) _ _, ⟨by have := h.but.size; simpa using this, fun k hk hne => (Below.heap_setCell W _ u k (by simp; omega)).trans (h.but.block k hk hne)⟩, h.below.setCell (by simp; omega) _⟩
theorem MvOwn.but {R : Nat} {w w' : World} {b : Nat} {m : Mv} (h : MvOwn w b m) (hb : But R w w') (hne : b ≠ R) : MvOwn w' b m := (hb.block b (Array.getElem?_eq_some_iff.1 h).1 hne).trans h
theorem MvOwn.lt {w : World} {b : Nat} {m : Mv} (h : MvOwn w b m) : b < w.heap.size := (Array.getElem?_eq_some_iff.1 h).1
theorem cell_but {R b o : Nat} {w w' : World} (hb : But R w w') (hlt : b < w.heap.size) (hne : b ≠ R) : w'.cell? ⟨b, o, none⟩ = w.cell? ⟨b, o, none⟩ := World.cell?_of_block (a := ⟨b, o, none⟩) (hb.block b hlt hne)
theorem own_blt {w : World} {base : Nat} {T : TypeId} {size : Nat} {v : Value} {n : Nat} {xs : List Value} (h : w.ownsRow base T size v n xs) (b : Nat) (hb : v.ownBlock = some b) : b < w.heap.size := by
  obtain ⟨_, h2 | ⟨g, cap, cur, h2, h3, h4, _⟩⟩ := h
  · rw [h2.1] at hb; exact absurd hb (by simp [Value.ownBlock])
  · rw [h2] at hb; simp [Value.ownBlock] at hb; rw [← hb]; exact (Array.getElem?_eq_some_iff.1 h4).1
/-- moves being drawn, and one more made in a block of its own -/
structure Ms (R Bn n₀ : Nat) (w : World) (v : Value) (n : Nat) (f : Nat → Mv) (q : Int) (Bm : Nat) (m : Mv) (W : World) : Prop where
  ds : Ds R Bn n₀ w v n f q W
  mv : MvOwn W Bm m
  lo : w.heap.size ≤ Bm
  nn : Bm ≠ Bn
  no : v.ownBlock ≠ some Bm
theorem Ms.drew {R Bn n₀ : Nat} {w W : World} {v : Value} {n : Nat} {f : Nat → Mv} {q : Int} {Bm : Nat} {m : Mv} (h : Ms R Bn n₀ w v n f q Bm m W) : Ms R Bn n₀ w v n f q Bm m W.drew := ⟨h.ds.drew, h.mv, h.lo, h.nn, h.no⟩
theorem Ms.to {R Bn n₀ : Nat} {w W W' : World} {v : Value} {n : Nat} {f : Nat → Mv} {q q' : Int} {Bm : Nat} {m : Mv} (h : Ms R Bn n₀ w v n f q Bm m W) (hR : R < w.heap.size) (hBn : w.heap.size ≤ Bn) (hr : Rd W' R q') (hb : But R W W') (hB : Below n₀ W W') : Ms R Bn n₀ w v n f q' Bm m W' :=
  ⟨h.ds.to hR hBn hr hb hB, h.mv.but hb (by have := h.lo; omega), h.lo, h.nn, h.no⟩
theorem Ms.prom {R Bn n₀ : Nat} {w W : World} {v : Value} {n : Nat} {f : Nat → Mv} {q : Int} {Bm : Nat} {m : Mv} (h : Ms R Bn n₀ w v n f q Bm m W) (hR : R < w.heap.size) (h0 : n₀ ≤ R) (x : Int) : Ms R Bn n₀ w v n f q Bm { m with prom := x } (W.setCell ⟨Bm, 5, none⟩ (.int .i64 x)) := by
  refine ⟨h.ds.set hR h0 Bm 5 _ h.lo h.nn h.no, ?_, h.lo, h.nn, h.no⟩
  have := heap_setCell_same W Bm 5 _ _ (.int .i64 x) h.mv
  simpa [MvOwn] using this
theorem ms_made {R Bn n₀ : Nat} {w W : World} {v : Value} {n : Nat} {f : Nat → Mv} {q : Int} {Bm : Nat} {m0 : Mv} (h : Ds R Bn n₀ w v n f q W) (hR : R < w.heap.size) (h0 : n₀ ≤ R) (hm : MvOwn W Bm m0) (h1 : w.heap.size ≤ Bm) (h2 : Bm ≠ Bn) (h3 : v.ownBlock ≠ some Bm) (m : Mv) : Ms R Bn n₀ w v n f q Bm m ((((((W.setCell ⟨Bm, 0, none⟩ (.string m.name)).setCell ⟨Bm, 1, none⟩ (.bool m.lands)).setCell ⟨Bm, 2, none⟩ (.int .i64 m.wake)).setCell ⟨Bm, 3, none⟩ (.int .i64 m.est)).setCell ⟨Bm, 4, none⟩ (.int .i64 m.late)).setCell ⟨Bm, 5, none⟩ (.int .i64 m.prom)) := by
  refine ⟨(((((h.set hR h0 Bm 0 _ h1 h2 h3).set hR h0 Bm 1 _ h1 h2 h3).set hR h0 Bm 2 _ h1 h2 h3).set hR h0 Bm 3 _ h1 h2 h3).set hR h0 Bm 4 _ h1 h2 h3).set hR h0 Bm 5 _ h1 h2 h3, ?_, h1, h2, h3⟩
  have := heap_setCell_same _ _ 5 _ _ (.int .i64 m.prom) (heap_setCell_same _ _ 4 _ _ (.int .i64 m.late) (heap_setCell_same _ _ 3 _ _ (.int .i64 m.est) (heap_setCell_same _ _ 2 _ _ (.int .i64 m.wake) (heap_setCell_same _ _ 1 _ _ (.bool m.lands) (heap_setCell_same W Bm 0 _ _ (.string m.name) hm)))))
  simpa [MvOwn] using this
theorem ms_new {R Bn n₀ : Nat} {w W : World} {v : Value} {n : Nat} {f : Nat → Mv} {q : Int} (h : Ds R Bn n₀ w v n f q W) (hR : R < w.heap.size) (h0 : n₀ ≤ R) (hBn : w.heap.size ≤ Bn) (m : Mv) : Ms R Bn n₀ w v n f q W.heap.size m (W.alloc (.cells #[.string m.name, .bool m.lands, .int .i64 m.wake, .int .i64 m.est, .int .i64 m.late, .int .i64 m.prom] 38)) :=
  ⟨h.grow hR h0 hBn ((Below.refl _ _).alloc (Nat.le_refl _) _), heap_alloc_new _ _, h.but.size, by have := h.nlt; omega, fun e => absurd (own_blt h.own _ e) (Nat.lt_irrefl _)⟩
/-- what every drawn move keeps to, a promise or none -/
structure Good (m : Mv) : Prop where
  name : m.name.size ≤ 8
  wake : 1 ≤ m.wake ∧ m.wake ≤ 3
  span : 0 ≤ m.est ∧ m.est ≤ m.late ∧ m.late ≤ 10000
  prom : -1 ≤ m.prom ∧ m.prom ≤ 10000

theorem info_mv : (Try.prog.info? 38).map (fun i => (i.zero, i.size, i.bytes)) = some (some (.agg #[.string ByteArray.empty, .bool false, .int .i64 0, .int .i64 0, .int .i64 0, .int .i64 0]), 6, 56) := by kernel_rfl
theorem own_mv {W : World} {b : Nat} {m : Mv} (h : MvOwn W b m) : ∀ (j : Nat) (u : Value), m.cells.toList[j]? = some u → W.cell? ((⟨b, 0, none⟩ : Addr).add j) = some u := fun j u hu => by
  have e : (⟨b, 0, none⟩ : Addr).add j = ⟨b, j, none⟩ := by simp [Addr.add]; omega
  rw [e, cell_of_row _ _ _ _ _ _ h]; simpa using hu
theorem one_mv (m : Mv) : ∀ u ∈ m.cells.toList, u.oneCell' = true := fun u hu => by
  simp at hu; rcases hu with rfl | rfl | rfl | rfl | rfl | rfl <;> rfl
theorem Rd.low' {w w' : World} {R n : Nat} {p : Int} (hr : Rd w R p) (hlt : R < n) (hb : Below n w w') : Rd w' R p := by
  obtain ⟨⟨a, m, cap, c, hR, hn, hrow, hc⟩, hp0⟩ := hr
  refine ⟨⟨a, m, cap, c, (hb.block R hlt).trans hR, hn, ?_, hc⟩, hp0⟩
  rcases hrow with h | ⟨b, off, rfl, hbR, hrow⟩
  · exact .inl h
  · exact .inr ⟨b, off, rfl, hbR, fun i hi => (hb.cell (p := ⟨b, off + i, none⟩) (by simp; omega)).trans (hrow i hi)⟩
/-- a move more -/
theorem Ds.append {R Bn n₀ : Nat} {w W W' : World} {v v' : Value} {n : Nat} {f : Nat → Mv} {q : Int} (h : Ds R Bn n₀ w v n f q W) (hR : R < w.heap.size) (h0 : n₀ ≤ R) (hBn : w.heap.size ≤ Bn) (m : Mv) (ho : W'.ownsRow w.heap.size 38 6 v' (n + 1) (mcells f n ++ m.cells.toList)) (hg : W.grownBy W' v.ownBlock) : Ds R Bn n₀ w v' (n + 1) (fun j => if j = n then m else f j) q W' := by
  obtain ⟨g1, g2, g3, g4, g5⟩ := hg
  have hB : Below w.heap.size W W' := ⟨g1, g2, g3, g4, fun k hk => g5 k (by have := h.but.size; omega) (fun e => by have := h.base k e.symm; omega)⟩
  refine ⟨?_, ?_, h.rd.low' hR hB, ⟨Nat.le_trans h.but.size g4, fun k hk hne => (hB.block k hk).trans (h.but.block k hk hne)⟩, h.below.trans (hB.mono (by omega))⟩
  · have e1 : mcells (fun j => if j = n then m else f j) (n + 1) = mcells f n ++ m.cells.toList := by
      rw [mcells_succ, mcells_congr (g := f) (fun j hj => by rw [if_neg (by omega)])]; simp
    rw [e1]; exact ho
  · obtain ⟨cs, hs, h8⟩ := h.nm
    exact ⟨cs, (g5 Bn h.nlt (fun e => h.sep e.symm)).trans hs, h8⟩
theorem Good.of {m : Mv} {s : ByteArray} (h : Drawn m s) (h8 : s.size ≤ 8) : Good m := ⟨by rw [h.name]; exact h8, h.wake, h.span, by have := h.prom; omega⟩
theorem good_put {f : Nat → Mv} {n : Nat} {m : Mv} (hg : ∀ j, j < n → Good (f j)) (hm : Good m) : ∀ j, j < n + 1 → Good ((fun j => if j = n then m else f j) j) := fun j hj => by
  by_cases e : j = n
  · simp only [if_pos e]; exact hm
  · simp only [if_neg e]; exact hg j (by omega)
theorem own_some {w : World} {base : Nat} {T : TypeId} {v : Value} {n : Nat} {xs : List Value} (h : w.ownsRow base T 6 v (n + 1) xs) : ∃ g cap, v = .slice (some ⟨g, 0, none⟩) (n + 1) cap := by
  obtain ⟨_, h2 | ⟨g, cap, cur, h2, h3, h4, _⟩⟩ := h
  · exact absurd h2.2 (by omega)
  · exact ⟨g, cap, h2⟩

set_option maxRecDepth 10000 in
set_option maxHeartbeats 4000000 in
theorem l6Moves_any (R : Nat) (p : Int) (w : World) (n₀ : Nat) (h0 : n₀ ≤ R) (hr : Rd w R p) (hp : p ≤ 800000) :
    Calls Try.prog 51 #[.pointer (some ⟨R, 0, none⟩), .int .i64 6] w fun e w' => (∃ (B c n : Nat) (f : Nat → Mv), e = .returned (.slice (some ⟨B, 0, none⟩) n c) ∧ n ≤ 6 ∧ w'.ownsRow w.heap.size 38 6 (.slice (some ⟨B, 0, none⟩) n c) n (mcells f n) ∧ ∀ j, j < n → Good (f j)) ∧ Went R p 100 n₀ w w' := by
  have hR := hr.lt
  have H1 := names_any (w.alloc (.cells #[] 38))
  go_enter Try.func51, Try.ntmps51
  go_wp2_with (go_at_call 67; refine H1.mono ?_; clear H1; rintro e w1 ⟨rfl, hnm, hb1⟩)
  have bA : Below w.heap.size w (w.alloc (.cells #[] 38)) := (Below.refl _ _).alloc (Nat.le_refl _) _
  have hB1 : Below w.heap.size w w1 := bA.trans (hb1.mono bA.size)
  have hD : Ds R (w.heap.size + 1) n₀ w (.slice (some ⟨w.heap.size, 0, none⟩) 0 0) 0 (fun _ => ⟨ByteArray.empty, false, 0, 0, 0, 0⟩) p w1 := by
    refine ⟨?_, ?_, hr.below hB1, But.of hB1, hB1.mono (by omega)⟩
    · exact ⟨rfl, .inr ⟨w.heap.size, 0, #[], rfl, Nat.le_refl _, (hb1.block w.heap.size (by simp)).trans (heap_alloc_new _ _), Nat.le_refl _, Nat.zero_le _, rfl, rfl⟩⟩
    · simpa using hnm
  obtain ⟨iM, hI, hz0, hz1, hz2⟩ := info_parts info_mv
  go_loopw [5, 7] (fun v x W => ∃ (i n B c : Nat) (f : Nat → Mv) (q : Int), i ≤ 6 ∧ n ≤ i ∧ x = .int .i64 i ∧ v = .slice (some ⟨B, 0, none⟩) n c ∧ p ≤ q ∧ q ≤ p + i * 16 ∧ Ds R (w.heap.size + 1) n₀ w (.slice (some ⟨B, 0, none⟩) n c) n f q W ∧ ∀ j, j < n → Good (f j)) (fun _ x _ => 6 - (intOf x).toNat)
  case atStart => exact ⟨0, 0, w.heap.size, 0, _, p, Nat.zero_le _, Nat.le_refl _, rfl, rfl, by omega, by omega, hD, fun j hj => absurd hj (Nat.not_lt_zero _)⟩
  case round =>
    clear hD
    obtain ⟨i, n, B, c, f, q, hi, hn, rfl, rfl, hq0, hq1, hD, hg⟩ := hrel
    by_cases hlt : i < 6
    · have hlt' : (i : Int) < 6 := by omega
      have hn6 : (n : Int) < 6 := by omega
      have H2 := pick_any R q 4 wr n₀ h0 hD.rd (by omega) (by omega) (by omega)
      go_wp2_with (go_at_call 30; refine H2.mono ?_; clear H2; rintro e w2 ⟨⟨z1, rfl, l1, u1⟩, r2, t2, b2⟩; have hD2 := hD.to hR (by omega) r2 t2 b2)
      all_goals first | (exfalso; omega) | skip
      rotate_left
      · obtain ⟨s, hs, h8⟩ := hD2.names i hlt
        have hD3 := hD2.drew
        have hs3 : w2.drew.cell? ⟨w.heap.size + 1, i, none⟩ = some (.string s) := hs
        have HP : ∀ W, Ds R (w.heap.size + 1) n₀ w (.slice (some ⟨B, 0, none⟩) n c) n f (q + 1) W → Calls Try.prog 30 #[.pointer (some ⟨R, 0, none⟩), .int .i64 4] W fun e w' => ∃ z : Int, e = .returned (.int .i64 z) ∧ 0 ≤ z ∧ z < 4 ∧ Ds R (w.heap.size + 1) n₀ w (.slice (some ⟨B, 0, none⟩) n c) n f (q + 1 + 1) w' ∧ But R W w' := fun W hW =>
          (pick_any R (q + 1) 4 W n₀ h0 hW.rd (by omega) (by omega) (by omega)).mono (fun e w' ⟨⟨z, h1, h2, h3⟩, h4, h5, h6⟩ => ⟨z, h1, h2, h3, hW.to hR (by omega) h4 h5 h6, h5⟩)
        have HM : ∀ W z, 0 ≤ z → z < 4 → Ds R (w.heap.size + 1) n₀ w (.slice (some ⟨B, 0, none⟩) n c) n f (q + 1 + 1) W → Calls Try.prog 68 #[.pointer (some ⟨R, 0, none⟩), .string s, .int .i64 z] W fun e w' => ∃ m : Mv, e = .returned (.agg #[.string m.name, .bool m.lands, .int .i64 m.wake, .int .i64 m.est, .int .i64 m.late, .int .i64 m.prom]) ∧ Drawn m s ∧ (∃ q2, q + 1 + 1 ≤ q2 ∧ q2 ≤ q + 9 ∧ Ds R (w.heap.size + 1) n₀ w (.slice (some ⟨B, 0, none⟩) n c) n f q2 w') ∧ But R W w' := fun W z h1 h2 hW =>
          (l6Move_any R (q + 1 + 1) s z W n₀ h0 hW.rd (by omega) h1 (by omega)).mono (fun e w' ⟨⟨m, h3, h4⟩, ⟨q2, h5, h6, h7⟩, h8, h9⟩ => ⟨m, h3, h4, ⟨q2, h5, by omega, hW.to hR (by omega) h7 h8 h9⟩, h8⟩)
        have n21 : w.heap.size + 1 ≠ w2.heap.size := Nat.ne_of_lt hD2.nlt
        have n22 := n21.symm
        go_region_held3 (fun w' => w'.cell? ⟨w.heap.size + 1, i, none⟩ = some (.string s)) (go_keep)
          (first
            | (go_at_call 30; refine (HP _ hD3).mono ?_; clear HP; rintro e w4 ⟨z2, rfl, l2, u2, hD4, t4⟩; have hs4 : w4.cell? ⟨w.heap.size + 1, i, none⟩ = some (.string s) := (cell_but t4 (by have := hD3.nlt; omega) (by omega)).trans hs3; have n41 := Nat.ne_of_lt hD4.nlt; have n42 := n41.symm)
            | (go_at_call 30; refine (HP _ (hD3.grow hR h0 (by omega) ((Below.refl _ _).alloc (Nat.le_refl _) _))).mono ?_; clear HP; rintro e w4 ⟨z2, rfl, l2, u2, hD4, t4⟩; have hm4 : MvOwn w4 w2.heap.size ⟨ByteArray.empty, false, 0, 0, 0, 0⟩ := MvOwn.but (b := w2.heap.size) (heap_alloc_new w2.drew _) t4 (by have := hD2.rd.lt; omega); have hs4 : w4.cell? ⟨w.heap.size + 1, i, none⟩ = some (.string s) := (cell_but t4 (by have := hD2.nlt; simp; omega) (by omega)).trans ((World.cell?_alloc_past _ _ _ (hD3.nlt)).trans hs3))
            | (go_at_call 68; refine (HM _ z2 l2 u2 hD4).mono ?_; clear HM; rintro e w5 ⟨m, rfl, hdr, ⟨q2, lq, uq, hD5⟩, t5⟩; have n51 := Nat.ne_of_lt hD5.nlt; have n52 := n51.symm; have hs5 : w5.cell? ⟨w.heap.size + 1, i, none⟩ = some (.string s) := (cell_but t5 (by have := hD4.nlt; omega) (by omega)).trans hs4; try (have hm5 := hm4.but t5 (by have := hD2.rd.lt; omega); obtain ⟨k0, k1, k2, k3, k4, k5⟩ := hm5.at_; simp only [Nat.zero_add] at k0 k1 k2 k3 k4 k5; have fr := hm5.frozen))
            | (go_at_call 68; refine (HM _ z2 l2 u2 (hD4.grow hR h0 (by omega) ((Below.refl _ _).alloc (Nat.le_refl _) _))).mono ?_; clear HM; rintro e w5 ⟨m, rfl, hdr, ⟨q2, lq, uq, hD5⟩, t5⟩; have n51 := Nat.ne_of_lt hD5.nlt; have n52 := n51.symm; have hs5 : w5.cell? ⟨w.heap.size + 1, i, none⟩ = some (.string s) := (cell_but t5 (by have := hD4.nlt; simp; omega) (by omega)).trans ((World.cell?_alloc_past _ _ _ (hD4.nlt)).trans hs4); have hm5 : MvOwn w5 w4.heap.size ⟨ByteArray.empty, false, 0, 0, 0, 0⟩ := MvOwn.but (heap_alloc_new _ _) t5 (by have := hD4.rd.lt; omega); obtain ⟨k0, k1, k2, k3, k4, k5⟩ := hm5.at_; simp only [Nat.zero_add] at k0 k1 k2 k3 k4 k5; have fr := hm5.frozen))
        all_goals first
          | (have hM := ms_made hD5 hR h0 hm5 (by exact hD4.but.size) n42 (fun e => absurd (own_blt hD4.own _ e) (Nat.lt_irrefl _)) m
             revert hM
             generalize w4.heap.size = Bm
             generalize ((((((w5.setCell ⟨Bm, 0, none⟩ (.string m.name)).setCell ⟨Bm, 1, none⟩ (.bool m.lands)).setCell ⟨Bm, 2, none⟩ (.int .i64 m.wake)).setCell ⟨Bm, 3, none⟩ (.int .i64 m.est)).setCell ⟨Bm, 4, none⟩ (.int .i64 m.late)).setCell ⟨Bm, 5, none⟩ (.int .i64 m.prom)) = W6
             intro hM)
          | (have hM := ms_made hD5 hR h0 hm5 (by exact hD2.but.size) n22 (fun e => absurd (own_blt hD2.own _ e) (Nat.lt_irrefl _)) m
             revert hM
             generalize w2.heap.size = Bm
             generalize ((((((w5.setCell ⟨Bm, 0, none⟩ (.string m.name)).setCell ⟨Bm, 1, none⟩ (.bool m.lands)).setCell ⟨Bm, 2, none⟩ (.int .i64 m.wake)).setCell ⟨Bm, 3, none⟩ (.int .i64 m.est)).setCell ⟨Bm, 4, none⟩ (.int .i64 m.late)).setCell ⟨Bm, 5, none⟩ (.int .i64 m.prom)) = W6
             intro hM)
          | (have hM := ms_new hD5 hR h0 (by omega) m
             revert hM
             generalize w5.alloc (.cells #[.string m.name, .bool m.lands, .int .i64 m.wake, .int .i64 m.est, .int .i64 m.late, .int .i64 m.prom] 38) = W6
             generalize w5.heap.size = Bm
             intro hM)
        all_goals rename_i hh
        all_goals clear hh
        all_goals
          clear hD hD2 hD3 hD4 hD5 t4 hs hs3 hs4 hs5 t5
          try clear hm5 k0 k1 k2 k3 k4 k5 fr
          try clear hm4
          clear n21 n22 n51 n52
          try clear n41 n42
          have H6 := pick_any R q2 6 W6 n₀ h0 hM.ds.rd (by omega) (by omega) (by omega)
          go_wp2_with (first
            | (go_at_call 30; refine H6.mono ?_; clear H6; rintro e w7 ⟨⟨z3, rfl, l3, u3⟩, r7, t7, b7⟩; have hM7 := hM.to hR (by omega) r7 t7 b7; clear hM r7 t7 b7; obtain ⟨d0, d1, d2, d3, d4, d5⟩ := hM7.mv.at_; simp only [Nat.zero_add] at d0 d1 d2 d3 d4 d5)
            | (at_builtin; refine wpList_append_own _ rfl (.tmp 49) (.tmp 51) 23 rfl w.heap.size 38 iM _ 6 56 Try.underlying23 hI hz0 hz1 hz2 rfl (by decide) (.slice (some ⟨B, 0, none⟩) n c) n (mcells f n) (by rfl) (hM7.ds.grow hR h0 (by omega) ((Below.refl _ _).alloc (Nat.le_refl _) _)).own ⟨_, 0, none⟩ 1 1 (Mv.cells m).toList (by rfl) rfl (own_mv (heap_alloc_new _ _)) (one_mv _) (by unfold maxLen; omega) (by omega) (Nat.le_trans hM7.ds.but.size (by simp)) ?_; intro v8 w8 ho8 hg8 _; have hD8 := (hM7.ds.grow hR h0 (by omega) ((Below.refl _ _).alloc (Nat.le_refl _) _)).append hR h0 (by omega) _ ho8 hg8; obtain ⟨g8, c8, rfl⟩ := own_some ho8))
          · obtain ⟨sp0, sp1, sp2⟩ := hdr.span
            have hwa : IntKind.i64.wrap (m.late - m.est) = m.late - m.est := by rw [IntKind.wrap_i64]; omega
            have hwb : IntKind.i64.wrap (m.late - m.est + 1) = m.late - m.est + 1 := by rw [IntKind.wrap_i64]; omega
            have HP := pick_any R (q2 + 1) (m.late - m.est + 1) w7.drew n₀ h0 hM7.drew.ds.rd (by omega) (by omega) (by omega)
            go_region_held3 (fun w' => w'.cell? ⟨Bm, 3, none⟩ = some (.int .i64 m.est) ∧ w'.cell? ⟨Bm, 4, none⟩ = some (.int .i64 m.late)) (go_keep)
              (first | (go_at_call 30; refine HP.mono ?_; clear HP; rintro e w9 ⟨⟨z4, rfl, l4, u4⟩, r9, t9, b9⟩; have hM8 := hM7.drew.to hR (by omega) r9 t9 b9; clear r9 t9 b9; obtain ⟨k0, k1, k2, k3, k4, k5⟩ := hM8.mv.at_; simp only [Nat.zero_add] at k0 k1 k2 k3 k4 k5; have fr := hM8.mv.frozen 5; have d35 : ∀ v, (w9.setCell ⟨Bm, 5, none⟩ v).cell? ⟨Bm, 3, none⟩ = some (.int .i64 m.est) := fun v => (World.cell?_setCell_other _ _ _ _ (by simp)).trans k3; have d45 : ∀ v, (w9.setCell ⟨Bm, 5, none⟩ v).cell? ⟨Bm, 4, none⟩ = some (.int .i64 m.late) := fun v => (World.cell?_setCell_other _ _ _ _ (by simp)).trans k4; have hwr : IntKind.i64.wrap (m.est + z4) = m.est + z4 := by rw [IntKind.wrap_i64]; omega))
            rename_i hh
            clear hh
            have hM9 := hM8.prom hR h0 (m.est + z4)
            have hg9 : Good { m with prom := m.est + z4 } := ⟨by rw [hdr.name]; exact h8, hdr.wake, hdr.span, by simp only; omega⟩
            revert hM9 hg9
            generalize w9.setCell ⟨Bm, 5, none⟩ (.int .i64 (m.est + z4)) = W9
            generalize ({ m with prom := m.est + z4 } : Mv) = m9
            intro hM9 hg9
            clear hM8 hM7 k0 k1 k2 k3 k4 k5 fr d35 d45 d0 d1 d2 d3 d4 d5
            obtain ⟨d0, d1, d2, d3, d4, d5⟩ := hM9.mv.at_
            simp only [Nat.zero_add] at d0 d1 d2 d3 d4 d5
            go_wp2_with (first
            | (at_builtin; refine wpList_append_own _ rfl (.tmp 49) (.tmp 51) 23 rfl w.heap.size 38 iM _ 6 56 Try.underlying23 hI hz0 hz1 hz2 rfl (by decide) (.slice (some ⟨B, 0, none⟩) n c) n (mcells f n) (by rfl) (hM9.ds.grow hR h0 (by omega) ((Below.refl _ _).alloc (Nat.le_refl _) _)).own ⟨_, 0, none⟩ 1 1 (Mv.cells m9).toList (by rfl) rfl (own_mv (heap_alloc_new _ _)) (one_mv _) (by unfold maxLen; omega) (by omega) (Nat.le_trans hM9.ds.but.size (by simp)) ?_; intro v8 w8 ho8 hg8 _; have hD8 := (hM9.ds.grow hR h0 (by omega) ((Below.refl _ _).alloc (Nat.le_refl _) _)).append hR h0 (by omega) _ ho8 hg8; obtain ⟨g8, c8, rfl⟩ := own_some ho8))
            refine ⟨⟨i + 1, n + 1, g8, c8, _, _, by omega, by omega, by simp, rfl, by omega, by omega, hD8, good_put hg hg9⟩, ?_⟩
            simp [intOf]; omega
          · refine ⟨⟨i + 1, n + 1, g8, c8, _, _, by omega, by omega, by simp, rfl, by omega, by omega, hD8, good_put hg (.of hdr h8)⟩, ?_⟩
            simp [intOf]; omega
      · refine ⟨⟨i + 1, n, B, c, f, q + 1, by omega, by omega, by simp, rfl, by omega, by omega, hD2, hg⟩, ?_⟩
        simp [intOf]; omega
    · have hi6 : ¬ (i : Int) < 6 := by omega
      go_wp2
      all_goals first | (exfalso; omega) | skip
      go_ret
      exact ⟨⟨B, c, n, rfl, by omega, f, hD.own, hg⟩, ⟨⟨q, hq0, by omega, hD.rd⟩, hD.but, hD.below⟩⟩
end Go.Proofs.Ytlmcblcijndipaa
