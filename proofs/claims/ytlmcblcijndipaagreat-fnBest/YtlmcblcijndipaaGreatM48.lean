/- Texts of the proof, one behind another: D3, D4, D5, D6, DB. -/
import Derived.Test.YtlmcblcijndipaaGreatM37
import Derived.Test.YtlmcblcijndipaaGreatM10
import Derived.Deep.RegionWith
import Derived.Deep.RegionHeld3
/- Moves drawn. -/
namespace Go.Proofs.YtlmcblcijndipaaGreat
open Go.RowKit
set_option linter.unusedVariables false

/-- the cells of n moves in a row -/
def mcells (f : Nat → Mv) (n : Nat) : List Value := (List.range n).flatMap fun j => (f j).cells.toList
theorem mcells_len (f : Nat → Mv) : ∀ n, (mcells f n).length = n * 6
  | 0 => rfl
  | n + 1 => by
    have := mcells_len f n
    unfold mcells at this ⊢
    rw [List.range_succ, List.flatMap_append, List.length_append, this]
    simp [Nat.add_mul]
theorem mcells_succ (f : Nat → Mv) (n : Nat) : mcells f (n + 1) = mcells f n ++ (f n).cells.toList := by
  unfold mcells; rw [List.range_succ, List.flatMap_append]; simp
theorem mcells_congr {f g : Nat → Mv} : ∀ {n : Nat}, (∀ j, j < n → f j = g j) → mcells f n = mcells g n
  | 0, _ => rfl
  | n + 1, h => by rw [mcells_succ, mcells_succ, mcells_congr (fun j hj => h j (by omega)), h n (by omega)]
theorem mcells_get (f : Nat → Mv) : ∀ n i k, i < n → k < 6 → (mcells f n)[i * 6 + k]? = (f i).cells.toList[k]?
  | 0, i, k, hi, _ => absurd hi (Nat.not_lt_zero _)
  | n + 1, i, k, hi, hk => by
    rw [mcells_succ]
    by_cases e : i = n
    · subst e
      rw [List.getElem?_append_right (by rw [mcells_len]; omega), mcells_len]
      congr 1; omega
    · rw [List.getElem?_append_left (by rw [mcells_len]; omega)]
      exact mcells_get f n i k (by omega) hk
/-- a row of moves of one's own reads as moves -/
theorem own_row {w : World} {base B n c : Nat} {T : TypeId} {f : Nat → Mv} (h : w.ownsRow base T 6 (.slice (some ⟨B, 0, none⟩) n c) n (mcells f n)) : MvRow w B 0 n f := by
  intro i hi
  have q : ∀ k, k < 6 → w.cell? ⟨B, 0 + i * 6 + k, none⟩ = (f i).cells.toList[k]? := fun k hk => by
    rw [Nat.zero_add, h.cellAt (i * 6 + k) (by omega)]; exact mcells_get f n i k hi hk
  exact ⟨q 0 (by omega), q 1 (by omega), q 2 (by omega), q 3 (by omega), q 4 (by omega), q 5 (by omega)⟩
theorem grown_of_but {R n₀ : Nat} {w w' : World} (h : But R w w') (hb : Below n₀ w w') : w.grownBy w' (some R) :=
  ⟨hb.os, hb.tape, hb.output, h.size, fun k hk hne => h.block k hk (fun e => hne (by rw [e]))⟩
theorem own_but {R n₀ : Nat} {w w' : World} {base : Nat} {T : TypeId} {size : Nat} {v : Value} {n : Nat} {xs : List Value} (h : w.ownsRow base T size v n xs) (hR : R < base) (hb : But R w w') (hB : Below n₀ w w') : w'.ownsRow base T size v n xs := by
  refine h.kept (grown_of_but hb hB) ?_
  obtain ⟨_, h2 | ⟨g, cap, cur, h2, h3, _⟩⟩ := h
  · left; rw [h2.1]; rfl
  · right; rw [h2]; simp [Value.ownBlock]; omega

/-- six names -/
def Nms (cs : Array Value) : Prop := ∀ i, i < 6 → ∃ s : ByteArray, cs[i]? = some (.string s) ∧ s.size ≤ 8
theorem names_any (w : World) :
    Calls Tryz0.prog 80 #[] w fun e w' => e = .returned (.slice (some ⟨w.heap.size, 0, none⟩) 6 6) ∧ (∃ cs, w'.heap[w.heap.size]? = some (.cells cs 9 (0, 0)) ∧ Nms cs) ∧ Below w.heap.size w w' := by
  go_enter Tryz0.func80, Tryz.ntmps80
  go_wp2
  go_ret
  refine ⟨rfl, ⟨_, heap_alloc_new _ _, fun i hi => ?_⟩, (Below.refl _ _).alloc (Nat.le_refl _) _⟩
  match i, hi with
  | 0, _ => exact ⟨_, rfl, by decide⟩
  | 1, _ => exact ⟨_, rfl, by decide⟩
  | 2, _ => exact ⟨_, rfl, by decide⟩
  | 3, _ => exact ⟨_, rfl, by decide⟩
  | 4, _ => exact ⟨_, rfl, by decide⟩
  | 5, _ => exact ⟨_, rfl, by decide⟩

/-- moves being drawn: those that there are, the names, the reader, and nothing else turned -/
structure Ds (R Bn n₀ : Nat) (w : World) (v : Value) (n : Nat) (f : Nat → Mv) (q : Int) (W : World) : Prop where
  own : W.ownsRow w.heap.size 42 6 v n (mcells f n)
  nm : ∃ cs, W.heap[Bn]? = some (.cells cs 9 (0, 0)) ∧ Nms cs
  rd : Rd W R q
  but : But R w W
  below : Below n₀ w W
  pl : AllPl W v
theorem Ds.drew {R Bn n₀ : Nat} {w W : World} {v : Value} {n : Nat} {f : Nat → Mv} {q : Int} (h : Ds R Bn n₀ w v n f q W) : Ds R Bn n₀ w v n f q W.drew := ⟨h.own, h.nm, h.rd.drew, ⟨h.but.size, h.but.block⟩, h.below.drew, h.pl⟩
theorem Ds.nlt {R Bn n₀ : Nat} {w W : World} {v : Value} {n : Nat} {f : Nat → Mv} {q : Int} (h : Ds R Bn n₀ w v n f q W) : Bn < W.heap.size := by
  obtain ⟨cs, hs, _⟩ := h.nm
  exact (Array.getElem?_eq_some_iff.1 hs).1
theorem Ds.names {R Bn n₀ : Nat} {w W : World} {v : Value} {n : Nat} {f : Nat → Mv} {q : Int} (h : Ds R Bn n₀ w v n f q W) (i : Nat) (hi : i < 6) : ∃ s : ByteArray, W.cell? ⟨Bn, i, none⟩ = some (.string s) ∧ s.size ≤ 8 := by
  obtain ⟨cs, hs, h6⟩ := h.nm
  obtain ⟨s, h1, h2⟩ := h6 i hi
  exact ⟨s, (cell_of_row _ _ _ _ _ _ hs).trans h1, h2⟩
/-- the moves do not lie among the names -/
theorem Ds.sep {R Bn n₀ : Nat} {w W : World} {v : Value} {n : Nat} {f : Nat → Mv} {q : Int} (h : Ds R Bn n₀ w v n f q W) : v.ownBlock ≠ some Bn := fun e => by
  obtain ⟨cs, hs, _⟩ := h.nm
  obtain ⟨_, h2 | ⟨g, cap, cur, h2, h3, h4, _⟩⟩ := h.own
  · rw [h2.1] at e; exact absurd e (by simp [Value.ownBlock])
  · rw [h2] at e; simp [Value.ownBlock] at e; rw [e, hs] at h4; simp at h4
theorem Ds.base {R Bn n₀ : Nat} {w W : World} {v : Value} {n : Nat} {f : Nat → Mv} {q : Int} (h : Ds R Bn n₀ w v n f q W) (b : Nat) (hb : v.ownBlock = some b) : w.heap.size ≤ b := by
  obtain ⟨_, h2 | ⟨g, cap, cur, h2, h3, h4, _⟩⟩ := h.own
  · rw [h2.1] at hb; exact absurd hb (by simp [Value.ownBlock])
  · rw [h2] at hb; simp [Value.ownBlock] at hb; omega
theorem Ds.to {R Bn n₀ : Nat} {w W W' : World} {v : Value} {n : Nat} {f : Nat → Mv} {q q' : Int} (h : Ds R Bn n₀ w v n f q W) (hR : R < w.heap.size) (hBn : w.heap.size ≤ Bn) (hr : Rd W' R q') (hb : But R W W') (hB : Below n₀ W W') : Ds R Bn n₀ w v n f q' W' :=
  ⟨own_but h.own hR hb hB, by
    obtain ⟨cs, hs, h8⟩ := h.nm
    exact ⟨cs, (hb.block Bn h.nlt (by omega)).trans hs, h8⟩, hr, h.but.trans hb, h.below.trans hB, h.pl.same fun B hB' hlt => hb.block B hlt (by have := h.base B hB'; omega)⟩
theorem Ds.grow {R Bn n₀ : Nat} {w W W' : World} {v : Value} {n : Nat} {f : Nat → Mv} {q : Int} (h : Ds R Bn n₀ w v n f q W) (hR : R < w.heap.size) (h0 : n₀ ≤ R) (hBn : w.heap.size ≤ Bn) (hb : Below W.heap.size W W') : Ds R Bn n₀ w v n f q W' :=
  h.to hR hBn (h.rd.below hb) (But.of hb) (hb.mono (by have := h.rd.lt; omega))
/-- a store into a block that lay not among them -/
theorem Ds.set {R Bn n₀ : Nat} {w W : World} {v : Value} {n : Nat} {f : Nat → Mv} {q : Int} (h : Ds R Bn n₀ w v n f q W) (hR : R < w.heap.size) (h0 : n₀ ≤ R) (B o : Nat) (u : Value) (h1 : w.heap.size ≤ B) (h2 : B ≠ Bn) (h3 : v.ownBlock ≠ some B) : Ds R Bn n₀ w v n f q (W.setCell ⟨B, o, none⟩ u) :=
  ⟨h.own.kept (row := some B) ⟨rfl, rfl, rfl, by simp, fun k hk hne => Below.heap_setCell W _ u k (fun e => hne (by rw [e]))⟩ (.inr h3), by
    obtain ⟨cs, hs, h8⟩ := h.nm
    exact ⟨cs, (Below.heap_setCell W _ u Bn (by simp; omega)).trans hs, h8⟩, h.rd.set (by omega) _ _, ⟨by have := h.but.size; simpa using this, fun k hk hne => (Below.heap_setCell W _ u k (by simp; omega)).trans (h.but.block k hk hne)⟩, h.below.setCell (by simp; omega) _, h.pl.same fun k hk _ => Below.heap_setCell W _ u k (fun e => h3 (by rw [hk, e]))⟩
theorem MvOwn.but {R : Nat} {w w' : World} {b : Nat} {m : Mv} (h : MvOwn w b m) (hb : But R w w') (hne : b ≠ R) : MvOwn w' b m := (hb.block b (Array.getElem?_eq_some_iff.1 h).1 hne).trans h
theorem MvOwn.lt {w : World} {b : Nat} {m : Mv} (h : MvOwn w b m) : b < w.heap.size := (Array.getElem?_eq_some_iff.1 h).1
theorem cell_but {R b o : Nat} {w w' : World} (hb : But R w w') (hlt : b < w.heap.size) (hne : b ≠ R) : w'.cell? ⟨b, o, none⟩ = w.cell? ⟨b, o, none⟩ := World.cell?_of_block (a := ⟨b, o, none⟩) (hb.block b hlt hne)
theorem own_blt {w : World} {base : Nat} {T : TypeId} {size : Nat} {v : Value} {n : Nat} {xs : List Value} (h : w.ownsRow base T size v n xs) (b : Nat) (hb : v.ownBlock = some b) : b < w.heap.size := by
  obtain ⟨_, h2 | ⟨g, cap, cur, h2, h3, h4, _⟩⟩ := h
  · rw [h2.1] at hb; exact absurd hb (by simp [Value.ownBlock])
  · rw [h2] at hb; simp [Value.ownBlock] at hb; rw [← hb]; exact (Array.getElem?_eq_some_iff.1 h4).1
/-- moves being drawn, and one more made in a block of its own -/
structure Ms (R Bn n₀ : Nat) (w : World) (v : Value) (n : Nat) (f : Nat → Mv) (q : Int) (Bm : Nat) (m : Mv) (W : World) : Prop where
  ds : Ds R Bn n₀ w v n f q W
  mv : MvOwn W Bm m
  lo : w.heap.size ≤ Bm
  nn : Bm ≠ Bn
  no : v.ownBlock ≠ some Bm
theorem Ms.drew {R Bn n₀ : Nat} {w W : World} {v : Value} {n : Nat} {f : Nat → Mv} {q : Int} {Bm : Nat} {m : Mv} (h : Ms R Bn n₀ w v n f q Bm m W) : Ms R Bn n₀ w v n f q Bm m W.drew := ⟨h.ds.drew, h.mv, h.lo, h.nn, h.no⟩
theorem Ms.to {R Bn n₀ : Nat} {w W W' : World} {v : Value} {n : Nat} {f : Nat → Mv} {q q' : Int} {Bm : Nat} {m : Mv} (h : Ms R Bn n₀ w v n f q Bm m W) (hR : R < w.heap.size) (hBn : w.heap.size ≤ Bn) (hr : Rd W' R q') (hb : But R W W') (hB : Below n₀ W W') : Ms R Bn n₀ w v n f q' Bm m W' :=
  ⟨h.ds.to hR hBn hr hb hB, h.mv.but hb (by have := h.lo; omega), h.lo, h.nn, h.no⟩
theorem Ms.prom {R Bn n₀ : Nat} {w W : World} {v : Value} {n : Nat} {f : Nat → Mv} {q : Int} {Bm : Nat} {m : Mv} (h : Ms R Bn n₀ w v n f q Bm m W) (hR : R < w.heap.size) (h0 : n₀ ≤ R) (x : Int) : Ms R Bn n₀ w v n f q Bm { m with prom := x } (W.setCell ⟨Bm, 5, none⟩ (.int .i64 x)) := by
  refine ⟨h.ds.set hR h0 Bm 5 _ h.lo h.nn h.no, ?_, h.lo, h.nn, h.no⟩
  have := heap_setCell_same W Bm 5 _ _ (.int .i64 x) h.mv
  simpa [MvOwn] using this
theorem ms_made {R Bn n₀ : Nat} {w W : World} {v : Value} {n : Nat} {f : Nat → Mv} {q : Int} {Bm : Nat} {m0 : Mv} (h : Ds R Bn n₀ w v n f q W) (hR : R < w.heap.size) (h0 : n₀ ≤ R) (hm : MvOwn W Bm m0) (h1 : w.heap.size ≤ Bm) (h2 : Bm ≠ Bn) (h3 : v.ownBlock ≠ some Bm) (m : Mv) : Ms R Bn n₀ w v n f q Bm m ((((((W.setCell ⟨Bm, 0, none⟩ (.string m.name)).setCell ⟨Bm, 1, none⟩ (.bool m.lands)).setCell ⟨Bm, 2, none⟩ (.int .i64 m.wake)).setCell ⟨Bm, 3, none⟩ (.int .i64 m.est)).setCell ⟨Bm, 4, none⟩ (.int .i64 m.late)).setCell ⟨Bm, 5, none⟩ (.int .i64 m.prom)) := by
  refine ⟨(((((h.set hR h0 Bm 0 _ h1 h2 h3).set hR h0 Bm 1 _ h1 h2 h3).set hR h0 Bm 2 _ h1 h2 h3).set hR h0 Bm 3 _ h1 h2 h3).set hR h0 Bm 4 _ h1 h2 h3).set hR h0 Bm 5 _ h1 h2 h3, ?_, h1, h2, h3⟩
  have := heap_setCell_same _ _ 5 _ _ (.int .i64 m.prom) (heap_setCell_same _ _ 4 _ _ (.int .i64 m.late) (heap_setCell_same _ _ 3 _ _ (.int .i64 m.est) (heap_setCell_same _ _ 2 _ _ (.int .i64 m.wake) (heap_setCell_same _ _ 1 _ _ (.bool m.lands) (heap_setCell_same W Bm 0 _ _ (.string m.name) hm)))))
  simpa [MvOwn] using this
theorem ms_new {R Bn n₀ : Nat} {w W : World} {v : Value} {n : Nat} {f : Nat → Mv} {q : Int} (h : Ds R Bn n₀ w v n f q W) (hR : R < w.heap.size) (h0 : n₀ ≤ R) (hBn : w.heap.size ≤ Bn) (m : Mv) : Ms R Bn n₀ w v n f q W.heap.size m (W.alloc (.cells #[.string m.name, .bool m.lands, .int .i64 m.wake, .int .i64 m.est, .int .i64 m.late, .int .i64 m.prom] 42)) :=
  ⟨h.grow hR h0 hBn ((Below.refl _ _).alloc (Nat.le_refl _) _), heap_alloc_new _ _, h.but.size, by have := h.nlt; omega, fun e => absurd (own_blt h.own _ e) (Nat.lt_irrefl _)⟩
/-- what every drawn move keeps to, a promise or none -/
structure Good (m : Mv) : Prop where
  name : m.name.size ≤ 8
  wake : 1 ≤ m.wake ∧ m.wake ≤ 3
  span : 0 ≤ m.est ∧ m.est ≤ m.late ∧ m.late ≤ 10000
  prom : -1 ≤ m.prom ∧ m.prom ≤ 10000

theorem info_mv : (Tryz0.prog.info? 42).map (fun i => (i.zero, i.size, i.bytes)) = some (some (.agg #[.string ByteArray.empty, .bool false, .int .i64 0, .int .i64 0, .int .i64 0, .int .i64 0]), 6, 56) := by kernel_rfl
theorem own_mv {W : World} {b : Nat} {m : Mv} (h : MvOwn W b m) : ∀ (j : Nat) (u : Value), m.cells.toList[j]? = some u → W.cell? ((⟨b, 0, none⟩ : Addr).add j) = some u := fun j u hu => by
  have e : (⟨b, 0, none⟩ : Addr).add j = ⟨b, j, none⟩ := by simp [Addr.add]; omega
  rw [e, cell_of_row _ _ _ _ _ _ h]; simpa using hu
theorem one_mv (m : Mv) : ∀ u ∈ m.cells.toList, u.oneCell' = true := fun u hu => by
  simp at hu; rcases hu with rfl | rfl | rfl | rfl | rfl | rfl <;> rfl
theorem plain_mv (m : Mv) : ∀ u ∈ m.cells.toList, PlainV u := fun u hu => by
  simp at hu
  rcases hu with rfl | rfl | rfl | rfl | rfl | rfl <;> first | exact .inl ⟨_, rfl⟩ | exact .inr (.inl ⟨_, _, rfl⟩) | exact .inr (.inr ⟨_, rfl⟩)
theorem plain_zero : ∀ u ∈ (Value.agg #[.string ByteArray.empty, .bool false, .int .i64 0, .int .i64 0, .int .i64 0, .int .i64 0]).cells, PlainV u := fun u hu => by
  simp [Value.cells] at hu
  rcases hu with rfl | rfl | rfl <;> first | exact .inl ⟨_, rfl⟩ | exact .inr (.inl ⟨_, _, rfl⟩) | exact .inr (.inr ⟨_, rfl⟩)
theorem Rd.low' {w w' : World} {R n : Nat} {p : Int} (hr : Rd w R p) (hlt : R < n) (hb : Below n w w') : Rd w' R p := by
  obtain ⟨⟨a, m, cap, c, hR, hn, hrow, hc⟩, hp0⟩ := hr
  refine ⟨⟨a, m, cap, c, (hb.block R hlt).trans hR, hn, ?_, hc⟩, hp0⟩
  rcases hrow with h | ⟨b, off, rfl, hbR, hrow⟩
  · exact .inl h
  · exact .inr ⟨b, off, rfl, hbR, fun i hi => (hb.cell (p := ⟨b, off + i, none⟩) (by simp; omega)).trans (hrow i hi)⟩
/-- a move more -/
theorem Ds.append {R Bn n₀ : Nat} {w W W' : World} {v v' : Value} {n : Nat} {f : Nat → Mv} {q : Int} (h : Ds R Bn n₀ w v n f q W) (hR : R < w.heap.size) (h0 : n₀ ≤ R) (hBn : w.heap.size ≤ Bn) (m : Mv) (ho : W'.ownsRow w.heap.size 42 6 v' (n + 1) (mcells f n ++ m.cells.toList)) (hg : W.grownBy W' v.ownBlock) (hp : AllPl W' v') : Ds R Bn n₀ w v' (n + 1) (fun j => if j = n then m else f j) q W' := by
  obtain ⟨g1, g2, g3, g4, g5⟩ := hg
  have hB : Below w.heap.size W W' := ⟨g1, g2, g3, g4, fun k hk => g5 k (by have := h.but.size; omega) (fun e => by have := h.base k e.symm; omega)⟩
  refine ⟨?_, ?_, h.rd.low' hR hB, ⟨Nat.le_trans h.but.size g4, fun k hk hne => (hB.block k hk).trans (h.but.block k hk hne)⟩, h.below.trans (hB.mono (by omega)), hp⟩
  · have e1 : mcells (fun j => if j = n then m else f j) (n + 1) = mcells f n ++ m.cells.toList := by
      rw [mcells_succ, mcells_congr (g := f) (fun j hj => by rw [if_neg (by omega)])]; simp
    rw [e1]; exact ho
  · obtain ⟨cs, hs, h8⟩ := h.nm
    exact ⟨cs, (g5 Bn h.nlt (fun e => h.sep e.symm)).trans hs, h8⟩
theorem Good.of {m : Mv} {s : ByteArray} (h : Drawn m s) (h8 : s.size ≤ 8) : Good m := ⟨by rw [h.name]; exact h8, h.wake, h.span, by have := h.prom; omega⟩
theorem good_put {f : Nat → Mv} {n : Nat} {m : Mv} (hg : ∀ j, j < n → Good (f j)) (hm : Good m) : ∀ j, j < n + 1 → Good ((fun j => if j = n then m else f j) j) := fun j hj => by
  by_cases e : j = n
  · simp only [if_pos e]; exact hm
  · simp only [if_neg e]; exact hg j (by omega)
theorem own_some {w : World} {base : Nat} {T : TypeId} {v : Value} {n : Nat} {xs : List Value} (h : w.ownsRow base T 6 v (n + 1) xs) : ∃ g cap, v = .slice (some ⟨g, 0, none⟩) (n + 1) cap := by
  obtain ⟨_, h2 | ⟨g, cap, cur, h2, h3, h4, _⟩⟩ := h
  · exact absurd h2.2 (by omega)
  · exact ⟨g, cap, h2⟩

set_option maxRecDepth 10000 in
set_option maxHeartbeats 4000000 in
theorem l6Moves_most (R : Nat) (p : Int) (most : Int) (w : World) (n₀ : Nat) (h0 : n₀ ≤ R) (hr : Rd w R p) (hp : p ≤ 800000) :
    Calls Tryz0.prog 43 #[.pointer (some ⟨R, 0, none⟩), .int .i64 most] w fun e w' => (∃ (B c n : Nat) (f : Nat → Mv), e = .returned (.slice (some ⟨B, 0, none⟩) n c) ∧ n ≤ 6 ∧ w'.ownsRow w.heap.size 42 6 (.slice (some ⟨B, 0, none⟩) n c) n (mcells f n) ∧ AllPl w' (.slice (some ⟨B, 0, none⟩) n c) ∧ ∀ j, j < n → Good (f j)) ∧ Went R p 100 n₀ w w' := by
  have hR := hr.lt
  have H1 := names_any (w.alloc (.cells #[] 42))
  go_enter Tryz0.func43, Tryz.ntmps43
  go_wp2_with (go_at_call 80; refine H1.mono ?_; clear H1; rintro e w1 ⟨rfl, hnm, hb1⟩)
  have bA : Below w.heap.size w (w.alloc (.cells #[] 42)) := (Below.refl _ _).alloc (Nat.le_refl _) _
  have hB1 : Below w.heap.size w w1 := bA.trans (hb1.mono bA.size)
  have hD : Ds R (w.heap.size + 1) n₀ w (.slice (some ⟨w.heap.size, 0, none⟩) 0 0) 0 (fun _ => ⟨ByteArray.empty, false, 0, 0, 0, 0⟩) p w1 := by
    refine ⟨?_, ?_, hr.below hB1, But.of hB1, hB1.mono (by omega), ?_⟩
    · exact ⟨rfl, .inr ⟨w.heap.size, 0, #[], rfl, Nat.le_refl _, (hb1.block w.heap.size (by simp)).trans (heap_alloc_new _ _), Nat.le_refl _, Nat.zero_le _, rfl, rfl⟩⟩
    · simpa using hnm
    · intro B hB
      simp only [Value.ownBlock, Option.some.injEq] at hB
      subst hB
      exact ⟨#[], _, (hb1.block w.heap.size (by simp)).trans (heap_alloc_new _ _), fun v hv => by simp at hv⟩
  obtain ⟨iM, hI, hz0, hz1, hz2⟩ := info_parts info_mv
  go_loopw [5, 7] (fun v x W => ∃ (i n B c : Nat) (f : Nat → Mv) (q : Int), i ≤ 6 ∧ n ≤ i ∧ x = .int .i64 i ∧ v = .slice (some ⟨B, 0, none⟩) n c ∧ p ≤ q ∧ q ≤ p + i * 16 ∧ Ds R (w.heap.size + 1) n₀ w (.slice (some ⟨B, 0, none⟩) n c) n f q W ∧ ∀ j, j < n → Good (f j)) (fun _ x _ => 6 - (intOf x).toNat)
  case atStart => exact ⟨0, 0, w.heap.size, 0, _, p, Nat.zero_le _, Nat.le_refl _, rfl, rfl, by omega, by omega, hD, fun j hj => absurd hj (Nat.not_lt_zero _)⟩
  case round =>
    clear hD
    obtain ⟨i, n, B, c, f, q, hi, hn, rfl, rfl, hq0, hq1, hD, hg⟩ := hrel
    by_cases hlt : i < 6 ∧ (n : Int) < most
    · obtain ⟨hlt, hn6⟩ := hlt
      have hlt' : (i : Int) < 6 := by omega
      have H2 := pick_any R q 4 wr n₀ h0 hD.rd (by omega) (by omega) (by omega)
      go_wp2_with (go_at_call 22; refine H2.mono ?_; clear H2; rintro e w2 ⟨⟨z1, rfl, l1, u1⟩, r2, t2, b2⟩; have hD2 := hD.to hR (by omega) r2 t2 b2)
      all_goals first | (exfalso; omega) | skip
      rotate_left
      · obtain ⟨s, hs, h8⟩ := hD2.names i hlt
        have hD3 := hD2.drew
        have hs3 : w2.drew.cell? ⟨w.heap.size + 1, i, none⟩ = some (.string s) := hs
        have HP : ∀ W, Ds R (w.heap.size + 1) n₀ w (.slice (some ⟨B, 0, none⟩) n c) n f (q + 1) W → Calls Tryz0.prog 22 #[.pointer (some ⟨R, 0, none⟩), .int .i64 4] W fun e w' => ∃ z : Int, e = .returned (.int .i64 z) ∧ 0 ≤ z ∧ z < 4 ∧ Ds R (w.heap.size + 1) n₀ w (.slice (some ⟨B, 0, none⟩) n c) n f (q + 1 + 1) w' ∧ But R W w' := fun W hW =>
          (pick_any R (q + 1) 4 W n₀ h0 hW.rd (by omega) (by omega) (by omega)).mono (fun e w' ⟨⟨z, h1, h2, h3⟩, h4, h5, h6⟩ => ⟨z, h1, h2, h3, hW.to hR (by omega) h4 h5 h6, h5⟩)
        have HM : ∀ W z, 0 ≤ z → z < 4 → Ds R (w.heap.size + 1) n₀ w (.slice (some ⟨B, 0, none⟩) n c) n f (q + 1 + 1) W → Calls Tryz0.prog 81 #[.pointer (some ⟨R, 0, none⟩), .string s, .int .i64 z] W fun e w' => ∃ m : Mv, e = .returned (.agg #[.string m.name, .bool m.lands, .int .i64 m.wake, .int .i64 m.est, .int .i64 m.late, .int .i64 m.prom]) ∧ Drawn m s ∧ (∃ q2, q + 1 + 1 ≤ q2 ∧ q2 ≤ q + 9 ∧ Ds R (w.heap.size + 1) n₀ w (.slice (some ⟨B, 0, none⟩) n c) n f q2 w') ∧ But R W w' := fun W z h1 h2 hW =>
          (l6Move_any R (q + 1 + 1) s z W n₀ h0 hW.rd (by omega) h1 (by omega)).mono (fun e w' ⟨⟨m, h3, h4⟩, ⟨q2, h5, h6, h7⟩, h8, h9⟩ => ⟨m, h3, h4, ⟨q2, h5, by omega, hW.to hR (by omega) h7 h8 h9⟩, h8⟩)
        have n21 : w.heap.size + 1 ≠ w2.heap.size := Nat.ne_of_lt hD2.nlt
        have n22 := n21.symm
        go_region_held3 (fun w' => w'.cell? ⟨w.heap.size + 1, i, none⟩ = some (.string s)) (go_keep)
          (first
            | (go_at_call 22; refine (HP _ hD3).mono ?_; clear HP; rintro e w4 ⟨z2, rfl, l2, u2, hD4, t4⟩; have hs4 : w4.cell? ⟨w.heap.size + 1, i, none⟩ = some (.string s) := (cell_but t4 (by have := hD3.nlt; omega) (by omega)).trans hs3; have n41 := Nat.ne_of_lt hD4.nlt; have n42 := n41.symm)
            | (go_at_call 22; refine (HP _ (hD3.grow hR h0 (by omega) ((Below.refl _ _).alloc (Nat.le_refl _) _))).mono ?_; clear HP; rintro e w4 ⟨z2, rfl, l2, u2, hD4, t4⟩; have hm4 : MvOwn w4 w2.heap.size ⟨ByteArray.empty, false, 0, 0, 0, 0⟩ := MvOwn.but (b := w2.heap.size) (heap_alloc_new w2.drew _) t4 (by have := hD2.rd.lt; omega); have hs4 : w4.cell? ⟨w.heap.size + 1, i, none⟩ = some (.string s) := (cell_but t4 (by have := hD2.nlt; simp; omega) (by omega)).trans ((World.cell?_alloc_past _ _ _ (hD3.nlt)).trans hs3))
            | (go_at_call 81; refine (HM _ z2 l2 u2 hD4).mono ?_; clear HM; rintro e w5 ⟨m, rfl, hdr, ⟨q2, lq, uq, hD5⟩, t5⟩; have n51 := Nat.ne_of_lt hD5.nlt; have n52 := n51.symm; have hs5 : w5.cell? ⟨w.heap.size + 1, i, none⟩ = some (.string s) := (cell_but t5 (by have := hD4.nlt; omega) (by omega)).trans hs4; try (have hm5 := hm4.but t5 (by have := hD2.rd.lt; omega); obtain ⟨k0, k1, k2, k3, k4, k5⟩ := hm5.at_; simp only [Nat.zero_add] at k0 k1 k2 k3 k4 k5; have fr := hm5.frozen))
            | (go_at_call 81; refine (HM _ z2 l2 u2 (hD4.grow hR h0 (by omega) ((Below.refl _ _).alloc (Nat.le_refl _) _))).mono ?_; clear HM; rintro e w5 ⟨m, rfl, hdr, ⟨q2, lq, uq, hD5⟩, t5⟩; have n51 := Nat.ne_of_lt hD5.nlt; have n52 := n51.symm; have hs5 : w5.cell? ⟨w.heap.size + 1, i, none⟩ = some (.string s) := (cell_but t5 (by have := hD4.nlt; simp; omega) (by omega)).trans ((World.cell?_alloc_past _ _ _ (hD4.nlt)).trans hs4); have hm5 : MvOwn w5 w4.heap.size ⟨ByteArray.empty, false, 0, 0, 0, 0⟩ := MvOwn.but (heap_alloc_new _ _) t5 (by have := hD4.rd.lt; omega); obtain ⟨k0, k1, k2, k3, k4, k5⟩ := hm5.at_; simp only [Nat.zero_add] at k0 k1 k2 k3 k4 k5; have fr := hm5.frozen))
        all_goals first
          | (have hM := ms_made hD5 hR h0 hm5 (by exact hD4.but.size) n42 (fun e => absurd (own_blt hD4.own _ e) (Nat.lt_irrefl _)) m
             revert hM
             generalize w4.heap.size = Bm
             generalize ((((((w5.setCell ⟨Bm, 0, none⟩ (.string m.name)).setCell ⟨Bm, 1, none⟩ (.bool m.lands)).setCell ⟨Bm, 2, none⟩ (.int .i64 m.wake)).setCell ⟨Bm, 3, none⟩ (.int .i64 m.est)).setCell ⟨Bm, 4, none⟩ (.int .i64 m.late)).setCell ⟨Bm, 5, none⟩ (.int .i64 m.prom)) = W6
             intro hM)
          | (have hM := ms_made hD5 hR h0 hm5 (by exact hD2.but.size) n22 (fun e => absurd (own_blt hD2.own _ e) (Nat.lt_irrefl _)) m
             revert hM
             generalize w2.heap.size = Bm
             generalize ((((((w5.setCell ⟨Bm, 0, none⟩ (.string m.name)).setCell ⟨Bm, 1, none⟩ (.bool m.lands)).setCell ⟨Bm, 2, none⟩ (.int .i64 m.wake)).setCell ⟨Bm, 3, none⟩ (.int .i64 m.est)).setCell ⟨Bm, 4, none⟩ (.int .i64 m.late)).setCell ⟨Bm, 5, none⟩ (.int .i64 m.prom)) = W6
             intro hM)
          | (have hM := ms_new hD5 hR h0 (by omega) m
             revert hM
             generalize w5.alloc (.cells #[.string m.name, .bool m.lands, .int .i64 m.wake, .int .i64 m.est, .int .i64 m.late, .int .i64 m.prom] 42) = W6
             generalize w5.heap.size = Bm
             intro hM)
        all_goals rename_i hh
        all_goals clear hh
        all_goals
          clear hD hD2 hD3 hD4 hD5 t4 hs hs3 hs4 hs5 t5
          try clear hm5 k0 k1 k2 k3 k4 k5 fr
          try clear hm4
          clear n21 n22 n51 n52
          try clear n41 n42
          have H6 := pick_any R q2 6 W6 n₀ h0 hM.ds.rd (by omega) (by omega) (by omega)
          go_wp2_with (first
            | (go_at_call 22; refine H6.mono ?_; clear H6; rintro e w7 ⟨⟨z3, rfl, l3, u3⟩, r7, t7, b7⟩; have hM7 := hM.to hR (by omega) r7 t7 b7; clear hM r7 t7 b7; obtain ⟨d0, d1, d2, d3, d4, d5⟩ := hM7.mv.at_; simp only [Nat.zero_add] at d0 d1 d2 d3 d4 d5)
            | (at_builtin; refine wpList_append_pl rfl (.tmp 49) (.tmp 51) 23 rfl w.heap.size 42 iM _ 6 56 (Tryz0.tr_underlying Tryz.underlying23) hI hz0 hz1 hz2 rfl (by decide) (.slice (some ⟨B, 0, none⟩) n c) n (mcells f n) (by rfl) (hM7.ds.grow hR h0 (by omega) ((Below.refl _ _).alloc (Nat.le_refl _) _)).own (hM7.ds.grow hR h0 (by omega) ((Below.refl _ _).alloc (Nat.le_refl _) _)).pl ⟨_, 0, none⟩ 1 1 (Mv.cells m).toList (by rfl) rfl (own_mv (heap_alloc_new _ _)) (one_mv _) (plain_mv _) plain_zero (by unfold maxLen; omega) (by omega) (Nat.le_trans hM7.ds.but.size (by simp)) ?_; intro v8 w8 ho8 hg8 hp8; have hD8 := (hM7.ds.grow hR h0 (by omega) ((Below.refl _ _).alloc (Nat.le_refl _) _)).append hR h0 (by omega) _ ho8 hg8 hp8; obtain ⟨g8, c8, rfl⟩ := own_some ho8))
          · obtain ⟨sp0, sp1, sp2⟩ := hdr.span
            have hwa : IntKind.i64.wrap (m.late - m.est) = m.late - m.est := by rw [IntKind.wrap_i64]; omega
            have hwb : IntKind.i64.wrap (m.late - m.est + 1) = m.late - m.est + 1 := by rw [IntKind.wrap_i64]; omega
            have HP := pick_any R (q2 + 1) (m.late - m.est + 1) w7.drew n₀ h0 hM7.drew.ds.rd (by omega) (by omega) (by omega)
            go_region_held3 (fun w' => w'.cell? ⟨Bm, 3, none⟩ = some (.int .i64 m.est) ∧ w'.cell? ⟨Bm, 4, none⟩ = some (.int .i64 m.late)) (go_keep)
              (first | (go_at_call 22; refine HP.mono ?_; clear HP; rintro e w9 ⟨⟨z4, rfl, l4, u4⟩, r9, t9, b9⟩; have hM8 := hM7.drew.to hR (by omega) r9 t9 b9; clear r9 t9 b9; obtain ⟨k0, k1, k2, k3, k4, k5⟩ := hM8.mv.at_; simp only [Nat.zero_add] at k0 k1 k2 k3 k4 k5; have fr := hM8.mv.frozen 5; have d35 : ∀ v, (w9.setCell ⟨Bm, 5, none⟩ v).cell? ⟨Bm, 3, none⟩ = some (.int .i64 m.est) := fun v => (World.cell?_setCell_other _ _ _ _ (by simp)).trans k3; have d45 : ∀ v, (w9.setCell ⟨Bm, 5, none⟩ v).cell? ⟨Bm, 4, none⟩ = some (.int .i64 m.late) := fun v => (World.cell?_setCell_other _ _ _ _ (by simp)).trans k4; have hwr : IntKind.i64.wrap (m.est + z4) = m.est + z4 := by rw [IntKind.wrap_i64]; omega))
            rename_i hh
            clear hh
            have hM9 := hM8.prom hR h0 (m.est + z4)
            have hg9 : Good { m with prom := m.est + z4 } := ⟨by rw [hdr.name]; exact h8, hdr.wake, hdr.span, by simp only; omega⟩
            revert hM9 hg9
            generalize w9.setCell ⟨Bm, 5, none⟩ (.int .i64 (m.est + z4)) = W9
            generalize ({ m with prom := m.est + z4 } : Mv) = m9
            intro hM9 hg9
            clear hM8 hM7 k0 k1 k2 k3 k4 k5 fr d35 d45 d0 d1 d2 d3 d4 d5
            obtain ⟨d0, d1, d2, d3, d4, d5⟩ := hM9.mv.at_
            simp only [Nat.zero_add] at d0 d1 d2 d3 d4 d5
            go_wp2_with (first
            | (at_builtin; refine wpList_append_pl rfl (.tmp 49) (.tmp 51) 23 rfl w.heap.size 42 iM _ 6 56 (Tryz0.tr_underlying Tryz.underlying23) hI hz0 hz1 hz2 rfl (by decide) (.slice (some ⟨B, 0, none⟩) n c) n (mcells f n) (by rfl) (hM9.ds.grow hR h0 (by omega) ((Below.refl _ _).alloc (Nat.le_refl _) _)).own (hM9.ds.grow hR h0 (by omega) ((Below.refl _ _).alloc (Nat.le_refl _) _)).pl ⟨_, 0, none⟩ 1 1 (Mv.cells m9).toList (by rfl) rfl (own_mv (heap_alloc_new _ _)) (one_mv _) (plain_mv _) plain_zero (by unfold maxLen; omega) (by omega) (Nat.le_trans hM9.ds.but.size (by simp)) ?_; intro v8 w8 ho8 hg8 hp8; have hD8 := (hM9.ds.grow hR h0 (by omega) ((Below.refl _ _).alloc (Nat.le_refl _) _)).append hR h0 (by omega) _ ho8 hg8 hp8; obtain ⟨g8, c8, rfl⟩ := own_some ho8))
            refine ⟨⟨i + 1, n + 1, g8, c8, _, _, by omega, by omega, by simp, rfl, by omega, by omega, hD8, good_put hg hg9⟩, ?_⟩
            simp [intOf]; omega
          · refine ⟨⟨i + 1, n + 1, g8, c8, _, _, by omega, by omega, by simp, rfl, by omega, by omega, hD8, good_put hg (.of hdr h8)⟩, ?_⟩
            simp [intOf]; omega
      · refine ⟨⟨i + 1, n, B, c, f, q + 1, by omega, by omega, by simp, rfl, by omega, by omega, hD2, hg⟩, ?_⟩
        simp [intOf]; omega
    · by_cases hi6 : (i : Int) < 6
      · have hn6 : ¬ (n : Int) < most := fun h => hlt ⟨by omega, h⟩
        go_wp2
        all_goals first | (exfalso; omega) | skip
        all_goals
          go_ret
          exact ⟨⟨B, c, n, rfl, by omega, f, hD.own, hD.pl, hg⟩, ⟨⟨q, hq0, by omega, hD.rd⟩, hD.but, hD.below⟩⟩
      · go_wp2
        all_goals first | (exfalso; omega) | skip
        all_goals
          go_ret
          exact ⟨⟨B, c, n, rfl, by omega, f, hD.own, hD.pl, hg⟩, ⟨⟨q, hq0, by omega, hD.rd⟩, hD.but, hD.below⟩⟩
end Go.Proofs.YtlmcblcijndipaaGreat

/- A move spoilt. -/
namespace Go.Proofs.YtlmcblcijndipaaGreat
open Go.RowKit
set_option linter.unusedVariables false

/-- a move whose fields fit, whatever they say -/
structure Fitting (m : Mv) : Prop where
  name : m.name.size ≤ 8
  wake : -9223372036854775808 ≤ m.wake ∧ m.wake ≤ 9223372036854775807
  est : -9223372036854775808 ≤ m.est ∧ m.est ≤ 9223372036854775807
  late : -9223372036854775808 ≤ m.late ∧ m.late ≤ 9223372036854775807
  prom : -9223372036854775808 ≤ m.prom ∧ m.prom ≤ 9223372036854775807
theorem Good.fitting {m : Mv} (h : Good m) : Fitting m := by
  obtain ⟨h1, h2, h3, h4⟩ := h
  exact ⟨h1, by omega, by omega, by omega, by omega⟩

theorem MvSt.to {R Br Bm n₀ : Nat} {w W W' : World} {m : Mv} {q q' : Int} (h : MvSt R Br Bm n₀ w m q W) (hr : R < w.heap.size) (h1 : w.heap.size ≤ Br) (h2 : w.heap.size ≤ Bm) (hRd : Rd W' R q') (hb : But R W W') (hB : Below n₀ W W') : MvSt R Br Bm n₀ w m q' W' := by
  have hs := h.below.size
  obtain ⟨m0, hm0⟩ := h.res
  exact ⟨h.mv.but hb (by omega), ⟨m0, hm0.but hb (by omega)⟩, hRd, fun k hk hne => (hb.block k (by omega) hne).trans (h.but k hk hne), h.below.trans hB⟩
theorem MvSt.alloc {R Br Bm n₀ : Nat} {w W : World} {m : Mv} {q : Int} (h : MvSt R Br Bm n₀ w m q W) (hr : R < w.heap.size) (h0 : n₀ ≤ R) (h1 : w.heap.size ≤ Br) (h2 : w.heap.size ≤ Bm) (o : Obj) : MvSt R Br Bm n₀ w m q (W.alloc o) := by
  have hb : Below W.heap.size W (W.alloc o) := (Below.refl _ _).alloc (Nat.le_refl _) _
  exact h.to hr h1 h2 (h.rd.below hb) (But.of hb) (hb.mono (by have := h.rd.lt; omega))
/-- a field turned -/
theorem MvSt.turn {R Br Bm n₀ : Nat} {w W : World} {m m' : Mv} {q : Int} (h : MvSt R Br Bm n₀ w m q W) (hr : R < w.heap.size) (h0 : n₀ ≤ R) (h1 : w.heap.size ≤ Br) (h2 : w.heap.size ≤ Bm) (hne : Br ≠ Bm) (k : Nat) (v : Value) (hv : MvOwn (W.setCell ⟨Bm, k, none⟩ v) Bm m') : MvSt R Br Bm n₀ w m' q (W.setCell ⟨Bm, k, none⟩ v) := by
  obtain ⟨m0, hm0⟩ := h.res
  exact ⟨hv, ⟨m0, (Below.heap_setCell W _ _ Br (by simpa using hne)).trans hm0⟩, h.rd.set (by omega) _ _, fun k hk hne => (Below.heap_setCell W _ _ k (by simp; omega)).trans (h.but k hk hne), h.below.setCell (by simp; omega) _⟩
theorem MvOwn.name {W : World} {b : Nat} {m : Mv} (h : MvOwn W b m) (x : ByteArray) : MvOwn (W.setCell ⟨b, 0, none⟩ (.string x)) b { m with name := x } := by
  have := heap_setCell_same W b 0 _ _ (.string x) h
  simpa [MvOwn] using this
theorem MvOwn.wake {W : World} {b : Nat} {m : Mv} (h : MvOwn W b m) (x : Int) : MvOwn (W.setCell ⟨b, 2, none⟩ (.int .i64 x)) b { m with wake := x } := by
  have := heap_setCell_same W b 2 _ _ (.int .i64 x) h
  simpa [MvOwn] using this
theorem MvOwn.est {W : World} {b : Nat} {m : Mv} (h : MvOwn W b m) (x : Int) : MvOwn (W.setCell ⟨b, 3, none⟩ (.int .i64 x)) b { m with est := x } := by
  have := heap_setCell_same W b 3 _ _ (.int .i64 x) h
  simpa [MvOwn] using this
theorem MvOwn.late {W : World} {b : Nat} {m : Mv} (h : MvOwn W b m) (x : Int) : MvOwn (W.setCell ⟨b, 4, none⟩ (.int .i64 x)) b { m with late := x } := by
  have := heap_setCell_same W b 4 _ _ (.int .i64 x) h
  simpa [MvOwn] using this
theorem MvOwn.prom {W : World} {b : Nat} {m : Mv} (h : MvOwn W b m) (x : Int) : MvOwn (W.setCell ⟨b, 5, none⟩ (.int .i64 x)) b { m with prom := x } := by
  have := heap_setCell_same W b 5 _ _ (.int .i64 x) h
  simpa [MvOwn] using this

theorem at3 (a b c : Int) (k : Nat) (hk : k < 3) : ∃ v : Int, (#[.int .i64 a, .int .i64 b, .int .i64 c] : Array Value)[k]? = some (.int .i64 v) ∧ (v = a ∨ v = b ∨ v = c) := by
  match k, hk with
  | 0, _ => exact ⟨a, rfl, .inl rfl⟩
  | 1, _ => exact ⟨b, rfl, .inr (.inl rfl)⟩
  | 2, _ => exact ⟨c, rfl, .inr (.inr rfl)⟩

theorem at4 (a b c d : Int) (k : Nat) (hk : k < 4) : ∃ v : Int, (#[.int .i64 a, .int .i64 b, .int .i64 c, .int .i64 d] : Array Value)[k]? = some (.int .i64 v) ∧ (v = a ∨ v = b ∨ v = c ∨ v = d) := by
  match k, hk with
  | 0, _ => exact ⟨a, rfl, .inl rfl⟩
  | 1, _ => exact ⟨b, rfl, .inr (.inl rfl)⟩
  | 2, _ => exact ⟨c, rfl, .inr (.inr (.inl rfl))⟩
  | 3, _ => exact ⟨d, rfl, .inr (.inr (.inr rfl))⟩

theorem at5 (a b c d e : Int) (k : Nat) (hk : k < 5) : ∃ v : Int, (#[.int .i64 a, .int .i64 b, .int .i64 c, .int .i64 d, .int .i64 e] : Array Value)[k]? = some (.int .i64 v) ∧ (v = a ∨ v = b ∨ v = c ∨ v = d ∨ v = e) := by
  match k, hk with
  | 0, _ => exact ⟨a, rfl, .inl rfl⟩
  | 1, _ => exact ⟨b, rfl, .inr (.inl rfl)⟩
  | 2, _ => exact ⟨c, rfl, .inr (.inr (.inl rfl))⟩
  | 3, _ => exact ⟨d, rfl, .inr (.inr (.inr (.inl rfl)))⟩
  | 4, _ => exact ⟨e, rfl, .inr (.inr (.inr (.inr rfl)))⟩

/-- one of four names -/
theorem of_any (R : Nat) (p : Int) (b : Nat) (f : Nat → ByteArray) (w : World) (n₀ : Nat) (h0 : n₀ ≤ R) (hr : Rd w R p) (hp : p ≤ 1000000) (hbR : b ≠ R) (hb : b < w.heap.size) (hf : ∀ i, i < 4 → w.cell? ⟨b, i, none⟩ = some (.string (f i))) :
    Calls Tryz0.prog 82 #[.pointer (some ⟨R, 0, none⟩), .slice (some ⟨b, 0, none⟩) 4 4] w fun e w' => (∃ i, i < 4 ∧ e = .returned (.string (f i))) ∧ Rd w' R (p + 1) ∧ But R w w' ∧ Below n₀ w w' := by
  have H1 := pick_any R p 4 w n₀ h0 hr (by omega) (by omega) (by omega)
  go_enter Tryz0.func82, Tryz.ntmps82
  go_wp2_with (go_at_call 22; refine H1.mono ?_; clear H1; rintro e w1 ⟨⟨z, rfl, l1, u1⟩, r1, t1, b1⟩; obtain ⟨k, rfl⟩ : ∃ k : Nat, z = (k : Int) := ⟨z.toNat, (by omega)⟩; have hc : w1.cell? ⟨b, k, none⟩ = some (.string (f k)) := (cell_but t1 hb hbR).trans (hf k (by omega)))
  go_ret
  exact ⟨⟨k, by omega, rfl⟩, r1, t1, b1⟩

/-- an operation of a region that draws its order is taken first, its slot said -/
theorem take_at {P : Program} {md : Region.Mode} {ops : Array Oper} {Q : Exit → Act → World → Prop} {S : World → Prop} {i : Nat} {oi : Oper} {v : Value} {fuel : Nat} {listed : Array Bool} {a : Act} {w : World} (d : Nat) (hi : ops[i]? = some oi) (hd : oi.dst = some d)
    (hs : Region.noSelect ops = true) (hf : Region.free md ops listed i = true) (hr : (Region.ready md ops listed).contains i = true)
    (hQ : ∀ c a w, Q (.panic c) (a.put (some d) v) w → Q (.panic c) a w) (hy : YieldsIf P ops S oi v a) (hS : S w)
    (h : wpAnyH P md ops Q S fuel (listed.setIfInBounds i true) (a.put (some d) v) w) : wpAnyH P md ops Q S (fuel + 1) listed a w :=
  wpAnyH_take hi hs hf hr (by rw [hd]; exact hQ) hy hS (by rw [hd]; exact h)

/-- four names -/
def fourN : Nat → ByteArray
  | 0 => ⟨#[]⟩
  | 1 => ⟨#[65]⟩
  | 2 => ⟨#[122, 122]⟩
  | _ => ⟨#[97, 49]⟩
theorem four_size (k : Nat) : (fourN k).size ≤ 8 := by
  match k with
  | 0 => decide
  | 1 => decide
  | 2 => decide
  | _ + 3 => exact (by decide : (⟨#[97, 49]⟩ : ByteArray).size ≤ 8)
theorem four_at (W : World) : ∀ i, i < 4 → (W.alloc (.cells #[.string ⟨#[]⟩, .string ⟨#[65]⟩, .string ⟨#[122, 122]⟩, .string ⟨#[97, 49]⟩] 9)).cell? ⟨W.heap.size, i, none⟩ = some (.string (fourN i)) := fun i hi => by
  rw [World.cell?_alloc_at _ _ _ _ rfl]
  match i, hi with
  | 0, _ => rfl
  | 1, _ => rfl
  | 2, _ => rfl
  | 3, _ => rfl
end Go.Proofs.YtlmcblcijndipaaGreat

/- A move spoilt. -/
namespace Go.Proofs.YtlmcblcijndipaaGreat
open Go.RowKit
set_option linter.unusedVariables false

set_option maxRecDepth 10000 in
set_option maxHeartbeats 4000000 in
theorem spoil_any (R : Nat) (p : Int) (m : Mv) (w : World) (n₀ : Nat) (h0 : n₀ ≤ R) (hr : Rd w R p) (hp : p ≤ 900000) (hg : Good m) :
    Calls Tryz0.prog 44 #[.pointer (some ⟨R, 0, none⟩), .agg #[.string m.name, .bool m.lands, .int .i64 m.wake, .int .i64 m.est, .int .i64 m.late, .int .i64 m.prom]] w fun e w' => (∃ m' : Mv, e = .returned (.agg #[.string m'.name, .bool m'.lands, .int .i64 m'.wake, .int .i64 m'.est, .int .i64 m'.late, .int .i64 m'.prom]) ∧ Fitting m') ∧ Went R p 7 n₀ w w' := by
  have hR := hr.lt
  have hS0 : MvSt R (w.heap.size + 1) w.heap.size n₀ w m p ((w.alloc (.cells #[.string m.name, .bool m.lands, .int .i64 m.wake, .int .i64 m.est, .int .i64 m.late, .int .i64 m.prom] 42)).alloc (.cells #[.string ByteArray.empty, .bool false, .int .i64 0, .int .i64 0, .int .i64 0, .int .i64 0] 42)) := by
    have bA : Below w.heap.size w (w.alloc (.cells #[.string m.name, .bool m.lands, .int .i64 m.wake, .int .i64 m.est, .int .i64 m.late, .int .i64 m.prom] 42)) := (Below.refl _ _).alloc (Nat.le_refl _) _
    have bB : Below w.heap.size w ((w.alloc (.cells #[.string m.name, .bool m.lands, .int .i64 m.wake, .int .i64 m.est, .int .i64 m.late, .int .i64 m.prom] 42)).alloc (.cells #[.string ByteArray.empty, .bool false, .int .i64 0, .int .i64 0, .int .i64 0, .int .i64 0] 42)) := bA.alloc (by simp) _
    have bC : ∀ o, Below (w.heap.size + 1) (w.alloc (.cells #[.string m.name, .bool m.lands, .int .i64 m.wake, .int .i64 m.est, .int .i64 m.late, .int .i64 m.prom] 42)) ((w.alloc (.cells #[.string m.name, .bool m.lands, .int .i64 m.wake, .int .i64 m.est, .int .i64 m.late, .int .i64 m.prom] 42)).alloc o) := fun o => (Below.refl _ _).alloc (by simp) _
    exact ⟨((bC _).block _ (by omega)).trans (heap_alloc_new _ _), ⟨⟨ByteArray.empty, false, 0, 0, 0, 0⟩, by have := heap_alloc_new (w.alloc (.cells #[.string m.name, .bool m.lands, .int .i64 m.wake, .int .i64 m.est, .int .i64 m.late, .int .i64 m.prom] 42)) (.cells #[.string ByteArray.empty, .bool false, .int .i64 0, .int .i64 0, .int .i64 0, .int .i64 0] 42); simpa [MvOwn] using this⟩, hr.below bB, fun k hk _ => bB.block k hk, bB.mono (by omega)⟩
  have H1 := pick_any R p 5 _ n₀ h0 hS0.rd (by omega) (by omega) (by omega)
  go_enter Tryz0.func44, Tryz.ntmps44
  go_wp2_with (go_at_call 22; refine H1.mono ?_; clear H1; rintro e w1 ⟨⟨z1, rfl, l1, u1⟩, r1, t1, b1⟩; have hS1 := hS0.to hR (by omega) (by omega) r1 t1 b1)
  · have hS2 := hS1.alloc hR h0 (by omega) (by omega) (.cells #[.string ⟨#[]⟩, .string ⟨#[65]⟩, .string ⟨#[122, 122]⟩, .string ⟨#[97, 49]⟩] 9)
    have H2 := of_any R (p + 1) w1.heap.size fourN _ n₀ h0 hS2.rd (by omega) (by have := hS1.rd.lt; omega) (by simp) (four_at w1)
    go_wp2_with (go_at_call 82; refine H2.mono ?_; clear H2; rintro e w4 ⟨⟨k, hk, rfl⟩, r4, t4, b4⟩; have hS4 := hS2.to hR (by omega) (by omega) r4 t4 b4; obtain ⟨d0, d1, d2, d3, d4, d5⟩ := hS4.mv.at_; simp only [Nat.zero_add] at d0 d1 d2 d3 d4 d5; have fr := hS4.mv.frozen 0; obtain ⟨m0, hm0⟩ := hS4.res; obtain ⟨k0, k1, k2, k3, k4, k5⟩ := hm0.at_; simp only [Nat.zero_add] at k0 k1 k2 k3 k4 k5; have fr0 := hm0.frozen)
    have hf : Fitting { m with name := fourN k } := ⟨four_size k, hg.fitting.wake, hg.fitting.est, hg.fitting.late, hg.fitting.prom⟩
    have hS5 := hS4.turn hR h0 (by omega) (by omega) (by omega) 0 _ (hS4.mv.name (fourN k))
    obtain ⟨m1, hm1⟩ := hS5.res
    have q := setMv_at (w4.setCell ⟨w.heap.size, 0, none⟩ (.string (fourN k))) (w.heap.size + 1) 0 { m with name := fourN k } _ _ hm1 (by simp)
    obtain ⟨q0, q1, q2, q3, q4, q5⟩ := q
    simp only [Nat.zero_add] at q0 q1 q2 q3 q4 q5
    change bodyPost _ _ _ _ _ (setMv (w4.setCell ⟨w.heap.size, 0, none⟩ (.string (fourN k))) (w.heap.size + 1) 0 { m with name := fourN k })
    exact bodyPost_ret (v := .agg #[.string (fourN k), .bool m.lands, .int .i64 m.wake, .int .i64 m.est, .int .i64 m.late, .int .i64 m.prom]) (by simp [results, Tryz.results44, go_sem, q0, q1, q2, q3, q4, q5]) rfl ⟨⟨{ m with name := fourN k }, rfl, hf⟩, hS5.went h0 (by omega) (by omega) _ (by omega)⟩
  · have hS2 := hS1.alloc hR h0 (by omega) (by omega) (.cells #[.int .i64 0, .int .i64 3, .int .i64 4, .int .i64 (-9223372036854775808)] 3)
    have H2 := pick_any R (p + 1) 4 _ n₀ h0 hS2.rd (by omega) (by omega) (by omega)
    go_wp2_with (go_at_call 22; refine H2.mono ?_; clear H2; rintro e w4 ⟨⟨z, rfl, l4, u4⟩, r4, t4, b4⟩; have hS4 := hS2.to hR (by omega) (by omega) r4 t4 b4; obtain ⟨k, rfl⟩ : ∃ k : Nat, z = (k : Int) := ⟨z.toNat, (by omega)⟩; obtain ⟨v, hv, hvs⟩ := at4 0 3 4 (-9223372036854775808) k (by omega); obtain ⟨d0, d1, d2, d3, d4, d5⟩ := hS4.mv.at_; simp only [Nat.zero_add] at d0 d1 d2 d3 d4 d5; have fr := hS4.mv.frozen 2; obtain ⟨m0, hm0⟩ := hS4.res; obtain ⟨k0, k1, k2, k3, k4, k5⟩ := hm0.at_; simp only [Nat.zero_add] at k0 k1 k2 k3 k4 k5; have fr0 := hm0.frozen; have hcv : w4.cell? ⟨w1.heap.size, k, none⟩ = some (.int .i64 v) := (cell_but t4 (by simp) (by have := hS1.rd.lt; omega)).trans ((World.cell?_alloc_at _ _ _ _ rfl).trans hv))
    have hf : Fitting { m with wake := v } := ⟨hg.fitting.name, by simp only; omega, hg.fitting.est, hg.fitting.late, hg.fitting.prom⟩
    have hS5 := hS4.turn hR h0 (by omega) (by omega) (by omega) 2 _ (hS4.mv.wake v)
    obtain ⟨m1, hm1⟩ := hS5.res
    have q := setMv_at (w4.setCell ⟨w.heap.size, 2, none⟩ (.int .i64 v)) (w.heap.size + 1) 0 { m with wake := v } _ _ hm1 (by simp)
    obtain ⟨q0, q1, q2, q3, q4, q5⟩ := q
    simp only [Nat.zero_add] at q0 q1 q2 q3 q4 q5
    change bodyPost _ _ _ _ _ (setMv (w4.setCell ⟨w.heap.size, 2, none⟩ (.int .i64 v)) (w.heap.size + 1) 0 { m with wake := v })
    exact bodyPost_ret (v := .agg #[.string m.name, .bool m.lands, .int .i64 v, .int .i64 m.est, .int .i64 m.late, .int .i64 m.prom]) (by simp [results, Tryz.results44, go_sem, q0, q1, q2, q3, q4, q5]) rfl ⟨⟨{ m with wake := v }, rfl, hf⟩, hS5.went h0 (by omega) (by omega) _ (by omega)⟩
  · obtain ⟨c0, c1, c2, c3, c4, c5⟩ := hS1.mv.at_
    simp only [Nat.zero_add] at c0 c1 c2 c3 c4 c5
    have hS2 := hS1.drew
    have hwl : IntKind.i64.wrap (m.late + 1) = m.late + 1 := by have := hg.span; rw [IntKind.wrap_i64]; omega
    have n1 : w.heap.size ≠ w1.heap.size := Nat.ne_of_lt hS1.mv.lt
    have n2 := n1.symm
    have HP : ∀ W, MvSt R (w.heap.size + 1) w.heap.size n₀ w m (p + 1) W → Calls Tryz0.prog 22 #[.pointer (some ⟨R, 0, none⟩), .int .i64 3] W fun e w' => ∃ z : Nat, e = .returned (.int .i64 (z : Int)) ∧ z < 3 ∧ MvSt R (w.heap.size + 1) w.heap.size n₀ w m (p + 1 + 1) w' ∧ But R W w' := fun W hW =>
      (pick_any R (p + 1) 3 W n₀ h0 hW.rd (by omega) (by omega) (by omega)).mono (fun e w' ⟨⟨z, h1, h2, h3⟩, h4, h5, h6⟩ => ⟨z.toNat, by rw [h1]; congr 2; omega, by omega, hW.to hR (by omega) (by omega) h4 h5 h6, h5⟩)
    go_region_with
      (first
        | (go_at_call 22; refine (HP _ hS2).mono ?_; clear HP; rintro e w4 ⟨k, rfl, hk, hS4, t4⟩; obtain ⟨v, hv, hvs⟩ := at3 (-1) m.late (m.late + 1) k hk; have hk1 : (k : Int) < 3 := (by omega); have hk2 : (0 : Int) ≤ (k : Int) := (by omega); obtain ⟨d0, d1, d2, d3, d4, d5⟩ := hS4.mv.at_; simp only [Nat.zero_add] at d0 d1 d2 d3 d4 d5; have fr := hS4.mv.frozen 3; have n4 := Nat.ne_of_lt hS4.mv.lt; have n5 := n4.symm; have cA : ∀ o, (w4.alloc o).cell? ⟨w.heap.size, 3, none⟩ = some (.int .i64 m.est) := fun o => (by have := (hS4.alloc hR h0 (by omega) (by omega) o).mv.at_.c3; simpa using this); have fA : ∀ o, (w4.alloc o).frozen? ⟨w.heap.size, 3, none⟩ = false := fun o => (hS4.alloc hR h0 (by omega) (by omega) o).mv.frozen 3; have cV : (w4.alloc (.cells #[.int .i64 (-1), .int .i64 m.late, .int .i64 (m.late + 1)] 3)).cell? ⟨w4.heap.size, k, none⟩ = some (.int .i64 v) := (World.cell?_alloc_at _ _ _ _ rfl).trans hv; have hvl : [Value.int .i64 (-1), Value.int .i64 m.late, Value.int .i64 (m.late + 1)][k]? = some (.int .i64 v) := (by simpa using hv))
        | (go_at_call 22; refine (HP _ (hS2.alloc hR h0 (by omega) (by omega) _)).mono ?_; clear HP; rintro e w4 ⟨k, rfl, hk, hS4, t4⟩; obtain ⟨v, hv, hvs⟩ := at3 (-1) m.late (m.late + 1) k hk; have hk1 : (k : Int) < 3 := (by omega); have hk2 : (0 : Int) ≤ (k : Int) := (by omega); obtain ⟨d0, d1, d2, d3, d4, d5⟩ := hS4.mv.at_; simp only [Nat.zero_add] at d0 d1 d2 d3 d4 d5; have fr := hS4.mv.frozen 3; have hcv : w4.cell? ⟨w1.heap.size, k, none⟩ = some (.int .i64 v) := (cell_but t4 (by simp) (by have := hS1.rd.lt; omega)).trans ((World.cell?_alloc_at _ _ _ _ rfl).trans hv)))
    all_goals have hf : Fitting { m with est := v } := ⟨hg.fitting.name, hg.fitting.wake, by have := hg.span; simp only; omega, hg.fitting.late, hg.fitting.prom⟩
    all_goals first
      | (have hS5 := hS4.turn hR h0 (by omega) (by omega) (by omega) 3 _ (hS4.mv.est v)
         revert hS5 hf
         generalize w4.setCell ⟨w.heap.size, 3, none⟩ (.int .i64 v) = W5
         generalize ({ m with est := v } : Mv) = m'
         intro hf hS5
         clear hcv)
      | (have hS5 := (hS4.alloc hR h0 (by omega) (by omega) (.cells #[.int .i64 (-1), .int .i64 m.late, .int .i64 (m.late + 1)] 3)).turn hR h0 (by omega) (by omega) (by omega) 3 _ ((hS4.alloc hR h0 (by omega) (by omega) (.cells #[.int .i64 (-1), .int .i64 m.late, .int .i64 (m.late + 1)] 3)).mv.est v)
         revert hS5 hf
         generalize (w4.alloc (.cells #[.int .i64 (-1), .int .i64 m.late, .int .i64 (m.late + 1)] 3)).setCell ⟨w.heap.size, 3, none⟩ (.int .i64 v) = W5
         generalize ({ m with est := v } : Mv) = m'
         intro hf hS5
         clear cA fA cV hvl n4 n5)
    all_goals
      clear hv hvs d0 d1 d2 d3 d4 d5 fr t4 hS4 hS2 hS1 c0 c1 c2 c3 c4 c5 n1 n2
      obtain ⟨d0, d1, d2, d3, d4, d5⟩ := hS5.mv.at_
      simp only [Nat.zero_add] at d0 d1 d2 d3 d4 d5
      obtain ⟨m0, hm0⟩ := hS5.res
      obtain ⟨k0, k1, k2, k3, k4, k5⟩ := hm0.at_
      simp only [Nat.zero_add] at k0 k1 k2 k3 k4 k5
      have fr := hm0.frozen
      go_wp2
      have q := setMv_at W5 (w.heap.size + 1) 0 m' _ _ hm0 (by simp)
      obtain ⟨q0, q1, q2, q3, q4, q5⟩ := q
      simp only [Nat.zero_add] at q0 q1 q2 q3 q4 q5
      change bodyPost _ _ _ _ _ (setMv W5 (w.heap.size + 1) 0 m')
      exact bodyPost_ret (v := .agg #[.string m'.name, .bool m'.lands, .int .i64 m'.wake, .int .i64 m'.est, .int .i64 m'.late, .int .i64 m'.prom]) (by simp [results, Tryz.results44, go_sem, q0, q1, q2, q3, q4, q5]) rfl ⟨⟨m', rfl, hf⟩, hS5.went h0 (by omega) (by omega) _ (by omega)⟩
  · obtain ⟨c0, c1, c2, c3, c4, c5⟩ := hS1.mv.at_
    simp only [Nat.zero_add] at c0 c1 c2 c3 c4 c5
    have hS2 := hS1.drew
    have n1 : w.heap.size ≠ w1.heap.size := Nat.ne_of_lt hS1.mv.lt
    have n2 := n1.symm
    have HP : ∀ W, MvSt R (w.heap.size + 1) w.heap.size n₀ w m (p + 1) W → Calls Tryz0.prog 22 #[.pointer (some ⟨R, 0, none⟩), .int .i64 3] W fun e w' => ∃ z : Nat, e = .returned (.int .i64 (z : Int)) ∧ z < 3 ∧ MvSt R (w.heap.size + 1) w.heap.size n₀ w m (p + 1 + 1) w' ∧ But R W w' := fun W hW =>
      (pick_any R (p + 1) 3 W n₀ h0 hW.rd (by omega) (by omega) (by omega)).mono (fun e w' ⟨⟨z, h1, h2, h3⟩, h4, h5, h6⟩ => ⟨z.toNat, by rw [h1]; congr 2; omega, by omega, hW.to hR (by omega) (by omega) h4 h5 h6, h5⟩)
    go_region_with
      (first
        | (go_at_call 22; refine (HP _ hS2).mono ?_; clear HP; rintro e w4 ⟨k, rfl, hk, hS4, t4⟩; obtain ⟨v, hv, hvs⟩ := at3 10000 10001 m.est k hk; have hk1 : (k : Int) < 3 := (by omega); have hk2 : (0 : Int) ≤ (k : Int) := (by omega); obtain ⟨d0, d1, d2, d3, d4, d5⟩ := hS4.mv.at_; simp only [Nat.zero_add] at d0 d1 d2 d3 d4 d5; have fr := hS4.mv.frozen 4; have d34 : ∀ v, (w4.setCell ⟨w.heap.size, 4, none⟩ v).cell? ⟨w.heap.size, 3, none⟩ = some (.int .i64 m.est) := fun v => (World.cell?_setCell_other _ _ _ _ (by simp)).trans d3; have n4 := Nat.ne_of_lt hS4.mv.lt; have n5 := n4.symm; have cA : ∀ o, (w4.alloc o).cell? ⟨w.heap.size, 4, none⟩ = some (.int .i64 m.late) := fun o => (by have := (hS4.alloc hR h0 (by omega) (by omega) o).mv.at_.c4; simpa using this); have fA : ∀ o, (w4.alloc o).frozen? ⟨w.heap.size, 4, none⟩ = false := fun o => (hS4.alloc hR h0 (by omega) (by omega) o).mv.frozen 4; have dA : ∀ o v, ((w4.alloc o).setCell ⟨w.heap.size, 4, none⟩ v).cell? ⟨w.heap.size, 3, none⟩ = some (.int .i64 m.est) := fun o v => (World.cell?_setCell_other _ _ _ _ (by simp)).trans ((World.cell?_alloc_past _ _ _ hS4.mv.lt).trans d3); have cV : (w4.alloc (.cells #[.int .i64 10000, .int .i64 10001, .int .i64 m.est] 3)).cell? ⟨w4.heap.size, k, none⟩ = some (.int .i64 v) := (World.cell?_alloc_at _ _ _ _ rfl).trans hv; have hvl : [Value.int .i64 10000, Value.int .i64 10001, Value.int .i64 m.est][k]? = some (.int .i64 v) := (by simpa using hv))
        | (go_at_call 22; refine (HP _ (hS2.alloc hR h0 (by omega) (by omega) _)).mono ?_; clear HP; rintro e w4 ⟨k, rfl, hk, hS4, t4⟩; obtain ⟨v, hv, hvs⟩ := at3 10000 10001 m.est k hk; have hk1 : (k : Int) < 3 := (by omega); have hk2 : (0 : Int) ≤ (k : Int) := (by omega); obtain ⟨d0, d1, d2, d3, d4, d5⟩ := hS4.mv.at_; simp only [Nat.zero_add] at d0 d1 d2 d3 d4 d5; have fr := hS4.mv.frozen 4; have d34 : ∀ v, (w4.setCell ⟨w.heap.size, 4, none⟩ v).cell? ⟨w.heap.size, 3, none⟩ = some (.int .i64 m.est) := fun v => (World.cell?_setCell_other _ _ _ _ (by simp)).trans d3; have hcv : w4.cell? ⟨w1.heap.size, k, none⟩ = some (.int .i64 v) := (cell_but t4 (by simp) (by have := hS1.rd.lt; omega)).trans ((World.cell?_alloc_at _ _ _ _ rfl).trans hv)))
    all_goals have hf : Fitting { m with late := v } := ⟨hg.fitting.name, hg.fitting.wake, hg.fitting.est, by have := hg.span; simp only; omega, hg.fitting.prom⟩
    all_goals first
      | (have hS5 := hS4.turn hR h0 (by omega) (by omega) (by omega) 4 _ (hS4.mv.late v)
         revert hS5 hf
         generalize w4.setCell ⟨w.heap.size, 4, none⟩ (.int .i64 v) = W5
         generalize ({ m with late := v } : Mv) = m'
         intro hf hS5
         clear hcv)
      | (have hS5 := (hS4.alloc hR h0 (by omega) (by omega) (.cells #[.int .i64 10000, .int .i64 10001, .int .i64 m.est] 3)).turn hR h0 (by omega) (by omega) (by omega) 4 _ ((hS4.alloc hR h0 (by omega) (by omega) (.cells #[.int .i64 10000, .int .i64 10001, .int .i64 m.est] 3)).mv.late v)
         revert hS5 hf
         generalize (w4.alloc (.cells #[.int .i64 10000, .int .i64 10001, .int .i64 m.est] 3)).setCell ⟨w.heap.size, 4, none⟩ (.int .i64 v) = W5
         generalize ({ m with late := v } : Mv) = m'
         intro hf hS5
         clear cA fA dA cV hvl n4 n5)
    all_goals
      clear hv hvs d0 d1 d2 d3 d4 d5 fr d34 t4 hS4 hS2 hS1 c0 c1 c2 c3 c4 c5 n1 n2
      obtain ⟨d0, d1, d2, d3, d4, d5⟩ := hS5.mv.at_
      simp only [Nat.zero_add] at d0 d1 d2 d3 d4 d5
      obtain ⟨m0, hm0⟩ := hS5.res
      obtain ⟨k0, k1, k2, k3, k4, k5⟩ := hm0.at_
      simp only [Nat.zero_add] at k0 k1 k2 k3 k4 k5
      have fr := hm0.frozen
      go_wp2
      have q := setMv_at W5 (w.heap.size + 1) 0 m' _ _ hm0 (by simp)
      obtain ⟨q0, q1, q2, q3, q4, q5⟩ := q
      simp only [Nat.zero_add] at q0 q1 q2 q3 q4 q5
      change bodyPost _ _ _ _ _ (setMv W5 (w.heap.size + 1) 0 m')
      exact bodyPost_ret (v := .agg #[.string m'.name, .bool m'.lands, .int .i64 m'.wake, .int .i64 m'.est, .int .i64 m'.late, .int .i64 m'.prom]) (by simp [results, Tryz.results44, go_sem, q0, q1, q2, q3, q4, q5]) rfl ⟨⟨m', rfl, hf⟩, hS5.went h0 (by omega) (by omega) _ (by omega)⟩
  · obtain ⟨c0, c1, c2, c3, c4, c5⟩ := hS1.mv.at_
    simp only [Nat.zero_add] at c0 c1 c2 c3 c4 c5
    have hS2 := hS1.drew
    have hw1 : IntKind.i64.wrap (m.est - 1) = m.est - 1 := by have := hg.span; rw [IntKind.wrap_i64]; omega
    have hw2 : IntKind.i64.wrap (m.late + 1) = m.late + 1 := by have := hg.span; rw [IntKind.wrap_i64]; omega
    have n1 : w.heap.size ≠ w1.heap.size := Nat.ne_of_lt hS1.mv.lt
    have n2 := n1.symm
    have HP : ∀ W, MvSt R (w.heap.size + 1) w.heap.size n₀ w m (p + 1) W → Calls Tryz0.prog 22 #[.pointer (some ⟨R, 0, none⟩), .int .i64 5] W fun e w' => ∃ z : Nat, e = .returned (.int .i64 (z : Int)) ∧ z < 5 ∧ MvSt R (w.heap.size + 1) w.heap.size n₀ w m (p + 1 + 1) w' ∧ But R W w' := fun W hW =>
      (pick_any R (p + 1) 5 W n₀ h0 hW.rd (by omega) (by omega) (by omega)).mono (fun e w' ⟨⟨z, h1, h2, h3⟩, h4, h5, h6⟩ => ⟨z.toNat, by rw [h1]; congr 2; omega, by omega, hW.to hR (by omega) (by omega) h4 h5 h6, h5⟩)
    refine wp_region_held_drew (S := fun w' => w'.cell? ⟨w.heap.size, 3, none⟩ = some (.int .i64 m.est) ∧ w'.cell? ⟨w.heap.size, 4, none⟩ = some (.int .i64 m.late)) (by kernel_rfl) ⟨c3, c4⟩ (fun hHeld => ?_)
    refine take_at (i := 0) (v := .pointer (some ⟨w.heap.size, 3, none⟩)) 7 rfl rfl (by kernel_rfl) (by kernel_rfl) (by kernel_rfl) (fun _ _ _ h => h) (Or.inl ⟨by rfl, fun w' hSw => by (obtain ⟨hs3, hs4⟩ := hSw; go_simp)⟩) hHeld ?_
    simp only [Act.put, List.setIfInBounds_toArray, List.set_cons_zero, List.set_cons_succ]
    refine take_at (i := 1) (v := .int .i64 m.est) 8 rfl rfl (by kernel_rfl) (by kernel_rfl) (by kernel_rfl) (fun _ _ _ h => h) (Or.inl ⟨by rfl, fun w' hSw => by (obtain ⟨hs3, hs4⟩ := hSw; go_simp)⟩) hHeld ?_
    simp only [Act.put, List.setIfInBounds_toArray, List.set_cons_zero, List.set_cons_succ]
    refine take_at (i := 2) (v := .int .i64 (m.est - 1)) 9 rfl rfl (by kernel_rfl) (by kernel_rfl) (by kernel_rfl) (fun _ _ _ h => h) (Or.inl ⟨by rfl, fun w' hSw => by (obtain ⟨hs3, hs4⟩ := hSw; go_simp)⟩) hHeld ?_
    simp only [Act.put, List.setIfInBounds_toArray, List.set_cons_zero, List.set_cons_succ]
    refine take_at (i := 3) (v := .pointer (some ⟨w.heap.size, 3, none⟩)) 10 rfl rfl (by kernel_rfl) (by kernel_rfl) (by kernel_rfl) (fun _ _ _ h => h) (Or.inl ⟨by rfl, fun w' hSw => by (obtain ⟨hs3, hs4⟩ := hSw; go_simp)⟩) hHeld ?_
    simp only [Act.put, List.setIfInBounds_toArray, List.set_cons_zero, List.set_cons_succ]
    refine take_at (i := 4) (v := .int .i64 m.est) 11 rfl rfl (by kernel_rfl) (by kernel_rfl) (by kernel_rfl) (fun _ _ _ h => h) (Or.inl ⟨by rfl, fun w' hSw => by (obtain ⟨hs3, hs4⟩ := hSw; go_simp)⟩) hHeld ?_
    simp only [Act.put, List.setIfInBounds_toArray, List.set_cons_zero, List.set_cons_succ]
    refine take_at (i := 5) (v := .pointer (some ⟨w.heap.size, 4, none⟩)) 12 rfl rfl (by kernel_rfl) (by kernel_rfl) (by kernel_rfl) (fun _ _ _ h => h) (Or.inl ⟨by rfl, fun w' hSw => by (obtain ⟨hs3, hs4⟩ := hSw; go_simp)⟩) hHeld ?_
    simp only [Act.put, List.setIfInBounds_toArray, List.set_cons_zero, List.set_cons_succ]
    refine take_at (i := 6) (v := .int .i64 m.late) 13 rfl rfl (by kernel_rfl) (by kernel_rfl) (by kernel_rfl) (fun _ _ _ h => h) (Or.inl ⟨by rfl, fun w' hSw => by (obtain ⟨hs3, hs4⟩ := hSw; go_simp)⟩) hHeld ?_
    simp only [Act.put, List.setIfInBounds_toArray, List.set_cons_zero, List.set_cons_succ]
    refine take_at (i := 7) (v := .pointer (some ⟨w.heap.size, 4, none⟩)) 14 rfl rfl (by kernel_rfl) (by kernel_rfl) (by kernel_rfl) (fun _ _ _ h => h) (Or.inl ⟨by rfl, fun w' hSw => by (obtain ⟨hs3, hs4⟩ := hSw; go_simp)⟩) hHeld ?_
    simp only [Act.put, List.setIfInBounds_toArray, List.set_cons_zero, List.set_cons_succ]
    refine take_at (i := 8) (v := .int .i64 m.late) 15 rfl rfl (by kernel_rfl) (by kernel_rfl) (by kernel_rfl) (fun _ _ _ h => h) (Or.inl ⟨by rfl, fun w' hSw => by (obtain ⟨hs3, hs4⟩ := hSw; go_simp)⟩) hHeld ?_
    simp only [Act.put, List.setIfInBounds_toArray, List.set_cons_zero, List.set_cons_succ]
    refine take_at (i := 9) (v := .int .i64 (m.late + 1)) 16 rfl rfl (by kernel_rfl) (by kernel_rfl) (by kernel_rfl) (fun _ _ _ h => h) (Or.inl ⟨by rfl, fun w' hSw => by (obtain ⟨hs3, hs4⟩ := hSw; go_simp)⟩) hHeld ?_
    simp only [Act.put, List.setIfInBounds_toArray, List.set_cons_zero, List.set_cons_succ]
    refine take_at (i := 11) (v := .pointer (some ⟨R, 0, none⟩)) 18 rfl rfl (by kernel_rfl) (by kernel_rfl) (by kernel_rfl) (fun _ _ _ h => h) (Or.inl ⟨by rfl, fun w' hSw => by (obtain ⟨hs3, hs4⟩ := hSw; go_simp)⟩) hHeld ?_
    simp only [Act.put, List.setIfInBounds_toArray, List.set_cons_zero, List.set_cons_succ]
    refine wpAnyH_ready (rs := [10, 12]) (by kernel_rfl) (by simp) ?_
    refine AllReadyH.cons rfl (fun K hK => ?_) (AllReadyH.cons rfl (fun K hK => ?_) AllReadyH.nil)
    · go_simp
      have hSA := (hS1.alloc hR h0 (by omega) (by omega) (.cells #[.int .i64 (-2), .int .i64 (m.est - 1), .int .i64 m.est, .int .i64 m.late, .int .i64 (m.late + 1)] 3)).drew
      obtain ⟨a0, a1, a2, a3, a4, a5⟩ := hSA.mv.at_
      simp only [Nat.zero_add] at a0 a1 a2 a3 a4 a5
      refine hK.out _ _ ⟨a3, a4⟩ (fun hHeld => ?_)
      clear hK K
      refine wpAnyH_ready (rs := [12]) (by kernel_rfl) (by simp) ?_
      refine AllReadyH.cons rfl (fun K hK => ?_) AllReadyH.nil
      go_simp
      go_at_call 22
      refine (HP _ hSA).mono ?_
      rintro e w4 ⟨k, rfl, hk, hS4, t4⟩
      obtain ⟨v, hv, hvs⟩ := at5 (-2) (m.est - 1) m.est m.late (m.late + 1) k hk
      have hk1 : (k : Int) < 5 := by omega
      have hk2 : (0 : Int) ≤ (k : Int) := by omega
      obtain ⟨d0, d1, d2, d3, d4, d5⟩ := hS4.mv.at_
      simp only [Nat.zero_add] at d0 d1 d2 d3 d4 d5
      have hcv : w4.cell? ⟨w1.heap.size, k, none⟩ = some (.int .i64 v) := (cell_but t4 (by simp) (by have := hS1.rd.lt; omega)).trans ((World.cell?_alloc_at _ _ _ _ rfl).trans hv)
      have fr5 := hS4.mv.frozen 5
      go_wp2_with fail
      refine hK.out _ _ ⟨d3, d4⟩ (fun hHeld => ?_)
      clear hK K
      refine wpAnyH_ready (rs := [13]) (by kernel_rfl) (by simp) ?_
      refine AllReadyH.cons rfl (fun K hK => ?_) AllReadyH.nil
      go_simp
      refine hK.out _ _ ⟨d3, d4⟩ (fun hHeld => ?_)
      clear hK K
      refine wpAnyH_ready (rs := [14]) (by kernel_rfl) (by simp) ?_
      refine AllReadyH.cons rfl (fun K hK => ?_) AllReadyH.nil
      go_simp
      refine hK.out _ _ ⟨d3, d4⟩ (fun hHeld => ?_)
      clear hK K
      refine wpAnyH_ready (rs := [15]) (by kernel_rfl) (by simp) ?_
      refine AllReadyH.cons rfl (fun K hK => ?_) AllReadyH.nil
      go_simp
      refine hK.out _ _ ⟨d3, d4⟩ (fun hHeld => ?_)
      clear hK K
      refine wpAnyH_ready (rs := [16]) (by kernel_rfl) (by simp) ?_
      refine AllReadyH.cons rfl (fun K hK => ?_) AllReadyH.nil
      go_simp
      have hS5 := hS4.turn hR h0 (by omega) (by omega) (by omega) 5 _ (hS4.mv.prom v)
      obtain ⟨b0, b1, b2, b3, b4, b5⟩ := hS5.mv.at_
      simp only [Nat.zero_add] at b0 b1 b2 b3 b4 b5
      refine hK.out _ _ ⟨b3, b4⟩ (fun hHeld => ?_)
      clear hK K
      have hf : Fitting { m with prom := v } := ⟨hg.fitting.name, hg.fitting.wake, hg.fitting.est, hg.fitting.late, by have := hg.span; simp only; omega⟩
      refine wpAnyH_done (by kernel_rfl) ?_ _
      revert hS5 hf
      generalize w4.setCell ⟨w.heap.size, 5, none⟩ (.int .i64 v) = W5
      generalize ({ m with prom := v } : Mv) = m'
      intro hS5 hf
      clear hv hvs d0 d1 d2 d3 d4 d5 b0 b1 b2 b3 b4 b5 a0 a1 a2 a3 a4 a5 fr5 hcv hHeld t4 hS4 hSA hS2 hS1 c0 c1 c2 c3 c4 c5 n1 n2 HP
      obtain ⟨d0, d1, d2, d3, d4, d5⟩ := hS5.mv.at_
      simp only [Nat.zero_add] at d0 d1 d2 d3 d4 d5
      obtain ⟨m0, hm0⟩ := hS5.res
      obtain ⟨k0, k1, k2, k3, k4, k5⟩ := hm0.at_
      simp only [Nat.zero_add] at k0 k1 k2 k3 k4 k5
      have fr := hm0.frozen
      go_wp2
      have q := setMv_at W5 (w.heap.size + 1) 0 m' _ _ hm0 (by simp)
      obtain ⟨q0, q1, q2, q3, q4, q5⟩ := q
      simp only [Nat.zero_add] at q0 q1 q2 q3 q4 q5
      change bodyPost _ _ _ _ _ (setMv W5 (w.heap.size + 1) 0 m')
      exact bodyPost_ret (v := .agg #[.string m'.name, .bool m'.lands, .int .i64 m'.wake, .int .i64 m'.est, .int .i64 m'.late, .int .i64 m'.prom]) (by simp [results, Tryz.results44, go_sem, q0, q1, q2, q3, q4, q5]) rfl ⟨⟨m', rfl, hf⟩, hS5.went h0 (by omega) (by omega) _ (by omega)⟩
    · go_simp
      go_at_call 22
      refine (HP _ hS2).mono ?_
      rintro e w4 ⟨k, rfl, hk, hS4, t4⟩
      obtain ⟨v, hv, hvs⟩ := at5 (-2) (m.est - 1) m.est m.late (m.late + 1) k hk
      have hk1 : (k : Int) < 5 := by omega
      have hk2 : (0 : Int) ≤ (k : Int) := by omega
      obtain ⟨d0, d1, d2, d3, d4, d5⟩ := hS4.mv.at_
      simp only [Nat.zero_add] at d0 d1 d2 d3 d4 d5
      go_wp2_with fail
      refine hK.out _ _ ⟨d3, d4⟩ (fun hHeld => ?_)
      clear hK K
      have hSB := hS4.alloc hR h0 (by omega) (by omega) (.cells #[.int .i64 (-2), .int .i64 (m.est - 1), .int .i64 m.est, .int .i64 m.late, .int .i64 (m.late + 1)] 3)
      obtain ⟨a0, a1, a2, a3, a4, a5⟩ := hSB.mv.at_
      simp only [Nat.zero_add] at a0 a1 a2 a3 a4 a5
      have n4 := Nat.ne_of_lt hS4.mv.lt
      have n5 := n4.symm
      have cV : (w4.alloc (.cells #[.int .i64 (-2), .int .i64 (m.est - 1), .int .i64 m.est, .int .i64 m.late, .int .i64 (m.late + 1)] 3)).cell? ⟨w4.heap.size, k, none⟩ = some (.int .i64 v) := (World.cell?_alloc_at _ _ _ _ rfl).trans hv
      have hvl : [Value.int .i64 (-2), Value.int .i64 (m.est - 1), Value.int .i64 m.est, Value.int .i64 m.late, Value.int .i64 (m.late + 1)][k]? = some (.int .i64 v) := by simpa using hv
      have fr5 := hSB.mv.frozen 5
      refine wpAnyH_ready (rs := [10]) (by kernel_rfl) (by simp) ?_
      refine AllReadyH.cons rfl (fun K hK => ?_) AllReadyH.nil
      go_simp
      refine hK.out _ _ ⟨a3, a4⟩ (fun hHeld => ?_)
      clear hK K
      refine wpAnyH_ready (rs := [13]) (by kernel_rfl) (by simp) ?_
      refine AllReadyH.cons rfl (fun K hK => ?_) AllReadyH.nil
      go_simp
      refine hK.out _ _ ⟨a3, a4⟩ (fun hHeld => ?_)
      clear hK K
      refine wpAnyH_ready (rs := [14]) (by kernel_rfl) (by simp) ?_
      refine AllReadyH.cons rfl (fun K hK => ?_) AllReadyH.nil
      go_simp
      refine hK.out _ _ ⟨a3, a4⟩ (fun hHeld => ?_)
      clear hK K
      refine wpAnyH_ready (rs := [15]) (by kernel_rfl) (by simp) ?_
      refine AllReadyH.cons rfl (fun K hK => ?_) AllReadyH.nil
      go_simp
      refine hK.out _ _ ⟨a3, a4⟩ (fun hHeld => ?_)
      clear hK K
      refine wpAnyH_ready (rs := [16]) (by kernel_rfl) (by simp) ?_
      refine AllReadyH.cons rfl (fun K hK => ?_) AllReadyH.nil
      go_simp
      have hS5 := hSB.turn hR h0 (by omega) (by omega) (by omega) 5 _ (hSB.mv.prom v)
      obtain ⟨b0, b1, b2, b3, b4, b5⟩ := hS5.mv.at_
      simp only [Nat.zero_add] at b0 b1 b2 b3 b4 b5
      refine hK.out _ _ ⟨b3, b4⟩ (fun hHeld => ?_)
      clear hK K
      have hf : Fitting { m with prom := v } := ⟨hg.fitting.name, hg.fitting.wake, hg.fitting.est, hg.fitting.late, by have := hg.span; simp only; omega⟩
      refine wpAnyH_done (by kernel_rfl) ?_ _
      revert hS5 hf
      generalize (w4.alloc (.cells #[.int .i64 (-2), .int .i64 (m.est - 1), .int .i64 m.est, .int .i64 m.late, .int .i64 (m.late + 1)] 3)).setCell ⟨w.heap.size, 5, none⟩ (.int .i64 v) = W5
      generalize ({ m with prom := v } : Mv) = m'
      intro hS5 hf
      clear hv hvs hvl cV n4 n5 d0 d1 d2 d3 d4 d5 b0 b1 b2 b3 b4 b5 a0 a1 a2 a3 a4 a5 fr5 hHeld t4 hS4 hSB hS2 hS1 c0 c1 c2 c3 c4 c5 n1 n2 HP
      obtain ⟨d0, d1, d2, d3, d4, d5⟩ := hS5.mv.at_
      simp only [Nat.zero_add] at d0 d1 d2 d3 d4 d5
      obtain ⟨m0, hm0⟩ := hS5.res
      obtain ⟨k0, k1, k2, k3, k4, k5⟩ := hm0.at_
      simp only [Nat.zero_add] at k0 k1 k2 k3 k4 k5
      have fr := hm0.frozen
      go_wp2
      have q := setMv_at W5 (w.heap.size + 1) 0 m' _ _ hm0 (by simp)
      obtain ⟨q0, q1, q2, q3, q4, q5⟩ := q
      simp only [Nat.zero_add] at q0 q1 q2 q3 q4 q5
      change bodyPost _ _ _ _ _ (setMv W5 (w.heap.size + 1) 0 m')
      exact bodyPost_ret (v := .agg #[.string m'.name, .bool m'.lands, .int .i64 m'.wake, .int .i64 m'.est, .int .i64 m'.late, .int .i64 m'.prom]) (by simp [results, Tryz.results44, go_sem, q0, q1, q2, q3, q4, q5]) rfl ⟨⟨m', rfl, hf⟩, hS5.went h0 (by omega) (by omega) _ (by omega)⟩
end Go.Proofs.YtlmcblcijndipaaGreat

/- Moves drawn, one perhaps spoilt. -/
namespace Go.Proofs.YtlmcblcijndipaaGreat
open Go.RowKit
set_option linter.unusedVariables false

/-- the cells of a row of one's own can be written -/
theorem own_open {w : World} {base B n c : Nat} {T : TypeId} {size : Nat} {xs : List Value} (h : w.ownsRow base T size (.slice (some ⟨B, 0, none⟩) n c) n xs) :
    base ≤ B ∧ B < w.heap.size ∧ ∃ cur, w.heap[B]? = some (.cells cur T (0, 0)) ∧ xs.length ≤ cur.size := by
  obtain ⟨h1, h2 | ⟨g, cap, cur, h2, h3, h4, h5, h6, h7, h8⟩⟩ := h
  · exact absurd h2.1 (by simp)
  · simp at h2
    obtain ⟨rfl, rfl⟩ := h2
    refine ⟨h3, (Array.getElem?_eq_some_iff.1 h4).1, cur, h4, ?_⟩
    rw [h1, h7]
    exact Nat.mul_le_mul_right _ h5
/-- a move stored into a row -/
theorem row_set {w : World} {B n k : Nat} {f : Nat → Mv} {cur : Array Value} {T : TypeId} (h : MvRow w B 0 n f) (hg : w.heap[B]? = some (.cells cur T (0, 0))) (hs : n * 6 ≤ cur.size) (hk : k < n) (m : Mv) : MvRow (setMv w B (k * 6) m) B 0 n (fun j => if j = k then m else f j) := by
  intro i hi
  by_cases e : i = k
  · subst e
    simp only [if_true]
    rw [Nat.zero_add]
    exact setMv_at w B (i * 6) m cur T hg (by omega)
  · simp only [if_neg e]
    obtain ⟨c0, c1, c2, c3, c4, c5⟩ := h i hi
    have o : ∀ j, j < 6 → (setMv w B (k * 6) m).cell? ⟨B, 0 + i * 6 + j, none⟩ = w.cell? ⟨B, 0 + i * 6 + j, none⟩ := fun j hj => setMv_other w B (k * 6) m _ (by omega)
    exact ⟨(o 0 (by omega)).trans c0, (o 1 (by omega)).trans c1, (o 2 (by omega)).trans c2, (o 3 (by omega)).trans c3, (o 4 (by omega)).trans c4, (o 5 (by omega)).trans c5⟩

theorem but_setMv {R : Nat} {w W : World} (h : But R w W) {B : Nat} (hB : w.heap.size ≤ B) (o : Nat) (m : Mv) : But R w (setMv W B o m) :=
  ⟨by have := h.size; simpa [setMv] using this, fun k hk hne => (setMv_block W B o m k (by omega)).trans (h.block k hk hne)⟩
theorem MvRow.but {R b off n : Nat} {w w' : World} {f : Nat → Mv} (h : MvRow w b off n f) (hb : But R w w') (hlt : b < w.heap.size) (hne : b ≠ R) : MvRow w' b off n f := fun i hi => by
  obtain ⟨c0, c1, c2, c3, c4, c5⟩ := h i hi
  exact ⟨(cell_but hb hlt hne).trans c0, (cell_but hb hlt hne).trans c1, (cell_but hb hlt hne).trans c2, (cell_but hb hlt hne).trans c3, (cell_but hb hlt hne).trans c4, (cell_but hb hlt hne).trans c5⟩
theorem fit_put {f : Nat → Mv} {n k : Nat} {m : Mv} (hg : ∀ j, j < n → Good (f j)) (hm : Fitting m) : ∀ j, j < n → Fitting ((fun j => if j = k then m else f j) j) := fun j hj => by
  by_cases e : j = k
  · simp only [if_pos e]; exact hm
  · simp only [if_neg e]; exact (hg j hj).fitting

theorem plain_setMv {w : World} {B : Nat} (h : PlainRow w B) (o : Nat) (m : Mv) : PlainRow (setMv w B o m) B :=
  (((((h.set (.inr (.inr ⟨_, rfl⟩))).set (.inl ⟨_, rfl⟩)).set (.inr (.inl ⟨_, _, rfl⟩))).set (.inr (.inl ⟨_, _, rfl⟩))).set (.inr (.inl ⟨_, _, rfl⟩))).set (.inr (.inl ⟨_, _, rfl⟩))
set_option maxRecDepth 10000 in
set_option maxHeartbeats 4000000 in
theorem anyMoves_most (R : Nat) (p : Int) (most : Int) (w : World) (n₀ : Nat) (h0 : n₀ ≤ R) (hr : Rd w R p) (hp : p ≤ 700000) :
    Calls Tryz0.prog 21 #[.pointer (some ⟨R, 0, none⟩), .int .i64 most] w fun e w' => (∃ (B c n : Nat) (f : Nat → Mv), e = .returned (.slice (some ⟨B, 0, none⟩) n c) ∧ n ≤ 6 ∧ w.heap.size ≤ B ∧ B < w'.heap.size ∧ MvRow w' B 0 n f ∧ (∀ j, j < n → Fitting (f j)) ∧ PlainRow w' B) ∧ Went R p 110 n₀ w w' := by
  have hR := hr.lt
  have H1 := l6Moves_most R p most w n₀ h0 hr (by omega)
  go_enter Tryz0.func21, Tryz.ntmps21
  go_wp2_with (first
    | (go_at_call 43; refine H1.mono ?_; clear H1; rintro e w1 ⟨⟨B, c, n, f, rfl, hn, ho, hpl, hg⟩, ⟨q, hq0, hq1, r1⟩, t1, b1⟩; have pl1 : PlainRow w1 B := hpl B rfl; have hloB : w.heap.size ≤ B := (own_open ho).1; have H2 := pick_any R q 16 w1 n₀ h0 r1 (by omega) (by omega) (by omega))
    | (go_at_call 22; refine H2.mono ?_; clear H2; rintro e w2 ⟨⟨z2, rfl, l2, u2⟩, r2, t2, b2⟩; have ho2 := own_but ho hR t2 b2; have pl2 : PlainRow w2 B := pl1.same (t2.block B pl1.lt (by omega)); have T2 := t1.trans t2; have B2 := b1.trans b2; have H3 := pick_any R (q + 1) n w2 n₀ h0 r2 (by omega) (by omega) (by omega))
    | (go_at_call 22; refine H3.mono ?_; clear H3; rintro e w3 ⟨⟨z3, rfl, l3, u3⟩, r3, t3, b3⟩; obtain ⟨k, rfl⟩ : ∃ k : Nat, z3 = (k : Int) := ⟨z3.toNat, (by omega)⟩; have hk : k < n := (by omega); have ho3 := own_but ho2 hR t3 b3; have pl3 : PlainRow w3 B := pl2.same (t3.block B pl2.lt (by omega)); have T3 := T2.trans t3; have B3 := B2.trans b3; obtain ⟨c0, c1, c2, c3, c4, c5⟩ := own_row ho3 k hk; simp only [Nat.zero_add] at c0 c1 c2 c3 c4 c5; have H4 := spoil_any R (q + 1 + 1) (f k) w3 n₀ h0 r3 (by omega) (hg k hk))
    | (go_at_call 44; refine H4.mono ?_; clear H4; rintro e w4 ⟨⟨m', rfl, hf'⟩, ⟨q4, hq2, hq3, r4⟩, t4, b4⟩; have ho4 := own_but ho3 hR t4 b4; have pl4 : PlainRow w4 B := pl3.same (t4.block B pl3.lt (by omega)); have T4 := T3.trans t4; have B4 := B3.trans b4; obtain ⟨hl4, hlt4, cur, hcur, hsz⟩ := own_open ho4; have row4 := own_row ho4; obtain ⟨d0, d1, d2, d3, d4, d5⟩ := row4 k hk; simp only [Nat.zero_add] at d0 d1 d2 d3 d4 d5; have fr := fun j => frozen_of_row w4 _ j _ _ hcur))
  · rw [mcells_len] at hsz
    go_ret
    exact ⟨⟨B, c, n, _, rfl, hn, hl4, by simpa using hlt4, row_set row4 hcur hsz hk m', fit_put hg hf', plain_setMv pl4 _ _⟩, ⟨q4, by omega, by omega, r4.setMv (by omega) _ _⟩, but_setMv T4 hl4 _ _, setMv_below B4 (by omega) _ _⟩
  · obtain ⟨hl2, hlt2, _⟩ := own_open ho2
    go_ret
    exact ⟨⟨B, c, n, f, rfl, hn, hl2, hlt2, own_row ho2, fun j hj => (hg j hj).fitting, pl2⟩, ⟨q + 1, by omega, by omega, r2⟩, T2, B2⟩
  · obtain ⟨hl1, hlt1, _⟩ := own_open ho
    go_ret
    exact ⟨⟨B, c, n, f, rfl, hn, hl1, hlt1, own_row ho, fun j hj => (hg j hj).fitting, pl1⟩, ⟨q, by omega, by omega, r1⟩, t1, b1⟩
end Go.Proofs.YtlmcblcijndipaaGreat

/- Moves and a number drawn for StripBest. -/
namespace Go.Proofs.YtlmcblcijndipaaGreat
open Go.RowKit
set_option linter.unusedVariables false

theorem two_mul {x y : Int} (hx : 0 ≤ x) (hx1 : x < 2) (hy : 0 ≤ y) (hy1 : y < 2) : 0 ≤ x * y ∧ x * y ≤ 1 := by
  have h1 : x = 0 ∨ x = 1 := by omega
  rcases h1 with rfl | rfl <;> omega
def BestDrawn (w : World) (e : Ending) (w' : World) : Prop := ∃ (B c n : Nat) (f : Nat → Mv) (sh : Int), e = .returned (.tuple #[.slice (some ⟨B, 0, none⟩) n c, .int .i64 sh]) ∧ n ≤ 6 ∧ -1 ≤ sh ∧ sh ≤ 7 ∧ w.heap.size ≤ B ∧ B < w'.heap.size ∧ MvRow w' B 0 n f ∧ (∀ j, j < n → Fitting (f j)) ∧ PlainRow w' B
set_option maxRecDepth 10000 in
set_option maxHeartbeats 4000000 in
theorem drawBest_any (a : Option Addr) (n cap : Nat) (c : Nat → Int) (w : World) (h : IsCode w a n c) (hcap : n ≤ cap) :
    Calls Tryz0.prog 5 #[.slice a n cap] w fun e w' => BestDrawn w e w' ∧ Below w.heap.size w w' := by
  have H1 := open_any a n cap c w h hcap
  go_enter Tryz0.func5, Tryz.ntmps5
  go_wp2_with (first
    | (go_at_call 20; refine H1.mono ?_; clear H1; rintro e w1 ⟨rfl, r1, b1⟩; have hR := r1.lt; have H2 := pick_any w.heap.size 0 2 w1 w.heap.size (Nat.le_refl _) r1 (by omega) (by omega) (by omega))
    | (go_at_call 22; refine H2.mono ?_; clear H2; rintro e w2 ⟨⟨z2, rfl, l2, u2⟩, r2, t2, b2⟩; have b02 := b1.trans b2; have H3 := pick_any w.heap.size (0 + 1) 2 w2 w.heap.size (Nat.le_refl _) r2 (by omega) (by omega) (by omega))
    | (go_at_call 22; refine H3.mono ?_; clear H3; rintro e w3 ⟨⟨z3, rfl, l3, u3⟩, r3, t3, b3⟩; have b03 := b02.trans b3; have hm23 := two_mul l2 u2 l3 u3; have wr1 : IntKind.i64.wrap (z2 * z3) = z2 * z3 := (by rw [IntKind.wrap_i64]; omega); have wr2 : IntKind.i64.wrap (5 + z2 * z3) = 5 + z2 * z3 := (by rw [IntKind.wrap_i64]; omega); have H4 := anyMoves_most w.heap.size (0 + 1 + 1) (5 + z2 * z3) w3 w.heap.size (Nat.le_refl _) r3 (by omega))
    | (go_at_call 21; refine H4.mono ?_; clear H4; rintro e w4 ⟨⟨B, c1, m1, f, rfl, hm1, hB1, hB2, row4, hf, pl4⟩, ⟨q4, x4, y4, r4⟩, t4, b4⟩; have b04 := b03.trans b4; have hlo : w.heap.size < B := (by have := b03.size; have := r3.lt; omega); have H5 := pick_any w.heap.size q4 8 w4 w.heap.size (Nat.le_refl _) r4 (by omega) (by omega) (by omega))
    | (go_at_call 22; refine H5.mono ?_; clear H5; rintro e w5 ⟨⟨z5, rfl, l5, u5⟩, r5, t5, b5⟩; have b05 := b04.trans b5; have row5 := row4.but t5 hB2 (by omega); have pl5 := pl4.same (t5.block B hB2 (by omega)); have H6 := pick_any w.heap.size (q4 + 1) 2 w5 w.heap.size (Nat.le_refl _) r5 (by omega) (by omega) (by omega))
    | (go_at_call 22; refine H6.mono ?_; clear H6; rintro e w6 ⟨⟨z6, rfl, l6, u6⟩, r6, t6, b6⟩; have b06 := b05.trans b6; have row6 := row5.but t6 pl5.lt (by omega); have pl6 := pl5.same (t6.block B pl5.lt (by omega)); have H7 := pick_any w.heap.size (q4 + 1 + 1) 2 w6 w.heap.size (Nat.le_refl _) r6 (by omega) (by omega) (by omega))
    | (go_at_call 22; refine H7.mono ?_; clear H7; rintro e w7 ⟨⟨z7, rfl, l7, u7⟩, r7, t7, b7⟩; have b07 := b06.trans b7; have row7 := row6.but t7 pl6.lt (by omega); have pl7 := pl6.same (t7.block B pl6.lt (by omega)); have hm67 := two_mul l6 u6 l7 u7; have wr3 : IntKind.i64.wrap (z6 * z7) = z6 * z7 := (by rw [IntKind.wrap_i64]; omega); have wr4 : IntKind.i64.wrap (z5 - z6 * z7) = z5 - z6 * z7 := (by rw [IntKind.wrap_i64]; omega)))
  go_ret2
  exact ⟨⟨B, c1, m1, f, z5 - z6 * z7, rfl, hm1, by omega, by omega, by omega, pl7.lt, row7, hf, pl7⟩, b07⟩
end Go.Proofs.YtlmcblcijndipaaGreat
