/- Moves and an order drawn. -/
import Derived.Test.YtlmcblcijndipaaD6
import Derived.Test.YtlmcblcijndipaaD7
import Derived.Deep.Slices
namespace Go.Proofs.Ytlmcblcijndipaa
open Go.RowKit
set_option linter.unusedVariables false

/-- a list of numbers -/
def IntsOf (xs : List Value) : Prop := ∀ u ∈ xs, ∃ z : Int, u = .int .i64 z
theorem ints_vals (g : Nat → Nat) (n : Nat) : IntsOf (vals g n) := fun u hu => by unfold vals at hu; simp at hu; obtain ⟨j, _, rfl⟩ := hu; exact ⟨_, rfl⟩
theorem ints_one {xs : List Value} (h : IntsOf xs) : ∀ u ∈ xs, u.oneCell' = true := fun u hu => by obtain ⟨z, rfl⟩ := h u hu; rfl
theorem ints_set {xs : List Value} (h : IntsOf xs) (k : Nat) (z : Int) : IntsOf (xs.set k (.int .i64 z)) := fun u hu => by
  rcases List.mem_or_eq_of_mem_set hu with h1 | h1
  · exact h u h1
  · exact ⟨z, h1⟩
theorem ints_app {xs : List Value} (h : IntsOf xs) (z : Int) : IntsOf (xs ++ [.int .i64 z]) := fun u hu => by
  rcases List.mem_append.1 hu with h1 | h1
  · exact h u h1
  · simp at h1; exact ⟨z, h1⟩
/-- a number stored into a row of one's own -/
theorem own_set {w : World} {base B n c : Nat} {T : TypeId} {xs : List Value} (h : w.ownsRow base T 1 (.slice (some ⟨B, 0, none⟩) n c) n xs) (k : Nat) (v : Value) : (w.setCell ⟨B, k, none⟩ v).ownsRow base T 1 (.slice (some ⟨B, 0, none⟩) n c) n (xs.set k v) := by
  obtain ⟨h1, h2 | ⟨g, cap, cur, h2, h3, h4, h5, h6, h7, h8⟩⟩ := h
  · exact absurd h2.1 (by simp)
  · simp at h2
    obtain ⟨rfl, rfl⟩ := h2
    refine ⟨by simpa using h1, .inr ⟨B, c, cur.setIfInBounds k v, rfl, h3, heap_setCell_same _ _ k _ _ v h4, h5, h6, by simpa using h7, ?_⟩⟩
    rw [← h8]
    simp [List.take_set]
theorem own_ints {w : World} {base B n c : Nat} {T : TypeId} {xs : List Value} (h : w.ownsRow base T 1 (.slice (some ⟨B, 0, none⟩) n c) n xs) (hi : IntsOf xs) : ∃ g, IntRow w B 0 n g := by
  have hl : xs.length = n := by simpa using h.1
  have hall : ∀ i, i < n → ∃ z : Int, w.cell? ⟨B, i, none⟩ = some (.int .i64 z) := fun i hn => by
    obtain ⟨z, hz⟩ := hi _ (List.getElem_mem (l := xs) (n := i) (by omega))
    exact ⟨z, by rw [h.cellAt i (by omega), List.getElem?_eq_getElem (by omega), hz]⟩
  obtain ⟨g, hg⟩ := Deep.choose_lt hall
  exact ⟨g, fun i hn => by rw [Nat.zero_add]; exact hg i hn⟩
theorem MvRow.but {R b off n : Nat} {w w' : World} {f : Nat → Mv} (h : MvRow w b off n f) (hb : But R w w') (hlt : b < w.heap.size) (hne : b ≠ R) : MvRow w' b off n f := fun i hi => by
  obtain ⟨c0, c1, c2, c3, c4, c5⟩ := h i hi
  exact ⟨(cell_but hb hlt hne).trans c0, (cell_but hb hlt hne).trans c1, (cell_but hb hlt hne).trans c2, (cell_but hb hlt hne).trans c3, (cell_but hb hlt hne).trans c4, (cell_but hb hlt hne).trans c5⟩

/-- where an order has been drawn: it, the moves, the reader, and nothing old turned -/
structure Dr (w : World) (base B n : Nat) (f : Nat → Mv) (Bo m co : Nat) (xs : List Value) (q : Int) (W : World) : Prop where
  own : W.ownsRow base 3 1 (.slice (some ⟨Bo, 0, none⟩) m co) m xs
  ints : IntsOf xs
  row : MvRow W B 0 n f
  low : w.heap.size < B
  lt : B < base
  big : base ≤ W.heap.size
  rd : Rd W w.heap.size q
  below : Below w.heap.size w W
theorem Dr.to {w W W' : World} {base B n : Nat} {f : Nat → Mv} {Bo m co : Nat} {xs : List Value} {q q' : Int} (h : Dr w base B n f Bo m co xs q W) (r : Rd W' w.heap.size q') (t : But w.heap.size W W') (b : Below w.heap.size W W') : Dr w base B n f Bo m co xs q' W' := by
  have h1 := h.low
  have h2 := h.lt
  have h3 := h.big
  exact ⟨own_but h.own (by omega) t b, h.ints, h.row.but t (by omega) (by omega), h1, h2, Nat.le_trans h3 t.size, r, h.below.trans b⟩
theorem Dr.set {w W : World} {base B n : Nat} {f : Nat → Mv} {Bo m co : Nat} {xs : List Value} {q : Int} (h : Dr w base B n f Bo m co xs q W) (k : Nat) (z : Int) : Dr w base B n f Bo m co (xs.set k (.int .i64 z)) q (W.setCell ⟨Bo, k, none⟩ (.int .i64 z)) := by
  have h1 := h.low
  have h2 := h.lt
  have h3 := h.big
  have h4 := (own_open h.own).1
  refine ⟨own_set h.own k _, ints_set h.ints k z, fun i hi => ?_, h1, h2, by simpa using h3, h.rd.set (by omega) _ _, h.below.setCell (by simp; omega) _⟩
  obtain ⟨c0, c1, c2, c3, c4, c5⟩ := h.row i hi
  have o : ∀ j, (W.setCell ⟨Bo, k, none⟩ (.int .i64 z)).cell? ⟨B, j, none⟩ = W.cell? ⟨B, j, none⟩ := fun j => World.cell?_setCell_other _ _ _ _ (by intro e; cases e; omega)
  exact ⟨(o _).trans c0, (o _).trans c1, (o _).trans c2, (o _).trans c3, (o _).trans c4, (o _).trans c5⟩
theorem Dr.cell {w W : World} {base B n : Nat} {f : Nat → Mv} {Bo m co : Nat} {xs : List Value} {q : Int} (h : Dr w base B n f Bo m co xs q W) (k : Nat) (hk : k < m) : (∃ z : Int, W.cell? ⟨Bo, k, none⟩ = some (.int .i64 z)) ∧ W.frozen? ⟨Bo, k, none⟩ = false := by
  obtain ⟨_, _, cur, hcur, hsz⟩ := own_open h.own
  have hl : xs.length = m := by simpa using h.own.1
  obtain ⟨z, hz⟩ := h.ints _ (List.getElem_mem (l := xs) (n := k) (by omega))
  exact ⟨⟨z, by rw [h.own.cellAt k (by omega), List.getElem?_eq_getElem (by omega), hz]⟩, frozen_of_row W _ k _ _ hcur⟩
theorem Dr.alloc {w W : World} {base B n : Nat} {f : Nat → Mv} {Bo m co : Nat} {xs : List Value} {q : Int} (h : Dr w base B n f Bo m co xs q W) (o : Obj) : Dr w base B n f Bo m co xs q (W.alloc o) := by
  have b : Below W.heap.size W (W.alloc o) := (Below.refl _ _).alloc (Nat.le_refl _) _
  have := h.rd.lt
  exact h.to (h.rd.below b) (But.of b) (b.mono (by omega))
/-- one more behind it -/
theorem Dr.append {w W W' : World} {base B n : Nat} {f : Nat → Mv} {Bo m co : Nat} {xs : List Value} {q : Int} (h : Dr w base B n f Bo m co xs q W) {v : Value} {z : Int} (ho : W'.ownsRow base 3 1 v (m + 1) (xs ++ [.int .i64 z])) (hg : W.grownBy W' (some Bo)) : ∃ B' c', v = .slice (some ⟨B', 0, none⟩) (m + 1) c' ∧ Dr w base B n f B' (m + 1) c' (xs ++ [.int .i64 z]) q W' := by
  have h1 := h.low
  have h2 := h.lt
  have h3 := h.big
  have h4 := (own_open h.own).1
  obtain ⟨B', c', rfl⟩ := Shuf.own_succ ho
  have hbl : ∀ k, k < W.heap.size → k ≠ Bo → W'.heap[k]? = W.heap[k]? := fun k hk hne => hg.block k hk (by simp; omega)
  have hb : Below base W W' := (Below.refl base W).grown hg h3 (fun q hq => by simp at hq; omega)
  refine ⟨B', c', rfl, ho, ints_app h.ints z, h.row.below hb h2, h1, h2, Nat.le_trans h3 hb.size, h.rd.low' (by omega) hb, h.below.trans (hb.mono (by omega))⟩

/-- what is drawn -/
def DrawSays (w : World) (e : Ending) (w' : World) : Prop := ∃ (B c n : Nat) (f : Nat → Mv) (B' c' m : Nat) (g : Nat → Int), e = .returned (.tuple #[.slice (some ⟨B, 0, none⟩) n c, .slice (some ⟨B', 0, none⟩) m c']) ∧ n ≤ 6 ∧ m ≤ 7 ∧ m ≤ c' ∧ B < w'.heap.size ∧ MvRow w' B 0 n f ∧ (∀ j, j < n → Fitting (f j)) ∧ B' < w'.heap.size ∧ IntRow w' B' 0 m g

theorem Dr.says {w W : World} {base B n c : Nat} {f : Nat → Mv} {Bo m co : Nat} {xs : List Value} {q : Int} (h : Dr w base B n f Bo m co xs q W) (hn : n ≤ 6) (hm : m ≤ 7) (hf : ∀ j, j < n → Fitting (f j)) : DrawSays w (.returned (.tuple #[.slice (some ⟨B, 0, none⟩) n c, .slice (some ⟨Bo, 0, none⟩) m co])) W ∧ Below w.heap.size w W := by
  obtain ⟨g, hg⟩ := own_ints h.own h.ints
  obtain ⟨_, hlt, _⟩ := own_open h.own
  exact ⟨⟨B, c, n, f, Bo, co, m, g, rfl, hn, hm, (Shuf.own_lt h.own).2, Nat.lt_of_lt_of_le h.lt h.big, h.row, hf, hlt, hg⟩, h.below⟩

set_option maxRecDepth 10000 in
set_option maxHeartbeats 4000000 in
theorem draw_any (a : Option Addr) (n cap : Nat) (c : Nat → Int) (w : World) (h : IsCode w a n c) (hcap : n ≤ cap) :
    Calls Try.prog 7 #[.slice a n cap] w fun e w' => DrawSays w e w' ∧ Below w.heap.size w w' := by
  have H1 := open_any a n cap c w h hcap
  obtain ⟨i0, hI, hz0, hz1, hz2⟩ : ∃ i0, Try.prog.info? 3 = some i0 ∧ i0.zero = some (.int .i64 0) ∧ i0.size = 1 ∧ i0.bytes = 8 := by
    have h := info_int
    cases hI : Try.prog.info? 3 with
    | none => rw [hI] at h; simp at h
    | some i0 => rw [hI] at h; simp only [Option.map_some, Option.some.injEq, Prod.mk.injEq] at h; exact ⟨i0, rfl, h.2.2, h.1, h.2.1⟩
  go_enter Try.func7, Try.ntmps7
  go_wp2_with (first
    | (go_at_call 27; refine H1.mono ?_; clear H1; rintro e w1 ⟨rfl, r1, b1⟩; have hR := r1.lt; have H2 := anyMoves_any w.heap.size 0 w1 w.heap.size (Nat.le_refl _) r1 (by omega))
    | (go_at_call 28; refine H2.mono ?_; clear H2; rintro e w2 ⟨⟨B, c1, m1, f, rfl, hm1, hB1, hB2, row2, hf⟩, ⟨q2, x2, y2, r2⟩, t2, b2⟩; have b02 := b1.trans b2; have H3 := Shuf.shuffle_any w.heap.size q2 m1 w2 w.heap.size (Nat.le_refl _) r2 (by omega) hm1)
    | (go_at_call 29; refine H3.mono ?_; clear H3; rintro e w3 ⟨⟨Bo, co, g, rfl, own3⟩, ⟨q3, x3, y3, r3⟩, t3, b3⟩; have hD : Dr w w2.heap.size B m1 f Bo m1 co (vals g m1) q3 w3 := ⟨own3, ints_vals g m1, row2.but t3 hB2 (by omega), (by omega), hB2, t3.size, r3, b02.trans b3⟩; clear own3 r3 t3 b3 row2 b02 r2 t2 b2 r1 b1; revert hD; generalize vals g m1 = xs; intro hD))
  · have H4 := pick_any w.heap.size q3 12 w3 w.heap.size (Nat.le_refl _) hD.rd (by omega) (by omega) (by omega)
    go_wp2_with (go_at_call 30; refine H4.mono ?_; clear H4; rintro e w4 ⟨⟨z4, rfl, l4, u4⟩, r4, t4, b4⟩; have hD4 := hD.to r4 t4 b4; clear r4 t4 b4 hD)
    · have H5 := pick_any w.heap.size (q3 + 1) (m1 : Int) w4 w.heap.size (Nat.le_refl _) hD4.rd (by omega) (by omega) (by omega)
      go_wp2_with (first
        | (go_at_call 30; refine H5.mono ?_; clear H5; rintro e w5 ⟨⟨z5, rfl, l5, u5⟩, r5, t5, b5⟩; have hD5 := hD4.to r5 t5 b5; clear r5 t5 b5 hD4; obtain ⟨k, rfl⟩ : ∃ k : Nat, z5 = (k : Int) := ⟨z5.toNat, (by omega)⟩; have hk : k < m1 := (by omega); have H6 := pick_any w.heap.size (q3 + 1 + 1) 8 w5 w.heap.size (Nat.le_refl _) hD5.rd (by omega) (by omega) (by omega))
        | (go_at_call 30; refine H6.mono ?_; clear H6; rintro e w6 ⟨⟨z6, rfl, l6, u6⟩, r6, t6, b6⟩; have hD6 := hD5.to r6 t6 b6; clear r6 t6 b6 hD5; obtain ⟨⟨zz, hcz⟩, hfz⟩ := hD6.cell k hk; have hwr : IntKind.i64.wrap (z6 - 1) = z6 - 1 := (by rw [IntKind.wrap_i64]; omega); have hDs := hD6.set k (z6 - 1); have H7 := pick_any w.heap.size (q3 + 1 + 1 + 1) 16 _ w.heap.size (Nat.le_refl _) hDs.rd (by omega) (by omega) (by omega))
        | (go_at_call 30; refine H7.mono ?_; clear H7; rintro e w7 ⟨⟨z7, rfl, l7, u7⟩, r7, t7, b7⟩; have hD7 := hDs.to r7 t7 b7; clear r7 t7 b7 hDs)
        | (at_builtin; refine wpList_append_own _ rfl (.tmp 35) (.tmp 36) 24 rfl w2.heap.size 3 i0 _ 1 8 Try.underlying24 hI hz0 hz1 hz2 rfl (by decide) (.slice (some ⟨Bo, 0, none⟩) m1 co) m1 (xs.set k (.int .i64 (z6 - 1))) (by rfl) (hD7.alloc _).own ⟨_, 0, none⟩ 1 1 [.int .i64 0] (by rfl) rfl (Shuf.one_cell (heap_alloc_new _ _)) (by simp [Value.oneCell']) (by unfold maxLen; omega) (by omega) (hD7.alloc _).big ?_; intro v8 w8 ho8 hg8 _; obtain ⟨B8, c8, rfl, hD8⟩ := (hD7.alloc _).append ho8 hg8))
      · go_ret2
        exact hD8.says hm1 (by omega) hf
      · go_ret2
        exact hD7.says hm1 (by omega) hf
    · have H7 := pick_any w.heap.size (q3 + 1) 16 w4 w.heap.size (Nat.le_refl _) hD4.rd (by omega) (by omega) (by omega)
      go_wp2_with (first
        | (go_at_call 30; refine H7.mono ?_; clear H7; rintro e w7 ⟨⟨z7, rfl, l7, u7⟩, r7, t7, b7⟩; have hD7 := hD4.to r7 t7 b7; clear r7 t7 b7 hD4)
        | (at_builtin; refine wpList_append_own _ rfl (.tmp 35) (.tmp 36) 24 rfl w2.heap.size 3 i0 _ 1 8 Try.underlying24 hI hz0 hz1 hz2 rfl (by decide) (.slice (some ⟨Bo, 0, none⟩) m1 co) m1 xs (by rfl) (hD7.alloc _).own ⟨_, 0, none⟩ 1 1 [.int .i64 0] (by rfl) rfl (Shuf.one_cell (heap_alloc_new _ _)) (by simp [Value.oneCell']) (by unfold maxLen; omega) (by omega) (hD7.alloc _).big ?_; intro v8 w8 ho8 hg8 _; obtain ⟨B8, c8, rfl, hD8⟩ := (hD7.alloc _).append ho8 hg8))
      · go_ret2
        exact hD8.says hm1 (by omega) hf
      · go_ret2
        exact hD7.says hm1 (by omega) hf
  · have H7 := pick_any w.heap.size q3 16 w3 w.heap.size (Nat.le_refl _) hD.rd (by omega) (by omega) (by omega)
    go_wp2_with (first
      | (go_at_call 30; refine H7.mono ?_; clear H7; rintro e w7 ⟨⟨z7, rfl, l7, u7⟩, r7, t7, b7⟩; have hD7 := hD.to r7 t7 b7; clear r7 t7 b7 hD)
      | (at_builtin; refine wpList_append_own _ rfl (.tmp 35) (.tmp 36) 24 rfl w2.heap.size 3 i0 _ 1 8 Try.underlying24 hI hz0 hz1 hz2 rfl (by decide) (.slice (some ⟨Bo, 0, none⟩) m1 co) m1 xs (by rfl) (hD7.alloc _).own ⟨_, 0, none⟩ 1 1 [.int .i64 0] (by rfl) rfl (Shuf.one_cell (heap_alloc_new _ _)) (by simp [Value.oneCell']) (by unfold maxLen; omega) (by omega) (hD7.alloc _).big ?_; intro v8 w8 ho8 hg8 _; obtain ⟨B8, c8, rfl, hD8⟩ := (hD7.alloc _).append ho8 hg8))
    · go_ret2
      exact hD8.says hm1 (by omega) hf
    · go_ret2
      exact hD7.says hm1 (by omega) hf
end Go.Proofs.Ytlmcblcijndipaa
