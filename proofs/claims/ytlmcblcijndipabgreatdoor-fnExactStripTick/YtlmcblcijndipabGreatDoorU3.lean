/- A book copied; the names of who is gone; the last tick. -/
import Derived.Test.YtlmcblcijndipabGreatDoorU2
namespace Go.Proofs.YtlmcblcijndipabGreatDoor
open Go.RowKit
set_option linter.unusedVariables false

def ivals (T : Nat → Int) (n : Nat) : List Value := (List.range n).map fun j => .int .i64 (T j)
theorem ivals_len (T : Nat → Int) (n : Nat) : (ivals T n).length = n := by simp [ivals]
theorem ivals_get {T : Nat → Int} {n j : Nat} (h : j < n) : (ivals T n)[j]? = some (.int .i64 (T j)) := by simp [ivals, h]
theorem ivals_one (T : Nat → Int) (n : Nat) : ∀ u ∈ ivals T n, u.oneCell' = true := fun u hu => by unfold ivals at hu; simp at hu; obtain ⟨_, _, rfl⟩ := hu; rfl
theorem mcells_one (f : Nat → Mv) (n : Nat) : ∀ u ∈ mcells f n, u.oneCell' = true := fun u hu => by
  unfold mcells at hu
  rw [List.mem_flatMap] at hu
  obtain ⟨j, _, hj⟩ := hu
  exact one_mv (f j) u hj
theorem irow_cells {w : World} {b off n : Nat} {T : Nat → Int} (h : IntRow w b off n T) : ∀ (j : Nat) (u : Value), (ivals T n)[j]? = some u → w.cell? ((⟨b, off, none⟩ : Addr).add j) = some u := fun j u hu => by
  have hj : j < n := by rcases Nat.lt_or_ge j n with h | h; exact h; rw [List.getElem?_eq_none (by rw [ivals_len]; exact h)] at hu; cases hu
  rw [ivals_get hj] at hu
  rw [addr_add, h j hj]; exact hu
theorem mrow_cells {w : World} {b off n : Nat} {f : Nat → Mv} (h : MvRow w b off n f) : ∀ (j : Nat) (u : Value), (mcells f n)[j]? = some u → w.cell? ((⟨b, off, none⟩ : Addr).add j) = some u := fun j u hu => by
  have hj : j < n * 6 := by rcases Nat.lt_or_ge j (n * 6) with h | h; exact h; rw [List.getElem?_eq_none (by rw [mcells_len]; exact h)] at hu; cases hu
  have h1 : j / 6 < n := by omega
  have h2 : j % 6 < 6 := Nat.mod_lt _ (by omega)
  have h3 : j = j / 6 * 6 + j % 6 := by omega
  rw [h3, mcells_get f n _ _ h1 h2] at hu
  rw [addr_add]
  obtain ⟨c0, c1, c2, c3, c4, c5⟩ := h (j / 6) h1
  have key : ∀ r, r = j % 6 → (f (j / 6)).cells.toList[r]? = some u → w.cell? ⟨b, off + j / 6 * 6 + r, none⟩ = some u := fun r hr hu' => by
    have hr6 : r < 6 := by omega
    match r, hr6 with
    | 0, _ => rw [Nat.add_zero, c0]; exact hu'
    | 1, _ => rw [c1]; exact hu'
    | 2, _ => rw [c2]; exact hu'
    | 3, _ => rw [c3]; exact hu'
    | 4, _ => rw [c4]; exact hu'
    | 5, _ => rw [c5]; exact hu'
  have := key (j % 6) rfl hu
  rw [show off + j = off + j / 6 * 6 + j % 6 by omega]; exact this

/-- rows of one's own within bounds -/
theorem own_M {w : World} {base : Nat} {v : Value} {n : Nat} {f : Nat → Mv} (h : w.ownsRow base 36 6 v n (mcells f n)) : OwnM w base w.heap.size v n f := by
  obtain ⟨h1, ⟨rfl, rfl⟩ | ⟨g, c, cur, rfl, h3, h4, h5, h6, h7, h8⟩⟩ := h
  · exact .inl ⟨rfl, _, _, rfl⟩
  · exact .inr ⟨g, c, cur, rfl, h5, h3, (Array.getElem?_eq_some_iff.1 h4).1, Nat.le_refl _, h4, by rw [h7]; exact Nat.mul_le_mul_right _ h5, own_row ⟨h1, .inr ⟨g, c, cur, rfl, h3, h4, h5, h6, h7, h8⟩⟩⟩
theorem own_I {w : World} {base : Nat} {v : Value} {n : Nat} {t : Nat → Int} {xs : List Value} (h : w.ownsRow base 3 1 v n xs) (hx : ∀ j, j < n → xs[j]? = some (.int .i64 (t j))) : OwnI w base w.heap.size v n t := by
  have hh := h
  obtain ⟨h1, ⟨rfl, rfl⟩ | ⟨g, c, cur, rfl, h3, h4, h5, h6, h7, h8⟩⟩ := h
  · exact .inl ⟨rfl, _, _, rfl⟩
  · exact .inr ⟨g, c, cur, rfl, h5, h3, (Array.getElem?_eq_some_iff.1 h4).1, Nat.le_refl _, h4, by omega, fun j hj => by rw [Nat.zero_add, hh.cellAt j (by omega)]; exact hx j hj⟩
theorem own_S {w : World} {base : Nat} {v : Value} {n : Nat} {g : Nat → ByteArray} {xs : List Value} (h : w.ownsRow base 9 1 v n xs) (hx : ∀ j, j < n → xs[j]? = some (.string (g j))) : OwnS w base w.heap.size v n g := by
  have hh := h
  obtain ⟨h1, ⟨rfl, rfl⟩ | ⟨B, c, cur, rfl, h3, h4, h5, h6, h7, h8⟩⟩ := h
  · exact .inl ⟨rfl, _, _, rfl⟩
  · exact .inr ⟨B, c, cur, rfl, h5, h3, (Array.getElem?_eq_some_iff.1 h4).1, Nat.le_refl _, h4, by omega, fun j hj => by rw [hh.cellAt j (by omega)]; exact hx j hj⟩

theorem info_str : (Tryz.prog.info? 9).map (fun i => (i.zero, i.size, i.bytes)) = some (some (.string ByteArray.empty), 1, 16) := by kernel_rfl
theorem info_i : (Tryz.prog.info? 3).map (fun i => (i.zero, i.size, i.bytes)) = some (some (.int .i64 0), 1, 8) := by kernel_rfl

set_option maxHeartbeats 400000 in
theorem made_end (shift : Int) (v u : Value) (hv : ∃ a n c, v = .slice a n c) (hu : ∃ a n c, u = .slice a n c) (w : World) :
    Calls Tryz.prog 287 #[.agg #[], bkV 10000 shift v u] w fun e w' => e = .returned (.tuple #[bkV 0 0 (.slice none 0 0) (.slice none 0 0), .iface 128 (.agg #[.int .i64 2])]) ∧ Below w.heap.size w w' := by
  obtain ⟨a1, n1, c1, rfl⟩ := hv
  obtain ⟨a2, n2, c2, rfl⟩ := hu
  go_enter Tryz.func287, Tryz.ntmps287
  go_wp2
  refine bodyPost_ret (v := .tuple #[bkV 0 0 (.slice none 0 0) (.slice none 0 0), .iface 128 (.agg #[.int .i64 2])]) (by simp [results, Tryz.results287, go_sem]) rfl ⟨rfl, ?_⟩
  repeat (first | exact Below.refl _ _ | refine Below.alloc ?_ (by simp <;> omega) _ | refine Below.setCell ?_ (by simp <;> omega) _)

set_option maxRecDepth 10000 in
set_option maxHeartbeats 1000000 in
theorem copyOf_any (now shift : Int) (b off n cap : Nat) (f : Nat → Mv) (b' off' m cap' : Nat) (t : Nat → Int) (w : World) (hn : n ≤ 1048576) (hm : m ≤ 1048576) (hbs : b < w.heap.size) (hrow : MvRow w b off n f) (hbs' : b' < w.heap.size) (hrow' : IntRow w b' off' m t) :
    Calls Tryz.prog 66 #[bkV now shift (.slice (some ⟨b, off, none⟩) n cap) (.slice (some ⟨b', off', none⟩) m cap')] w fun e w' => (∃ v u, e = .returned (bkV now shift v u) ∧ w'.ownsRow w.heap.size 36 6 v n (mcells f n) ∧ w'.ownsRow w.heap.size 3 1 u m (ivals t m)) ∧ Below w.heap.size w w' := by
  obtain ⟨iM, hI, hz0, hz1, hz2⟩ := info_parts info_mv
  obtain ⟨i0, hI', hy0, hy1, hy2⟩ := info_parts info_i
  have hB2 : ∀ o1 o2, Below w.heap.size w ((w.alloc o1).alloc o2) := fun o1 o2 => ((Below.refl _ w).alloc (Nat.le_refl _) _).alloc (by simp) _
  have hN1 : ∀ c2 T2 o3, ((w.alloc (.cells c2 T2)).alloc o3).heap[w.heap.size]? = some (.cells c2 T2 (0, 0)) := fun c2 T2 o3 => (Below.heap_alloc _ _ _ (by simp)).trans (heap_alloc_new w (.cells c2 T2))
  have hN2 : ∀ o1 c2 T2, ((w.alloc o1).alloc (.cells c2 T2)).heap[w.heap.size + 1]? = some (.cells c2 T2 (0, 0)) := fun o1 c2 T2 => by have := heap_alloc_new (w.alloc o1) (.cells c2 T2); simpa using this
  go_enter Tryz.func66, Tryz.ntmps66
  go_wp2_with (first
    | (at_builtin; refine wpList_append_own _ rfl (.const (.slice none 0 0)) (.tmp 4) 30 rfl (w.heap.size + 1 + 1) 36 iM _ 6 56 Tryz.underlying30 hI hz0 hz1 hz2 rfl (by decide) (.slice none 0 0) 0 [] (by rfl) ⟨rfl, .inl ⟨rfl, rfl⟩⟩ ⟨b, off, none⟩ n cap (mcells f n) (by rfl) (by rw [mcells_len]) (mrow_cells (hrow.below (hB2 _ _) hbs)) (mcells_one f n) (by unfold maxLen; omega) (by omega) (by simp) ?_; intro v1 w1 ho1 hg1 _; simp only [Nat.zero_add, List.nil_append] at ho1; obtain ⟨av, cv, rfl⟩ := own_sl ho1; have g0 := (hg1.block w.heap.size (by simp; omega) (by simp [Value.ownBlock])).trans (hN1 _ _ _); have g1 := (hg1.block (w.heap.size + 1) (by simp) (by simp [Value.ownBlock])).trans (hN2 _ _ _); have B1 := (hB2 _ _).grown hg1 (hB2 _ _).size (fun q hq => by simp [Value.ownBlock] at hq); have s1 := hg1.size; simp at s1; have k2 := cell_of_row w1 _ 2 _ _ _ g0; have k3 := cell_of_row w1 _ 3 _ _ _ g0; have kf := fun j => frozen_of_row w1 _ j _ _ g0; simp at k2 k3; have g0' := heap_setCell_same w1 _ 2 _ _ (.slice av n cv) g0; simp at g0'; have o1' := own_same (w' := w1.setCell ⟨w.heap.size, 2, none⟩ (.slice av n cv)) ho1 (fun B hB => Below.heap_setCell w1 _ _ B (by have := (ho1.lt B hB).1; simp; omega)); have g1' := (Below.heap_setCell w1 ⟨w.heap.size, 2, none⟩ (.slice av n cv) (w.heap.size + 1) (by simp)).trans g1; have B1' := B1.setCell (p := ⟨w.heap.size, 2, none⟩) (by simp) (.slice av n cv))
    | (at_builtin; refine wpList_append_own _ rfl (.const (.slice none 0 0)) (.tmp 8) 23 rfl (w.heap.size + 1 + 1) 3 i0 _ 1 8 Tryz.underlying23 hI' hy0 hy1 hy2 rfl (by decide) (.slice none 0 0) 0 [] (by rfl) ⟨rfl, .inl ⟨rfl, rfl⟩⟩ ⟨b', off', none⟩ m cap' (ivals t m) (by rfl) (by rw [ivals_len]; omega) (irow_cells (hrow'.below B1' hbs')) (ivals_one t m) (by unfold maxLen; omega) (by omega) (by simp; omega) ?_; intro u2 w2 ho2 hg2 _; simp only [Nat.zero_add, List.nil_append] at ho2; obtain ⟨au, cu, rfl⟩ := own_sl ho2; have h0 := (hg2.block w.heap.size (by simp; omega) (by simp [Value.ownBlock])).trans g0'; have h1 := (hg2.block (w.heap.size + 1) (by simp; omega) (by simp [Value.ownBlock])).trans g1'; have B2 := B1'.grown hg2 B1'.size (fun q hq => by simp [Value.ownBlock] at hq); have s2 := hg2.size; simp at s2; have o2 := own_same (w' := w2) o1' (fun B hB => hg2.block B (o1'.lt B hB).2 (by simp [Value.ownBlock])); have p0 := cell_of_row w2 _ 0 _ _ _ h0; have p1 := cell_of_row w2 _ 1 _ _ _ h0; have p2 := cell_of_row w2 _ 2 _ _ _ h0; have p3 := cell_of_row w2 _ 3 _ _ _ h0; have pf := fun j => frozen_of_row w2 _ j _ _ h0; have r0 := cell_of_row w2 _ 0 _ _ _ h1; have r1 := cell_of_row w2 _ 1 _ _ _ h1; have r2 := cell_of_row w2 _ 2 _ _ _ h1; have r3 := cell_of_row w2 _ 3 _ _ _ h1; have rf := fun j => frozen_of_row w2 _ j _ _ h1; simp at p0 p1 p2 p3 r0 r1 r2 r3))
  have eW : ∀ q, q ≠ w.heap.size → q ≠ w.heap.size + 1 → (((((w2.setCell ⟨w.heap.size, 3, none⟩ (.slice au m cu)).setCell ⟨w.heap.size + 1, 0, none⟩ (.int .i64 now)).setCell ⟨w.heap.size + 1, 1, none⟩ (.int .i64 shift)).setCell ⟨w.heap.size + 1, 2, none⟩ (.slice av n cv)).setCell ⟨w.heap.size + 1, 3, none⟩ (.slice au m cu)).heap[q]? = w2.heap[q]? := fun q h1 h2 => by
    rw [Below.heap_setCell _ _ _ _ (by simpa using h2), Below.heap_setCell _ _ _ _ (by simpa using h2), Below.heap_setCell _ _ _ _ (by simpa using h2), Below.heap_setCell _ _ _ _ (by simpa using h2), Below.heap_setCell _ _ _ _ (by simpa using h1)]
  refine bodyPost_ret (v := bkV now shift (.slice av n cv) (.slice au m cu)) (by simp [results, Tryz.results66, go_sem, r0, r1, r2, r3]) rfl ⟨⟨_, _, rfl, ?_, ?_⟩, ?_⟩
  · exact own_base (own_same o2 (fun B hB => eW B (by have := (o2.lt B hB).1; omega) (by have := (o2.lt B hB).1; omega))) (by omega)
  · exact own_base (own_same ho2 (fun B hB => eW B (by have := (ho2.lt B hB).1; omega) (by have := (ho2.lt B hB).1; omega))) (by omega)
  · exact ((((B2.setCell (by simp) _).setCell (by simp) _).setCell (by simp) _).setCell (by simp) _).setCell (by simp) _

set_option maxRecDepth 10000 in
set_option maxHeartbeats 2000000 in
theorem namesAt_any (now shift tick : Int) (b off n cap : Nat) (f : Nat → Mv) (b' off' cap' : Nat) (t : Nat → Int) (w : World) (hn : n ≤ 6) (hbs : b < w.heap.size) (hrow : MvRow w b off n f) (hbs' : b' < w.heap.size) (hrow' : IntRow w b' off' n t) :
    Calls Tryz.prog 49 #[bkV now shift (.slice (some ⟨b, off, none⟩) n cap) (.slice (some ⟨b', off', none⟩) n cap'), .int .i64 tick] w fun e w' => (∃ s, e = .returned s ∧ w'.ownsRow w.heap.size 9 1 s (gone tick t n).length (goneN f (gone tick t n))) ∧ Below w.heap.size w w' := by
  obtain ⟨iS, hI, hz0, hz1, hz2⟩ := info_parts info_str
  have bA := boxBk_below w now shift (some ⟨b, off, none⟩) n cap (some ⟨b', off', none⟩) n cap'
  have hA := boxBk_at w now shift (some ⟨b, off, none⟩) n cap (some ⟨b', off', none⟩) n cap'
  go_enter Tryz.func49, Tryz.ntmps49
  go_wp2
  go_loopw [5, 11] (fun s x W => ∃ k : Nat, k ≤ n ∧ x = .int .i64 k ∧ BkAt W w.heap.size now shift (some ⟨b, off, none⟩) n cap (some ⟨b', off', none⟩) n cap' ∧ W.ownsRow (w.heap.size + 1) 9 1 s (gone tick t k).length (goneN f (gone tick t k)) ∧ w.heap.size + 1 ≤ W.heap.size ∧ Below w.heap.size w W) (fun _ x _ => n - (intOf x).toNat)
  case atStart => exact ⟨0, Nat.zero_le _, rfl, hA, ⟨rfl, .inl ⟨rfl, rfl⟩⟩, by simp, bA⟩
  case round =>
    obtain ⟨k, hk, rfl, hb, ho, hs, hB⟩ := hrel
    by_cases hlt : k < n
    · have hlt' : (k : Int) < n := by omega
      obtain ⟨c0, c1, c2, c3, c4, c5⟩ := hrow.below hB hbs k hlt
      have hr' := hrow'.below hB hbs' k hlt
      have hl1 := gone_len tick t k
      have bM := boxMv_below wr (f k)
      obtain ⟨m0, m1, m2, m3, m4, m5⟩ := boxMv_at wr (f k)
      simp only [Nat.zero_add] at m0 m1 m2 m3 m4 m5
      have hbm := hb.below bM (by omega)
      have hrm : (boxMv wr (f k)).cell? ⟨b', off' + k, none⟩ = some (.int .i64 (t k)) := (bM.cell (p := ⟨b', off' + k, none⟩) (Nat.lt_of_lt_of_le hbs' hB.size)).trans hr'
      have hom := own_same (w' := boxMv wr (f k)) ho (fun B hB' => bM.block B (ho.lt B hB').2)
      obtain ⟨g0, g1, g2, g3⟩ := hbm
      by_cases htk : t k = tick
      · have D : (t k == tick) = true := by simpa using htk
        have HST : Hid (gone tick t (k + 1) = gone tick t k ++ [k]) := by have h : gone tick t (k + 1) = gone tick t k ++ [k] := by simp only [gone]; rw [if_pos htk]
                                                                          exact h
        have bO : Below (boxMv wr (f k)).heap.size (boxMv wr (f k)) ((boxMv wr (f k)).alloc (.cells #[.string (f k).name] 9)) := (Below.refl _ _).alloc (Nat.le_refl _) _
        have hoo := own_same (w' := (boxMv wr (f k)).alloc (.cells #[.string (f k).name] 9)) hom (fun B hB' => bO.block B (hom.lt B hB').2)
        have hcl : ((boxMv wr (f k)).alloc (.cells #[.string (f k).name] 9)).heap[wr.heap.size + 1]? = some (.cells #[.string (f k).name] 9 (0, 0)) := by have := heap_alloc_new (boxMv wr (f k)) (.cells #[.string (f k).name] 9); simpa using this
        clear htk
        go_wp2_with (at_builtin; refine wpList_append_own _ rfl (.tmp 23) (.tmp 26) 43 rfl (w.heap.size + 1) 9 iS _ 1 16 Tryz.underlying43 hI hz0 hz1 hz2 rfl (by decide) _ (gone tick t k).length (goneN f (gone tick t k)) (by rfl) hoo ⟨_, 0, none⟩ 1 1 [.string (f k).name] (by rfl) rfl (one_cell hcl) (by simp [Value.oneCell']) (by unfold maxLen; omega) (by omega) (by simp; omega) ?_; intro s5 w5 ho5 hg5 _)
        have hrow5 : ∀ B, Value.ownBlock _ = some B → w.heap.size + 1 ≤ B := fun B hB' => (ho.lt B hB').1
        have BO : Below w.heap.size w ((boxMv wr (f k)).alloc (.cells #[.string (f k).name] 9)) := (hB.trans (bM.mono hB.size)).trans (bO.mono (by have := hB.size; simp; omega))
        have hb5 := (((BkAt.mk g0 g1 g2 g3).below bO (by simp; omega)).same (w' := w5) (hg5.block w.heap.size (by simp; omega) (fun e => by have := hrow5 w.heap.size e.symm; omega)))
        refine ⟨⟨k + 1, by omega, by simp, hb5, by rw [HST.out, List.length_append, goneN_snoc]; exact ho5, by have := hg5.size; simp at this; omega, BO.grown hg5 BO.size (fun q hq => by have := hrow5 q hq; omega)⟩, by simp [intOf]; omega⟩
      · have D : (t k == tick) = false := by simpa using htk
        have HST : Hid (gone tick t (k + 1) = gone tick t k) := by have h : gone tick t (k + 1) = gone tick t k := by simp only [gone]; rw [if_neg htk]
                                                                   exact h
        clear htk
        go_wp2
        refine ⟨⟨k + 1, by omega, by simp, ⟨g0, g1, g2, g3⟩, by rw [HST.out]; exact hom, by simp; omega, hB.trans (bM.mono hB.size)⟩, by simp [intOf]; omega⟩
    · have hkn : k = n := by omega
      subst hkn
      go_wp2
      go_ret
      exact ⟨⟨_, rfl, own_base ho (by omega)⟩, hB⟩
end Go.Proofs.YtlmcblcijndipabGreatDoor
