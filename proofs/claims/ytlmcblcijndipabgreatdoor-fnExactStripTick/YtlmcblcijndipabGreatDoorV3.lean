/- A tick passes: the model's StripTick, where it passes. -/
import Derived.Test.YtlmcblcijndipabGreatDoorV2
namespace Go.Proofs.YtlmcblcijndipabGreatDoor
open Go.RowKit
set_option linter.unusedVariables false


/-- the same, and the names of who is gone -/
structure Nz (w : World) (BB RS NX base : Nat) (now shift : Int) (a : Option Addr) (n cap : Nat) (a' : Option Addr) (m cap' : Nat) (v u : Value) (f : Nat → Mv) (t : Nat → Int) (l l2 : List Nat) (s : Value) (j : Nat) (xs : List Value) (W : World) : Prop extends Nx w BB RS NX base now shift a n cap a' m cap' v u f t l l2 W where
  os : W.ownsRow (RS + 1) 9 1 s j xs
  lo : BB < RS
section
variable {w W W' : World} {BB RS NX base : Nat} {now shift : Int} {a : Option Addr} {n cap : Nat} {a' : Option Addr} {m cap' : Nat} {v u : Value} {f : Nat → Mv} {t : Nat → Int} {l l2 : List Nat} {s : Value} {j : Nat} {xs : List Value}
theorem Nz.ne (h : Nz w BB RS NX base now shift a n cap a' m cap' v u f t l l2 s j xs W) (B : Nat) (hB : s.ownBlock = some B) : B ≠ NX := fun e => by
  obtain ⟨cs, h1⟩ := own_tag h.os B hB
  rw [e, h.nx] at h1
  simp at h1
theorem Nz.grow (h : Nz w BB RS NX base now shift a n cap a' m cap' v u f t l l2 s j xs W) (hb : Below W.heap.size W W') : Nz w BB RS NX base now shift a n cap a' m cap' v u f t l l2 s j xs W' :=
  ⟨h.toNx.grow hb, own_same h.os (fun B hB => hb.block B (h.os.lt B hB).2), h.lo⟩
theorem Nz.drew (h : Nz w BB RS NX base now shift a n cap a' m cap' v u f t l l2 s j xs W) : Nz w BB RS NX base now shift a n cap a' m cap' v u f t l l2 s j xs W.drew := h.grow (Below.refl _ _).drew
theorem Nz.moves {v' : Value} (h : Nz w BB RS NX base now shift a n cap a' m cap' v u f t l l2 s j xs W) (k : Nat) (ho : W'.ownsRow base 36 6 v' (l.length + 1) (stayM f t now l ++ (promMv (f k) (t k) (now + 1)).cells.toList)) (hg : W.grownBy W' v.ownBlock) : Nz w BB RS NX base now shift a n cap a' m cap' v' u f t (l ++ [k]) l2 s j xs (W'.setCell ⟨NX, 2, none⟩ v') :=
  ⟨h.toNx.moves k ho hg, own_same h.os (fun B hB => (Below.heap_setCell W' _ _ B (by simpa using h.ne B hB)).trans (hg.block B (h.os.lt B hB).2 (fun e => own_apart h.os h.ov (by decide) B hB e.symm))), h.lo⟩
theorem Nz.ticks {u' : Value} (h : Nz w BB RS NX base now shift a n cap a' m cap' v u f t l l2 s j xs W) (k : Nat) (ho : W'.ownsRow base 3 1 u' (l2.length + 1) (stayT t l2 ++ [.int .i64 (t k)])) (hg : W.grownBy W' u.ownBlock) : Nz w BB RS NX base now shift a n cap a' m cap' v u' f t l (l2 ++ [k]) s j xs (W'.setCell ⟨NX, 3, none⟩ u') :=
  ⟨h.toNx.ticks k ho hg, own_same h.os (fun B hB => (Below.heap_setCell W' _ _ B (by simpa using h.ne B hB)).trans (hg.block B (h.os.lt B hB).2 (fun e => own_apart h.os h.ou (by decide) B hB e.symm))), h.lo⟩
theorem Nz.names {s' : Value} {j' : Nat} {xs' : List Value} (h : Nz w BB RS NX base now shift a n cap a' m cap' v u f t l l2 s j xs W) (ho : W'.ownsRow (RS + 1) 9 1 s' j' xs') (hg : W.grownBy W' s.ownBlock) : Nz w BB RS NX base now shift a n cap a' m cap' v u f t l l2 s' j' xs' W' := by
  have hs := h.size
  have hl := h.lo
  obtain ⟨o1, o2, o3, o4, o5, o6, o7, o8⟩ := h.ord
  have hrow : ∀ B, s.ownBlock = some B → RS + 1 ≤ B := fun B hB => (h.os.lt B hB).1
  exact ⟨⟨h.bb.same (hg.block BB (by omega) (fun e => by have := hrow BB e.symm; omega)), (hg.block NX (by omega) (fun e => h.ne NX e.symm rfl)).trans h.nx, (hg.block RS (by omega) (fun e => by have := hrow RS e.symm; omega)).trans h.rs, own_same h.ov (fun B hB => hg.block B (h.ov.lt B hB).2 (fun e => own_apart h.ov h.os (by decide) B hB e.symm)), own_same h.ou (fun B hB => hg.block B (h.ou.lt B hB).2 (fun e => own_apart h.ou h.os (by decide) B hB e.symm)), Nat.le_trans hs hg.size, h.below.grown hg h.below.size (fun q hq => by have := hrow q hq; omega), h.ord⟩, ho, h.lo⟩
end

/-- what the loads of the ticks see -/
structure St (BB : Nat) (sl : Value) (b' o : Nat) (tk : Int) (W : World) : Prop where
  s3 : W.cell? ⟨BB, 3, none⟩ = some sl
  tk : W.cell? ⟨b', o, none⟩ = some (.int .i64 tk)
theorem St.keep {BB : Nat} {sl : Value} {b' o : Nat} {tk : Int} {W W' : World} (h : St BB sl b' o tk W) (e : ∀ B, B = BB ∨ B = b' → W'.heap[B]? = W.heap[B]?) : St BB sl b' o tk W' :=
  ⟨(World.cell?_of_block (a := ⟨BB, 3, none⟩) (e _ (.inl rfl))).trans h.s3, (World.cell?_of_block (a := ⟨b', o, none⟩) (e _ (.inr rfl))).trans h.tk⟩
theorem St.grown {BB : Nat} {sl : Value} {b' o : Nat} {tk : Int} {W W' : World} {row : Option Nat} (h : St BB sl b' o tk W) (hg : W.grownBy W' row) (hr : ∀ B, row = some B → B ≠ BB ∧ B ≠ b') : St BB sl b' o tk W' := by
  have l2 := block_lt_of_cell h.s3
  have l3 := block_lt_of_cell h.tk
  exact h.keep (fun B hB => hg.block B (by rcases hB with rfl | rfl <;> assumption) (fun e => by have := hr B e.symm; rcases hB with rfl | rfl <;> simp_all))
theorem St.set {BB : Nat} {sl : Value} {b' o : Nat} {tk : Int} {W : World} (h : St BB sl b' o tk W) {NX : Nat} (h2 : BB ≠ NX) (h3 : b' ≠ NX) (j : Nat) (v : Value) : St BB sl b' o tk (W.setCell ⟨NX, j, none⟩ v) :=
  h.keep (fun B hB => Below.heap_setCell _ _ _ _ (by rcases hB with rfl | rfl <;> simpa))
theorem MvOwn.below {w w' : World} {b N : Nat} {m : Mv} (h : MvOwn w b m) (hb : Below N w w') (hN : b < N) : MvOwn w' b m := (hb.block b hN).trans h

section
variable (now shift : Int) (b off n cap : Nat) (f : Nat → Mv) (b' off' m cap' : Nat) (t : Nat → Int) (w : World) (hn : n ≤ 1048576) (hm : m ≤ 1048576) (hbs : b < w.heap.size) (hrow : MvRow w b off n f) (hf : ∀ i, i < n → (f i).Fits) (hbs' : b' < w.heap.size) (hrow' : IntRow w b' off' m t)
include hn hm hbs hrow hf hbs' hrow'

set_option maxRecDepth 10000 in
set_option maxHeartbeats 8000000 in
theorem stick_C (hb : bookB now shift f n t m = true) (hnow : now ≠ 10000) :
    Calls Tryz.prog 21 #[bkV now shift (.slice (some ⟨b, off, none⟩) n cap) (.slice (some ⟨b', off', none⟩) m cap')] w fun e w' => TickSays (tickR now shift f n t m) w e w' ∧ Below w.heap.size w w' := by
  have hB3 : ∀ o1 o2 o3, Below w.heap.size w (((w.alloc o1).alloc o2).alloc o3) := fun o1 o2 o3 => (((Below.refl _ w).alloc (Nat.le_refl _) _).alloc (by simp) _).alloc (by simp; omega) _
  have hN1 : ∀ c2 T2 o3 o4, (((w.alloc (.cells c2 T2)).alloc o3).alloc o4).heap[w.heap.size]? = some (.cells c2 T2 (0, 0)) := fun c2 T2 o3 o4 => (Below.heap_alloc _ _ _ (by simp; omega)).trans ((Below.heap_alloc _ _ _ (by simp)).trans (heap_alloc_new w (.cells c2 T2)))
  have hN2 : ∀ o1 c2 T2 o3, (((w.alloc o1).alloc (.cells c2 T2)).alloc o3).heap[w.heap.size + 1]? = some (.cells c2 T2 (0, 0)) := fun o1 c2 T2 o3 => (Below.heap_alloc _ _ _ (by simp)).trans (by have := heap_alloc_new (w.alloc o1) (.cells c2 T2); simpa using this)
  have hN3 : ∀ o1 o2 c2 T2, (((w.alloc o1).alloc o2).alloc (.cells c2 T2)).heap[w.heap.size + 1 + 1]? = some (.cells c2 T2 (0, 0)) := fun o1 o2 c2 T2 => by have := heap_alloc_new ((w.alloc o1).alloc o2) (.cells c2 T2); simpa using this
  have HB := fun W (hW : Below w.heap.size w W) => specBook_row now shift b off n cap f b' off' m cap' t W hn (by unfold maxLen; omega) (Nat.lt_of_lt_of_le hbs hW.size) (hrow.below hW hbs) hf (Nat.lt_of_lt_of_le hbs' hW.size) (hrow'.below hW hbs')
  rw [hb] at HB
  have HT := fun W (hW : Below w.heap.size w W) => l5Copy_any now shift (.slice (some ⟨b, off, none⟩) n cap) (.slice (some ⟨b', off', none⟩) m cap') n f m t W hn hm (src_m (Nat.lt_of_lt_of_le hbs hW.size) (hrow.below hW hbs)) (src_i (Nat.lt_of_lt_of_le hbs' hW.size) (hrow'.below hW hbs'))
  have HR := tickR_C hb hnow
  obtain ⟨⟨h0, hnt⟩, _, hft⟩ := bookB_parts hb
  obtain ⟨hmv, rfl, _⟩ := fits_parts hft
  have h6 := movesB_six hmv
  have h1 : now < 10000 := by omega
  have hwr : IntKind.i64.wrap (now + 1) = now + 1 := by rw [IntKind.wrap_i64]; omega
  have hwr4 : IntKind.i64.wrap (now + 1 + 4) = now + 1 + 4 := by rw [IntKind.wrap_i64]; omega
  obtain ⟨iM, hI, hz0, hz1, hz2⟩ := info_parts info_mv
  obtain ⟨i0, hI', hy0, hy1, hy2⟩ := info_parts info_i
  obtain ⟨iS, hIS, hs0, hs1, hs2⟩ := info_parts info_str
  clear hnow hft hmv hf hnt hb
  have hge : ¬ 10000 ≤ now := by omega
  go_enter Tryz.func21, Tryz.ntmps21
  go_wp2_with (first
    | (go_at_call 30; refine (HB _ (hB3 _ _ _)).mono ?_; clear HB; rintro e w1 ⟨rfl, b1⟩; have B1 := (hB3 _ _ _).trans (b1.mono (hB3 _ _ _).size); have s1 := b1.size; simp at s1; have g0 := (b1.block w.heap.size (by simp; omega)).trans (hN1 _ _ _ _); have g1 := (b1.block (w.heap.size + 1) (by simp)).trans (hN2 _ _ _ _); have g2 := (b1.block (w.heap.size + 1 + 1) (by simp)).trans (hN3 _ _ _ _); have p0 := cell_of_row w1 _ 0 _ _ _ g0; have p1 := cell_of_row w1 _ 1 _ _ _ g0; have p2 := cell_of_row w1 _ 2 _ _ _ g0; have p3 := cell_of_row w1 _ 3 _ _ _ g0; simp at p0 p1 p2 p3)
    | (go_at_call 31; refine (HT _ B1).mono ?_; clear HT; rintro e w2 ⟨⟨v, u, rfl, ov, ou⟩, b2⟩; clear p0 p1 p2 p3; have B2 := B1.trans (b2.mono B1.size); have s2 := b2.size; have k0 := (b2.block w.heap.size (by omega)).trans g0; have k1 := (b2.block (w.heap.size + 1) (by omega)).trans g1; have k2 := (b2.block (w.heap.size + 1 + 1) (by omega)).trans g2; obtain ⟨av, cv, rfl⟩ := own_sl ov; obtain ⟨au, cu, rfl⟩ := own_sl ou; clear g0 g1 g2 ov ou b2 b1 B1; have kb : ∀ o, (w2.alloc o).heap[w.heap.size]? = _ := fun o => (Below.heap_alloc w2 o _ (by omega)).trans k0; have p0 := fun o => cell_of_row (w2.alloc o) _ 0 _ _ _ (kb o); have p1 := fun o => cell_of_row (w2.alloc o) _ 1 _ _ _ (kb o); simp at p0 p1))
  rename_i hh K hK
  clear hh hge h1 p0 p1 kb
  have hBq : ∀ o1 o2, Below w.heap.size w ((w2.alloc o1).alloc o2) := fun o1 o2 => (B2.alloc B2.size _).alloc (by have := B2.size; simp; omega) _
  have hKq : ∀ o1 o2 q, q < w2.heap.size → ((w2.alloc o1).alloc o2).heap[q]? = w2.heap[q]? := fun o1 o2 q hq => (Below.heap_alloc _ _ _ (by simp; omega)).trans (Below.heap_alloc w2 o1 q hq)
  go_loopw [5, 8] (fun s x W => ∃ (k : Nat) (v u : Value), k ≤ m ∧ x = .int .i64 k ∧ Nz w w.heap.size (w.heap.size + 1) (w2.heap.size + 1) (w2.heap.size + 1 + 1) now shift (some ⟨b, off, none⟩) m cap (some ⟨b', off', none⟩) m cap' v u f t (stay now t k) (stay now t k) s (gone now t k).length (goneN f (gone now t k)) W) (fun _ x _ => m - (intOf x).toNat)
  case atStart =>
    refine ⟨0, .slice none 0 0, .slice none 0 0, Nat.zero_le _, rfl, ⟨?_, ?_, ?_, ⟨rfl, .inl ⟨rfl, rfl⟩⟩, ⟨rfl, .inl ⟨rfl, rfl⟩⟩, by simp, hBq _ _, by omega⟩, ?_, by omega⟩
    · exact BkAt.ofHeap (T := 32) ((hKq _ _ _ (by omega)).trans k0)
    · have := heap_alloc_new (w2.alloc (.cells #[.int .i64 now, .int .i64 shift, .slice av m cv, .slice au m cu] 32)) (.cells #[.int .i64 (now + 1), .int .i64 shift, .slice none 0 0, .slice none 0 0] 32)
      simpa using this
    · exact (hKq _ _ _ (by omega)).trans k1
    · exact own_empty (Nat.le_refl _) ((hKq _ _ _ (by omega)).trans k2)
  case round =>
    clear k0 k1 k2 hBq hKq
    obtain ⟨k, v, u, hk, rfl, hNr⟩ := hrel
    by_cases hlt : k < m
    · have hlt' : (k : Int) < m := by omega
      have hBr := hNr.below
      obtain ⟨c0, c1, c2, c3, c4, c5⟩ := hrow.below hBr hbs k hlt
      have hr' := hrow'.below hBr hbs' k hlt
      have qb := hNr.bb.c2
      have bM := boxMv_below wr (f k)
      have hM : MvOwn (boxMv wr (f k)) wr.heap.size (f k) := heap_alloc_new wr _
      have hNm := hNr.grow bM
      have hl1 := stay_len now t k
      have hl2 := gone_len now t k
      have hsz := hNr.size
      have lz : wr.heap.size < (boxMv wr (f k)).heap.size := by simp
      have hrm : (boxMv wr (f k)).cell? ⟨b', off' + k, none⟩ = some (.int .i64 (t k)) := (bM.cell (p := ⟨b', off' + k, none⟩) (Nat.lt_of_lt_of_le hbs' hBr.size)).trans hr'
      have hne := later_some (boxMv wr (f k))
      have x0 := fun x : Later (boxMv wr (f k)) => x.cell hNm.bb.c0
      have x3 := fun x : Later (boxMv wr (f k)) => x.cell hNm.bb.c3
      have y6 := fun x : Later (boxMv wr (f k)) => x.cell hrm
      by_cases htk : t k = now
      · have D : Hid ((t k == now) = true) := by have h : (t k == now) = true := by simpa using htk
                                                 exact h
        have HST : Hid (stay now t (k + 1) = stay now t k) := by have h : stay now t (k + 1) = stay now t k := by simp only [stay]; rw [if_pos htk]
                                                                 exact h
        have HGO : Hid (gone now t (k + 1) = gone now t k ++ [k]) := by have h : gone now t (k + 1) = gone now t k ++ [k] := by simp only [gone]; rw [if_pos htk]
                                                                        exact h
        clear htk
        go_wp2
        have d := D.out
        refine wp_region_later (by kernel_rfl) (by kernel_rfl) ?_
        repeat (go_big_quiet_step (fail))
        refine wpQuiet_nil (later_all ?_)
        intro w3 hb3
        have hN3 := hNm.grow hb3
        have hM3 := hM.below hb3 lz
        have m0 := hM3.at_.c0
        clear x0 x3 y6 hne d
        have bO : Below w3.heap.size w3 (w3.alloc (.cells #[.string (f k).name] 9)) := (Below.refl _ _).alloc (Nat.le_refl _) _
        have hNo := hN3.grow bO
        have hcl : (w3.alloc (.cells #[.string (f k).name] 9)).heap[w3.heap.size]? = some (.cells #[.string (f k).name] 9 (0, 0)) := heap_alloc_new _ _
        go_wp2_with (at_builtin; refine wpList_append_own _ rfl (.tmp 49) (.tmp 52) 43 rfl (w.heap.size + 1 + 1) 9 iS _ 1 16 Tryz.underlying43 hIS hs0 hs1 hs2 rfl (by decide) _ (gone now t k).length (goneN f (gone now t k)) (by rfl) hNo.os ⟨_, 0, none⟩ 1 1 [.string (f k).name] (by rfl) rfl (one_cell hcl) (by simp [Value.oneCell']) (by unfold maxLen; omega) (by omega) (by have := hNo.size; omega) ?_; intro s5 w5 ho5 hg5 _)
        have hN5 := hNo.names ho5 hg5
        rw [← HST.out] at hN5
        exact ⟨⟨k + 1, v, u, by omega, by simp, by rw [HGO.out, List.length_append, goneN_snoc]; exact hN5⟩, by simp [intOf]; omega⟩
      · have D : Hid ((t k == now) = false) := by have h : (t k == now) = false := by simpa using htk
                                                  exact h
        have HST : Hid (stay now t (k + 1) = stay now t k ++ [k]) := by have h : stay now t (k + 1) = stay now t k ++ [k] := by simp only [stay]; rw [if_neg htk]
                                                                        exact h
        have HGO : Hid (gone now t (k + 1) = gone now t k) := by have h : gone now t (k + 1) = gone now t k := by simp only [gone]; rw [if_neg htk]
                                                                 exact h
        clear htk
        go_wp2
        have d := D.out
        refine wp_region_later (by kernel_rfl) (by kernel_rfl) ?_
        repeat (go_big_quiet_step (fail))
        refine wpQuiet_nil (later_all ?_)
        intro w3 hb3
        have hN3 := hNm.grow hb3
        have hM3 := hM.below hb3 lz
        have hr3 := (hb3.cell (p := ⟨b', off' + k, none⟩) (Nat.lt_of_lt_of_le (Nat.lt_of_lt_of_le hbs' hBr.size) bM.size)).trans hrm
        have lz3 : wr.heap.size < w3.heap.size := Nat.lt_of_lt_of_le lz hb3.size
        clear x0 x3 y6 hne d hNm hM hrm hr' qb c0 c1 c2 c3 c4 c5
        go_wp2
        have hne := later_some w3
        have x3 := fun x : Later w3 => x.cell hN3.bb.c3
        have y6 := fun x : Later w3 => x.cell hr3
        have z0 := fun x : Later w3 => x.cell hN3.ncell.1.1
        by_cases hpr : t k < now + 1 + 4
        · have HMP : Hid (promMv (f k) (t k) (now + 1) = { f k with prom := t k }) := by have h : promMv (f k) (t k) (now + 1) = { f k with prom := t k } := by unfold promMv; rw [if_pos hpr]
                                                                                         exact h
          refine wp_region_later (by kernel_rfl) (by kernel_rfl) ?_
          repeat (go_big_quiet_step (fail))
          refine wpQuiet_nil (later_all ?_)
          intro w4 hb4
          clear x3 y6 z0 hne
          have hN4 := hN3.grow hb4
          have hM4 := hM3.below hb4 lz3
          have hr4 := (hb4.cell (p := ⟨b', off' + k, none⟩) (block_lt_of_cell hr3)).trans hr3
          obtain ⟨m', hm'⟩ : ∃ m', m' = promMv (f k) (t k) (now + 1) := ⟨_, rfl⟩
          have HMQ := HMP.out
          rw [← hm'] at HMQ
          clear HMP
          have HMP : Hid (m' = promMv (f k) (t k) (now + 1)) := hm'
          clear hm'
          have u5 := hM4.at_.c5
          simp only [Nat.zero_add] at u5
          have uf := hM4.frozen 5
          have u3 := hN4.bb.c3
          have BR : Below wr.heap.size wr (w4.setCell ⟨wr.heap.size, 5, none⟩ (.int .i64 (t k))) := ((bM.trans (hb3.mono bM.size)).trans (hb4.mono (Nat.le_trans bM.size hb3.size))).setCell (by simp) _
          have hM5 : MvOwn (w4.setCell ⟨wr.heap.size, 5, none⟩ (.int .i64 (t k))) wr.heap.size m' := by
            rw [HMQ]
            unfold MvOwn
            have := heap_setCell_same w4 wr.heap.size 5 _ _ (.int .i64 (t k)) hM4
            simpa using this
          clear HMQ hM4 hN4 hM3 hN3 hr3 hb3 hb4 bM
          have hN5 := hNr.grow BR
          obtain ⟨a0, a1, a2, a3, a4, a5⟩ := hM5.at_
          simp only [Nat.zero_add] at a0 a1 a2 a3 a4 a5
          obtain ⟨⟨e0, e2, e3⟩, ef⟩ := hN5.ncell
          have bO : Below (w4.setCell ⟨wr.heap.size, 5, none⟩ (.int .i64 (t k))).heap.size (w4.setCell ⟨wr.heap.size, 5, none⟩ (.int .i64 (t k))) ((w4.setCell ⟨wr.heap.size, 5, none⟩ (.int .i64 (t k))).alloc (.cells #[.string m'.name, .bool m'.lands, .int .i64 m'.wake, .int .i64 m'.est, .int .i64 m'.late, .int .i64 m'.prom] 36)) := (Below.refl _ _).alloc (Nat.le_refl _) _
          have hcl : MvOwn ((w4.setCell ⟨wr.heap.size, 5, none⟩ (.int .i64 (t k))).alloc (.cells #[.string m'.name, .bool m'.lands, .int .i64 m'.wake, .int .i64 m'.est, .int .i64 m'.late, .int .i64 m'.prom] 36)) w4.heap.size m' := by
            have h := heap_alloc_new (w4.setCell ⟨wr.heap.size, 5, none⟩ (.int .i64 (t k))) (.cells #[.string m'.name, .bool m'.lands, .int .i64 m'.wake, .int .i64 m'.est, .int .i64 m'.late, .int .i64 m'.prom] 36)
            rw [show (w4.setCell ⟨wr.heap.size, 5, none⟩ (.int .i64 (t k))).heap.size = w4.heap.size by simp] at h
            exact h
          have hN5a := hN5.grow bO
          obtain ⟨⟨g0, g2, g3⟩, gf⟩ := hN5a.ncell
          have hlv := fun B (hB : v.ownBlock = some B) => (hN5a.ov.lt B hB).1
          go_wp2_with (at_builtin; refine wpList_append_own _ rfl (.tmp 70) (.tmp 72) 30 rfl (w2.heap.size + 1 + 1) 36 iM _ 6 56 Tryz.underlying30 hI hz0 hz1 hz2 rfl (by decide) v (stay now t k).length (stayM f t now (stay now t k)) (by rfl) hN5a.ov ⟨w4.heap.size, 0, none⟩ 1 1 (Mv.cells m').toList (by rfl) rfl (own_mv hcl) (one_mv _) (by unfold maxLen; omega) (by omega) hN5a.size ?_; intro v6 w6 ho6 hg6 _; obtain ⟨B6, c6, rfl⟩ := own_succ ho6; have p2 : w6.cell? ⟨w2.heap.size + 1, 2, none⟩ = some v := (World.cell?_of_block (a := ⟨w2.heap.size + 1, 2, none⟩) (hg6.block _ (block_lt_of_cell g2) (fun e => by have := hlv (w2.heap.size + 1) e.symm; omega))).trans g2; have pf : w6.frozen? ⟨w2.heap.size + 1, 2, none⟩ = false := (World.frozen?_of_block (a := ⟨w2.heap.size + 1, 2, none⟩) (hg6.block _ (block_lt_of_cell g2) (fun e => by have := hlv (w2.heap.size + 1) e.symm; omega))).trans (gf 2))
          rw [HMP.out] at ho6
          have hN7 := hN5a.moves k ho6 hg6
          revert hN7
          generalize w6.setCell ⟨w2.heap.size + 1, 2, none⟩ (.slice (some ⟨B6, 0, none⟩) ((stay now t k).length + 1) c6) = W5
          intro hN7
          clear hcl a0 a1 a2 a3 a4 a5 e0 e2 e3 ef bO g0 g2 g3 gf hlv p2 pf ho6 hg6 BR
          clear hM5 hN5 hN5a
          have hS6 : St w.heap.size (.slice (some ⟨b', off', none⟩) m cap') b' (off' + k) (t k) W5.drew := ⟨hN7.drew.bb.c3, hrow'.below hN7.drew.below hbs' k hlt⟩
          obtain ⟨⟨n0, n2, n3⟩, nf⟩ := hN7.drew.ncell
          clear hrow hrow' HMP
          refine wp_region_held_drew (S := St w.heap.size (.slice (some ⟨b', off', none⟩) m cap') b' (off' + k) (t k)) (by kernel_rfl) hS6 (fun hHeld => ?_)
          refine take_at (i := 0) (v := .pointer (some ⟨w2.heap.size + 1, 3, none⟩)) 75 rfl rfl (by kernel_rfl) (by kernel_rfl) (by kernel_rfl) (fun _ _ _ h => h) (Or.inl ⟨by rfl, fun w' hSw => by (obtain ⟨s0, s1⟩ := hSw; go_simp)⟩) hHeld ?_
          simp only [Act.put, List.setIfInBounds_toArray, List.set_cons_zero, List.set_cons_succ]
          refine take_at (i := 2) (v := .pointer (some ⟨w.heap.size, 3, none⟩)) 77 rfl rfl (by kernel_rfl) (by kernel_rfl) (by kernel_rfl) (fun _ _ _ h => h) (Or.inl ⟨by rfl, fun w' hSw => by (obtain ⟨s0, s1⟩ := hSw; go_simp)⟩) hHeld ?_
          simp only [Act.put, List.setIfInBounds_toArray, List.set_cons_zero, List.set_cons_succ]
          refine take_at (i := 3) (v := .slice (some ⟨b', off', none⟩) m cap') 78 rfl rfl (by kernel_rfl) (by kernel_rfl) (by kernel_rfl) (fun _ _ _ h => h) (Or.inl ⟨by rfl, fun w' hSw => by (obtain ⟨s0, s1⟩ := hSw; go_simp)⟩) hHeld ?_
          simp only [Act.put, List.setIfInBounds_toArray, List.set_cons_zero, List.set_cons_succ]
          refine take_at (i := 4) (v := .int .i64 (k : Int)) 79 rfl rfl (by kernel_rfl) (by kernel_rfl) (by kernel_rfl) (fun _ _ _ h => h) (Or.inl ⟨by rfl, fun w' hSw => by (obtain ⟨s0, s1⟩ := hSw; go_simp)⟩) hHeld ?_
          simp only [Act.put, List.setIfInBounds_toArray, List.set_cons_zero, List.set_cons_succ]
          refine take_at (i := 5) (v := .pointer (some ⟨b', off' + k, none⟩)) 80 rfl rfl (by kernel_rfl) (by kernel_rfl) (by kernel_rfl) (fun _ _ _ h => h) (Or.inl ⟨by rfl, fun w' hSw => by (obtain ⟨s0, s1⟩ := hSw; go_simp)⟩) hHeld ?_
          simp only [Act.put, List.setIfInBounds_toArray, List.set_cons_zero, List.set_cons_succ]
          refine take_at (i := 6) (v := .int .i64 (t k)) 81 rfl rfl (by kernel_rfl) (by kernel_rfl) (by kernel_rfl) (fun _ _ _ h => h) (Or.inl ⟨by rfl, fun w' hSw => by (obtain ⟨s0, s1⟩ := hSw; go_simp)⟩) hHeld ?_
          simp only [Act.put, List.setIfInBounds_toArray, List.set_cons_zero, List.set_cons_succ]
          refine wpAnyH_ready (rs := [1, 7]) (by kernel_rfl) (by simp) ?_
          refine AllReadyH.cons rfl (fun K hK => ?_) (AllReadyH.cons rfl (fun K hK => ?_) AllReadyH.nil)
          · go_simp
            refine hK.out _ _ hS6 (fun hHeld => ?_)
            clear hK K
            refine wpAnyH_ready (rs := [7]) (by kernel_rfl) (by simp) ?_
            refine AllReadyH.cons rfl (fun K hK => ?_) AllReadyH.nil
            go_simp
            have bO : Below W5.heap.size W5 (W5.alloc (.cells #[.int .i64 (t k)] 3)).drew := ((Below.refl _ W5).alloc (Nat.le_refl _) _).drew
            have hN8 := hN7.grow bO
            have hS7 : St w.heap.size (.slice (some ⟨b', off', none⟩) m cap') b' (off' + k) (t k) (W5.alloc (.cells #[.int .i64 (t k)] 3)).drew := hS6.keep (fun B hB => (bO.block B (by have l2 := block_lt_of_cell hS6.s3; have l3 := block_lt_of_cell hS6.tk; simp at l2 l3; rcases hB with rfl | rfl <;> assumption)))
            obtain ⟨⟨g0, g2, g3⟩, gf⟩ := hN8.ncell
            refine hK.out _ _ hS7 (fun hHeld => ?_)
            clear hK K
            refine wpAnyH_ready (rs := [8]) (by kernel_rfl) (by simp) ?_
            refine AllReadyH.cons rfl (fun K hK => ?_) AllReadyH.nil
            refine step_append_own rfl (.tmp 76) (.tmp 82) 23 rfl 3 i0 (.int .i64 0) 1 8 Tryz.underlying23 hI' hy0 hy1 hy2 rfl (by decide) (w2.heap.size + 1 + 1) u (stay now t k).length (stayT t (stay now t k)) (by rfl) hN8.ou ⟨_, 0, none⟩ 1 1 [.int .i64 (t k)] (by rfl) rfl (one_cell (heap_alloc_new W5 _)) (by simp [Value.oneCell']) (by unfold maxLen; omega) (by omega) hN8.size ?_
            intro u7 w7 ho7 hg7; obtain ⟨B7, c7, rfl⟩ := own_succ ho7
            have hlo := fun B (hB : u.ownBlock = some B) => (hN8.ou.lt B hB).1
            have hS8 := hS7.grown hg7 (fun B hB => by have h1 := hlo B hB; omega)
            have p2 : w7.cell? ⟨w2.heap.size + 1, 3, none⟩ = some u := (World.cell?_of_block (a := ⟨w2.heap.size + 1, 3, none⟩) (hg7.block _ (block_lt_of_cell g3) (fun e => by have := hlo (w2.heap.size + 1) e.symm; omega))).trans g3
            have pf : w7.frozen? ⟨w2.heap.size + 1, 3, none⟩ = false := (World.frozen?_of_block (a := ⟨w2.heap.size + 1, 3, none⟩) (hg7.block _ (block_lt_of_cell g3) (fun e => by have := hlo (w2.heap.size + 1) e.symm; omega))).trans (gf 3)
            refine hK.out _ _ hS8 (fun hHeld => ?_)
            clear hK K
            refine wpAnyH_ready (rs := [9]) (by kernel_rfl) (by simp) ?_
            refine AllReadyH.cons rfl (fun K hK => ?_) AllReadyH.nil
            go_simp
            refine hK.out _ _ hS8 (fun hHeld => ?_)
            clear hK K
            refine wpAnyH_ready (rs := [10]) (by kernel_rfl) (by simp) ?_
            refine AllReadyH.cons rfl (fun K hK => ?_) AllReadyH.nil
            go_simp
            have hN9 := hN8.ticks k ho7 hg7
            have hS9 := hS8.set (NX := w2.heap.size + 1) (by omega) (by omega) 3 (.slice (some ⟨B7, 0, none⟩) ((stay now t k).length + 1) c7)
            refine hK.out _ _ hS9 (fun hHeld => ?_)
            clear hK K
            refine wpAnyH_done (by kernel_rfl) ?_ _
            revert hN9
            generalize w7.setCell ⟨w2.heap.size + 1, 3, none⟩ (.slice (some ⟨B7, 0, none⟩) ((stay now t k).length + 1) c7) = W9
            intro hN9
            clear hHeld hS9 hS8 p2 pf ho7 hg7 hN8 hS7 hS6 hN7 n0 n2 n3 nf g0 g2 g3 gf bO hlo
            rw [← HST.out, ← HGO.out] at hN9
            go_wp2
            exact ⟨⟨k + 1, _, _, by omega, by simp, hN9⟩, by simp [intOf]; omega⟩
          · go_simp
            have bO : Below W5.heap.size W5 (W5.alloc (.cells #[.int .i64 (t k)] 3)).drew := ((Below.refl _ W5).alloc (Nat.le_refl _) _).drew
            have hN8 := hN7.grow bO
            have hS7 : St w.heap.size (.slice (some ⟨b', off', none⟩) m cap') b' (off' + k) (t k) (W5.alloc (.cells #[.int .i64 (t k)] 3)).drew := hS6.keep (fun B hB => (bO.block B (by have l2 := block_lt_of_cell hS6.s3; have l3 := block_lt_of_cell hS6.tk; simp at l2 l3; rcases hB with rfl | rfl <;> assumption)))
            obtain ⟨⟨g0, g2, g3⟩, gf⟩ := hN8.ncell
            refine hK.out _ _ hS7 (fun hHeld => ?_)
            clear hK K
            refine wpAnyH_ready (rs := [1]) (by kernel_rfl) (by simp) ?_
            refine AllReadyH.cons rfl (fun K hK => ?_) AllReadyH.nil
            go_simp
            refine hK.out _ _ hS7 (fun hHeld => ?_)
            clear hK K
            refine wpAnyH_ready (rs := [8]) (by kernel_rfl) (by simp) ?_
            refine AllReadyH.cons rfl (fun K hK => ?_) AllReadyH.nil
            refine step_append_own rfl (.tmp 76) (.tmp 82) 23 rfl 3 i0 (.int .i64 0) 1 8 Tryz.underlying23 hI' hy0 hy1 hy2 rfl (by decide) (w2.heap.size + 1 + 1) u (stay now t k).length (stayT t (stay now t k)) (by rfl) hN8.ou ⟨_, 0, none⟩ 1 1 [.int .i64 (t k)] (by rfl) rfl (one_cell (heap_alloc_new W5 _)) (by simp [Value.oneCell']) (by unfold maxLen; omega) (by omega) hN8.size ?_
            intro u7 w7 ho7 hg7; obtain ⟨B7, c7, rfl⟩ := own_succ ho7
            have hlo := fun B (hB : u.ownBlock = some B) => (hN8.ou.lt B hB).1
            have hS8 := hS7.grown hg7 (fun B hB => by have h1 := hlo B hB; omega)
            have p2 : w7.cell? ⟨w2.heap.size + 1, 3, none⟩ = some u := (World.cell?_of_block (a := ⟨w2.heap.size + 1, 3, none⟩) (hg7.block _ (block_lt_of_cell g3) (fun e => by have := hlo (w2.heap.size + 1) e.symm; omega))).trans g3
            have pf : w7.frozen? ⟨w2.heap.size + 1, 3, none⟩ = false := (World.frozen?_of_block (a := ⟨w2.heap.size + 1, 3, none⟩) (hg7.block _ (block_lt_of_cell g3) (fun e => by have := hlo (w2.heap.size + 1) e.symm; omega))).trans (gf 3)
            refine hK.out _ _ hS8 (fun hHeld => ?_)
            clear hK K
            refine wpAnyH_ready (rs := [9]) (by kernel_rfl) (by simp) ?_
            refine AllReadyH.cons rfl (fun K hK => ?_) AllReadyH.nil
            go_simp
            refine hK.out _ _ hS8 (fun hHeld => ?_)
            clear hK K
            refine wpAnyH_ready (rs := [10]) (by kernel_rfl) (by simp) ?_
            refine AllReadyH.cons rfl (fun K hK => ?_) AllReadyH.nil
            go_simp
            have hN9 := hN8.ticks k ho7 hg7
            have hS9 := hS8.set (NX := w2.heap.size + 1) (by omega) (by omega) 3 (.slice (some ⟨B7, 0, none⟩) ((stay now t k).length + 1) c7)
            refine hK.out _ _ hS9 (fun hHeld => ?_)
            clear hK K
            refine wpAnyH_done (by kernel_rfl) ?_ _
            revert hN9
            generalize w7.setCell ⟨w2.heap.size + 1, 3, none⟩ (.slice (some ⟨B7, 0, none⟩) ((stay now t k).length + 1) c7) = W9
            intro hN9
            clear hHeld hS9 hS8 p2 pf ho7 hg7 hN8 hS7 hS6 hN7 n0 n2 n3 nf g0 g2 g3 gf bO hlo
            rw [← HST.out, ← HGO.out] at hN9
            go_wp2
            exact ⟨⟨k + 1, _, _, by omega, by simp, hN9⟩, by simp [intOf]; omega⟩
        · have HMP : Hid (promMv (f k) (t k) (now + 1) = f k) := by have h : promMv (f k) (t k) (now + 1) = f k := by unfold promMv; rw [if_neg hpr]
                                                                    exact h
          refine wp_region_later (by kernel_rfl) (by kernel_rfl) ?_
          repeat (go_big_quiet_step (fail))
          refine wpQuiet_nil (later_all ?_)
          intro w4 hb4
          clear x3 y6 z0 hne
          have BR : Below wr.heap.size wr w4 := (bM.trans (hb3.mono bM.size)).trans (hb4.mono (Nat.le_trans bM.size hb3.size))
          obtain ⟨m', hm'⟩ : ∃ m', m' = promMv (f k) (t k) (now + 1) := ⟨_, rfl⟩
          have hM5 : MvOwn w4 wr.heap.size m' := by
            rw [hm', HMP.out]
            exact hM3.below hb4 lz3
          clear HMP
          have HMP : Hid (m' = promMv (f k) (t k) (now + 1)) := hm'
          clear hm' hM3 hN3 hr3 hb3 hb4 bM
          have hN5 := hNr.grow BR
          obtain ⟨a0, a1, a2, a3, a4, a5⟩ := hM5.at_
          simp only [Nat.zero_add] at a0 a1 a2 a3 a4 a5
          obtain ⟨⟨e0, e2, e3⟩, ef⟩ := hN5.ncell
          have bO : Below (w4).heap.size (w4) ((w4).alloc (.cells #[.string m'.name, .bool m'.lands, .int .i64 m'.wake, .int .i64 m'.est, .int .i64 m'.late, .int .i64 m'.prom] 36)) := (Below.refl _ _).alloc (Nat.le_refl _) _
          have hcl : MvOwn ((w4).alloc (.cells #[.string m'.name, .bool m'.lands, .int .i64 m'.wake, .int .i64 m'.est, .int .i64 m'.late, .int .i64 m'.prom] 36)) w4.heap.size m' := by
            have h := heap_alloc_new (w4) (.cells #[.string m'.name, .bool m'.lands, .int .i64 m'.wake, .int .i64 m'.est, .int .i64 m'.late, .int .i64 m'.prom] 36)
            exact h
          have hN5a := hN5.grow bO
          obtain ⟨⟨g0, g2, g3⟩, gf⟩ := hN5a.ncell
          have hlv := fun B (hB : v.ownBlock = some B) => (hN5a.ov.lt B hB).1
          go_wp2_with (at_builtin; refine wpList_append_own _ rfl (.tmp 70) (.tmp 72) 30 rfl (w2.heap.size + 1 + 1) 36 iM _ 6 56 Tryz.underlying30 hI hz0 hz1 hz2 rfl (by decide) v (stay now t k).length (stayM f t now (stay now t k)) (by rfl) hN5a.ov ⟨w4.heap.size, 0, none⟩ 1 1 (Mv.cells m').toList (by rfl) rfl (own_mv hcl) (one_mv _) (by unfold maxLen; omega) (by omega) hN5a.size ?_; intro v6 w6 ho6 hg6 _; obtain ⟨B6, c6, rfl⟩ := own_succ ho6; have p2 : w6.cell? ⟨w2.heap.size + 1, 2, none⟩ = some v := (World.cell?_of_block (a := ⟨w2.heap.size + 1, 2, none⟩) (hg6.block _ (block_lt_of_cell g2) (fun e => by have := hlv (w2.heap.size + 1) e.symm; omega))).trans g2; have pf : w6.frozen? ⟨w2.heap.size + 1, 2, none⟩ = false := (World.frozen?_of_block (a := ⟨w2.heap.size + 1, 2, none⟩) (hg6.block _ (block_lt_of_cell g2) (fun e => by have := hlv (w2.heap.size + 1) e.symm; omega))).trans (gf 2))
          rw [HMP.out] at ho6
          have hN7 := hN5a.moves k ho6 hg6
          revert hN7
          generalize w6.setCell ⟨w2.heap.size + 1, 2, none⟩ (.slice (some ⟨B6, 0, none⟩) ((stay now t k).length + 1) c6) = W5
          intro hN7
          clear hcl a0 a1 a2 a3 a4 a5 e0 e2 e3 ef bO g0 g2 g3 gf hlv p2 pf ho6 hg6 BR
          clear hM5 hN5 hN5a
          have hS6 : St w.heap.size (.slice (some ⟨b', off', none⟩) m cap') b' (off' + k) (t k) W5.drew := ⟨hN7.drew.bb.c3, hrow'.below hN7.drew.below hbs' k hlt⟩
          obtain ⟨⟨n0, n2, n3⟩, nf⟩ := hN7.drew.ncell
          clear hrow hrow' HMP
          refine wp_region_held_drew (S := St w.heap.size (.slice (some ⟨b', off', none⟩) m cap') b' (off' + k) (t k)) (by kernel_rfl) hS6 (fun hHeld => ?_)
          refine take_at (i := 0) (v := .pointer (some ⟨w2.heap.size + 1, 3, none⟩)) 75 rfl rfl (by kernel_rfl) (by kernel_rfl) (by kernel_rfl) (fun _ _ _ h => h) (Or.inl ⟨by rfl, fun w' hSw => by (obtain ⟨s0, s1⟩ := hSw; go_simp)⟩) hHeld ?_
          simp only [Act.put, List.setIfInBounds_toArray, List.set_cons_zero, List.set_cons_succ]
          refine take_at (i := 2) (v := .pointer (some ⟨w.heap.size, 3, none⟩)) 77 rfl rfl (by kernel_rfl) (by kernel_rfl) (by kernel_rfl) (fun _ _ _ h => h) (Or.inl ⟨by rfl, fun w' hSw => by (obtain ⟨s0, s1⟩ := hSw; go_simp)⟩) hHeld ?_
          simp only [Act.put, List.setIfInBounds_toArray, List.set_cons_zero, List.set_cons_succ]
          refine take_at (i := 3) (v := .slice (some ⟨b', off', none⟩) m cap') 78 rfl rfl (by kernel_rfl) (by kernel_rfl) (by kernel_rfl) (fun _ _ _ h => h) (Or.inl ⟨by rfl, fun w' hSw => by (obtain ⟨s0, s1⟩ := hSw; go_simp)⟩) hHeld ?_
          simp only [Act.put, List.setIfInBounds_toArray, List.set_cons_zero, List.set_cons_succ]
          refine take_at (i := 4) (v := .int .i64 (k : Int)) 79 rfl rfl (by kernel_rfl) (by kernel_rfl) (by kernel_rfl) (fun _ _ _ h => h) (Or.inl ⟨by rfl, fun w' hSw => by (obtain ⟨s0, s1⟩ := hSw; go_simp)⟩) hHeld ?_
          simp only [Act.put, List.setIfInBounds_toArray, List.set_cons_zero, List.set_cons_succ]
          refine take_at (i := 5) (v := .pointer (some ⟨b', off' + k, none⟩)) 80 rfl rfl (by kernel_rfl) (by kernel_rfl) (by kernel_rfl) (fun _ _ _ h => h) (Or.inl ⟨by rfl, fun w' hSw => by (obtain ⟨s0, s1⟩ := hSw; go_simp)⟩) hHeld ?_
          simp only [Act.put, List.setIfInBounds_toArray, List.set_cons_zero, List.set_cons_succ]
          refine take_at (i := 6) (v := .int .i64 (t k)) 81 rfl rfl (by kernel_rfl) (by kernel_rfl) (by kernel_rfl) (fun _ _ _ h => h) (Or.inl ⟨by rfl, fun w' hSw => by (obtain ⟨s0, s1⟩ := hSw; go_simp)⟩) hHeld ?_
          simp only [Act.put, List.setIfInBounds_toArray, List.set_cons_zero, List.set_cons_succ]
          refine wpAnyH_ready (rs := [1, 7]) (by kernel_rfl) (by simp) ?_
          refine AllReadyH.cons rfl (fun K hK => ?_) (AllReadyH.cons rfl (fun K hK => ?_) AllReadyH.nil)
          · go_simp
            refine hK.out _ _ hS6 (fun hHeld => ?_)
            clear hK K
            refine wpAnyH_ready (rs := [7]) (by kernel_rfl) (by simp) ?_
            refine AllReadyH.cons rfl (fun K hK => ?_) AllReadyH.nil
            go_simp
            have bO : Below W5.heap.size W5 (W5.alloc (.cells #[.int .i64 (t k)] 3)).drew := ((Below.refl _ W5).alloc (Nat.le_refl _) _).drew
            have hN8 := hN7.grow bO
            have hS7 : St w.heap.size (.slice (some ⟨b', off', none⟩) m cap') b' (off' + k) (t k) (W5.alloc (.cells #[.int .i64 (t k)] 3)).drew := hS6.keep (fun B hB => (bO.block B (by have l2 := block_lt_of_cell hS6.s3; have l3 := block_lt_of_cell hS6.tk; simp at l2 l3; rcases hB with rfl | rfl <;> assumption)))
            obtain ⟨⟨g0, g2, g3⟩, gf⟩ := hN8.ncell
            refine hK.out _ _ hS7 (fun hHeld => ?_)
            clear hK K
            refine wpAnyH_ready (rs := [8]) (by kernel_rfl) (by simp) ?_
            refine AllReadyH.cons rfl (fun K hK => ?_) AllReadyH.nil
            refine step_append_own rfl (.tmp 76) (.tmp 82) 23 rfl 3 i0 (.int .i64 0) 1 8 Tryz.underlying23 hI' hy0 hy1 hy2 rfl (by decide) (w2.heap.size + 1 + 1) u (stay now t k).length (stayT t (stay now t k)) (by rfl) hN8.ou ⟨_, 0, none⟩ 1 1 [.int .i64 (t k)] (by rfl) rfl (one_cell (heap_alloc_new W5 _)) (by simp [Value.oneCell']) (by unfold maxLen; omega) (by omega) hN8.size ?_
            intro u7 w7 ho7 hg7; obtain ⟨B7, c7, rfl⟩ := own_succ ho7
            have hlo := fun B (hB : u.ownBlock = some B) => (hN8.ou.lt B hB).1
            have hS8 := hS7.grown hg7 (fun B hB => by have h1 := hlo B hB; omega)
            have p2 : w7.cell? ⟨w2.heap.size + 1, 3, none⟩ = some u := (World.cell?_of_block (a := ⟨w2.heap.size + 1, 3, none⟩) (hg7.block _ (block_lt_of_cell g3) (fun e => by have := hlo (w2.heap.size + 1) e.symm; omega))).trans g3
            have pf : w7.frozen? ⟨w2.heap.size + 1, 3, none⟩ = false := (World.frozen?_of_block (a := ⟨w2.heap.size + 1, 3, none⟩) (hg7.block _ (block_lt_of_cell g3) (fun e => by have := hlo (w2.heap.size + 1) e.symm; omega))).trans (gf 3)
            refine hK.out _ _ hS8 (fun hHeld => ?_)
            clear hK K
            refine wpAnyH_ready (rs := [9]) (by kernel_rfl) (by simp) ?_
            refine AllReadyH.cons rfl (fun K hK => ?_) AllReadyH.nil
            go_simp
            refine hK.out _ _ hS8 (fun hHeld => ?_)
            clear hK K
            refine wpAnyH_ready (rs := [10]) (by kernel_rfl) (by simp) ?_
            refine AllReadyH.cons rfl (fun K hK => ?_) AllReadyH.nil
            go_simp
            have hN9 := hN8.ticks k ho7 hg7
            have hS9 := hS8.set (NX := w2.heap.size + 1) (by omega) (by omega) 3 (.slice (some ⟨B7, 0, none⟩) ((stay now t k).length + 1) c7)
            refine hK.out _ _ hS9 (fun hHeld => ?_)
            clear hK K
            refine wpAnyH_done (by kernel_rfl) ?_ _
            revert hN9
            generalize w7.setCell ⟨w2.heap.size + 1, 3, none⟩ (.slice (some ⟨B7, 0, none⟩) ((stay now t k).length + 1) c7) = W9
            intro hN9
            clear hHeld hS9 hS8 p2 pf ho7 hg7 hN8 hS7 hS6 hN7 n0 n2 n3 nf g0 g2 g3 gf bO hlo
            rw [← HST.out, ← HGO.out] at hN9
            go_wp2
            exact ⟨⟨k + 1, _, _, by omega, by simp, hN9⟩, by simp [intOf]; omega⟩
          · go_simp
            have bO : Below W5.heap.size W5 (W5.alloc (.cells #[.int .i64 (t k)] 3)).drew := ((Below.refl _ W5).alloc (Nat.le_refl _) _).drew
            have hN8 := hN7.grow bO
            have hS7 : St w.heap.size (.slice (some ⟨b', off', none⟩) m cap') b' (off' + k) (t k) (W5.alloc (.cells #[.int .i64 (t k)] 3)).drew := hS6.keep (fun B hB => (bO.block B (by have l2 := block_lt_of_cell hS6.s3; have l3 := block_lt_of_cell hS6.tk; simp at l2 l3; rcases hB with rfl | rfl <;> assumption)))
            obtain ⟨⟨g0, g2, g3⟩, gf⟩ := hN8.ncell
            refine hK.out _ _ hS7 (fun hHeld => ?_)
            clear hK K
            refine wpAnyH_ready (rs := [1]) (by kernel_rfl) (by simp) ?_
            refine AllReadyH.cons rfl (fun K hK => ?_) AllReadyH.nil
            go_simp
            refine hK.out _ _ hS7 (fun hHeld => ?_)
            clear hK K
            refine wpAnyH_ready (rs := [8]) (by kernel_rfl) (by simp) ?_
            refine AllReadyH.cons rfl (fun K hK => ?_) AllReadyH.nil
            refine step_append_own rfl (.tmp 76) (.tmp 82) 23 rfl 3 i0 (.int .i64 0) 1 8 Tryz.underlying23 hI' hy0 hy1 hy2 rfl (by decide) (w2.heap.size + 1 + 1) u (stay now t k).length (stayT t (stay now t k)) (by rfl) hN8.ou ⟨_, 0, none⟩ 1 1 [.int .i64 (t k)] (by rfl) rfl (one_cell (heap_alloc_new W5 _)) (by simp [Value.oneCell']) (by unfold maxLen; omega) (by omega) hN8.size ?_
            intro u7 w7 ho7 hg7; obtain ⟨B7, c7, rfl⟩ := own_succ ho7
            have hlo := fun B (hB : u.ownBlock = some B) => (hN8.ou.lt B hB).1
            have hS8 := hS7.grown hg7 (fun B hB => by have h1 := hlo B hB; omega)
            have p2 : w7.cell? ⟨w2.heap.size + 1, 3, none⟩ = some u := (World.cell?_of_block (a := ⟨w2.heap.size + 1, 3, none⟩) (hg7.block _ (block_lt_of_cell g3) (fun e => by have := hlo (w2.heap.size + 1) e.symm; omega))).trans g3
            have pf : w7.frozen? ⟨w2.heap.size + 1, 3, none⟩ = false := (World.frozen?_of_block (a := ⟨w2.heap.size + 1, 3, none⟩) (hg7.block _ (block_lt_of_cell g3) (fun e => by have := hlo (w2.heap.size + 1) e.symm; omega))).trans (gf 3)
            refine hK.out _ _ hS8 (fun hHeld => ?_)
            clear hK K
            refine wpAnyH_ready (rs := [9]) (by kernel_rfl) (by simp) ?_
            refine AllReadyH.cons rfl (fun K hK => ?_) AllReadyH.nil
            go_simp
            refine hK.out _ _ hS8 (fun hHeld => ?_)
            clear hK K
            refine wpAnyH_ready (rs := [10]) (by kernel_rfl) (by simp) ?_
            refine AllReadyH.cons rfl (fun K hK => ?_) AllReadyH.nil
            go_simp
            have hN9 := hN8.ticks k ho7 hg7
            have hS9 := hS8.set (NX := w2.heap.size + 1) (by omega) (by omega) 3 (.slice (some ⟨B7, 0, none⟩) ((stay now t k).length + 1) c7)
            refine hK.out _ _ hS9 (fun hHeld => ?_)
            clear hK K
            refine wpAnyH_done (by kernel_rfl) ?_ _
            revert hN9
            generalize w7.setCell ⟨w2.heap.size + 1, 3, none⟩ (.slice (some ⟨B7, 0, none⟩) ((stay now t k).length + 1) c7) = W9
            intro hN9
            clear hHeld hS9 hS8 p2 pf ho7 hg7 hN8 hS7 hS6 hN7 n0 n2 n3 nf g0 g2 g3 gf bO hlo
            rw [← HST.out, ← HGO.out] at hN9
            go_wp2
            exact ⟨⟨k + 1, _, _, by omega, by simp, hN9⟩, by simp [intOf]; omega⟩
    · have hkn : k = m := by omega
      subst hkn
      have hx := hNr.nx
      have c0 := cell_of_row wr _ 0 _ _ _ hx
      have c1 := cell_of_row wr _ 1 _ _ _ hx
      have c2 := cell_of_row wr _ 2 _ _ _ hx
      have c3 := cell_of_row wr _ 3 _ _ _ hx
      simp at c0 c1 c2 c3
      have qb := hNr.bb.c2
      have hov := hNr.ov
      rw [stayM_cells] at hov
      have hl1 := stay_len now t k
      have HC := l5Copy_any (now + 1) shift v u (stay now t k).length _ (stay now t k).length (fun j => t (nth (stay now t k) j)) wr (by omega) (by omega) (src_om hov) (src_oi hNr.ou (fun j hj => stayT_get t _ j hj))
      obtain ⟨av, cv, rfl⟩ := own_sl hov
      obtain ⟨au, cu, rfl⟩ := own_sl hNr.ou
      have hos := hNr.os
      obtain ⟨sa, sc, rfl⟩ := own_sl hos
      have hB := hNr.below
      have hsz := hNr.size
      have hy := hNr.rs
      clear hNr hx hov
      go_wp2_with (go_at_call 31; refine HC.mono ?_; clear HC; rintro e w3 ⟨⟨v3, u3, rfl, ov3, ou3⟩, b3⟩; have B3 := hB.trans (b3.mono hB.size); have s3 := b3.size; have z1 := (b3.block (w.heap.size + 1) (by omega)).trans hy; have r0 := cell_of_row w3 _ 0 _ _ _ z1; have r1 := cell_of_row w3 _ 1 _ _ _ z1; have r2 := cell_of_row w3 _ 2 _ _ _ z1; have r3 := cell_of_row w3 _ 3 _ _ _ z1; have rf := fun j => frozen_of_row w3 _ j _ _ z1; simp at r0 r1 r2 r3; obtain ⟨av3, cv3, rfl⟩ := own_sl ov3; obtain ⟨au3, cu3, rfl⟩ := own_sl ou3)
      have eW : ∀ v1 v2 v3 v4 q, q ≠ w.heap.size + 1 → ((((w3.setCell ⟨w.heap.size + 1, 0, none⟩ v1).setCell ⟨w.heap.size + 1, 1, none⟩ v2).setCell ⟨w.heap.size + 1, 2, none⟩ v3).setCell ⟨w.heap.size + 1, 3, none⟩ v4).heap[q]? = w3.heap[q]? := fun v1 v2 v3 v4 q hq => by
        rw [Below.heap_setCell _ _ _ _ (by simpa using hq), Below.heap_setCell _ _ _ _ (by simpa using hq), Below.heap_setCell _ _ _ _ (by simpa using hq), Below.heap_setCell _ _ _ _ (by simpa using hq)]
      refine bodyPost_ret (v := .tuple #[bkV (now + 1) shift (.slice av3 (stay now t k).length cv3) (.slice au3 (stay now t k).length cu3), .slice sa (gone now t k).length sc, .int .i64 0]) (by simp [results, Tryz.results21, go_sem, r0, r1, r2, r3]) rfl ⟨?_, ?_⟩
      · rw [HR]
        exact ⟨_, _, _, rfl, own_M (own_base (own_same ov3 (fun B hB => eW _ _ _ _ B (by have := (ov3.lt B hB).1; omega))) (by omega)), own_I (own_base (own_same ou3 (fun B hB => eW _ _ _ _ B (by have := (ou3.lt B hB).1; omega))) (by omega)) (fun j hj => ivals_get hj), own_S (own_base (own_same hos (fun B hB => (eW _ _ _ _ B (by have := (hos.lt B hB).1; omega)).trans (b3.block B (hos.lt B hB).2))) (by omega)) (fun j hj => goneN_get f _ j hj)⟩
      · exact (((B3.setCell (by simp) _).setCell (by simp) _).setCell (by simp) _).setCell (by simp) _
end

theorem specTick_row (now shift : Int) (b off n cap : Nat) (f : Nat → Mv) (b' off' m cap' : Nat) (t : Nat → Int) (w : World) (hn : n ≤ 1048576) (hm : m ≤ 1048576) (hbs : b < w.heap.size) (hrow : MvRow w b off n f) (hf : ∀ i, i < n → (f i).Fits) (hbs' : b' < w.heap.size) (hrow' : IntRow w b' off' m t) :
    Calls Tryz.prog 21 #[bkV now shift (.slice (some ⟨b, off, none⟩) n cap) (.slice (some ⟨b', off', none⟩) m cap')] w fun e w' => TickSays (tickR now shift f n t m) w e w' ∧ Below w.heap.size w w' := by
  cases hb : bookB now shift f n t m with
  | false => exact stick_A now shift b off n cap f b' off' m cap' t w hn hm hbs hrow hf hbs' hrow' hb
  | true =>
    by_cases hnow : now = 10000
    · exact stick_B now shift b off n cap f b' off' m cap' t w hn hm hbs hrow hf hbs' hrow' hb hnow
    · exact stick_C now shift b off n cap f b' off' m cap' t w hn hm hbs hrow hf hbs' hrow' hb hnow
end Go.Proofs.YtlmcblcijndipabGreatDoor
