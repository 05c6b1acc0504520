/- A tick passes: who stays, in the program. -/
import Derived.Test.YtlmcblcijndipabGreatDoorU1
namespace Go.Proofs.YtlmcblcijndipabGreatDoor
open Go.RowKit
set_option linter.unusedVariables false

theorem BkAt.ofHeap {w : World} {B : Nat} {now shift : Int} {a : Option Addr} {n cap : Nat} {a' : Option Addr} {m cap' : Nat} {T : TypeId} (h : w.heap[B]? = some (.cells #[.int .i64 now, .int .i64 shift, .slice a n cap, .slice a' m cap'] T (0, 0))) : BkAt w B now shift a n cap a' m cap' := by
  constructor <;> (rw [cell_of_row _ _ _ _ _ _ h]; rfl)
theorem own_sl {w : World} {base : Nat} {e : TypeId} {size : Nat} {v : Value} {n : Nat} {xs : List Value} (h : w.ownsRow base e size v n xs) : ∃ a c, v = .slice a n c := by
  obtain ⟨h1, ⟨rfl, rfl⟩ | ⟨g, c, cur, rfl, _⟩⟩ := h
  · exact ⟨_, _, rfl⟩
  · exact ⟨_, _, rfl⟩
/-- what the loads of one round see -/
structure S8 (M : Nat) (mm : Mv) (BB : Nat) (sl : Value) (b' o : Nat) (tk : Int) (NX : Nat) (nw : Int) (W : World) : Prop where
  c0 : W.cell? ⟨M, 0, none⟩ = some (.string mm.name)
  c1 : W.cell? ⟨M, 1, none⟩ = some (.bool mm.lands)
  c2 : W.cell? ⟨M, 2, none⟩ = some (.int .i64 mm.wake)
  c3 : W.cell? ⟨M, 3, none⟩ = some (.int .i64 mm.est)
  c4 : W.cell? ⟨M, 4, none⟩ = some (.int .i64 mm.late)
  c5 : W.cell? ⟨M, 5, none⟩ = some (.int .i64 mm.prom)
  s3 : W.cell? ⟨BB, 3, none⟩ = some sl
  tk : W.cell? ⟨b', o, none⟩ = some (.int .i64 tk)
  nw : W.cell? ⟨NX, 0, none⟩ = some (.int .i64 nw)
theorem S8.keep {M : Nat} {mm : Mv} {BB : Nat} {sl : Value} {b' o : Nat} {tk : Int} {NX : Nat} {nw : Int} {W W' : World} (h : S8 M mm BB sl b' o tk NX nw W) (e : ∀ B, B = M ∨ B = BB ∨ B = b' ∨ B = NX → W'.heap[B]? = W.heap[B]?) : S8 M mm BB sl b' o tk NX nw W' := by
  have q : ∀ B j, B = M ∨ B = BB ∨ B = b' ∨ B = NX → W'.cell? ⟨B, j, none⟩ = W.cell? ⟨B, j, none⟩ := fun B j hB => World.cell?_of_block (a := ⟨B, j, none⟩) (e B hB)
  exact ⟨(q _ _ (.inl rfl)).trans h.c0, (q _ _ (.inl rfl)).trans h.c1, (q _ _ (.inl rfl)).trans h.c2, (q _ _ (.inl rfl)).trans h.c3, (q _ _ (.inl rfl)).trans h.c4, (q _ _ (.inl rfl)).trans h.c5, (q _ _ (.inr (.inl rfl))).trans h.s3, (q _ _ (.inr (.inr (.inl rfl)))).trans h.tk, (q _ _ (.inr (.inr (.inr rfl)))).trans h.nw⟩
theorem S8.set {M : Nat} {mm : Mv} {BB : Nat} {sl : Value} {b' o : Nat} {tk : Int} {NX : Nat} {nw : Int} {W : World} (h : S8 M mm BB sl b' o tk NX nw W) (h1 : M ≠ NX) (h2 : BB ≠ NX) (h3 : b' ≠ NX) (j : Nat) (hj : j ≠ 0) (v : Value) : S8 M mm BB sl b' o tk NX nw (W.setCell ⟨NX, j, none⟩ v) := by
  have q : ∀ B i, B ≠ NX → (W.setCell ⟨NX, j, none⟩ v).cell? ⟨B, i, none⟩ = W.cell? ⟨B, i, none⟩ := fun B i hB => World.cell?_setCell_other _ _ _ _ (by intro e; cases e; exact hB rfl)
  exact ⟨(q _ _ h1).trans h.c0, (q _ _ h1).trans h.c1, (q _ _ h1).trans h.c2, (q _ _ h1).trans h.c3, (q _ _ h1).trans h.c4, (q _ _ h1).trans h.c5, (q _ _ h2).trans h.s3, (q _ _ h3).trans h.tk, (World.cell?_setCell_other _ _ _ _ (by intro e; cases e; exact hj rfl)).trans h.nw⟩
theorem S8.below {M : Nat} {mm : Mv} {BB : Nat} {sl : Value} {b' o : Nat} {tk : Int} {NX : Nat} {nw : Int} {W W' : World} (h : S8 M mm BB sl b' o tk NX nw W) (hb : Below W.heap.size W W') : S8 M mm BB sl b' o tk NX nw W' := by
  have l1 := block_lt_of_cell h.c0
  have l2 := block_lt_of_cell h.s3
  have l3 := block_lt_of_cell h.tk
  have l4 := block_lt_of_cell h.nw
  exact h.keep (fun B hB => hb.block B (by rcases hB with rfl | rfl | rfl | rfl <;> assumption))
theorem S8.grown {M : Nat} {mm : Mv} {BB : Nat} {sl : Value} {b' o : Nat} {tk : Int} {NX : Nat} {nw : Int} {W W' : World} {row : Option Nat} (h : S8 M mm BB sl b' o tk NX nw W) (hg : W.grownBy W' row) (hr : ∀ B, row = some B → B ≠ M ∧ B ≠ BB ∧ B ≠ b' ∧ B ≠ NX) : S8 M mm BB sl b' o tk NX nw W' := by
  have l1 := block_lt_of_cell h.c0
  have l2 := block_lt_of_cell h.s3
  have l3 := block_lt_of_cell h.tk
  have l4 := block_lt_of_cell h.nw
  exact h.keep (fun B hB => hg.block B (by rcases hB with rfl | rfl | rfl | rfl <;> assumption) (fun e => by have := hr B e.symm; rcases hB with rfl | rfl | rfl | rfl <;> simp_all))

set_option maxRecDepth 10000 in
set_option maxHeartbeats 8000000 in
theorem made_any (now shift : Int) (b off n cap : Nat) (f : Nat → Mv) (b' off' cap' : Nat) (t : Nat → Int) (w : World) (hn : n ≤ 6) (h0 : 0 ≤ now) (h1 : now < 10000) (hbs : b < w.heap.size) (hrow : MvRow w b off n f) (hbs' : b' < w.heap.size) (hrow' : IntRow w b' off' n t) :
    Calls Tryz.prog 287 #[.agg #[], .agg #[.int .i64 now, .int .i64 shift, .slice (some ⟨b, off, none⟩) n cap, .slice (some ⟨b', off', none⟩) n cap']] w fun e w' => (∃ v u, e = .returned (.tuple #[bkV (now + 1) shift v u, .nilIface]) ∧ w'.ownsRow w.heap.size 36 6 v (stay now t n).length (stayM f t now (stay now t n)) ∧ w'.ownsRow w.heap.size 3 1 u (stay now t n).length (stayT t (stay now t n))) ∧ Below w.heap.size w w' := by
  have hne1 : ¬ now = 10000 := by omega
  have hwr : IntKind.i64.wrap (now + 1) = now + 1 := by rw [IntKind.wrap_i64]; omega
  obtain ⟨iM, hI, hz0, hz1, hz2⟩ := info_parts info_mv
  obtain ⟨i0, hI', hy0, hy1, hy2⟩ : ∃ i0, Tryz.prog.info? 3 = some i0 ∧ i0.zero = some (.int .i64 0) ∧ i0.size = 1 ∧ i0.bytes = 8 := by
    have h := info_int
    cases hI : Tryz.prog.info? 3 with
    | none => rw [hI] at h; simp at h
    | some i0 => rw [hI] at h; simp only [Option.map_some, Option.some.injEq, Prod.mk.injEq] at h; exact ⟨i0, rfl, h.2.2, h.1, h.2.1⟩
  have hB4 : ∀ o1 o2 o3 o4, Below w.heap.size w ((((w.alloc o1).alloc o2).alloc o3).alloc o4) := fun o1 o2 o3 o4 => ((((Below.refl _ w).alloc (Nat.le_refl _) _).alloc (by simp) _).alloc (by simp; omega) _).alloc (by simp; omega) _
  go_enter Tryz.func287, Tryz.ntmps287
  go_wp2
  have hb1 : (now == 10000) = false := by simp; omega
  simp only [hb1]
  clear hb1 hne1
  go_loopw [24] (fun x W => ∃ (k : Nat) (v u : Value), k ≤ n ∧ x = .int .i64 k ∧ Nx w (w.heap.size + 1) (w.heap.size + 1 + 1) (w.heap.size + 1 + 1 + 1) (w.heap.size + 1 + 1 + 1 + 1) now shift (some ⟨b, off, none⟩) n cap (some ⟨b', off', none⟩) n cap' v u f t (stay now t k) (stay now t k) W) (fun x _ => n - (intOf x).toNat)
  case atStart =>
    refine ⟨0, .slice none 0 0, .slice none 0 0, Nat.zero_le _, rfl, ?_, ?_, ?_, ⟨rfl, .inl ⟨rfl, rfl⟩⟩, ⟨rfl, .inl ⟨rfl, rfl⟩⟩, by simp, hB4 _ _ _ _, by omega⟩
    · refine BkAt.ofHeap (T := 32) ((Below.heap_alloc _ _ _ (by simp)).trans ((Below.heap_alloc _ _ _ (by simp)).trans ?_))
      have := heap_alloc_new (w.alloc (.cells #[] 75)) (.cells #[.int .i64 now, .int .i64 shift, .slice (some ⟨b, off, none⟩) n cap, .slice (some ⟨b', off', none⟩) n cap'] 32)
      simpa using this
    · have := heap_alloc_new ((((w.alloc (.cells #[] 75)).alloc (.cells #[.int .i64 now, .int .i64 shift, .slice (some ⟨b, off, none⟩) n cap, .slice (some ⟨b', off', none⟩) n cap'] 32)).alloc (.cells #[.int .i64 0, .int .i64 0, .slice none 0 0, .slice none 0 0] 32))) (.cells #[.int .i64 (now + 1), .int .i64 shift, .slice none 0 0, .slice none 0 0] 32)
      simpa using this
    · refine (Below.heap_alloc _ _ _ (by simp)).trans ?_
      have := heap_alloc_new (((w.alloc (.cells #[] 75)).alloc (.cells #[.int .i64 now, .int .i64 shift, .slice (some ⟨b, off, none⟩) n cap, .slice (some ⟨b', off', none⟩) n cap'] 32))) (.cells #[.int .i64 0, .int .i64 0, .slice none 0 0, .slice none 0 0] 32)
      simpa using this
  case round =>
    obtain ⟨k, v, u, hk, rfl, hNr⟩ := hrel
    by_cases hlt : k < n
    · have hlt' : (k : Int) < n := by omega
      have hBr := hNr.below
      obtain ⟨c0, c1, c2, c3, c4, c5⟩ := hrow.below hBr hbs k hlt
      have hr' := hrow'.below hBr hbs' k hlt
      have bM := boxMv_below wr (f k)
      have hM := boxMv_at wr (f k)
      have hNm := hNr.grow bM
      have hl1 := stay_len now t k
      have hsz := hNr.size
      have lz : wr.heap.size < (boxMv wr (f k)).heap.size := by simp
      have hrm : (boxMv wr (f k)).cell? ⟨b', off' + k, none⟩ = some (.int .i64 (t k)) := (bM.cell (p := ⟨b', off' + k, none⟩) (Nat.lt_of_lt_of_le hbs' hBr.size)).trans hr'
      have hne := later_some (boxMv wr (f k))
      have x0 := fun x : Later (boxMv wr (f k)) => x.cell hNm.bb.c0
      have x3 := fun x : Later (boxMv wr (f k)) => x.cell hNm.bb.c3
      have y6 := fun x : Later (boxMv wr (f k)) => x.cell hrm
      by_cases htk : t k = now
      · have D : Hid ((t k == now) = true) := by have h : (t k == now) = true := by simpa using htk
                                                 exact h
        have HST : Hid (stay now t (k + 1) = stay now t k) := by have h : stay now t (k + 1) = stay now t k := by simp only [stay]; rw [if_pos htk]
                                                                 exact h
        clear htk
        go_wp2
        have d := D.out
        refine wp_region_later (by kernel_rfl) (by kernel_rfl) ?_
        repeat (go_big_quiet_step (fail))
        refine wpQuiet_nil (later_all ?_)
        intro w2 hb2
        have hN2 := hNm.grow hb2
        rw [← HST.out] at hN2
        go_wp2
        exact ⟨⟨k + 1, v, u, by omega, by simp, hN2⟩, by simp [intOf]; omega⟩
      · have D : Hid ((t k == now) = false) := by have h : (t k == now) = false := by simpa using htk
                                                  exact h
        have HST : Hid (stay now t (k + 1) = stay now t k ++ [k]) := by have h : stay now t (k + 1) = stay now t k ++ [k] := by simp only [stay]; rw [if_neg htk]
                                                                        exact h
        clear htk
        go_wp2
        have d := D.out
        refine wp_region_later (by kernel_rfl) (by kernel_rfl) ?_
        repeat (go_big_quiet_step (fail))
        refine wpQuiet_nil (later_all ?_)
        intro w2 hb2
        have hN2 := hNm.grow hb2
        have hM2 := hM.below hb2 lz
        have hr2 := (hb2.cell (p := ⟨b', off' + k, none⟩) (Nat.lt_of_lt_of_le (Nat.lt_of_lt_of_le hbs' hBr.size) bM.size)).trans hrm
        clear x0 x3 y6 hne d hNm bM
        go_wp2
        obtain ⟨m', hm'⟩ : ∃ m', m' = promMv (f k) (t k) (now + 1) := ⟨_, rfl⟩
        have HMP : Hid (m' = promMv (f k) (t k) (now + 1)) := hm'
        have HP : ∀ W, Calls Tryz.prog 131 #[.agg #[.string (f k).name, .bool (f k).lands, .int .i64 (f k).wake, .int .i64 (f k).est, .int .i64 (f k).late, .int .i64 (f k).prom], .int .i64 (t k), .int .i64 (now + 1)] W fun e w' => e = .returned (.agg #[.string m'.name, .bool m'.lands, .int .i64 m'.wake, .int .i64 m'.est, .int .i64 m'.late, .int .i64 m'.prom]) ∧ Below W.heap.size W w' := fun W => by
          rw [hm']; exact promised_any (f k) (t k) (now + 1) W (by omega) (by omega)
        clear hm'
        obtain ⟨q0, q1, q2, q3, q4, q5⟩ := hM2
        simp only [Nat.zero_add] at q0 q1 q2 q3 q4 q5
        obtain ⟨⟨n0, n2, n3⟩, nf⟩ := hN2.drew.ncell
        have hS2 : S8 wr.heap.size (f k) (w.heap.size + 1) (.slice (some ⟨b', off', none⟩) n cap') b' (off' + k) (t k) (w.heap.size + 1 + 1 + 1) (now + 1) w2.drew := ⟨q0, q1, q2, q3, q4, q5, hN2.bb.c3, hr2, n0⟩
        clear q0 q1 q2 q3 q4 q5 hr2 hb2
        refine wp_region_held_drew (S := S8 wr.heap.size (f k) (w.heap.size + 1) (.slice (some ⟨b', off', none⟩) n cap') b' (off' + k) (t k) (w.heap.size + 1 + 1 + 1) (now + 1)) (by kernel_rfl) hS2 (fun hHeld => ?_)
        refine take_at (i := 0) (v := .pointer (some ⟨w.heap.size + 1 + 1 + 1, 2, none⟩)) 37 rfl rfl (by kernel_rfl) (by kernel_rfl) (by kernel_rfl) (fun _ _ _ h => h) (Or.inl ⟨by rfl, fun w' hSw => by (obtain ⟨s0, s1, s2, s3, s4, s5, s6, s7, s8⟩ := hSw; go_simp)⟩) hHeld ?_
        simp only [Act.put, List.setIfInBounds_toArray, List.set_cons_zero, List.set_cons_succ]
        refine take_at (i := 2) (v := (.agg #[.string (f k).name, .bool (f k).lands, .int .i64 (f k).wake, .int .i64 (f k).est, .int .i64 (f k).late, .int .i64 (f k).prom])) 39 rfl rfl (by kernel_rfl) (by kernel_rfl) (by kernel_rfl) (fun _ _ _ h => h) (Or.inl ⟨by rfl, fun w' hSw => by (obtain ⟨s0, s1, s2, s3, s4, s5, s6, s7, s8⟩ := hSw; go_simp)⟩) hHeld ?_
        simp only [Act.put, List.setIfInBounds_toArray, List.set_cons_zero, List.set_cons_succ]
        refine take_at (i := 3) (v := .pointer (some ⟨w.heap.size + 1, 3, none⟩)) 40 rfl rfl (by kernel_rfl) (by kernel_rfl) (by kernel_rfl) (fun _ _ _ h => h) (Or.inl ⟨by rfl, fun w' hSw => by (obtain ⟨s0, s1, s2, s3, s4, s5, s6, s7, s8⟩ := hSw; go_simp)⟩) hHeld ?_
        simp only [Act.put, List.setIfInBounds_toArray, List.set_cons_zero, List.set_cons_succ]
        refine take_at (i := 4) (v := .slice (some ⟨b', off', none⟩) n cap') 41 rfl rfl (by kernel_rfl) (by kernel_rfl) (by kernel_rfl) (fun _ _ _ h => h) (Or.inl ⟨by rfl, fun w' hSw => by (obtain ⟨s0, s1, s2, s3, s4, s5, s6, s7, s8⟩ := hSw; go_simp)⟩) hHeld ?_
        simp only [Act.put, List.setIfInBounds_toArray, List.set_cons_zero, List.set_cons_succ]
        refine take_at (i := 5) (v := .int .i64 (k : Int)) 42 rfl rfl (by kernel_rfl) (by kernel_rfl) (by kernel_rfl) (fun _ _ _ h => h) (Or.inl ⟨by rfl, fun w' hSw => by (obtain ⟨s0, s1, s2, s3, s4, s5, s6, s7, s8⟩ := hSw; go_simp)⟩) hHeld ?_
        simp only [Act.put, List.setIfInBounds_toArray, List.set_cons_zero, List.set_cons_succ]
        refine take_at (i := 6) (v := .pointer (some ⟨b', off' + k, none⟩)) 43 rfl rfl (by kernel_rfl) (by kernel_rfl) (by kernel_rfl) (fun _ _ _ h => h) (Or.inl ⟨by rfl, fun w' hSw => by (obtain ⟨s0, s1, s2, s3, s4, s5, s6, s7, s8⟩ := hSw; go_simp)⟩) hHeld ?_
        simp only [Act.put, List.setIfInBounds_toArray, List.set_cons_zero, List.set_cons_succ]
        refine take_at (i := 7) (v := .int .i64 (t k)) 44 rfl rfl (by kernel_rfl) (by kernel_rfl) (by kernel_rfl) (fun _ _ _ h => h) (Or.inl ⟨by rfl, fun w' hSw => by (obtain ⟨s0, s1, s2, s3, s4, s5, s6, s7, s8⟩ := hSw; go_simp)⟩) hHeld ?_
        simp only [Act.put, List.setIfInBounds_toArray, List.set_cons_zero, List.set_cons_succ]
        refine take_at (i := 8) (v := .pointer (some ⟨w.heap.size + 1 + 1 + 1, 0, none⟩)) 45 rfl rfl (by kernel_rfl) (by kernel_rfl) (by kernel_rfl) (fun _ _ _ h => h) (Or.inl ⟨by rfl, fun w' hSw => by (obtain ⟨s0, s1, s2, s3, s4, s5, s6, s7, s8⟩ := hSw; go_simp)⟩) hHeld ?_
        simp only [Act.put, List.setIfInBounds_toArray, List.set_cons_zero, List.set_cons_succ]
        refine take_at (i := 9) (v := .int .i64 (now + 1)) 46 rfl rfl (by kernel_rfl) (by kernel_rfl) (by kernel_rfl) (fun _ _ _ h => h) (Or.inl ⟨by rfl, fun w' hSw => by (obtain ⟨s0, s1, s2, s3, s4, s5, s6, s7, s8⟩ := hSw; go_simp)⟩) hHeld ?_
        simp only [Act.put, List.setIfInBounds_toArray, List.set_cons_zero, List.set_cons_succ]
        refine wpAnyH_ready (rs := [1, 10]) (by kernel_rfl) (by simp) ?_
        refine AllReadyH.cons rfl (fun K hK => ?_) (AllReadyH.cons rfl (fun K hK => ?_) AllReadyH.nil)
        · go_simp
          refine hK.out _ _ hS2 (fun hHeld => ?_)
          clear hK K
          refine wpAnyH_ready (rs := [10]) (by kernel_rfl) (by simp) ?_
          refine AllReadyH.cons rfl (fun K hK => ?_) AllReadyH.nil
          go_simp
          go_at_call 131
          refine (HP _).mono ?_
          rintro e w3 ⟨rfl, b3⟩
          have hN3 := hN2.drew.grow b3
          have hS3 := hS2.below b3
          obtain ⟨⟨n0, n2, n3⟩, nf⟩ := hN3.ncell
          go_wp2_with fail
          refine hK.out _ _ hS3 (fun hHeld => ?_)
          clear hK K
          refine wpAnyH_ready (rs := [11]) (by kernel_rfl) (by simp) ?_
          refine AllReadyH.cons rfl (fun K hK => ?_) AllReadyH.nil
          go_simp
          have bO : Below w3.heap.size w3 (w3.alloc (.cells #[.string m'.name, .bool m'.lands, .int .i64 m'.wake, .int .i64 m'.est, .int .i64 m'.late, .int .i64 m'.prom] 36)) := (Below.refl _ _).alloc (Nat.le_refl _) _
          have hN3a := hN3.grow bO
          have hS3a := hS3.below bO
          obtain ⟨⟨g0, g2, g3⟩, gf⟩ := hN3a.ncell
          refine hK.out _ _ hS3a (fun hHeld => ?_)
          clear hK K
          refine wpAnyH_ready (rs := [12]) (by kernel_rfl) (by simp) ?_
          refine AllReadyH.cons rfl (fun K hK => ?_) AllReadyH.nil
          refine step_append_own rfl (.tmp 38) (.tmp 48) 30 rfl 36 iM _ 6 56 Tryz.underlying30 hI hz0 hz1 hz2 rfl (by decide) (w.heap.size + 1 + 1 + 1 + 1) v (stay now t k).length (stayM f t now (stay now t k)) (by rfl) hN3a.ov ⟨_, 0, none⟩ 1 1 (Mv.cells m').toList (by rfl) rfl (own_mv (heap_alloc_new _ _)) (one_mv _) (by unfold maxLen; omega) (by omega) hN3a.size ?_
          intro v4 w4 ho4 hg4; obtain ⟨B4, c4, rfl⟩ := own_succ ho4
          have hS4 := hS3a.grown hg4 (fun B hB => by have h1 := (hN3.ov.lt B hB).1; have h2 := hN2.ov.lt B hB; have h3 := hNr.ov.lt B hB; omega)
          have p2 : w4.cell? ⟨w.heap.size + 1 + 1 + 1, 2, none⟩ = some v := (World.cell?_of_block (a := ⟨w.heap.size + 1 + 1 + 1, 2, none⟩) (hg4.block _ (block_lt_of_cell g2) (fun e => by have := (hN3.ov.lt (w.heap.size + 1 + 1 + 1) e.symm).1; omega))).trans g2
          have pf : w4.frozen? ⟨w.heap.size + 1 + 1 + 1, 2, none⟩ = false := (World.frozen?_of_block (a := ⟨w.heap.size + 1 + 1 + 1, 2, none⟩) (hg4.block _ (block_lt_of_cell g2) (fun e => by have := (hN3.ov.lt (w.heap.size + 1 + 1 + 1) e.symm).1; omega))).trans (gf 2)
          refine hK.out _ _ hS4 (fun hHeld => ?_)
          clear hK K
          refine wpAnyH_ready (rs := [13]) (by kernel_rfl) (by simp) ?_
          refine AllReadyH.cons rfl (fun K hK => ?_) AllReadyH.nil
          go_simp
          refine hK.out _ _ hS4 (fun hHeld => ?_)
          clear hK K
          refine wpAnyH_ready (rs := [14]) (by kernel_rfl) (by simp) ?_
          refine AllReadyH.cons rfl (fun K hK => ?_) AllReadyH.nil
          go_simp
          rw [HMP.out] at ho4
          have hN5 := hN3a.moves k ho4 hg4
          have hS5 := hS4.set (by omega) (by omega) (by omega) 2 (by omega) (.slice (some ⟨B4, 0, none⟩) ((stay now t k).length + 1) c4)
          refine hK.out _ _ hS5 (fun hHeld => ?_)
          clear hK K
          refine wpAnyH_done (by kernel_rfl) ?_ _
          revert hN5 hS5
          generalize w4.setCell ⟨w.heap.size + 1 + 1 + 1, 2, none⟩ (.slice (some ⟨B4, 0, none⟩) ((stay now t k).length + 1) c4) = W5
          intro hN5 hS5
          clear hHeld hS4 p2 pf ho4 hg4 hN3 hS3 n0 n2 n3 nf hN3a hS3a g0 g2 g3 gf bO b3
          clear HP hN2 hS2
          go_wp2
          obtain ⟨⟨n0, n2, n3⟩, nf⟩ := hN5.drew.ncell
          have hS6 : S8 wr.heap.size (f k) (w.heap.size + 1) (.slice (some ⟨b', off', none⟩) n cap') b' (off' + k) (t k) (w.heap.size + 1 + 1 + 1) (now + 1) W5.drew := hS5.keep (fun _ _ => rfl)
          refine wp_region_held_drew (S := S8 wr.heap.size (f k) (w.heap.size + 1) (.slice (some ⟨b', off', none⟩) n cap') b' (off' + k) (t k) (w.heap.size + 1 + 1 + 1) (now + 1)) (by kernel_rfl) hS6 (fun hHeld => ?_)
          refine take_at (i := 0) (v := .pointer (some ⟨w.heap.size + 1 + 1 + 1, 3, none⟩)) 51 rfl rfl (by kernel_rfl) (by kernel_rfl) (by kernel_rfl) (fun _ _ _ h => h) (Or.inl ⟨by rfl, fun w' hSw => by (obtain ⟨s0, s1, s2, s3, s4, s5, s6, s7, s8⟩ := hSw; go_simp)⟩) hHeld ?_
          simp only [Act.put, List.setIfInBounds_toArray, List.set_cons_zero, List.set_cons_succ]
          refine take_at (i := 2) (v := .pointer (some ⟨w.heap.size + 1, 3, none⟩)) 53 rfl rfl (by kernel_rfl) (by kernel_rfl) (by kernel_rfl) (fun _ _ _ h => h) (Or.inl ⟨by rfl, fun w' hSw => by (obtain ⟨s0, s1, s2, s3, s4, s5, s6, s7, s8⟩ := hSw; go_simp)⟩) hHeld ?_
          simp only [Act.put, List.setIfInBounds_toArray, List.set_cons_zero, List.set_cons_succ]
          refine take_at (i := 3) (v := .slice (some ⟨b', off', none⟩) n cap') 54 rfl rfl (by kernel_rfl) (by kernel_rfl) (by kernel_rfl) (fun _ _ _ h => h) (Or.inl ⟨by rfl, fun w' hSw => by (obtain ⟨s0, s1, s2, s3, s4, s5, s6, s7, s8⟩ := hSw; go_simp)⟩) hHeld ?_
          simp only [Act.put, List.setIfInBounds_toArray, List.set_cons_zero, List.set_cons_succ]
          refine take_at (i := 4) (v := .int .i64 (k : Int)) 55 rfl rfl (by kernel_rfl) (by kernel_rfl) (by kernel_rfl) (fun _ _ _ h => h) (Or.inl ⟨by rfl, fun w' hSw => by (obtain ⟨s0, s1, s2, s3, s4, s5, s6, s7, s8⟩ := hSw; go_simp)⟩) hHeld ?_
          simp only [Act.put, List.setIfInBounds_toArray, List.set_cons_zero, List.set_cons_succ]
          refine take_at (i := 5) (v := .pointer (some ⟨b', off' + k, none⟩)) 56 rfl rfl (by kernel_rfl) (by kernel_rfl) (by kernel_rfl) (fun _ _ _ h => h) (Or.inl ⟨by rfl, fun w' hSw => by (obtain ⟨s0, s1, s2, s3, s4, s5, s6, s7, s8⟩ := hSw; go_simp)⟩) hHeld ?_
          simp only [Act.put, List.setIfInBounds_toArray, List.set_cons_zero, List.set_cons_succ]
          refine take_at (i := 6) (v := .int .i64 (t k)) 57 rfl rfl (by kernel_rfl) (by kernel_rfl) (by kernel_rfl) (fun _ _ _ h => h) (Or.inl ⟨by rfl, fun w' hSw => by (obtain ⟨s0, s1, s2, s3, s4, s5, s6, s7, s8⟩ := hSw; go_simp)⟩) hHeld ?_
          simp only [Act.put, List.setIfInBounds_toArray, List.set_cons_zero, List.set_cons_succ]
          refine wpAnyH_ready (rs := [1, 7]) (by kernel_rfl) (by simp) ?_
          refine AllReadyH.cons rfl (fun K hK => ?_) (AllReadyH.cons rfl (fun K hK => ?_) AllReadyH.nil)
          · go_simp
            refine hK.out _ _ hS6 (fun hHeld => ?_)
            clear hK K
            refine wpAnyH_ready (rs := [7]) (by kernel_rfl) (by simp) ?_
            refine AllReadyH.cons rfl (fun K hK => ?_) AllReadyH.nil
            go_simp
            have bO : Below W5.heap.size W5 (W5.alloc (.cells #[.int .i64 (t k)] 3)).drew := ((Below.refl _ W5).alloc (Nat.le_refl _) _).drew
            have hN6 := hN5.grow bO
            have hS7 := hS5.below bO
            obtain ⟨⟨g0, g2, g3⟩, gf⟩ := hN6.ncell
            refine hK.out _ _ hS7 (fun hHeld => ?_)
            clear hK K
            refine wpAnyH_ready (rs := [8]) (by kernel_rfl) (by simp) ?_
            refine AllReadyH.cons rfl (fun K hK => ?_) AllReadyH.nil
            refine step_append_own rfl (.tmp 52) (.tmp 58) 23 rfl 3 i0 (.int .i64 0) 1 8 Tryz.underlying23 hI' hy0 hy1 hy2 rfl (by decide) (w.heap.size + 1 + 1 + 1 + 1) u (stay now t k).length (stayT t (stay now t k)) (by rfl) hN6.ou ⟨_, 0, none⟩ 1 1 [.int .i64 (t k)] (by rfl) rfl (one_cell (heap_alloc_new W5 _)) (by simp [Value.oneCell']) (by unfold maxLen; omega) (by omega) hN6.size ?_
            intro u7 w7 ho7 hg7; obtain ⟨B7, c7, rfl⟩ := own_succ ho7
            have hS8 := hS7.grown hg7 (fun B hB => by have h1 := (hN6.ou.lt B hB).1; have h3 := hNr.ou.lt B hB; omega)
            have p2 : w7.cell? ⟨w.heap.size + 1 + 1 + 1, 3, none⟩ = some u := (World.cell?_of_block (a := ⟨w.heap.size + 1 + 1 + 1, 3, none⟩) (hg7.block _ (block_lt_of_cell g3) (fun e => by have := (hN6.ou.lt (w.heap.size + 1 + 1 + 1) e.symm).1; omega))).trans g3
            have pf : w7.frozen? ⟨w.heap.size + 1 + 1 + 1, 3, none⟩ = false := (World.frozen?_of_block (a := ⟨w.heap.size + 1 + 1 + 1, 3, none⟩) (hg7.block _ (block_lt_of_cell g3) (fun e => by have := (hN6.ou.lt (w.heap.size + 1 + 1 + 1) e.symm).1; omega))).trans (gf 3)
            refine hK.out _ _ hS8 (fun hHeld => ?_)
            clear hK K
            refine wpAnyH_ready (rs := [9]) (by kernel_rfl) (by simp) ?_
            refine AllReadyH.cons rfl (fun K hK => ?_) AllReadyH.nil
            go_simp
            refine hK.out _ _ hS8 (fun hHeld => ?_)
            clear hK K
            refine wpAnyH_ready (rs := [10]) (by kernel_rfl) (by simp) ?_
            refine AllReadyH.cons rfl (fun K hK => ?_) AllReadyH.nil
            go_simp
            have hN9 := hN6.ticks k ho7 hg7
            have hS9 := hS8.set (by omega) (by omega) (by omega) 3 (by omega) (.slice (some ⟨B7, 0, none⟩) ((stay now t k).length + 1) c7)
            refine hK.out _ _ hS9 (fun hHeld => ?_)
            clear hK K
            refine wpAnyH_done (by kernel_rfl) ?_ _
            revert hN9
            generalize w7.setCell ⟨w.heap.size + 1 + 1 + 1, 3, none⟩ (.slice (some ⟨B7, 0, none⟩) ((stay now t k).length + 1) c7) = W9
            intro hN9
            clear hHeld hS9 hS8 p2 pf ho7 hg7 hN6 hS7 hS6 hN5 hS5 n0 n2 n3 nf g0 g2 g3 gf bO
            rw [← HST.out] at hN9
            go_wp2
            exact ⟨⟨k + 1, _, _, by omega, by simp, hN9⟩, by simp [intOf]; omega⟩
          · go_simp
            have bO : Below W5.heap.size W5 (W5.alloc (.cells #[.int .i64 (t k)] 3)).drew := ((Below.refl _ W5).alloc (Nat.le_refl _) _).drew
            have hN6 := hN5.grow bO
            have hS7 := hS5.below bO
            obtain ⟨⟨g0, g2, g3⟩, gf⟩ := hN6.ncell
            refine hK.out _ _ hS7 (fun hHeld => ?_)
            clear hK K
            refine wpAnyH_ready (rs := [1]) (by kernel_rfl) (by simp) ?_
            refine AllReadyH.cons rfl (fun K hK => ?_) AllReadyH.nil
            go_simp
            refine hK.out _ _ hS7 (fun hHeld => ?_)
            clear hK K
            refine wpAnyH_ready (rs := [8]) (by kernel_rfl) (by simp) ?_
            refine AllReadyH.cons rfl (fun K hK => ?_) AllReadyH.nil
            refine step_append_own rfl (.tmp 52) (.tmp 58) 23 rfl 3 i0 (.int .i64 0) 1 8 Tryz.underlying23 hI' hy0 hy1 hy2 rfl (by decide) (w.heap.size + 1 + 1 + 1 + 1) u (stay now t k).length (stayT t (stay now t k)) (by rfl) hN6.ou ⟨_, 0, none⟩ 1 1 [.int .i64 (t k)] (by rfl) rfl (one_cell (heap_alloc_new W5 _)) (by simp [Value.oneCell']) (by unfold maxLen; omega) (by omega) hN6.size ?_
            intro u7 w7 ho7 hg7; obtain ⟨B7, c7, rfl⟩ := own_succ ho7
            have hS8 := hS7.grown hg7 (fun B hB => by have h1 := (hN6.ou.lt B hB).1; have h3 := hNr.ou.lt B hB; omega)
            have p2 : w7.cell? ⟨w.heap.size + 1 + 1 + 1, 3, none⟩ = some u := (World.cell?_of_block (a := ⟨w.heap.size + 1 + 1 + 1, 3, none⟩) (hg7.block _ (block_lt_of_cell g3) (fun e => by have := (hN6.ou.lt (w.heap.size + 1 + 1 + 1) e.symm).1; omega))).trans g3
            have pf : w7.frozen? ⟨w.heap.size + 1 + 1 + 1, 3, none⟩ = false := (World.frozen?_of_block (a := ⟨w.heap.size + 1 + 1 + 1, 3, none⟩) (hg7.block _ (block_lt_of_cell g3) (fun e => by have := (hN6.ou.lt (w.heap.size + 1 + 1 + 1) e.symm).1; omega))).trans (gf 3)
            refine hK.out _ _ hS8 (fun hHeld => ?_)
            clear hK K
            refine wpAnyH_ready (rs := [9]) (by kernel_rfl) (by simp) ?_
            refine AllReadyH.cons rfl (fun K hK => ?_) AllReadyH.nil
            go_simp
            refine hK.out _ _ hS8 (fun hHeld => ?_)
            clear hK K
            refine wpAnyH_ready (rs := [10]) (by kernel_rfl) (by simp) ?_
            refine AllReadyH.cons rfl (fun K hK => ?_) AllReadyH.nil
            go_simp
            have hN9 := hN6.ticks k ho7 hg7
            have hS9 := hS8.set (by omega) (by omega) (by omega) 3 (by omega) (.slice (some ⟨B7, 0, none⟩) ((stay now t k).length + 1) c7)
            refine hK.out _ _ hS9 (fun hHeld => ?_)
            clear hK K
            refine wpAnyH_done (by kernel_rfl) ?_ _
            revert hN9
            generalize w7.setCell ⟨w.heap.size + 1 + 1 + 1, 3, none⟩ (.slice (some ⟨B7, 0, none⟩) ((stay now t k).length + 1) c7) = W9
            intro hN9
            clear hHeld hS9 hS8 p2 pf ho7 hg7 hN6 hS7 hS6 hN5 hS5 n0 n2 n3 nf g0 g2 g3 gf bO
            rw [← HST.out] at hN9
            go_wp2
            exact ⟨⟨k + 1, _, _, by omega, by simp, hN9⟩, by simp [intOf]; omega⟩
        · skip
          go_simp
          go_at_call 131
          refine (HP _).mono ?_
          rintro e w3 ⟨rfl, b3⟩
          have hN3 := hN2.drew.grow b3
          have hS3 := hS2.below b3
          obtain ⟨⟨n0, n2, n3⟩, nf⟩ := hN3.ncell
          go_wp2_with fail
          refine hK.out _ _ hS3 (fun hHeld => ?_)
          clear hK K
          refine wpAnyH_ready (rs := [1, 11]) (by kernel_rfl) (by simp) ?_
          refine AllReadyH.cons rfl (fun K hK => ?_) (AllReadyH.cons rfl (fun K hK => ?_) AllReadyH.nil)
          · go_simp
            refine hK.out _ _ hS3 (fun hHeld => ?_)
            clear hK K
            refine wpAnyH_ready (rs := [11]) (by kernel_rfl) (by simp) ?_
            refine AllReadyH.cons rfl (fun K hK => ?_) AllReadyH.nil
            go_simp
            have bO : Below w3.heap.size w3 (w3.alloc (.cells #[.string m'.name, .bool m'.lands, .int .i64 m'.wake, .int .i64 m'.est, .int .i64 m'.late, .int .i64 m'.prom] 36)) := (Below.refl _ _).alloc (Nat.le_refl _) _
            have hN3a := hN3.grow bO
            have hS3a := hS3.below bO
            obtain ⟨⟨g0, g2, g3⟩, gf⟩ := hN3a.ncell
            refine hK.out _ _ hS3a (fun hHeld => ?_)
            clear hK K
            refine wpAnyH_ready (rs := [12]) (by kernel_rfl) (by simp) ?_
            refine AllReadyH.cons rfl (fun K hK => ?_) AllReadyH.nil
            refine step_append_own rfl (.tmp 38) (.tmp 48) 30 rfl 36 iM _ 6 56 Tryz.underlying30 hI hz0 hz1 hz2 rfl (by decide) (w.heap.size + 1 + 1 + 1 + 1) v (stay now t k).length (stayM f t now (stay now t k)) (by rfl) hN3a.ov ⟨_, 0, none⟩ 1 1 (Mv.cells m').toList (by rfl) rfl (own_mv (heap_alloc_new _ _)) (one_mv _) (by unfold maxLen; omega) (by omega) hN3a.size ?_
            intro v4 w4 ho4 hg4; obtain ⟨B4, c4, rfl⟩ := own_succ ho4
            have hS4 := hS3a.grown hg4 (fun B hB => by have h1 := (hN3.ov.lt B hB).1; have h2 := hN2.ov.lt B hB; have h3 := hNr.ov.lt B hB; omega)
            have p2 : w4.cell? ⟨w.heap.size + 1 + 1 + 1, 2, none⟩ = some v := (World.cell?_of_block (a := ⟨w.heap.size + 1 + 1 + 1, 2, none⟩) (hg4.block _ (block_lt_of_cell g2) (fun e => by have := (hN3.ov.lt (w.heap.size + 1 + 1 + 1) e.symm).1; omega))).trans g2
            have pf : w4.frozen? ⟨w.heap.size + 1 + 1 + 1, 2, none⟩ = false := (World.frozen?_of_block (a := ⟨w.heap.size + 1 + 1 + 1, 2, none⟩) (hg4.block _ (block_lt_of_cell g2) (fun e => by have := (hN3.ov.lt (w.heap.size + 1 + 1 + 1) e.symm).1; omega))).trans (gf 2)
            refine hK.out _ _ hS4 (fun hHeld => ?_)
            clear hK K
            refine wpAnyH_ready (rs := [13]) (by kernel_rfl) (by simp) ?_
            refine AllReadyH.cons rfl (fun K hK => ?_) AllReadyH.nil
            go_simp
            refine hK.out _ _ hS4 (fun hHeld => ?_)
            clear hK K
            refine wpAnyH_ready (rs := [14]) (by kernel_rfl) (by simp) ?_
            refine AllReadyH.cons rfl (fun K hK => ?_) AllReadyH.nil
            go_simp
            rw [HMP.out] at ho4
            have hN5 := hN3a.moves k ho4 hg4
            have hS5 := hS4.set (by omega) (by omega) (by omega) 2 (by omega) (.slice (some ⟨B4, 0, none⟩) ((stay now t k).length + 1) c4)
            refine hK.out _ _ hS5 (fun hHeld => ?_)
            clear hK K
            refine wpAnyH_done (by kernel_rfl) ?_ _
            revert hN5 hS5
            generalize w4.setCell ⟨w.heap.size + 1 + 1 + 1, 2, none⟩ (.slice (some ⟨B4, 0, none⟩) ((stay now t k).length + 1) c4) = W5
            intro hN5 hS5
            clear hHeld hS4 p2 pf ho4 hg4 hN3 hS3 n0 n2 n3 nf hN3a hS3a g0 g2 g3 gf bO b3
            clear HP hN2 hS2
            go_wp2
            obtain ⟨⟨n0, n2, n3⟩, nf⟩ := hN5.drew.ncell
            have hS6 : S8 wr.heap.size (f k) (w.heap.size + 1) (.slice (some ⟨b', off', none⟩) n cap') b' (off' + k) (t k) (w.heap.size + 1 + 1 + 1) (now + 1) W5.drew := hS5.keep (fun _ _ => rfl)
            refine wp_region_held_drew (S := S8 wr.heap.size (f k) (w.heap.size + 1) (.slice (some ⟨b', off', none⟩) n cap') b' (off' + k) (t k) (w.heap.size + 1 + 1 + 1) (now + 1)) (by kernel_rfl) hS6 (fun hHeld => ?_)
            refine take_at (i := 0) (v := .pointer (some ⟨w.heap.size + 1 + 1 + 1, 3, none⟩)) 51 rfl rfl (by kernel_rfl) (by kernel_rfl) (by kernel_rfl) (fun _ _ _ h => h) (Or.inl ⟨by rfl, fun w' hSw => by (obtain ⟨s0, s1, s2, s3, s4, s5, s6, s7, s8⟩ := hSw; go_simp)⟩) hHeld ?_
            simp only [Act.put, List.setIfInBounds_toArray, List.set_cons_zero, List.set_cons_succ]
            refine take_at (i := 2) (v := .pointer (some ⟨w.heap.size + 1, 3, none⟩)) 53 rfl rfl (by kernel_rfl) (by kernel_rfl) (by kernel_rfl) (fun _ _ _ h => h) (Or.inl ⟨by rfl, fun w' hSw => by (obtain ⟨s0, s1, s2, s3, s4, s5, s6, s7, s8⟩ := hSw; go_simp)⟩) hHeld ?_
            simp only [Act.put, List.setIfInBounds_toArray, List.set_cons_zero, List.set_cons_succ]
            refine take_at (i := 3) (v := .slice (some ⟨b', off', none⟩) n cap') 54 rfl rfl (by kernel_rfl) (by kernel_rfl) (by kernel_rfl) (fun _ _ _ h => h) (Or.inl ⟨by rfl, fun w' hSw => by (obtain ⟨s0, s1, s2, s3, s4, s5, s6, s7, s8⟩ := hSw; go_simp)⟩) hHeld ?_
            simp only [Act.put, List.setIfInBounds_toArray, List.set_cons_zero, List.set_cons_succ]
            refine take_at (i := 4) (v := .int .i64 (k : Int)) 55 rfl rfl (by kernel_rfl) (by kernel_rfl) (by kernel_rfl) (fun _ _ _ h => h) (Or.inl ⟨by rfl, fun w' hSw => by (obtain ⟨s0, s1, s2, s3, s4, s5, s6, s7, s8⟩ := hSw; go_simp)⟩) hHeld ?_
            simp only [Act.put, List.setIfInBounds_toArray, List.set_cons_zero, List.set_cons_succ]
            refine take_at (i := 5) (v := .pointer (some ⟨b', off' + k, none⟩)) 56 rfl rfl (by kernel_rfl) (by kernel_rfl) (by kernel_rfl) (fun _ _ _ h => h) (Or.inl ⟨by rfl, fun w' hSw => by (obtain ⟨s0, s1, s2, s3, s4, s5, s6, s7, s8⟩ := hSw; go_simp)⟩) hHeld ?_
            simp only [Act.put, List.setIfInBounds_toArray, List.set_cons_zero, List.set_cons_succ]
            refine take_at (i := 6) (v := .int .i64 (t k)) 57 rfl rfl (by kernel_rfl) (by kernel_rfl) (by kernel_rfl) (fun _ _ _ h => h) (Or.inl ⟨by rfl, fun w' hSw => by (obtain ⟨s0, s1, s2, s3, s4, s5, s6, s7, s8⟩ := hSw; go_simp)⟩) hHeld ?_
            simp only [Act.put, List.setIfInBounds_toArray, List.set_cons_zero, List.set_cons_succ]
            refine wpAnyH_ready (rs := [1, 7]) (by kernel_rfl) (by simp) ?_
            refine AllReadyH.cons rfl (fun K hK => ?_) (AllReadyH.cons rfl (fun K hK => ?_) AllReadyH.nil)
            · go_simp
              refine hK.out _ _ hS6 (fun hHeld => ?_)
              clear hK K
              refine wpAnyH_ready (rs := [7]) (by kernel_rfl) (by simp) ?_
              refine AllReadyH.cons rfl (fun K hK => ?_) AllReadyH.nil
              go_simp
              have bO : Below W5.heap.size W5 (W5.alloc (.cells #[.int .i64 (t k)] 3)).drew := ((Below.refl _ W5).alloc (Nat.le_refl _) _).drew
              have hN6 := hN5.grow bO
              have hS7 := hS5.below bO
              obtain ⟨⟨g0, g2, g3⟩, gf⟩ := hN6.ncell
              refine hK.out _ _ hS7 (fun hHeld => ?_)
              clear hK K
              refine wpAnyH_ready (rs := [8]) (by kernel_rfl) (by simp) ?_
              refine AllReadyH.cons rfl (fun K hK => ?_) AllReadyH.nil
              refine step_append_own rfl (.tmp 52) (.tmp 58) 23 rfl 3 i0 (.int .i64 0) 1 8 Tryz.underlying23 hI' hy0 hy1 hy2 rfl (by decide) (w.heap.size + 1 + 1 + 1 + 1) u (stay now t k).length (stayT t (stay now t k)) (by rfl) hN6.ou ⟨_, 0, none⟩ 1 1 [.int .i64 (t k)] (by rfl) rfl (one_cell (heap_alloc_new W5 _)) (by simp [Value.oneCell']) (by unfold maxLen; omega) (by omega) hN6.size ?_
              intro u7 w7 ho7 hg7; obtain ⟨B7, c7, rfl⟩ := own_succ ho7
              have hS8 := hS7.grown hg7 (fun B hB => by have h1 := (hN6.ou.lt B hB).1; have h3 := hNr.ou.lt B hB; omega)
              have p2 : w7.cell? ⟨w.heap.size + 1 + 1 + 1, 3, none⟩ = some u := (World.cell?_of_block (a := ⟨w.heap.size + 1 + 1 + 1, 3, none⟩) (hg7.block _ (block_lt_of_cell g3) (fun e => by have := (hN6.ou.lt (w.heap.size + 1 + 1 + 1) e.symm).1; omega))).trans g3
              have pf : w7.frozen? ⟨w.heap.size + 1 + 1 + 1, 3, none⟩ = false := (World.frozen?_of_block (a := ⟨w.heap.size + 1 + 1 + 1, 3, none⟩) (hg7.block _ (block_lt_of_cell g3) (fun e => by have := (hN6.ou.lt (w.heap.size + 1 + 1 + 1) e.symm).1; omega))).trans (gf 3)
              refine hK.out _ _ hS8 (fun hHeld => ?_)
              clear hK K
              refine wpAnyH_ready (rs := [9]) (by kernel_rfl) (by simp) ?_
              refine AllReadyH.cons rfl (fun K hK => ?_) AllReadyH.nil
              go_simp
              refine hK.out _ _ hS8 (fun hHeld => ?_)
              clear hK K
              refine wpAnyH_ready (rs := [10]) (by kernel_rfl) (by simp) ?_
              refine AllReadyH.cons rfl (fun K hK => ?_) AllReadyH.nil
              go_simp
              have hN9 := hN6.ticks k ho7 hg7
              have hS9 := hS8.set (by omega) (by omega) (by omega) 3 (by omega) (.slice (some ⟨B7, 0, none⟩) ((stay now t k).length + 1) c7)
              refine hK.out _ _ hS9 (fun hHeld => ?_)
              clear hK K
              refine wpAnyH_done (by kernel_rfl) ?_ _
              revert hN9
              generalize w7.setCell ⟨w.heap.size + 1 + 1 + 1, 3, none⟩ (.slice (some ⟨B7, 0, none⟩) ((stay now t k).length + 1) c7) = W9
              intro hN9
              clear hHeld hS9 hS8 p2 pf ho7 hg7 hN6 hS7 hS6 hN5 hS5 n0 n2 n3 nf g0 g2 g3 gf bO
              rw [← HST.out] at hN9
              go_wp2
              exact ⟨⟨k + 1, _, _, by omega, by simp, hN9⟩, by simp [intOf]; omega⟩
            · go_simp
              have bO : Below W5.heap.size W5 (W5.alloc (.cells #[.int .i64 (t k)] 3)).drew := ((Below.refl _ W5).alloc (Nat.le_refl _) _).drew
              have hN6 := hN5.grow bO
              have hS7 := hS5.below bO
              obtain ⟨⟨g0, g2, g3⟩, gf⟩ := hN6.ncell
              refine hK.out _ _ hS7 (fun hHeld => ?_)
              clear hK K
              refine wpAnyH_ready (rs := [1]) (by kernel_rfl) (by simp) ?_
              refine AllReadyH.cons rfl (fun K hK => ?_) AllReadyH.nil
              go_simp
              refine hK.out _ _ hS7 (fun hHeld => ?_)
              clear hK K
              refine wpAnyH_ready (rs := [8]) (by kernel_rfl) (by simp) ?_
              refine AllReadyH.cons rfl (fun K hK => ?_) AllReadyH.nil
              refine step_append_own rfl (.tmp 52) (.tmp 58) 23 rfl 3 i0 (.int .i64 0) 1 8 Tryz.underlying23 hI' hy0 hy1 hy2 rfl (by decide) (w.heap.size + 1 + 1 + 1 + 1) u (stay now t k).length (stayT t (stay now t k)) (by rfl) hN6.ou ⟨_, 0, none⟩ 1 1 [.int .i64 (t k)] (by rfl) rfl (one_cell (heap_alloc_new W5 _)) (by simp [Value.oneCell']) (by unfold maxLen; omega) (by omega) hN6.size ?_
              intro u7 w7 ho7 hg7; obtain ⟨B7, c7, rfl⟩ := own_succ ho7
              have hS8 := hS7.grown hg7 (fun B hB => by have h1 := (hN6.ou.lt B hB).1; have h3 := hNr.ou.lt B hB; omega)
              have p2 : w7.cell? ⟨w.heap.size + 1 + 1 + 1, 3, none⟩ = some u := (World.cell?_of_block (a := ⟨w.heap.size + 1 + 1 + 1, 3, none⟩) (hg7.block _ (block_lt_of_cell g3) (fun e => by have := (hN6.ou.lt (w.heap.size + 1 + 1 + 1) e.symm).1; omega))).trans g3
              have pf : w7.frozen? ⟨w.heap.size + 1 + 1 + 1, 3, none⟩ = false := (World.frozen?_of_block (a := ⟨w.heap.size + 1 + 1 + 1, 3, none⟩) (hg7.block _ (block_lt_of_cell g3) (fun e => by have := (hN6.ou.lt (w.heap.size + 1 + 1 + 1) e.symm).1; omega))).trans (gf 3)
              refine hK.out _ _ hS8 (fun hHeld => ?_)
              clear hK K
              refine wpAnyH_ready (rs := [9]) (by kernel_rfl) (by simp) ?_
              refine AllReadyH.cons rfl (fun K hK => ?_) AllReadyH.nil
              go_simp
              refine hK.out _ _ hS8 (fun hHeld => ?_)
              clear hK K
              refine wpAnyH_ready (rs := [10]) (by kernel_rfl) (by simp) ?_
              refine AllReadyH.cons rfl (fun K hK => ?_) AllReadyH.nil
              go_simp
              have hN9 := hN6.ticks k ho7 hg7
              have hS9 := hS8.set (by omega) (by omega) (by omega) 3 (by omega) (.slice (some ⟨B7, 0, none⟩) ((stay now t k).length + 1) c7)
              refine hK.out _ _ hS9 (fun hHeld => ?_)
              clear hK K
              refine wpAnyH_done (by kernel_rfl) ?_ _
              revert hN9
              generalize w7.setCell ⟨w.heap.size + 1 + 1 + 1, 3, none⟩ (.slice (some ⟨B7, 0, none⟩) ((stay now t k).length + 1) c7) = W9
              intro hN9
              clear hHeld hS9 hS8 p2 pf ho7 hg7 hN6 hS7 hS6 hN5 hS5 n0 n2 n3 nf g0 g2 g3 gf bO
              rw [← HST.out] at hN9
              go_wp2
              exact ⟨⟨k + 1, _, _, by omega, by simp, hN9⟩, by simp [intOf]; omega⟩
          · skip
            go_simp
            have bO : Below w3.heap.size w3 (w3.alloc (.cells #[.string m'.name, .bool m'.lands, .int .i64 m'.wake, .int .i64 m'.est, .int .i64 m'.late, .int .i64 m'.prom] 36)) := (Below.refl _ _).alloc (Nat.le_refl _) _
            have hN3a := hN3.grow bO
            have hS3a := hS3.below bO
            obtain ⟨⟨g0, g2, g3⟩, gf⟩ := hN3a.ncell
            refine hK.out _ _ hS3a (fun hHeld => ?_)
            clear hK K
            refine wpAnyH_ready (rs := [1]) (by kernel_rfl) (by simp) ?_
            refine AllReadyH.cons rfl (fun K hK => ?_) AllReadyH.nil
            go_simp
            refine hK.out _ _ hS3a (fun hHeld => ?_)
            clear hK K
            refine wpAnyH_ready (rs := [12]) (by kernel_rfl) (by simp) ?_
            refine AllReadyH.cons rfl (fun K hK => ?_) AllReadyH.nil
            refine step_append_own rfl (.tmp 38) (.tmp 48) 30 rfl 36 iM _ 6 56 Tryz.underlying30 hI hz0 hz1 hz2 rfl (by decide) (w.heap.size + 1 + 1 + 1 + 1) v (stay now t k).length (stayM f t now (stay now t k)) (by rfl) hN3a.ov ⟨_, 0, none⟩ 1 1 (Mv.cells m').toList (by rfl) rfl (own_mv (heap_alloc_new _ _)) (one_mv _) (by unfold maxLen; omega) (by omega) hN3a.size ?_
            intro v4 w4 ho4 hg4; obtain ⟨B4, c4, rfl⟩ := own_succ ho4
            have hS4 := hS3a.grown hg4 (fun B hB => by have h1 := (hN3.ov.lt B hB).1; have h2 := hN2.ov.lt B hB; have h3 := hNr.ov.lt B hB; omega)
            have p2 : w4.cell? ⟨w.heap.size + 1 + 1 + 1, 2, none⟩ = some v := (World.cell?_of_block (a := ⟨w.heap.size + 1 + 1 + 1, 2, none⟩) (hg4.block _ (block_lt_of_cell g2) (fun e => by have := (hN3.ov.lt (w.heap.size + 1 + 1 + 1) e.symm).1; omega))).trans g2
            have pf : w4.frozen? ⟨w.heap.size + 1 + 1 + 1, 2, none⟩ = false := (World.frozen?_of_block (a := ⟨w.heap.size + 1 + 1 + 1, 2, none⟩) (hg4.block _ (block_lt_of_cell g2) (fun e => by have := (hN3.ov.lt (w.heap.size + 1 + 1 + 1) e.symm).1; omega))).trans (gf 2)
            refine hK.out _ _ hS4 (fun hHeld => ?_)
            clear hK K
            refine wpAnyH_ready (rs := [13]) (by kernel_rfl) (by simp) ?_
            refine AllReadyH.cons rfl (fun K hK => ?_) AllReadyH.nil
            go_simp
            refine hK.out _ _ hS4 (fun hHeld => ?_)
            clear hK K
            refine wpAnyH_ready (rs := [14]) (by kernel_rfl) (by simp) ?_
            refine AllReadyH.cons rfl (fun K hK => ?_) AllReadyH.nil
            go_simp
            rw [HMP.out] at ho4
            have hN5 := hN3a.moves k ho4 hg4
            have hS5 := hS4.set (by omega) (by omega) (by omega) 2 (by omega) (.slice (some ⟨B4, 0, none⟩) ((stay now t k).length + 1) c4)
            refine hK.out _ _ hS5 (fun hHeld => ?_)
            clear hK K
            refine wpAnyH_done (by kernel_rfl) ?_ _
            revert hN5 hS5
            generalize w4.setCell ⟨w.heap.size + 1 + 1 + 1, 2, none⟩ (.slice (some ⟨B4, 0, none⟩) ((stay now t k).length + 1) c4) = W5
            intro hN5 hS5
            clear hHeld hS4 p2 pf ho4 hg4 hN3 hS3 n0 n2 n3 nf hN3a hS3a g0 g2 g3 gf bO b3
            clear HP hN2 hS2
            go_wp2
            obtain ⟨⟨n0, n2, n3⟩, nf⟩ := hN5.drew.ncell
            have hS6 : S8 wr.heap.size (f k) (w.heap.size + 1) (.slice (some ⟨b', off', none⟩) n cap') b' (off' + k) (t k) (w.heap.size + 1 + 1 + 1) (now + 1) W5.drew := hS5.keep (fun _ _ => rfl)
            refine wp_region_held_drew (S := S8 wr.heap.size (f k) (w.heap.size + 1) (.slice (some ⟨b', off', none⟩) n cap') b' (off' + k) (t k) (w.heap.size + 1 + 1 + 1) (now + 1)) (by kernel_rfl) hS6 (fun hHeld => ?_)
            refine take_at (i := 0) (v := .pointer (some ⟨w.heap.size + 1 + 1 + 1, 3, none⟩)) 51 rfl rfl (by kernel_rfl) (by kernel_rfl) (by kernel_rfl) (fun _ _ _ h => h) (Or.inl ⟨by rfl, fun w' hSw => by (obtain ⟨s0, s1, s2, s3, s4, s5, s6, s7, s8⟩ := hSw; go_simp)⟩) hHeld ?_
            simp only [Act.put, List.setIfInBounds_toArray, List.set_cons_zero, List.set_cons_succ]
            refine take_at (i := 2) (v := .pointer (some ⟨w.heap.size + 1, 3, none⟩)) 53 rfl rfl (by kernel_rfl) (by kernel_rfl) (by kernel_rfl) (fun _ _ _ h => h) (Or.inl ⟨by rfl, fun w' hSw => by (obtain ⟨s0, s1, s2, s3, s4, s5, s6, s7, s8⟩ := hSw; go_simp)⟩) hHeld ?_
            simp only [Act.put, List.setIfInBounds_toArray, List.set_cons_zero, List.set_cons_succ]
            refine take_at (i := 3) (v := .slice (some ⟨b', off', none⟩) n cap') 54 rfl rfl (by kernel_rfl) (by kernel_rfl) (by kernel_rfl) (fun _ _ _ h => h) (Or.inl ⟨by rfl, fun w' hSw => by (obtain ⟨s0, s1, s2, s3, s4, s5, s6, s7, s8⟩ := hSw; go_simp)⟩) hHeld ?_
            simp only [Act.put, List.setIfInBounds_toArray, List.set_cons_zero, List.set_cons_succ]
            refine take_at (i := 4) (v := .int .i64 (k : Int)) 55 rfl rfl (by kernel_rfl) (by kernel_rfl) (by kernel_rfl) (fun _ _ _ h => h) (Or.inl ⟨by rfl, fun w' hSw => by (obtain ⟨s0, s1, s2, s3, s4, s5, s6, s7, s8⟩ := hSw; go_simp)⟩) hHeld ?_
            simp only [Act.put, List.setIfInBounds_toArray, List.set_cons_zero, List.set_cons_succ]
            refine take_at (i := 5) (v := .pointer (some ⟨b', off' + k, none⟩)) 56 rfl rfl (by kernel_rfl) (by kernel_rfl) (by kernel_rfl) (fun _ _ _ h => h) (Or.inl ⟨by rfl, fun w' hSw => by (obtain ⟨s0, s1, s2, s3, s4, s5, s6, s7, s8⟩ := hSw; go_simp)⟩) hHeld ?_
            simp only [Act.put, List.setIfInBounds_toArray, List.set_cons_zero, List.set_cons_succ]
            refine take_at (i := 6) (v := .int .i64 (t k)) 57 rfl rfl (by kernel_rfl) (by kernel_rfl) (by kernel_rfl) (fun _ _ _ h => h) (Or.inl ⟨by rfl, fun w' hSw => by (obtain ⟨s0, s1, s2, s3, s4, s5, s6, s7, s8⟩ := hSw; go_simp)⟩) hHeld ?_
            simp only [Act.put, List.setIfInBounds_toArray, List.set_cons_zero, List.set_cons_succ]
            refine wpAnyH_ready (rs := [1, 7]) (by kernel_rfl) (by simp) ?_
            refine AllReadyH.cons rfl (fun K hK => ?_) (AllReadyH.cons rfl (fun K hK => ?_) AllReadyH.nil)
            · go_simp
              refine hK.out _ _ hS6 (fun hHeld => ?_)
              clear hK K
              refine wpAnyH_ready (rs := [7]) (by kernel_rfl) (by simp) ?_
              refine AllReadyH.cons rfl (fun K hK => ?_) AllReadyH.nil
              go_simp
              have bO : Below W5.heap.size W5 (W5.alloc (.cells #[.int .i64 (t k)] 3)).drew := ((Below.refl _ W5).alloc (Nat.le_refl _) _).drew
              have hN6 := hN5.grow bO
              have hS7 := hS5.below bO
              obtain ⟨⟨g0, g2, g3⟩, gf⟩ := hN6.ncell
              refine hK.out _ _ hS7 (fun hHeld => ?_)
              clear hK K
              refine wpAnyH_ready (rs := [8]) (by kernel_rfl) (by simp) ?_
              refine AllReadyH.cons rfl (fun K hK => ?_) AllReadyH.nil
              refine step_append_own rfl (.tmp 52) (.tmp 58) 23 rfl 3 i0 (.int .i64 0) 1 8 Tryz.underlying23 hI' hy0 hy1 hy2 rfl (by decide) (w.heap.size + 1 + 1 + 1 + 1) u (stay now t k).length (stayT t (stay now t k)) (by rfl) hN6.ou ⟨_, 0, none⟩ 1 1 [.int .i64 (t k)] (by rfl) rfl (one_cell (heap_alloc_new W5 _)) (by simp [Value.oneCell']) (by unfold maxLen; omega) (by omega) hN6.size ?_
              intro u7 w7 ho7 hg7; obtain ⟨B7, c7, rfl⟩ := own_succ ho7
              have hS8 := hS7.grown hg7 (fun B hB => by have h1 := (hN6.ou.lt B hB).1; have h3 := hNr.ou.lt B hB; omega)
              have p2 : w7.cell? ⟨w.heap.size + 1 + 1 + 1, 3, none⟩ = some u := (World.cell?_of_block (a := ⟨w.heap.size + 1 + 1 + 1, 3, none⟩) (hg7.block _ (block_lt_of_cell g3) (fun e => by have := (hN6.ou.lt (w.heap.size + 1 + 1 + 1) e.symm).1; omega))).trans g3
              have pf : w7.frozen? ⟨w.heap.size + 1 + 1 + 1, 3, none⟩ = false := (World.frozen?_of_block (a := ⟨w.heap.size + 1 + 1 + 1, 3, none⟩) (hg7.block _ (block_lt_of_cell g3) (fun e => by have := (hN6.ou.lt (w.heap.size + 1 + 1 + 1) e.symm).1; omega))).trans (gf 3)
              refine hK.out _ _ hS8 (fun hHeld => ?_)
              clear hK K
              refine wpAnyH_ready (rs := [9]) (by kernel_rfl) (by simp) ?_
              refine AllReadyH.cons rfl (fun K hK => ?_) AllReadyH.nil
              go_simp
              refine hK.out _ _ hS8 (fun hHeld => ?_)
              clear hK K
              refine wpAnyH_ready (rs := [10]) (by kernel_rfl) (by simp) ?_
              refine AllReadyH.cons rfl (fun K hK => ?_) AllReadyH.nil
              go_simp
              have hN9 := hN6.ticks k ho7 hg7
              have hS9 := hS8.set (by omega) (by omega) (by omega) 3 (by omega) (.slice (some ⟨B7, 0, none⟩) ((stay now t k).length + 1) c7)
              refine hK.out _ _ hS9 (fun hHeld => ?_)
              clear hK K
              refine wpAnyH_done (by kernel_rfl) ?_ _
              revert hN9
              generalize w7.setCell ⟨w.heap.size + 1 + 1 + 1, 3, none⟩ (.slice (some ⟨B7, 0, none⟩) ((stay now t k).length + 1) c7) = W9
              intro hN9
              clear hHeld hS9 hS8 p2 pf ho7 hg7 hN6 hS7 hS6 hN5 hS5 n0 n2 n3 nf g0 g2 g3 gf bO
              rw [← HST.out] at hN9
              go_wp2
              exact ⟨⟨k + 1, _, _, by omega, by simp, hN9⟩, by simp [intOf]; omega⟩
            · go_simp
              have bO : Below W5.heap.size W5 (W5.alloc (.cells #[.int .i64 (t k)] 3)).drew := ((Below.refl _ W5).alloc (Nat.le_refl _) _).drew
              have hN6 := hN5.grow bO
              have hS7 := hS5.below bO
              obtain ⟨⟨g0, g2, g3⟩, gf⟩ := hN6.ncell
              refine hK.out _ _ hS7 (fun hHeld => ?_)
              clear hK K
              refine wpAnyH_ready (rs := [1]) (by kernel_rfl) (by simp) ?_
              refine AllReadyH.cons rfl (fun K hK => ?_) AllReadyH.nil
              go_simp
              refine hK.out _ _ hS7 (fun hHeld => ?_)
              clear hK K
              refine wpAnyH_ready (rs := [8]) (by kernel_rfl) (by simp) ?_
              refine AllReadyH.cons rfl (fun K hK => ?_) AllReadyH.nil
              refine step_append_own rfl (.tmp 52) (.tmp 58) 23 rfl 3 i0 (.int .i64 0) 1 8 Tryz.underlying23 hI' hy0 hy1 hy2 rfl (by decide) (w.heap.size + 1 + 1 + 1 + 1) u (stay now t k).length (stayT t (stay now t k)) (by rfl) hN6.ou ⟨_, 0, none⟩ 1 1 [.int .i64 (t k)] (by rfl) rfl (one_cell (heap_alloc_new W5 _)) (by simp [Value.oneCell']) (by unfold maxLen; omega) (by omega) hN6.size ?_
              intro u7 w7 ho7 hg7; obtain ⟨B7, c7, rfl⟩ := own_succ ho7
              have hS8 := hS7.grown hg7 (fun B hB => by have h1 := (hN6.ou.lt B hB).1; have h3 := hNr.ou.lt B hB; omega)
              have p2 : w7.cell? ⟨w.heap.size + 1 + 1 + 1, 3, none⟩ = some u := (World.cell?_of_block (a := ⟨w.heap.size + 1 + 1 + 1, 3, none⟩) (hg7.block _ (block_lt_of_cell g3) (fun e => by have := (hN6.ou.lt (w.heap.size + 1 + 1 + 1) e.symm).1; omega))).trans g3
              have pf : w7.frozen? ⟨w.heap.size + 1 + 1 + 1, 3, none⟩ = false := (World.frozen?_of_block (a := ⟨w.heap.size + 1 + 1 + 1, 3, none⟩) (hg7.block _ (block_lt_of_cell g3) (fun e => by have := (hN6.ou.lt (w.heap.size + 1 + 1 + 1) e.symm).1; omega))).trans (gf 3)
              refine hK.out _ _ hS8 (fun hHeld => ?_)
              clear hK K
              refine wpAnyH_ready (rs := [9]) (by kernel_rfl) (by simp) ?_
              refine AllReadyH.cons rfl (fun K hK => ?_) AllReadyH.nil
              go_simp
              refine hK.out _ _ hS8 (fun hHeld => ?_)
              clear hK K
              refine wpAnyH_ready (rs := [10]) (by kernel_rfl) (by simp) ?_
              refine AllReadyH.cons rfl (fun K hK => ?_) AllReadyH.nil
              go_simp
              have hN9 := hN6.ticks k ho7 hg7
              have hS9 := hS8.set (by omega) (by omega) (by omega) 3 (by omega) (.slice (some ⟨B7, 0, none⟩) ((stay now t k).length + 1) c7)
              refine hK.out _ _ hS9 (fun hHeld => ?_)
              clear hK K
              refine wpAnyH_done (by kernel_rfl) ?_ _
              revert hN9
              generalize w7.setCell ⟨w.heap.size + 1 + 1 + 1, 3, none⟩ (.slice (some ⟨B7, 0, none⟩) ((stay now t k).length + 1) c7) = W9
              intro hN9
              clear hHeld hS9 hS8 p2 pf ho7 hg7 hN6 hS7 hS6 hN5 hS5 n0 n2 n3 nf g0 g2 g3 gf bO
              rw [← HST.out] at hN9
              go_wp2
              exact ⟨⟨k + 1, _, _, by omega, by simp, hN9⟩, by simp [intOf]; omega⟩
    · have hkn : k = n := by omega
      subst hkn
      have hx := hNr.nx
      have c0 := cell_of_row wr _ 0 _ _ _ hx
      have c1 := cell_of_row wr _ 1 _ _ _ hx
      have c2 := cell_of_row wr _ 2 _ _ _ hx
      have c3 := cell_of_row wr _ 3 _ _ _ hx
      have hy := hNr.rs
      have d0 := cell_of_row wr _ 0 _ _ _ hy
      have d1 := cell_of_row wr _ 1 _ _ _ hy
      have d2 := cell_of_row wr _ 2 _ _ _ hy
      have d3 := cell_of_row wr _ 3 _ _ _ hy
      have df := fun j => frozen_of_row wr _ j _ _ hy
      simp at c0 c1 c2 c3 d0 d1 d2 d3
      have hov := hNr.ov
      have hou := hNr.ou
      have hB := hNr.below
      have hsz := hNr.size
      clear hNr hx hy
      obtain ⟨av, cv, rfl⟩ := own_sl hov
      obtain ⟨au, cu, rfl⟩ := own_sl hou
      go_wp2
      have eW : ∀ q, q ≠ w.heap.size + 1 + 1 → ((((wr.setCell ⟨w.heap.size + 1 + 1, 0, none⟩ (.int .i64 (now + 1))).setCell ⟨w.heap.size + 1 + 1, 1, none⟩ (.int .i64 shift)).setCell ⟨w.heap.size + 1 + 1, 2, none⟩ (.slice av (stay now t k).length cv)).setCell ⟨w.heap.size + 1 + 1, 3, none⟩ (.slice au (stay now t k).length cu)).heap[q]? = wr.heap[q]? := fun q hq => by
        rw [Below.heap_setCell _ _ _ _ (by simpa using hq), Below.heap_setCell _ _ _ _ (by simpa using hq), Below.heap_setCell _ _ _ _ (by simpa using hq), Below.heap_setCell _ _ _ _ (by simpa using hq)]
      refine bodyPost_ret (v := .tuple #[bkV (now + 1) shift (.slice av (stay now t k).length cv) (.slice au (stay now t k).length cu), .nilIface]) (by simp [results, Tryz.results287, go_sem, d0, d1, d2, d3]) rfl ⟨⟨_, _, rfl, ?_, ?_⟩, ?_⟩
      · exact own_base (own_same hov (fun B hB => eW B (by have := (hov.lt B hB).1; omega))) (by omega)
      · exact own_base (own_same hou (fun B hB => eW B (by have := (hou.lt B hB).1; omega))) (by omega)
      · exact (((hB.setCell (by simp; omega) _).setCell (by simp; omega) _).setCell (by simp; omega) _).setCell (by simp; omega) _
end Go.Proofs.YtlmcblcijndipabGreatDoor
