/- Texts of the proof, one behind another: F4, L1. -/
import Derived.Test.YtlmcblcijndipaaGreatM19
/- The program's StripFits, walked: where each tick suits its move, each two are looked at. -/
namespace Go.Proofs.YtlmcblcijndipaaGreat
open Go.RowKit Go.Shelf
attribute [local go_sem] Oper.semAt_some
set_option linter.unusedVariables false

theorem keepsB {W W' : World} (h : Below W.heap.size W W') (B : Nat) : KeepsFrom B W W' :=
  ⟨h.size, fun k o _ hk _ => (h.block k (Array.getElem?_eq_some_iff.1 hk).1).trans hk⟩

set_option maxRecDepth 100000 in
set_option maxHeartbeats 4000000 in
theorem implFits_suited (b off n cap : Nat) (f : Nat → Mv) (b' off' cap' : Nat) (t : Nat → Int) (w : World) (hbs : b < w.heap.size) (hrow : MvRow w b off n f) (hbs' : b' < w.heap.size) (hrow' : IntRow w b' off' n t) (hm : movesB f n = true) (hall : ∀ i, i < n → (f i).suits (t i) = true) :
    Calls Tryz0.prog 10 #[.slice (some ⟨b, off, none⟩) n cap, .slice (some ⟨b', off', none⟩) n cap'] w fun e w' => e = .returned (.bool (fitsB f n t n)) ∧ Below w.heap.size w w' := by
  have h6 := movesB_six hm
  have hn : n ≤ 1048576 := by omega
  have HM : Hid _ := hm
  have hB0 : ∀ o1 o2 o3, Below w.heap.size w (((w.alloc o1).alloc o2).alloc o3) := fun o1 o2 o3 => (((Below.refl _ w).alloc (Nat.le_refl _) _).alloc (by simp) _).alloc (by simp; omega) _
  refine (callsIn_wide (n := 9)).1 ?_
  refine callsIn_of_wp_marks Tryz0.func10 rfl trivial ?_ rfl
  simp only [Tryz.ntmps10, List.size_toArray, List.length_cons, List.length_nil, Nat.reduceAdd, Nat.reduceSub, Array.replicate_succ, Array.replicate_zero, List.push_toArray, List.append_toArray, List.nil_append, List.cons_append]
  gi_wp2_with (refine ⟨trivial, ?_⟩; gi_at_call 23; refine (callsIn_wide.2 (implMoves_row _ _ _ _ f _ hn (by simp; omega) (hrow.below (hB0 _ _ _) hbs))).mono ?_; rintro e w1 ⟨rfl, hb1⟩; obtain ⟨hc1, hf1⟩ := bcell hb1)
  have hz := hb1.size
  simp at hz
  have hB1 : Below w.heap.size w w1 := (hB0 _ _ _).trans (hb1.mono (hB0 _ _ _).size)
  have l0 : w1.cell? ⟨w.heap.size, 0, none⟩ = some (.slice (some ⟨b, off, none⟩) n cap) := by rw [hc1 w.heap.size 0 (by simp; omega)]; simp [go_sem]
  have l1 : w1.cell? ⟨w.heap.size + 1, 0, none⟩ = some (.slice (some ⟨b', off', none⟩) n cap') := by rw [hc1 (w.heap.size + 1) 0 (by simp)]; simp [go_sem]
  have l2 : w1.cell? ⟨w.heap.size + 1 + 1, 0, none⟩ = some (.bool false) := by rw [hc1 (w.heap.size + 1 + 1) 0 (by simp)]; simp [go_sem]
  have l3 : w1.frozen? ⟨w.heap.size + 1 + 1, 0, none⟩ = false := by rw [hf1 (w.heap.size + 1 + 1) 0 (by simp)]; simp [go_sem]
  clear hc1 hf1 hb1
  gi_loopw [21] (fun i wr => ∃ k : Nat, k ≤ n ∧ i = .int .i64 k ∧ Below w1.heap.size w1 wr) (fun i _ => n - (intOf i).toNat)
  case atStart => exact ⟨0, Nat.zero_le _, rfl, Below.refl _ _⟩
  case round =>
    obtain ⟨k, hk, rfl, hB⟩ := hrel
    have hBr : Below w.heap.size w wr := hB1.trans (hB.mono hB1.size)
    have hzr : w1.heap.size ≤ wr.heap.size := hB.size
    by_cases hlt : k < n
    · have hr := hrow.below hBr hbs k hlt
      have hr' := hrow'.below hBr hbs' k hlt
      obtain ⟨c0, c1, c2, c3, c4, c5⟩ := hr
      have hlt' : (k : Int) < n := by omega
      have hA := boxMv_below wr (f k)
      have hM := boxMv_at wr (f k)
      have m1 : wr.cell? ⟨w.heap.size + 1, 0, none⟩ = some (.slice (some ⟨b', off', none⟩) n cap') := (hB.cell (p := ⟨w.heap.size + 1, 0, none⟩) (by simp; omega)).trans l1
      have hne := later_some (boxMv wr (f k))
      have e0 := fun x : Later (boxMv wr (f k)) => x.cell hM.c0
      have e1 := fun x : Later (boxMv wr (f k)) => x.cell hM.c1
      have e2 := fun x : Later (boxMv wr (f k)) => x.cell hM.c2
      have e3 := fun x : Later (boxMv wr (f k)) => x.cell hM.c3
      have e4 := fun x : Later (boxMv wr (f k)) => x.cell hM.c4
      have e5 := fun x : Later (boxMv wr (f k)) => x.cell hM.c5
      have e6 := fun x : Later (boxMv wr (f k)) => x.cell ((hA.cell (p := ⟨w.heap.size + 1, 0, none⟩) (by simp; omega)).trans m1)
      have e7 := fun x : Later (boxMv wr (f k)) => x.cell ((hA.cell (p := ⟨b', off' + k, none⟩) (by simp; omega)).trans hr')
      simp only [Nat.zero_add] at e0 e1 e2 e3 e4 e5
      have hs := hall k hlt
      gi_wp2
      refine region_in (lets_wide _) (by kernel_rfl) (by kernel_rfl) (by kernel_rfl) ?_
      repeat (go_big_quiet_step ((go_at_call 30; exact later_call (suits_any (f k) _ _))))
      refine wpQuiet_nil (later_all ?_)
      intro w2 hb2
      gi_wp2
      go_roundw
      case rel => exact ⟨k + 1, by omega, by go_num, hB.trans ((hA.trans (hb2.mono hA.size)).mono hB.size)⟩
      case measure => simp [intOf]; omega
    · have m0 : wr.cell? ⟨w.heap.size, 0, none⟩ = some (.slice (some ⟨b, off, none⟩) n cap) := (hB.cell (p := ⟨w.heap.size, 0, none⟩) (by simp; omega)).trans l0
      have m1 : wr.cell? ⟨w.heap.size + 1, 0, none⟩ = some (.slice (some ⟨b', off', none⟩) n cap') := (hB.cell (p := ⟨w.heap.size + 1, 0, none⟩) (by simp; omega)).trans l1
      have m2 : wr.cell? ⟨w.heap.size + 1 + 1, 0, none⟩ = some (.bool false) := (hB.cell (p := ⟨w.heap.size + 1 + 1, 0, none⟩) (by simp; omega)).trans l2
      have m3 : wr.frozen? ⟨w.heap.size + 1 + 1, 0, none⟩ = false := (hB.frozen (p := ⟨w.heap.size + 1 + 1, 0, none⟩) (by simp; omega)).trans l3
      gi_wp2_with (refine ⟨trivial, ?_⟩; gi_at_call 31; refine (callsIn_wide.2 (pairs_any _ _)).mono ?_; rintro e w' ⟨rfl, rfl⟩)
      obtain ⟨WL, hWL⟩ : ∃ WL, wr.alloc (.cells #[.int .i64 (n : Int)] 3) = WL := ⟨_, rfl⟩
      have hL : Below wr.heap.size wr WL := hWL ▸ (Below.refl _ _).alloc (Nat.le_refl _) _
      have hzL : WL.heap.size = wr.heap.size + 1 := by rw [← hWL]; simp
      have hcL : WL.cell? ⟨wr.heap.size, 0, none⟩ = some (.int .i64 (n : Int)) := by rw [← hWL]; simp
      rw [hWL]
      clear hWL
      have hBL : Below w.heap.size w WL := hBr.trans (hL.mono hBr.size)
      have p0 := (hL.cell (p := ⟨w.heap.size, 0, none⟩) (by simp; omega)).trans m0
      have p1 := (hL.cell (p := ⟨w.heap.size + 1, 0, none⟩) (by simp; omega)).trans m1
      have p2 := (hL.cell (p := ⟨w.heap.size + 1 + 1, 0, none⟩) (by simp; omega)).trans m2
      have p3 := (hL.frozen (p := ⟨w.heap.size + 1 + 1, 0, none⟩) (by simp; omega)).trans m3
      refine wpIn_rangeFunc_ownG rfl (by omega) (gf := 61) (lb := #[.pointer (some ⟨wr.heap.size, 0, none⟩)]) rfl trivial (enters_of Tryz0.func61 (by kernel_rfl) rfl)
        (pairs_stops _ wr.heap.size WL.heap.size n WL hn (by omega) (Nat.le_refl _) hcL) belowK_t (belowK_b (Nat.le_refl _)) (Below.refl _ _) (fun _ => rfl)
        (fun pre W => (∀ x ∈ pre, (f x.1.1).near (f x.1.2) (t x.1.1) (t x.1.2) = false) ∧ Below WL.heap.size WL W)
        (fun c pre W => (c = .ret ∧ fitsB f n t n = false) ∧ (W.cell? ⟨w.heap.size + 1 + 1, 0, none⟩ = some (.bool false) ∧ W.frozen? ⟨w.heap.size + 1 + 1, 0, none⟩ = false) ∧ Below w.heap.size w W)
        (OwnFrom.and (ownFrom_pure _ _) (ownFrom_below (Nat.le_refl _) (Nat.le_refl _)))
        (fun c => OwnFrom.and (ownFrom_pure _ (fun _ => c = .ret ∧ fitsB f n t n = false)) (OwnFrom.and (Own.from (fun s A B row hs hg hr => ⟨cell_kept hs.1 hg hr, (frozen_kept hs.1 hg hr).trans hs.2⟩) _) (ownFrom_below (Nat.le_refl _) (by omega))))
        ⟨fun x hx => by simp at hx, Below.refl _ _⟩
        ?a1 ?assign ?body ?done ?stop
      case assign =>
        intro l x W K hK
        gi_wp2
        exact hK
      case body =>
        rintro l pre ⟨⟨i, j⟩, hij, hjn⟩ W ⟨hpre, hBW⟩ _
        dsimp only at hij hjn
        have hBw : Below w.heap.size w W := hBL.trans (hBW.mono hBL.size)
        have hin : i < n := by omega
        have hin' : (i : Int) < n := by omega
        have hjn' : (j : Int) < n := by omega
        have hri := hrow.below hBw hbs i hin
        have hrj := hrow.below hBw hbs j hjn
        have hti := hrow'.below hBw hbs' i hin
        have htj := hrow'.below hBw hbs' j hjn
        obtain ⟨ti0, ti1⟩ := tick_bd HM.out hin (hall i hin)
        obtain ⟨tj0, tj1⟩ := tick_bd HM.out hjn (hall j hjn)
        have hne := later_some W
        have q0 := fun x : Later W => x.cell ((hBW.cell (p := ⟨w.heap.size, 0, none⟩) (by simp; omega)).trans p0)
        have q1 := fun x : Later W => x.cell ((hBW.cell (p := ⟨w.heap.size + 1, 0, none⟩) (by simp; omega)).trans p1)
        have a0 := fun x : Later W => x.cell hri.c0
        have a1 := fun x : Later W => x.cell hri.c1
        have a2 := fun x : Later W => x.cell hri.c2
        have a3 := fun x : Later W => x.cell hri.c3
        have a4 := fun x : Later W => x.cell hri.c4
        have a5 := fun x : Later W => x.cell hri.c5
        have b0 := fun x : Later W => x.cell hrj.c0
        have b1 := fun x : Later W => x.cell hrj.c1
        have b2 := fun x : Later W => x.cell hrj.c2
        have b3 := fun x : Later W => x.cell hrj.c3
        have b4 := fun x : Later W => x.cell hrj.c4
        have b5 := fun x : Later W => x.cell hrj.c5
        have d0 := fun x : Later W => x.cell hti
        have d1 := fun x : Later W => x.cell htj
        have hzW := hBW.size
        have p2W := (hBW.cell (p := ⟨w.heap.size + 1 + 1, 0, none⟩) (by simp; omega)).trans p2
        have p3W := (hBW.frozen (p := ⟨w.heap.size + 1 + 1, 0, none⟩) (by simp; omega)).trans p3
        cases hnear : (f i).near (f j) (t i) (t j) with
        | true =>
          have HF : Hid (fitsB f n t n = false) := fitsB_near hij hjn hnear
          gi_wp2
          refine region_in (lets_round _ _) (by kernel_rfl) (by kernel_rfl) (by kernel_rfl) ?_
          repeat (go_big_quiet_step ((go_at_call 32; exact later_call (near_any (f i) (f j) _ _ _ ti0 ti1 tj0 tj1))))
          refine wpQuiet_nil (later_all ?_)
          intro w2 hb2
          have n2 := (hb2.cell (p := ⟨w.heap.size + 1 + 1, 0, none⟩) (by simp; omega)).trans p2W
          have n3 := (hb2.frozen (p := ⟨w.heap.size + 1 + 1, 0, none⟩) (by simp; omega)).trans p3W
          simp only [hnear]
          gi_wp2
          exact ⟨(keepsB hb2 _).trans ((KeepsOthers.setCell _ _ _).from _), ⟨rfl, HF.out⟩, ⟨World.cell?_setCell_same' _ _ _ (by rw [n2]; rfl), by rw [World.frozen?_setCell]; exact n3⟩, (hBw.trans (hb2.mono hBw.size)).setCell (by simp; omega) _⟩
        | false =>
          have HN : Hid _ := hnear
          gi_wp2
          refine region_in (lets_round _ _) (by kernel_rfl) (by kernel_rfl) (by kernel_rfl) ?_
          repeat (go_big_quiet_step ((go_at_call 32; exact later_call (near_any (f i) (f j) _ _ _ ti0 ti1 tj0 tj1))))
          refine wpQuiet_nil (later_all ?_)
          intro w2 hb2
          simp only [hnear]
          gi_wp2
          refine ⟨keepsB hb2 _, hb2.mono hzW, ?_, hBW.trans (hb2.mono hzW)⟩
          intro x hx
          rcases List.mem_append.1 hx with h | h
          · exact hpre x h
          · simp at h; subst h; exact HN.out
      case done =>
        rintro D xs W hD hS ⟨hpre, hBW⟩ hK
        have hfit : fitsB f n t n = true := (fitsB_iff HM.out).mpr ⟨hall, fun j k hk hj => hpre _ (hS k j ⟨hk, hj⟩)⟩
        have HF : Hid _ := hfit
        clear hfit
        have hBw : Below w.heap.size w W := hBL.trans (hBW.mono hBL.size)
        have p2W := (hBW.cell (p := ⟨w.heap.size + 1 + 1, 0, none⟩) (by simp; omega)).trans p2
        have p3W := (hBW.frozen (p := ⟨w.heap.size + 1 + 1, 0, none⟩) (by simp; omega)).trans p3
        gi_wp2
        have hK' := (KeepsOthers.setCell W ⟨w.heap.size + 1 + 1, 0, none⟩ (.bool true)).same D _ hK rfl
        refine ⟨by simp, .inl ⟨_, _, rfl, run_takeDeferred hK', ?_⟩⟩
        have hc5 := cell_kept (World.cell?_setCell_same' W ⟨w.heap.size + 1 + 1, 0, none⟩ (.bool true) (by rw [p2W]; rfl)) (grownBy_putObj' _ D (.deferred none)) (fun r e => by cases e; exact ⟨_, hK', rfl⟩)
        refine ⟨.bool true, ?_, by rw [HF.out], (hBw.setCell (p := ⟨w.heap.size + 1 + 1, 0, none⟩) (by simp; omega) _).trans (belowK_b (w := w) (Nat.le_refl _) _ D _ _ (by omega) hK' rfl rfl)⟩
        simp [results, Tryz.f10, go_sem, hc5]
      case stop =>
        rintro D c pre W hD _ ⟨⟨rfl, hF⟩, ⟨hcr, hfr⟩, hBW⟩ hK
        have HF : Hid _ := hF
        clear hF
        gi_wp2
        refine ⟨by simp, .inl ⟨_, _, rfl, run_takeDeferred hK, ?_⟩⟩
        have hc5 := cell_kept hcr (grownBy_putObj' _ D (.deferred none)) (fun r e => by cases e; exact ⟨_, hK, rfl⟩)
        refine ⟨.bool false, ?_, by rw [HF.out], hBW.trans (belowK_b (w := w) (Nat.le_refl _) W D _ _ (by omega) hK rfl rfl)⟩
        simp [results, Tryz.f10, go_sem, hc5]

/-- the program's StripFits -/
theorem implFits_row (b off n cap : Nat) (f : Nat → Mv) (b' off' m cap' : Nat) (t : Nat → Int) (w : World) (hn : n ≤ 1048576) (hm1 : m ≤ maxLen) (hbs : b < w.heap.size) (hrow : MvRow w b off n f) (hbs' : b' < w.heap.size) (hrow' : IntRow w b' off' m t) :
    Calls Tryz0.prog 10 #[.slice (some ⟨b, off, none⟩) n cap, .slice (some ⟨b', off', none⟩) m cap'] w fun e w' => e = .returned (.bool (fitsB f n t m)) ∧ Below w.heap.size w w' := by
  by_cases hl : m = n
  · subst hl
    cases hm : movesB f m with
    | false => exact implFits_early b off m cap f b' off' m cap' t w hn hm1 hbs hrow (.inl hm)
    | true =>
      by_cases hall : ∀ i, i < m → (f i).suits (t i) = true
      · exact implFits_suited b off m cap f b' off' cap' t w hbs hrow hbs' hrow' hm hall
      · exact implFits_unsuited b off m cap f b' off' cap' t w hn hbs hrow hbs' hrow' hm hall
  · exact implFits_early b off n cap f b' off' m cap' t w hn hm1 hbs hrow (.inr hl)
end Go.Proofs.YtlmcblcijndipaaGreat

/- The law's own helpers: numbers held against each other, gaps, what fits by the definition. -/
namespace Go.Proofs.YtlmcblcijndipaaGreat
open Go.RowKit
set_option linter.unusedVariables false

set_option maxHeartbeats 1000000 in
theorem wInts_same (b off cap b' off' cap' n : Nat) (g : Nat → Int) (w : World) (hn : n ≤ 1048576) (hbs : b < w.heap.size) (hrow : IntRow w b off n g) (hbs' : b' < w.heap.size) (hrow' : IntRow w b' off' n g) :
    Calls Tryz0.prog 8 #[.slice (some ⟨b, off, none⟩) n cap, .slice (some ⟨b', off', none⟩) n cap'] w fun e w' => e = .returned (.bool true) ∧ Below w.heap.size w w' := by
  go_enter Tryz0.func8, Tryz.ntmps8
  go_wp2
  go_loopw [5] (fun i w' => ∃ k : Nat, k ≤ n ∧ i = .int .i64 k ∧ Below w.heap.size w w') (fun i _ => n - (intOf i).toNat)
  case atStart => exact ⟨0, Nat.zero_le _, rfl, Below.refl _ _⟩
  case round =>
    obtain ⟨k, hk, rfl, hB⟩ := hrel
    by_cases hlt : k < n
    · have hr := hrow.below hB hbs k hlt
      have hr' := hrow'.below hB hbs' k hlt
      have hlt' : (k : Int) < n := by omega
      have hne := later_some wr
      have c0 := fun x : Later wr => x.cell hr
      have d0 := fun x : Later wr => x.cell hr'
      go_wp2
      refine wp_region_later (by kernel_rfl) (by kernel_rfl) ?_
      repeat (go_big_quiet_step (fail))
      refine wpQuiet_nil (later_all ?_)
      intro w1 hb1
      go_wp2
      go_roundw
      case rel => exact ⟨k + 1, by omega, by go_num, hB.trans (hb1.mono hB.size)⟩
      case measure => simp [intOf]; omega
    · go_wp2
      go_ret
      exact ⟨rfl, hB⟩
theorem wInts_none (a a' : Option Addr) (cap cap' : Nat) (w : World) :
    Calls Tryz0.prog 8 #[.slice a 0 cap, .slice a' 0 cap'] w fun e w' => e = .returned (.bool true) ∧ Below w.heap.size w w' := by
  go_enter Tryz0.func8, Tryz.ntmps8
  go_wp2
  go_loopw [5] (fun i w' => i = .int .i64 0 ∧ Below w.heap.size w w') (fun _ _ => 0)
  case atStart => exact ⟨rfl, Below.refl _ _⟩
  case round =>
    obtain ⟨rfl, hB⟩ := hrel
    go_wp2
    go_ret
    exact ⟨rfl, hB⟩

end Go.Proofs.YtlmcblcijndipaaGreat
