/- Texts of the proof, one behind another: O1, O2, O3. -/
import Derived.Test.YtlmcblcijndipabGreatM24
import Derived.Test.YtlmcblcijndipabGreatM15
import Derived.Test.YtlmcblcijndipabGreatM18
namespace Go.Proofs.YtlmcblcijndipabGreat
open Go.RowKit
set_option linter.unusedVariables false
theorem ret_ib {a c : Int} {b d : Bool} (h : a = c) (h' : b = d) : Ending.returned (.tuple #[.int .i64 a, .bool b]) = .returned (.tuple #[.int .i64 c, .bool d]) := by rw [h, h']
set_option maxHeartbeats 400000 in
theorem kept_any (m : Mv) (t : Int) (w : World) :
    Calls Tryz0.prog 124 #[.agg #[.string m.name, .bool m.lands, .int .i64 m.wake, .int .i64 m.est, .int .i64 m.late, .int .i64 m.prom], .int .i64 t] w fun e w' => e = .returned (.tuple #[.int .i64 (keptV m t), .bool (keptB m t)]) ∧ Below w.heap.size w w' := by
  have hA : Below w.heap.size w (w.alloc (.cells #[.string m.name, .bool m.lands, .int .i64 m.wake, .int .i64 m.est, .int .i64 m.late, .int .i64 m.prom] 48)) := (Below.refl _ _).alloc (Nat.le_refl _) _
  have g4 : (w.alloc (.cells #[.string m.name, .bool m.lands, .int .i64 m.wake, .int .i64 m.est, .int .i64 m.late, .int .i64 m.prom] 48)).cell? ⟨w.heap.size, 4, none⟩ = some (.int .i64 m.late) := by simp
  have g5 : (w.alloc (.cells #[.string m.name, .bool m.lands, .int .i64 m.wake, .int .i64 m.est, .int .i64 m.late, .int .i64 m.prom] 48)).cell? ⟨w.heap.size, 5, none⟩ = some (.int .i64 m.prom) := by simp
  have hne := later_some (w.alloc (.cells #[.string m.name, .bool m.lands, .int .i64 m.wake, .int .i64 m.est, .int .i64 m.late, .int .i64 m.prom] 48))
  have e4 := fun x : Later (w.alloc (.cells #[.string m.name, .bool m.lands, .int .i64 m.wake, .int .i64 m.est, .int .i64 m.late, .int .i64 m.prom] 48)) => x.cell g4
  have e5 := fun x : Later (w.alloc (.cells #[.string m.name, .bool m.lands, .int .i64 m.wake, .int .i64 m.est, .int .i64 m.late, .int .i64 m.prom] 48)) => x.cell g5
  clear g4 g5
  by_cases hp : m.prom = -1
  · have hp' : (m.prom != -1) = false := by simpa using hp
    have HV0 : keptV m t = t := by unfold keptV; rw [if_pos hp]
    have HV : Hid (keptV m t = t) := HV0
    have HB0 : keptB m t = decide (t ≤ m.late) := by unfold keptB; rw [if_pos hp]
    have HB : Hid (keptB m t = decide (t ≤ m.late)) := HB0
    clear HV0 HB0 hp
    go_enter Tryz0.func124, Tryz.ntmps124
    go_wp2
    refine wp_region_later (by kernel_rfl) (by kernel_rfl) ?_
    repeat (go_big_quiet_step (fail))
    refine wpQuiet_nil (later_all ?_)
    intro w1 hb1
    go_wp2
    go_ret2
    exact ⟨ret_ib HV.out.symm HB.out.symm, hA.trans (hb1.mono hA.size)⟩
  · have hp' : (m.prom != -1) = true := by simpa using hp
    have HV0 : keptV m t = m.prom := by unfold keptV; rw [if_neg hp]
    have HV : Hid (keptV m t = m.prom) := HV0
    have HB0 : keptB m t = decide (t ≤ m.prom) := by unfold keptB; rw [if_neg hp]
    have HB : Hid (keptB m t = decide (t ≤ m.prom)) := HB0
    clear HV0 HB0 hp
    go_enter Tryz0.func124, Tryz.ntmps124
    go_wp2
    refine wp_region_later (by kernel_rfl) (by kernel_rfl) ?_
    repeat (go_big_quiet_step (fail))
    refine wpQuiet_nil (later_all ?_)
    intro w1 hb1
    go_wp2
    go_ret2
    exact ⟨ret_ib HV.out.symm HB.out.symm, hA.trans (hb1.mono hA.size)⟩
set_option maxHeartbeats 400000 in
theorem soon_any (a p : Nat) (bt bl : Nat) (b off n cap : Nat) (f : Nat → Mv) (tb : Nat) (T : Nat → Int) (w : World) (ha : a < n) (hp : p < n) (hn : n ≤ 1048576)
    (hT : 0 ≤ T a ∧ T a ≤ 10000)
    (ct : w.cell? ⟨bt, 0, none⟩ = some (.slice (some ⟨tb, 0, none⟩) n n)) (cl : w.cell? ⟨bl, 0, none⟩ = some (.slice (some ⟨b, off, none⟩) n cap)) (hrow : MvRow w b off n f) (hown : OwnInts w tb n T) :
    Calls Tryz0.prog 123 #[.int .i64 (a : Int), .int .i64 (p : Int), .pointer (some ⟨bt, 0, none⟩), .pointer (some ⟨bl, 0, none⟩)] w fun e w' => e = .returned (.int .i64 (T a + (f a).gap (f p))) ∧ Below w.heap.size w w' := by
  have hg1 := gapZ_pos (f a).lands (f a).wake (f p).wake
  have hg2 := gapZ_le (f a).lands (f a).wake (f p).wake
  have hg : 1 ≤ (f a).gap (f p) ∧ (f a).gap (f p) ≤ 4 := ⟨hg1, hg2⟩
  clear hg1 hg2
  obtain ⟨hg1, hg2⟩ := hg
  obtain ⟨hT0, hT1⟩ := hT
  have ha' : (a : Int) < n := by omega
  have hp' : (p : Int) < n := by omega
  have hra := hrow a ha
  have hrp := hrow p hp
  have hne := later_some w
  have x0 := fun x : Later w => x.cell ct
  have x1 := fun x : Later w => x.cell cl
  have x2 := fun x : Later w => x.cell (hown.cellAt a ha)
  have a0 := fun x : Later w => x.cell hra.c0
  have a1 := fun x : Later w => x.cell hra.c1
  have a2 := fun x : Later w => x.cell hra.c2
  have a3 := fun x : Later w => x.cell hra.c3
  have a4 := fun x : Later w => x.cell hra.c4
  have a5 := fun x : Later w => x.cell hra.c5
  have b0 := fun x : Later w => x.cell hrp.c0
  have b1 := fun x : Later w => x.cell hrp.c1
  have b2 := fun x : Later w => x.cell hrp.c2
  have b3 := fun x : Later w => x.cell hrp.c3
  have b4 := fun x : Later w => x.cell hrp.c4
  have b5 := fun x : Later w => x.cell hrp.c5
  go_enter Tryz0.func123, Tryz.ntmps123
  go_wp2
  refine wp_region_later (by kernel_rfl) (by kernel_rfl) ?_
  repeat (go_big_quiet_step ((go_at_call 122; exact later_call (implGap_any (f a) (f p) _))))
  refine wpQuiet_nil (later_all ?_)
  intro w1 hb1
  go_wp2
  go_ret
  exact ⟨rfl, hb1⟩
end Go.Proofs.YtlmcblcijndipabGreat

namespace Go.Proofs.YtlmcblcijndipabGreat
open Go.RowKit
set_option linter.unusedVariables false
def EarlSays (r : Option (Nat → Int)) (n : Nat) (w : World) (e : Ending) (w' : World) : Prop :=
  match r with
  | some T => ∃ B cap, w.heap.size ≤ B ∧ e = .returned (.tuple #[.slice (some ⟨B, 0, none⟩) n cap, .bool true]) ∧ OwnInts w' B n T
  | none => ∃ a cap, e = .returned (.tuple #[.slice a 0 cap, .bool false])
def EarlCap (r : Option (Nat → Int)) (n : Nat) (w : World) (e : Ending) (w' : World) : Prop :=
  match r with
  | some T => ∃ B, w.heap.size ≤ B ∧ e = .returned (.tuple #[.slice (some ⟨B, 0, none⟩) n n, .bool true]) ∧ OwnInts w' B n T
  | none => e = .returned (.tuple #[.slice none 0 0, .bool false])
set_option maxHeartbeats 2000000 in
theorem earliest_cap (b off n cap : Nat) (f : Nat → Mv) (b' off' cap' : Nat) (o : Nat → Nat) (w : World) (hm : movesB f n = true) (ho : ∀ i, i < n → o i < n) (hcap : n ≤ cap') (hbs : b < w.heap.size) (hrow : MvRow w b off n f) (hbs' : b' < w.heap.size) (hrow' : IntRow w b' off' n (fun i => (o i : Int))) :
    Calls Tryz0.prog 111 #[.slice (some ⟨b', off', none⟩) n cap', .slice (some ⟨b, off, none⟩) n cap] w fun e w' => EarlCap (earl f o n) n w e w' ∧ Below w.heap.size w w' := by
  have h6 := movesB_six hm
  have HM : Hid (movesB f n = true) := hm
  clear hm
  have hmk := make_ints n (by omega)
  go_enter Tryz0.func111, Tryz.ntmps111
  go_wp2
  go_loopw [21] (fun i wr => ∃ (k : Nat) (T : Nat → Int), k ≤ n ∧ i = .int .i64 k ∧ earl f o k = some T ∧ OwnInts wr (w.heap.size + 1) n T ∧ wr.cell? ⟨w.heap.size, 0, none⟩ = some (.slice (some ⟨b, off, none⟩) n cap) ∧ wr.cell? ⟨w.heap.size + 1 + 1, 0, none⟩ = some (.slice (some ⟨w.heap.size + 1, 0, none⟩) n n) ∧ Below w.heap.size w wr) (fun i _ => n - (intOf i).toNat)
  case atStart =>
    refine ⟨0, _, Nat.zero_le _, rfl, rfl, ?_, by simp [go_sem], by simp [go_sem], ?_⟩
    · have := made_ints (w.alloc (.cells #[.slice (some ⟨b, off, none⟩) n cap] 27)) n
      simp only [World.size_alloc] at this
      exact this.below ((Below.refl _ _).alloc (Nat.le_refl _) _) this.lt
    · exact (((Below.refl _ w).alloc (Nat.le_refl _) _).alloc (by simp) _).alloc (by simp; omega) _
  case round =>
    obtain ⟨k, T, hk, rfl, hT, hown, cl, cb, hB⟩ := hrel
    have HT : Hid (earl f o k = some T) := hT
    clear hT
    have hTb := earl_bd HM.out ho k T hk HT.out
    by_cases hlt : k < n
    · have hlt' : (k : Int) < n := by omega
      have hp := ho k hlt
      have hp' : ((o k : Nat) : Int) < n := by omega
      have hc : wr.cell? ⟨b', off' + k, none⟩ = some (.int .i64 ((o k : Nat) : Int)) := (hrow'.below hB hbs') k hlt
      have hok := movesB_ok HM.out (o k) hp
      obtain ⟨z0, z1, z2, z3, z4, z5⟩ := Mv.ok_bd hok
      have hrp := (hrow.below hB hbs) (o k) hp
      have c3 := hrp.c3
      have hkc : (k : Int) ≤ cap' := by omega
      go_wp2
      go_loopw [10, 35] (fun l j wr => ∃ q : Nat, q ≤ k ∧ j = .int .i64 q ∧ l = .int .i64 (leastTo f o T (o k) q) ∧ OwnInts wr (w.heap.size + 1) n T ∧ wr.cell? ⟨w.heap.size, 0, none⟩ = some (.slice (some ⟨b, off, none⟩) n cap) ∧ wr.cell? ⟨w.heap.size + 1 + 1, 0, none⟩ = some (.slice (some ⟨w.heap.size + 1, 0, none⟩) n n) ∧ Below w.heap.size w wr) (fun _ j _ => k - (intOf j).toNat)
      case atStart => exact ⟨0, Nat.zero_le _, rfl, rfl, hown, cl, cb, hB⟩
      case round =>
        clear hown cl cb hB hc hrp c3
        obtain ⟨q, hq, rfl, rfl, hown, cl, cb, hB⟩ := hrel
        have hlb := leastTo_bd (o := o) (p := o k) ⟨z0, by omega⟩ hTb q
        obtain ⟨hl0, hl1⟩ := hlb
        have hz1 := hown.lt
        have hz2 := block_lt_of_cell cl
        have hz3 := block_lt_of_cell cb
        by_cases hlq : q < k
        · have hlq' : (q : Int) < k := by omega
          have ha := ho q (by omega)
          have hcq : wr.cell? ⟨b', off' + q, none⟩ = some (.int .i64 ((o q : Nat) : Int)) := (hrow'.below hB hbs') q (by omega)
          have hg1 : 1 ≤ (f (o q)).gap (f (o k)) := gapZ_pos _ _ _
          have hg2 : (f (o q)).gap (f (o k)) ≤ 4 := gapZ_le _ _ _
          obtain ⟨t0, t1⟩ := hTb (o q)
          have HL : Hid (leastTo f o T (o k) (q + 1) = if leastTo f o T (o k) q < T (o q) + (f (o q)).gap (f (o k)) then T (o q) + (f (o q)).gap (f (o k)) else leastTo f o T (o k) q) := rfl
          have HC := soon_any (o q) (o k) (w.heap.size + 1 + 1) w.heap.size b off n cap f (w.heap.size + 1) T wr ha hp (by omega) ⟨t0, t1⟩ cb cl (hrow.below hB hbs) hown
          by_cases hgt : leastTo f o T (o k) q < T (o q) + (f (o q)).gap (f (o k))
          all_goals
            go_wp2_with (go_at_call 123; refine HC.mono ?_; clear HC; rintro e w1 ⟨rfl, hb1⟩)
            go_roundw
            case rel => exact ⟨q + 1, by omega, by go_num, by rw [HL.out]; first | rw [if_pos hgt] | rw [if_neg (by omega)], hown.below hb1 hz1, (hb1.cell (p := ⟨w.heap.size, 0, none⟩) hz2).trans cl, (hb1.cell (p := ⟨w.heap.size + 1 + 1, 0, none⟩) hz3).trans cb, hB.trans (hb1.mono hB.size)⟩
            case measure => simp [intOf]; omega
        · have hqk : q = k := by omega
          subst hqk
          obtain ⟨c0, c1, c2, c3, c4, c5⟩ := (hrow.below hB hbs) (o q) hp
          have hd := hown.cellAt (o q) hp
          have hfz := hown.frozen (o q)
          have HK := kept_any (f (o q)) (leastTo f o T (o q) q) wr
          cases hkb : keptB (f (o q)) (leastTo f o T (o q) q) with
          | true =>
            have HE : Hid (earl f o (q + 1) = some (fun p => if p = o q then keptV (f (o q)) (leastTo f o T (o q) q) else T p)) := earl_yes HT.out hkb
            rw [hkb] at HK
            go_wp2_with (go_at_call 124; refine HK.mono ?_; clear HK; rintro e w1 ⟨rfl, hb1⟩; have hd1 := (hb1.cell (p := ⟨w.heap.size + 1, o q, none⟩) hz1).trans hd; have hf1 := (hb1.frozen (p := ⟨w.heap.size + 1, o q, none⟩) hz1).trans hfz; have cb1 := (hb1.cell (p := ⟨w.heap.size + 1 + 1, 0, none⟩) hz3).trans cb; have cl1 := (hb1.cell (p := ⟨w.heap.size, 0, none⟩) hz2).trans cl)
            have hown1 := hown.below hb1 hz1
            go_roundw
            case rel => exact ⟨q + 1, _, by omega, by go_num, HE.out, hown1.set (o q) hp _, (World.cell?_setCell_other _ _ _ _ (by simp)).trans cl1, (World.cell?_setCell_other _ _ _ _ (by simp)).trans cb1, (hB.trans (hb1.mono hB.size)).setCell (by simp) _⟩
            case measure => simp [intOf]; omega
          | false =>
            have HE : Hid (earl f o n = none) := earl_no HT.out hkb hlt
            rw [hkb] at HK
            go_wp2_with (go_at_call 124; refine HK.mono ?_; clear HK; rintro e w1 ⟨rfl, hb1⟩)
            go_ret2
            refine ⟨?_, hB.trans (hb1.mono hB.size)⟩
            rw [HE.out]
            exact rfl
    · have hkn : k = n := by omega
      subst hkn
      go_wp2
      go_ret2
      refine ⟨?_, hB⟩
      rw [HT.out]
      exact ⟨w.heap.size + 1, by omega, rfl, hown⟩
end Go.Proofs.YtlmcblcijndipabGreat

namespace Go.Proofs.YtlmcblcijndipabGreat
open Go.RowKit
set_option linter.unusedVariables false
abbrev boxAt (w : World) (m : Mv) : World := w.alloc (.cells #[.string m.name, .bool m.lands, .int .i64 m.wake, .int .i64 m.est, .int .i64 m.late, .int .i64 m.prom] 48)
theorem boxAt_at (w : World) (m : Mv) : MvAt (boxAt w m) w.heap.size 0 m := by
  constructor <;> simp [boxAt]
set_option maxHeartbeats 4000000 in
theorem l3Order_row (b off n cap : Nat) (f : Nat → Mv) (b' off' cap' : Nat) (o : Nat → Nat) (w : World) (hm : movesB f n = true) (ho : ∀ i, i < n → o i < n) (hbs : b < w.heap.size) (hrow : MvRow w b off n f) (hbs' : b' < w.heap.size) (hrow' : IntRow w b' off' n (fun i => (o i : Int))) :
    Calls Tryz0.prog 39 #[.slice (some ⟨b, off, none⟩) n cap, .slice (some ⟨b', off', none⟩) n cap'] w fun e w' => EarlSays (earl f o n) n w e w' ∧ Below w.heap.size w w' := by
  have h6 := movesB_six hm
  have HM : Hid (movesB f n = true) := hm
  clear hm
  have hmk := make_ints n (by omega)
  go_enter Tryz0.func39, Tryz.ntmps39
  go_wp2
  go_loopw [7] (fun i wr => ∃ (k : Nat) (T : Nat → Int), k ≤ n ∧ i = .int .i64 k ∧ earl f o k = some T ∧ OwnInts wr w.heap.size n T ∧ Below w.heap.size w wr) (fun i _ => n - (intOf i).toNat)
  case atStart => exact ⟨0, _, Nat.zero_le _, rfl, rfl, made_ints w n, (Below.refl _ w).alloc (Nat.le_refl _) _⟩
  case round =>
    obtain ⟨k, T, hk, rfl, hT, hown, hB⟩ := hrel
    have HT : Hid (earl f o k = some T) := hT
    clear hT
    have hTb := earl_bd HM.out ho k T hk HT.out
    by_cases hlt : k < n
    · have hlt' : (k : Int) < n := by omega
      have hp := ho k hlt
      have hp' : ((o k : Nat) : Int) < n := by omega
      have hc : wr.cell? ⟨b', off' + k, none⟩ = some (.int .i64 ((o k : Nat) : Int)) := (hrow'.below hB hbs') k hlt
      have hok := movesB_ok HM.out (o k) hp
      obtain ⟨z0, z1, z2, z3, z4, z5⟩ := Mv.ok_bd hok
      obtain ⟨c0, c1, c2, c3, c4, c5⟩ := (hrow.below hB hbs) (o k) hp
      have hA : Below wr.heap.size wr (boxAt wr (f (o k))) := (Below.refl _ _).alloc (Nat.le_refl _) _
      have hM := boxAt_at wr (f (o k))
      have hownA := hown.below hA hown.lt
      have hBA : Below w.heap.size w (boxAt wr (f (o k))) := hB.trans (hA.mono hB.size)
      have hzw : w.heap.size ≤ wr.heap.size := hB.size
      have hzo : w.heap.size < wr.heap.size := hown.lt
      have HZ : Hid (w.heap.size ≠ wr.heap.size) := by have h : w.heap.size ≠ wr.heap.size := by omega
                                                       exact h
      go_wp2
      obtain ⟨Bm, hBm⟩ : ∃ Bm, Bm = wr.heap.size := ⟨_, rfl⟩
      rw [← hBm] at hM hzw hzo ⊢
      go_loopw [9, 10] (fun l j wr => ∃ q : Nat, q ≤ k ∧ j = .int .i64 q ∧ l = .int .i64 (leastTo f o T (o k) q) ∧ OwnInts wr w.heap.size n T ∧ MvAt wr Bm 0 (f (o k)) ∧ Below w.heap.size w wr) (fun _ j _ => k - (intOf j).toNat)
      case atStart => exact ⟨0, Nat.zero_le _, rfl, rfl, hownA, hM, hBA⟩
      case round =>
        clear hown hB hc c0 c1 c2 c3 c4 c5 hA hM hownA hBA HZ hBm
        obtain ⟨q, hq, rfl, rfl, hown, hM, hB⟩ := hrel
        have hlb := leastTo_bd (o := o) (p := o k) ⟨z0, by omega⟩ hTb q
        obtain ⟨hl0, hl1⟩ := hlb
        have hz1 := hown.lt
        have hz2 := block_lt_of_cell hM.c0
        by_cases hlq : q < k
        · have hlq' : (q : Int) < k := by omega
          have hqn' : (q : Int) < n := by omega
          have ha := ho q (by omega)
          have ha' : ((o q : Nat) : Int) < n := by omega
          have hcq : wr.cell? ⟨b', off' + q, none⟩ = some (.int .i64 ((o q : Nat) : Int)) := (hrow'.below hB hbs') q (by omega)
          have hg1 : 1 ≤ (f (o q)).gap (f (o k)) := gapZ_pos _ _ _
          have hg2 : (f (o q)).gap (f (o k)) ≤ 4 := gapZ_le _ _ _
          obtain ⟨t0, t1⟩ := hTb (o q)
          have HL : Hid (leastTo f o T (o k) (q + 1) = if leastTo f o T (o k) q < T (o q) + (f (o q)).gap (f (o k)) then T (o q) + (f (o q)).gap (f (o k)) else leastTo f o T (o k) q) := rfl
          have hra := (hrow.below hB hbs) (o q) ha
          have hne := later_some wr
          have x0 := fun x : Later wr => x.cell hcq
          have x1 := fun x : Later wr => x.cell (hown.cellAt (o q) ha)
          have a0 := fun x : Later wr => x.cell hra.c0
          have a1 := fun x : Later wr => x.cell hra.c1
          have a2 := fun x : Later wr => x.cell hra.c2
          have a3 := fun x : Later wr => x.cell hra.c3
          have a4 := fun x : Later wr => x.cell hra.c4
          have a5 := fun x : Later wr => x.cell hra.c5
          have b0 := fun x : Later wr => x.cell hM.c0
          have b1 := fun x : Later wr => x.cell hM.c1
          have b2 := fun x : Later wr => x.cell hM.c2
          have b3 := fun x : Later wr => x.cell hM.c3
          have b4 := fun x : Later wr => x.cell hM.c4
          have b5 := fun x : Later wr => x.cell hM.c5
          simp only [Nat.zero_add] at b0 b1 b2 b3 b4 b5
          by_cases hgt : leastTo f o T (o k) q < T (o q) + (f (o q)).gap (f (o k))
          all_goals
            go_wp2
            refine wp_region_later (by kernel_rfl) (by kernel_rfl) ?_
            repeat (go_big_quiet_step ((go_at_call 61; exact later_call (specGap_any (f (o q)) (f (o k)) _))))
            refine wpQuiet_nil (later_all ?_)
            intro w1 hb1
            go_wp2
            go_roundw
            case rel => exact ⟨q + 1, by omega, by go_num, by rw [HL.out]; first | rw [if_pos hgt] | rw [if_neg (by omega)], hown.below hb1 hz1, hM.below hb1 hz2, hB.trans (hb1.mono hB.size)⟩
            case measure => simp [intOf]; omega
        · have hqk : q = k := by omega
          subst hqk
          obtain ⟨m0, m1, m2, m3, m4, m5⟩ := hM
          simp only [Nat.zero_add] at m0 m1 m2 m3 m4 m5
          have hc : wr.cell? ⟨b', off' + q, none⟩ = some (.int .i64 ((o q : Nat) : Int)) := (hrow'.below hB hbs') q hlt
          have hd := hown.cellAt (o q) hp
          have hfz := hown.frozen (o q)
          have hqn' : (q : Int) < n := by omega
          by_cases hpr : (f (o q)).prom = -1
          · have hpn : (f (o q)).prom < 0 := by omega
            by_cases hle : leastTo f o T (o q) q ≤ (f (o q)).late
            · have HE0 := earl_yes HT.out (by unfold keptB; rw [if_pos hpr]; simpa using hle)
              have HV : keptV (f (o q)) (leastTo f o T (o q) q) = leastTo f o T (o q) q := by unfold keptV; rw [if_pos hpr]
              rw [HV] at HE0
              have HE : Hid (earl f o (q + 1) = some (fun p => if p = o q then leastTo f o T (o q) q else T p)) := HE0
              clear HE0 HV hpr
              go_wp2
              go_roundw
              case rel => exact ⟨q + 1, _, by omega, by go_num, HE.out, hown.set (o q) hp _, hB.setCell (by simp) _⟩
              case measure => simp [intOf]; omega
            · have HE : Hid (earl f o n = none) := earl_no HT.out (by unfold keptB; rw [if_pos hpr]; simpa using hle) hlt
              clear hpr
              go_wp2
              go_ret2
              refine ⟨?_, ?_⟩
              · rw [HE.out]
                exact ⟨_, _, rfl⟩
              · first | exact hB | exact hB.alloc hB.size _
          · have hpn : 0 ≤ (f (o q)).prom := by omega
            have hpl : (f (o q)).prom ≤ (f (o q)).late := by omega
            by_cases hle : leastTo f o T (o q) q ≤ (f (o q)).prom
            · have HE0 := earl_yes HT.out (by unfold keptB; rw [if_neg hpr]; simpa using hle)
              have HV : keptV (f (o q)) (leastTo f o T (o q) q) = (f (o q)).prom := by unfold keptV; rw [if_neg hpr]
              rw [HV] at HE0
              have HE : Hid (earl f o (q + 1) = some (fun p => if p = o q then (f (o q)).prom else T p)) := HE0
              clear HE0 HV hpr
              go_wp2
              go_roundw
              case rel => exact ⟨q + 1, _, by omega, by go_num, HE.out, hown.set (o q) hp _, hB.setCell (by simp) _⟩
              case measure => simp [intOf]; omega
            · have HE : Hid (earl f o n = none) := earl_no HT.out (by unfold keptB; rw [if_neg hpr]; simpa using hle) hlt
              clear hpr
              go_wp2
              go_ret2
              refine ⟨?_, ?_⟩
              · rw [HE.out]
                exact ⟨_, _, rfl⟩
              · first | exact hB | exact hB.alloc hB.size _
    · have hkn : k = n := by omega
      subst hkn
      go_wp2
      go_ret2
      refine ⟨?_, hB⟩
      rw [HT.out]
      exact ⟨w.heap.size, k, Nat.le_refl _, rfl, hown⟩
end Go.Proofs.YtlmcblcijndipabGreat
