/- The earliest ticks in an order: the model's, walked. -/
import Derived.Test.YtlmcblcijndipaaO2
namespace Go.Proofs.Ytlmcblcijndipaa
open Go.RowKit
set_option linter.unusedVariables false

/-- a move's box, just made -/
abbrev boxAt (w : World) (m : Mv) : World := w.alloc (.cells #[.string m.name, .bool m.lands, .int .i64 m.wake, .int .i64 m.est, .int .i64 m.late, .int .i64 m.prom] 38)
theorem boxAt_at (w : World) (m : Mv) : MvAt (boxAt w m) w.heap.size 0 m := by
  constructor <;> simp [boxAt]

set_option maxHeartbeats 4000000 in
theorem l3Order_row (b off n cap : Nat) (f : Nat → Mv) (b' off' cap' : Nat) (o : Nat → Nat) (w : World) (hm : movesB f n = true) (ho : ∀ i, i < n → o i < n) (hbs : b < w.heap.size) (hrow : MvRow w b off n f) (hbs' : b' < w.heap.size) (hrow' : IntRow w b' off' n (fun i => (o i : Int))) :
    Calls Try.prog 34 #[.slice (some ⟨b, off, none⟩) n cap, .slice (some ⟨b', off', none⟩) n cap'] w fun e w' => EarlSays (earl f o n) n w e w' ∧ Below w.heap.size w w' := by
  have h6 := movesB_six hm
  have HM : Hid (movesB f n = true) := hm
  clear hm
  have hmk := make_ints n (by omega)
  go_enter Try.func34, Try.ntmps34
  go_wp2
  go_loopw [7] (fun i wr => ∃ (k : Nat) (T : Nat → Int), k ≤ n ∧ i = .int .i64 k ∧ earl f o k = some T ∧ OwnInts wr w.heap.size n T ∧ Below w.heap.size w wr) (fun i _ => n - (intOf i).toNat)
  case atStart => exact ⟨0, _, Nat.zero_le _, rfl, rfl, made_ints w n, (Below.refl _ w).alloc (Nat.le_refl _) _⟩
  case round =>
    obtain ⟨k, T, hk, rfl, hT, hown, hB⟩ := hrel
    have HT : Hid (earl f o k = some T) := hT
    clear hT
    have hTb := earl_bd HM.out ho k T hk HT.out
    by_cases hlt : k < n
    · have hlt' : (k : Int) < n := by omega
      have hp := ho k hlt
      have hp' : ((o k : Nat) : Int) < n := by omega
      have hc : wr.cell? ⟨b', off' + k, none⟩ = some (.int .i64 ((o k : Nat) : Int)) := (hrow'.below hB hbs') k hlt
      have hok := movesB_ok HM.out (o k) hp
      obtain ⟨z0, z1, z2, z3, z4, z5⟩ := Mv.ok_bd hok
      obtain ⟨c0, c1, c2, c3, c4, c5⟩ := (hrow.below hB hbs) (o k) hp
      have hA : Below wr.heap.size wr (boxAt wr (f (o k))) := (Below.refl _ _).alloc (Nat.le_refl _) _
      have hM := boxAt_at wr (f (o k))
      have hownA := hown.below hA hown.lt
      have hBA : Below w.heap.size w (boxAt wr (f (o k))) := hB.trans (hA.mono hB.size)
      have hzw : w.heap.size ≤ wr.heap.size := hB.size
      have hzo : w.heap.size < wr.heap.size := hown.lt
      have HZ : Hid (w.heap.size ≠ wr.heap.size) := by have h : w.heap.size ≠ wr.heap.size := by omega
                                                       exact h
      go_wp2
      obtain ⟨Bm, hBm⟩ : ∃ Bm, Bm = wr.heap.size := ⟨_, rfl⟩
      rw [← hBm] at hM hzw hzo ⊢
      go_loopw [9, 10] (fun l j wr => ∃ q : Nat, q ≤ k ∧ j = .int .i64 q ∧ l = .int .i64 (leastTo f o T (o k) q) ∧ OwnInts wr w.heap.size n T ∧ MvAt wr Bm 0 (f (o k)) ∧ Below w.heap.size w wr) (fun _ j _ => k - (intOf j).toNat)
      case atStart => exact ⟨0, Nat.zero_le _, rfl, rfl, hownA, hM, hBA⟩
      case round =>
        clear hown hB hc c0 c1 c2 c3 c4 c5 hA hM hownA hBA HZ hBm
        obtain ⟨q, hq, rfl, rfl, hown, hM, hB⟩ := hrel
        have hlb := leastTo_bd (o := o) (p := o k) ⟨z0, by omega⟩ hTb q
        obtain ⟨hl0, hl1⟩ := hlb
        have hz1 := hown.lt
        have hz2 := block_lt_of_cell hM.c0
        by_cases hlq : q < k
        · have hlq' : (q : Int) < k := by omega
          have hqn' : (q : Int) < n := by omega
          have ha := ho q (by omega)
          have ha' : ((o q : Nat) : Int) < n := by omega
          have hcq : wr.cell? ⟨b', off' + q, none⟩ = some (.int .i64 ((o q : Nat) : Int)) := (hrow'.below hB hbs') q (by omega)
          have hg1 : 1 ≤ (f (o q)).gap (f (o k)) := gapZ_pos _ _ _
          have hg2 : (f (o q)).gap (f (o k)) ≤ 4 := gapZ_le _ _ _
          obtain ⟨t0, t1⟩ := hTb (o q)
          have HL : Hid (leastTo f o T (o k) (q + 1) = if leastTo f o T (o k) q < T (o q) + (f (o q)).gap (f (o k)) then T (o q) + (f (o q)).gap (f (o k)) else leastTo f o T (o k) q) := rfl
          have hra := (hrow.below hB hbs) (o q) ha
          have hne := later_some wr
          have x0 := fun x : Later wr => x.cell hcq
          have x1 := fun x : Later wr => x.cell (hown.cellAt (o q) ha)
          have a0 := fun x : Later wr => x.cell hra.c0
          have a1 := fun x : Later wr => x.cell hra.c1
          have a2 := fun x : Later wr => x.cell hra.c2
          have a3 := fun x : Later wr => x.cell hra.c3
          have a4 := fun x : Later wr => x.cell hra.c4
          have a5 := fun x : Later wr => x.cell hra.c5
          have b0 := fun x : Later wr => x.cell hM.c0
          have b1 := fun x : Later wr => x.cell hM.c1
          have b2 := fun x : Later wr => x.cell hM.c2
          have b3 := fun x : Later wr => x.cell hM.c3
          have b4 := fun x : Later wr => x.cell hM.c4
          have b5 := fun x : Later wr => x.cell hM.c5
          simp only [Nat.zero_add] at b0 b1 b2 b3 b4 b5
          by_cases hgt : leastTo f o T (o k) q < T (o q) + (f (o q)).gap (f (o k))
          all_goals
            go_wp2
            refine wp_region_later (by kernel_rfl) (by kernel_rfl) ?_
            repeat (go_big_quiet_step ((go_at_call 56; exact later_call (specGap_any (f (o q)) (f (o k)) _))))
            refine wpQuiet_nil (later_all ?_)
            intro w1 hb1
            go_wp2
            go_roundw
            case rel => exact ⟨q + 1, by omega, by go_num, by rw [HL.out]; first | rw [if_pos hgt] | rw [if_neg (by omega)], hown.below hb1 hz1, hM.below hb1 hz2, hB.trans (hb1.mono hB.size)⟩
            case measure => simp [intOf]; omega
        · have hqk : q = k := by omega
          subst hqk
          obtain ⟨m0, m1, m2, m3, m4, m5⟩ := hM
          simp only [Nat.zero_add] at m0 m1 m2 m3 m4 m5
          have hc : wr.cell? ⟨b', off' + q, none⟩ = some (.int .i64 ((o q : Nat) : Int)) := (hrow'.below hB hbs') q hlt
          have hd := hown.cellAt (o q) hp
          have hfz := hown.frozen (o q)
          have hqn' : (q : Int) < n := by omega
          by_cases hpr : (f (o q)).prom = -1
          · have hpn : (f (o q)).prom < 0 := by omega
            by_cases hle : leastTo f o T (o q) q ≤ (f (o q)).late
            · have HE0 := earl_yes HT.out (by unfold keptB; rw [if_pos hpr]; simpa using hle)
              have HV : keptV (f (o q)) (leastTo f o T (o q) q) = leastTo f o T (o q) q := by unfold keptV; rw [if_pos hpr]
              rw [HV] at HE0
              have HE : Hid (earl f o (q + 1) = some (fun p => if p = o q then leastTo f o T (o q) q else T p)) := HE0
              clear HE0 HV hpr
              go_wp2
              go_roundw
              case rel => exact ⟨q + 1, _, by omega, by go_num, HE.out, hown.set (o q) hp _, hB.setCell (by simp) _⟩
              case measure => simp [intOf]; omega
            · have HE : Hid (earl f o n = none) := earl_no HT.out (by unfold keptB; rw [if_pos hpr]; simpa using hle) hlt
              clear hpr
              go_wp2
              go_ret2
              refine ⟨?_, ?_⟩
              · rw [HE.out]
                exact ⟨_, _, rfl⟩
              · first | exact hB | exact hB.alloc hB.size _
          · have hpn : 0 ≤ (f (o q)).prom := by omega
            have hpl : (f (o q)).prom ≤ (f (o q)).late := by omega
            by_cases hle : leastTo f o T (o q) q ≤ (f (o q)).prom
            · have HE0 := earl_yes HT.out (by unfold keptB; rw [if_neg hpr]; simpa using hle)
              have HV : keptV (f (o q)) (leastTo f o T (o q) q) = (f (o q)).prom := by unfold keptV; rw [if_neg hpr]
              rw [HV] at HE0
              have HE : Hid (earl f o (q + 1) = some (fun p => if p = o q then (f (o q)).prom else T p)) := HE0
              clear HE0 HV hpr
              go_wp2
              go_roundw
              case rel => exact ⟨q + 1, _, by omega, by go_num, HE.out, hown.set (o q) hp _, hB.setCell (by simp) _⟩
              case measure => simp [intOf]; omega
            · have HE : Hid (earl f o n = none) := earl_no HT.out (by unfold keptB; rw [if_neg hpr]; simpa using hle) hlt
              clear hpr
              go_wp2
              go_ret2
              refine ⟨?_, ?_⟩
              · rw [HE.out]
                exact ⟨_, _, rfl⟩
              · first | exact hB | exact hB.alloc hB.size _
    · have hkn : k = n := by omega
      subst hkn
      go_wp2
      go_ret2
      refine ⟨?_, hB⟩
      rw [HT.out]
      exact ⟨w.heap.size, k, Nat.le_refl _, rfl, hown⟩
end Go.Proofs.Ytlmcblcijndipaa
