/- The earliest ticks in an order: the program's loop, walked. -/
import Derived.Test.YtlmcblcijndipaaO1
namespace Go.Proofs.Ytlmcblcijndipaa
open Go.RowKit
set_option linter.unusedVariables false

/-- what is told: ticks of one's own and true, or nothing and false -/
def EarlSays (r : Option (Nat → Int)) (n : Nat) (w : World) (e : Ending) (w' : World) : Prop :=
  match r with
  | some T => ∃ B cap, w.heap.size ≤ B ∧ e = .returned (.tuple #[.slice (some ⟨B, 0, none⟩) n cap, .bool true]) ∧ OwnInts w' B n T
  | none => ∃ a cap, e = .returned (.tuple #[.slice a 0 cap, .bool false])

set_option maxHeartbeats 2000000 in
theorem earliest_row (b off n cap : Nat) (f : Nat → Mv) (b' off' cap' : Nat) (o : Nat → Nat) (w : World) (hm : movesB f n = true) (ho : ∀ i, i < n → o i < n) (hcap : n ≤ cap') (hbs : b < w.heap.size) (hrow : MvRow w b off n f) (hbs' : b' < w.heap.size) (hrow' : IntRow w b' off' n (fun i => (o i : Int))) :
    Calls Try.prog 32 #[.slice (some ⟨b', off', none⟩) n cap', .slice (some ⟨b, off, none⟩) n cap] w fun e w' => EarlSays (earl f o n) n w e w' ∧ Below w.heap.size w w' := by
  have h6 := movesB_six hm
  have HM : Hid (movesB f n = true) := hm
  clear hm
  have hmk := make_ints n (by omega)
  go_enter Try.func32, Try.ntmps32
  go_wp2
  go_loopw [21] (fun i wr => ∃ (k : Nat) (T : Nat → Int), k ≤ n ∧ i = .int .i64 k ∧ earl f o k = some T ∧ OwnInts wr (w.heap.size + 1) n T ∧ wr.cell? ⟨w.heap.size, 0, none⟩ = some (.slice (some ⟨b, off, none⟩) n cap) ∧ wr.cell? ⟨w.heap.size + 1 + 1, 0, none⟩ = some (.slice (some ⟨w.heap.size + 1, 0, none⟩) n n) ∧ Below w.heap.size w wr) (fun i _ => n - (intOf i).toNat)
  case atStart =>
    refine ⟨0, _, Nat.zero_le _, rfl, rfl, ?_, by simp [go_sem], by simp [go_sem], ?_⟩
    · have := made_ints (w.alloc (.cells #[.slice (some ⟨b, off, none⟩) n cap] 23)) n
      simp only [World.size_alloc] at this
      exact this.below ((Below.refl _ _).alloc (Nat.le_refl _) _) this.lt
    · exact (((Below.refl _ w).alloc (Nat.le_refl _) _).alloc (by simp) _).alloc (by simp; omega) _
  case round =>
    obtain ⟨k, T, hk, rfl, hT, hown, cl, cb, hB⟩ := hrel
    have HT : Hid (earl f o k = some T) := hT
    clear hT
    have hTb := earl_bd HM.out ho k T hk HT.out
    by_cases hlt : k < n
    · have hlt' : (k : Int) < n := by omega
      have hp := ho k hlt
      have hp' : ((o k : Nat) : Int) < n := by omega
      have hc : wr.cell? ⟨b', off' + k, none⟩ = some (.int .i64 ((o k : Nat) : Int)) := (hrow'.below hB hbs') k hlt
      have hok := movesB_ok HM.out (o k) hp
      obtain ⟨z0, z1, z2, z3, z4, z5⟩ := Mv.ok_bd hok
      have hrp := (hrow.below hB hbs) (o k) hp
      have c3 := hrp.c3
      have hkc : (k : Int) ≤ cap' := by omega
      go_wp2
      go_loopw [10, 35] (fun l j wr => ∃ q : Nat, q ≤ k ∧ j = .int .i64 q ∧ l = .int .i64 (leastTo f o T (o k) q) ∧ OwnInts wr (w.heap.size + 1) n T ∧ wr.cell? ⟨w.heap.size, 0, none⟩ = some (.slice (some ⟨b, off, none⟩) n cap) ∧ wr.cell? ⟨w.heap.size + 1 + 1, 0, none⟩ = some (.slice (some ⟨w.heap.size + 1, 0, none⟩) n n) ∧ Below w.heap.size w wr) (fun _ j _ => k - (intOf j).toNat)
      case atStart => exact ⟨0, Nat.zero_le _, rfl, rfl, hown, cl, cb, hB⟩
      case round =>
        clear hown cl cb hB hc hrp c3
        obtain ⟨q, hq, rfl, rfl, hown, cl, cb, hB⟩ := hrel
        have hlb := leastTo_bd (o := o) (p := o k) ⟨z0, by omega⟩ hTb q
        obtain ⟨hl0, hl1⟩ := hlb
        have hz1 := hown.lt
        have hz2 := block_lt_of_cell cl
        have hz3 := block_lt_of_cell cb
        by_cases hlq : q < k
        · have hlq' : (q : Int) < k := by omega
          have ha := ho q (by omega)
          have hcq : wr.cell? ⟨b', off' + q, none⟩ = some (.int .i64 ((o q : Nat) : Int)) := (hrow'.below hB hbs') q (by omega)
          have hg1 : 1 ≤ (f (o q)).gap (f (o k)) := gapZ_pos _ _ _
          have hg2 : (f (o q)).gap (f (o k)) ≤ 4 := gapZ_le _ _ _
          obtain ⟨t0, t1⟩ := hTb (o q)
          have HL : Hid (leastTo f o T (o k) (q + 1) = if leastTo f o T (o k) q < T (o q) + (f (o q)).gap (f (o k)) then T (o q) + (f (o q)).gap (f (o k)) else leastTo f o T (o k) q) := rfl
          have HC := soon_any (o q) (o k) (w.heap.size + 1 + 1) w.heap.size b off n cap f (w.heap.size + 1) T wr ha hp (by omega) ⟨t0, t1⟩ cb cl (hrow.below hB hbs) hown
          by_cases hgt : leastTo f o T (o k) q < T (o q) + (f (o q)).gap (f (o k))
          all_goals
            go_wp2_with (go_at_call 53; refine HC.mono ?_; clear HC; rintro e w1 ⟨rfl, hb1⟩)
            go_roundw
            case rel => exact ⟨q + 1, by omega, by go_num, by rw [HL.out]; first | rw [if_pos hgt] | rw [if_neg (by omega)], hown.below hb1 hz1, (hb1.cell (p := ⟨w.heap.size, 0, none⟩) hz2).trans cl, (hb1.cell (p := ⟨w.heap.size + 1 + 1, 0, none⟩) hz3).trans cb, hB.trans (hb1.mono hB.size)⟩
            case measure => simp [intOf]; omega
        · have hqk : q = k := by omega
          subst hqk
          obtain ⟨c0, c1, c2, c3, c4, c5⟩ := (hrow.below hB hbs) (o q) hp
          have hd := hown.cellAt (o q) hp
          have hfz := hown.frozen (o q)
          have HK := kept_any (f (o q)) (leastTo f o T (o q) q) wr
          cases hkb : keptB (f (o q)) (leastTo f o T (o q) q) with
          | true =>
            have HE : Hid (earl f o (q + 1) = some (fun p => if p = o q then keptV (f (o q)) (leastTo f o T (o q) q) else T p)) := earl_yes HT.out hkb
            rw [hkb] at HK
            go_wp2_with (go_at_call 55; refine HK.mono ?_; clear HK; rintro e w1 ⟨rfl, hb1⟩; have hd1 := (hb1.cell (p := ⟨w.heap.size + 1, o q, none⟩) hz1).trans hd; have hf1 := (hb1.frozen (p := ⟨w.heap.size + 1, o q, none⟩) hz1).trans hfz; have cb1 := (hb1.cell (p := ⟨w.heap.size + 1 + 1, 0, none⟩) hz3).trans cb; have cl1 := (hb1.cell (p := ⟨w.heap.size, 0, none⟩) hz2).trans cl)
            have hown1 := hown.below hb1 hz1
            go_roundw
            case rel => exact ⟨q + 1, _, by omega, by go_num, HE.out, hown1.set (o q) hp _, (World.cell?_setCell_other _ _ _ _ (by simp)).trans cl1, (World.cell?_setCell_other _ _ _ _ (by simp)).trans cb1, (hB.trans (hb1.mono hB.size)).setCell (by simp) _⟩
            case measure => simp [intOf]; omega
          | false =>
            have HE : Hid (earl f o n = none) := earl_no HT.out hkb hlt
            rw [hkb] at HK
            go_wp2_with (go_at_call 55; refine HK.mono ?_; clear HK; rintro e w1 ⟨rfl, hb1⟩)
            go_ret2
            refine ⟨?_, hB.trans (hb1.mono hB.size)⟩
            rw [HE.out]
            exact ⟨none, 0, rfl⟩
    · have hkn : k = n := by omega
      subst hkn
      go_wp2
      go_ret2
      refine ⟨?_, hB⟩
      rw [HT.out]
      exact ⟨w.heap.size + 1, k, by omega, rfl, hown⟩
end Go.Proofs.Ytlmcblcijndipaa
