/- Numbers and names marked; what is marked looked at again. -/
import Derived.Test.YtlmcblcijndipabGreatDoorT3
namespace Go.Proofs.YtlmcblcijndipabGreatDoor
open Go.RowKit
set_option linter.unusedVariables false

theorem IntRow.put {w : World} {b n k : Nat} {t : Nat → Int} (h : IntRow w b 0 n t) (hk : k < n) (x : Int) : IntRow (w.setCell ⟨b, k, none⟩ (.int .i64 x)) b 0 n (fun p => if p = k then x else t p) := fun i hi => by
  rw [Nat.zero_add]
  by_cases e : i = k
  · subst e
    have h1 := h i hi
    rw [Nat.zero_add] at h1
    simp only [if_true]
    exact World.cell?_setCell_same' _ _ _ (by rw [h1]; rfl)
  · rw [World.cell?_setCell_other _ _ _ _ (by intro e'; cases e'; exact e rfl)]
    simp only [if_neg e]
    have h1 := h i hi
    rw [Nat.zero_add] at h1
    exact h1
theorem StrRow.put {w : World} {b n k : Nat} {t : Nat → ByteArray} (h : StrRow w b n t) (hk : k < n) (x : ByteArray) : StrRow (w.setCell ⟨b, k, none⟩ (.string x)) b n (fun p => if p = k then x else t p) := fun i hi => by
  by_cases e : i = k
  · subst e
    simp only [if_true]
    exact World.cell?_setCell_same' _ _ _ (by rw [h i hi]; rfl)
  · rw [World.cell?_setCell_other _ _ _ _ (by intro e'; cases e'; exact e rfl)]
    simp only [if_neg e]
    exact h i hi
theorem StrRow.congr {w : World} {b n : Nat} {g g' : Nat → ByteArray} (h : StrRow w b n g) (e : ∀ i, i < n → g i = g' i) : StrRow w b n g' := fun i hi => by rw [← e i hi]; exact h i hi
theorem IntRow.cong {w : World} {b off n : Nat} {g g' : Nat → Int} (h : IntRow w b off n g) (e : ∀ i, i < n → g i = g' i) : IntRow w b off n g' := fun i hi => by rw [← e i hi]; exact h i hi
theorem StrRow.below {B : Nat} {w w' : World} {b n : Nat} {g : Nat → ByteArray} (h : StrRow w b n g) (hb : Below B w w') (hB : b < B) : StrRow w' b n g := fun i hi => (hb.cell (p := ⟨b, i, none⟩) hB).trans (h i hi)

set_option maxHeartbeats 1000000 in
theorem markN_own {w : World} {lo hi : Nat} {v : Value} {n : Nat} {g : Nat → Int} (k : Int) (hn : n ≤ 1048576) (h0 : 0 ≤ k) (h1 : k ≤ 100000000) (h : OwnI w lo hi v n g) :
    Calls Tryz.prog 43 #[v, .int .i64 k] w fun e w' => e = .returned (.int .i64 (k + n)) ∧ OwnI w' lo hi v n (fun i => k + i) ∧ MidT 3 lo hi w w' := by
  rcases h with ⟨rfl, a, c, rfl⟩ | ⟨B, c, cs, rfl, hc, hlo, hhi, hz, hg, hs, hr⟩
  · go_enter Tryz.func43, Tryz.ntmps43
    go_wp2
    go_loopw [1, 5] (fun x i wr => i = .int .i64 0 ∧ x = .int .i64 k ∧ wr = w) (fun _ _ _ => 0)
    case atStart => exact ⟨rfl, rfl, rfl⟩
    case round =>
      obtain ⟨rfl, rfl, rfl⟩ := hrel
      go_wp2
      go_ret
      exact ⟨by simp, .inl ⟨rfl, a, c, rfl⟩, MidT.refl _ _ _ _⟩
  · go_enter Tryz.func43, Tryz.ntmps43
    go_wp2
    go_loopw [1, 5] (fun x i wr => ∃ j : Nat, j ≤ n ∧ i = .int .i64 j ∧ x = .int .i64 (k + j) ∧ (∃ cs, wr.heap[B]? = some (.cells cs 3 (0, 0)) ∧ n ≤ cs.size) ∧ IntRow wr B 0 n (fun i => if i < j then k + i else g i) ∧ But B w wr ∧ Below lo w wr) (fun _ i _ => n - (intOf i).toNat)
    case atStart => exact ⟨0, Nat.zero_le _, rfl, by simp, ⟨cs, hg, hs⟩, hr.cong (fun i hi => by simp), But.refl _ _, Below.refl _ _⟩
    case round =>
      obtain ⟨j, hj, rfl, rfl, ⟨cs', hg', hs'⟩, hr', hbut, hB⟩ := hrel
      by_cases hlt : j < n
      · have hlt' : (j : Int) < n := by omega
        have hd := hr' j hlt
        simp only [Nat.zero_add] at hd
        have hfz := frozen_of_row wr B j _ _ hg'
        have hg2 := heap_setCell_same wr B j _ _ (.int .i64 (k + j)) hg'
        go_wp2
        go_roundw
        case rel => exact ⟨j + 1, by omega, by go_num, by go_num, ⟨_, hg2, by simpa using hs'⟩, (hr'.put hlt (k + j)).cong (fun i hi => by
          by_cases e : i = j
          · subst e; rw [if_pos rfl, if_pos (by omega)]
          · simp only [if_neg e]; by_cases h : i < j
            · rw [if_pos h, if_pos (by omega)]
            · rw [if_neg h, if_neg (by omega)]), hbut.setCell _ _, hB.setCell hlo _⟩
        case measure => simp [intOf]; omega
      · have hjn : j = n := by omega
        subst hjn
        go_wp2
        go_ret
        exact ⟨rfl, .inr ⟨B, c, cs', rfl, hc, hlo, hhi, Nat.le_trans hz hbut.size, hg', hs', hr'.cong (fun i hi => by rw [if_pos hi])⟩, but_midT hbut hlo hhi hg hB⟩

set_option maxHeartbeats 1000000 in
theorem markT_own {w : World} {lo hi : Nat} {v : Value} {n : Nat} {g : Nat → ByteArray} (k : Int) (hn : n ≤ 1048576) (h0 : 0 ≤ k) (h1 : k ≤ 100000000) (h : OwnS w lo hi v n g) :
    Calls Tryz.prog 24 #[v, .int .i64 k] w fun e w' => e = .returned (.int .i64 (k + n)) ∧ OwnS w' lo hi v n (fun i => markB (k + i)) ∧ MidT 9 lo hi w w' := by
  rcases h with ⟨rfl, a, c, rfl⟩ | ⟨B, c, cs, rfl, hc, hlo, hhi, hz, hg, hs, hr⟩
  · go_enter Tryz.func24, Tryz.ntmps24
    go_wp2
    go_loopw [1, 5] (fun x i wr => i = .int .i64 0 ∧ x = .int .i64 k ∧ wr = w) (fun _ _ _ => 0)
    case atStart => exact ⟨rfl, rfl, rfl⟩
    case round =>
      obtain ⟨rfl, rfl, rfl⟩ := hrel
      go_wp2
      go_ret
      exact ⟨by simp, .inl ⟨rfl, a, c, rfl⟩, MidT.refl _ _ _ _⟩
  · go_enter Tryz.func24, Tryz.ntmps24
    go_wp2
    go_loopw [1, 5] (fun x i wr => ∃ j : Nat, j ≤ n ∧ i = .int .i64 j ∧ x = .int .i64 (k + j) ∧ (∃ cs, wr.heap[B]? = some (.cells cs 9 (0, 0)) ∧ n ≤ cs.size) ∧ StrRow wr B n (fun i => if i < j then markB (k + i) else g i) ∧ But B w wr ∧ Below lo w wr) (fun _ i _ => n - (intOf i).toNat)
    case atStart => exact ⟨0, Nat.zero_le _, rfl, by simp, ⟨cs, hg, hs⟩, hr.congr (fun i hi => by simp), But.refl _ _, Below.refl _ _⟩
    case round =>
      obtain ⟨j, hj, rfl, rfl, ⟨cs', hg', hs'⟩, hr', hbut, hB⟩ := hrel
      by_cases hlt : j < n
      · have hlt' : (j : Int) < n := by omega
        have HT := markText_fn (k + j) wr (by omega) (by omega)
        obtain ⟨mb, hmb⟩ : ∃ mb, mb = markB (k + j) := ⟨_, rfl⟩
        rw [← hmb] at HT
        have HMB : Hid (mb = markB (k + j)) := hmb
        clear hmb
        have hzb : B < wr.heap.size := (Array.getElem?_eq_some_iff.1 hg').1
        go_wp2_with (go_at_call 50; refine HT.mono ?_; clear HT; rintro e w1 ⟨rfl, hb1⟩; have hg1 := (hb1.block B hzb).trans hg'; have hr1 := hr'.below hb1 hzb; have hd := hr1 j hlt; have hfz := frozen_of_row w1 B j _ _ hg1)
        have hbut1 : But B w w1 := hbut.trans (But.of hb1)
        have hB1 : Below lo w w1 := hB.trans (hb1.mono (by omega))
        have hg2 := heap_setCell_same w1 B j _ _ (.string mb) hg1
        refine ⟨⟨j + 1, by omega, by simp, congrArg (Value.int .i64) (by omega), ⟨_, hg2, by simpa using hs'⟩, (hr1.put hlt mb).congr (fun i hi => ?_), hbut1.setCell _ _, hB1.setCell hlo _⟩, by simp [intOf]; omega⟩
        by_cases e : i = j
        · subst e; rw [if_pos rfl, if_pos (by omega)]; exact HMB.out
        · simp only [if_neg e]; by_cases h : i < j
          · rw [if_pos h, if_pos (by omega)]
          · rw [if_neg h, if_neg (by omega)]
      · have hjn : j = n := by omega
        subst hjn
        go_wp2
        go_ret
        exact ⟨rfl, .inr ⟨B, c, cs', rfl, hc, hlo, hhi, Nat.le_trans hz hbut.size, hg', hs', hr'.congr (fun i hi => by rw [if_pos hi])⟩, but_midT hbut hlo hhi hg hB⟩

set_option maxHeartbeats 1000000 in
theorem heldN_own {w : World} {lo hi : Nat} {v : Value} {n : Nat} (k : Int) (hn : n ≤ 1048576) (h0 : 0 ≤ k) (h1 : k ≤ 100000000) (h : OwnI w lo hi v n (fun i => k + i)) :
    Calls Tryz.prog 45 #[v, .int .i64 k] w fun e w' => e = .returned (.int .i64 (k + n)) ∧ Below w.heap.size w w' := by
  rcases h with ⟨rfl, a, c, rfl⟩ | ⟨B, c, cs, rfl, hc, hlo, hhi, hz, hg, hs, hr⟩
  · go_enter Tryz.func45, Tryz.ntmps45
    go_wp2
    go_loopw [1, 5] (fun x i wr => i = .int .i64 0 ∧ x = .int .i64 k ∧ wr = w) (fun _ _ _ => 0)
    case atStart => exact ⟨rfl, rfl, rfl⟩
    case round =>
      obtain ⟨rfl, rfl, rfl⟩ := hrel
      go_wp2
      go_ret
      exact ⟨by simp, Below.refl _ _⟩
  · go_enter Tryz.func45, Tryz.ntmps45
    go_wp2
    go_loopw [1, 5] (fun x i wr => ∃ j : Nat, j ≤ n ∧ i = .int .i64 j ∧ x = .int .i64 (k + j) ∧ Below w.heap.size w wr) (fun _ i _ => n - (intOf i).toNat)
    case atStart => exact ⟨0, Nat.zero_le _, rfl, by simp, Below.refl _ _⟩
    case round =>
      obtain ⟨j, hj, rfl, rfl, hB⟩ := hrel
      by_cases hlt : j < n
      · have hlt' : (j : Int) < n := by omega
        have hd := (hr.below hB (by omega)) j hlt
        simp only [Nat.zero_add] at hd
        go_wp2
        go_roundw
        case rel => exact ⟨j + 1, by omega, by go_num, by go_num, hB⟩
        case measure => simp [intOf]; omega
      · have hjn : j = n := by omega
        subst hjn
        go_wp2
        go_ret
        exact ⟨rfl, hB⟩
end Go.Proofs.YtlmcblcijndipabGreatDoor
