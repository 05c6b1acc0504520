/- Whether it is an order: both walked; where each place stands. -/
import Derived.Test.YtlmcblcijndipaaW9
import Derived.Test.YtlmcblcijndipaaWI
import Derived.Test.YtlmcblcijndipaaOrdP
namespace Go.Proofs.Ytlmcblcijndipaa
open Go.RowKit
set_option linter.unusedVariables false

/-- a block of n values of one's own, each of one cell -/
def OwnVals (T : TypeId) (w : World) (b n : Nat) (v : Nat → Value) : Prop := (∃ cs, w.heap[b]? = some (.cells cs T (0, 0)) ∧ cs.size = n) ∧ ∀ i, i < n → w.cell? ⟨b, i, none⟩ = some (v i)
theorem OwnVals.below {T : TypeId} {B : Nat} {w w' : World} {b n : Nat} {v : Nat → Value} (h : OwnVals T w b n v) (hb : Below B w w') (hB : b < B) : OwnVals T w' b n v := by
  obtain ⟨⟨cs, h1, h2⟩, h3⟩ := h
  exact ⟨⟨cs, (hb.block _ hB).trans h1, h2⟩, fun i hi => (hb.cell hB).trans (h3 i hi)⟩
theorem OwnVals.frozen {T : TypeId} {w : World} {b n : Nat} {v : Nat → Value} (h : OwnVals T w b n v) (j : Nat) : w.frozen? ⟨b, j, none⟩ = false := by
  obtain ⟨⟨cs, h1, _⟩, _⟩ := h
  exact frozen_of_row w _ j cs _ h1
theorem OwnVals.set {T : TypeId} {w : World} {b n : Nat} {v : Nat → Value} (h : OwnVals T w b n v) (k : Nat) (hk : k < n) (x : Value) : OwnVals T (w.setCell ⟨b, k, none⟩ x) b n (fun i => if i = k then x else v i) := by
  obtain ⟨⟨cs, h1, h2⟩, h3⟩ := h
  have h1' := heap_setCell_same _ _ k _ _ x h1
  refine ⟨⟨_, h1', by simp [h2]⟩, fun i hi => ?_⟩
  by_cases e : i = k
  · subst e
    rw [cell_of_row _ _ _ _ _ _ h1']
    simp [Array.getElem?_setIfInBounds] <;> omega
  · rw [World.cell?_setCell_other _ _ _ _ (by simp <;> omega)]
    simp only [if_neg e]
    exact h3 i hi
theorem OwnVals.congr {T : TypeId} {w : World} {b n : Nat} {v v' : Nat → Value} (h : OwnVals T w b n v) (e : ∀ i, i < n → v i = v' i) : OwnVals T w b n v' :=
  ⟨h.1, fun i hi => by rw [← e i hi]; exact h.2 i hi⟩
theorem made_vals (T : TypeId) (w : World) (n : Nat) (z : Value) : OwnVals T (w.alloc (.cells (madeCells #[z] n) T)) w.heap.size n (fun _ => z) := by
  have hg : (w.alloc (.cells (madeCells #[z] n) T)).heap[w.heap.size]? = some (.cells (madeCells #[z] n) T (0, 0)) := heap_alloc_new _ _
  refine ⟨⟨_, hg, size_madeCells _ _⟩, fun i hi => ?_⟩
  rw [cell_of_row _ _ _ _ _ _ hg]
  simp [madeCells, Nat.mod_one, hi]

theorem info_bool : (Try.prog.info? 4).map (fun i => (i.size, i.bytes, i.zero)) = some (1, 1, some (.bool false)) := by kernel_rfl
theorem make_bools (n : Nat) (hn : n ≤ 1048576) (w : World) :
    (Instr.makeSlice 76 (.int .i64 (n : Int)) (.int .i64 (n : Int))).run Try.prog w = .ok (.slice (some ⟨w.heap.size, 0, none⟩) n n) (w.alloc (.cells (madeCells #[.bool false] n) 4)) := by
  have hi := info_bool
  cases hI : Try.prog.info? 4 with
  | none => rw [hI] at hi; simp at hi
  | some i =>
    rw [hI] at hi
    simp only [Option.map_some, Option.some.injEq, Prod.mk.injEq] at hi
    obtain ⟨h6, h56, hz⟩ := hi
    have := run_make (P := Try.prog) w 76 4 i _ Try.underlying76 hI hz .i64 .i64 n n (by omega) (by omega) (by rw [h56]; omega) (by omega)
    rw [h6] at this
    simpa [Value.cells] using this

set_option maxHeartbeats 1000000 in
theorem implOk_row (b off m cap n : Nat) (g : Nat → Int) (w : World) (hm : m ≤ maxLen) (hn : n ≤ 1048576) (hbs : b < w.heap.size) (hrow : IntRow w b off m g) :
    Calls Try.prog 31 #[.slice (some ⟨b, off, none⟩) m cap, .int .i64 (n : Int)] w fun e w' => e = .returned (.bool (ordB g m n)) ∧ Below w.heap.size w w' := by
  unfold maxLen at hm
  by_cases hl : m = n
  · subst hl
    have hmk := make_bools m hn
    go_enter Try.func31, Try.ntmps31
    go_wp2
    go_loopw [16] (fun i w' => ∃ k : Nat, k ≤ m ∧ i = .int .i64 k ∧ OrdTo g m k ∧ OwnVals 4 w' w.heap.size m (fun p => .bool (seenB g k p)) ∧ Below w.heap.size w w') (fun i _ => m - (intOf i).toNat)
    case atStart => exact ⟨0, Nat.zero_le _, rfl, OrdTo_zero g m, (made_vals _ w m _).congr (fun i hi => rfl), (Below.refl _ _).alloc (Nat.le_refl _) _⟩
    case round =>
      obtain ⟨k, hk, rfl, hord, hown, hB⟩ := hrel
      by_cases hlt : k < m
      · have hc := (hrow.below hB hbs) k hlt
        have hlt' : (k : Int) < m := by omega
        by_cases h0 : g k < 0
        · have HF : Hid (ordB g m m = false) := ordB_out hlt (by omega)
          go_wp2
          go_ret
          exact ⟨ret_b HF.out.symm, hB⟩
        · by_cases h1 : (m : Int) ≤ g k
          · have HF : Hid (ordB g m m = false) := ordB_out hlt (by omega)
            go_wp2
            go_ret
            exact ⟨ret_b HF.out.symm, hB⟩
          · obtain ⟨p, hp⟩ : ∃ p : Nat, g k = (p : Int) := ⟨(g k).toNat, by omega⟩
            have hpm : p < m := by omega
            have hpm' : (p : Int) < m := by omega
            have hin : 0 ≤ g k ∧ g k < m := by omega
            have HP : Hid _ := hp
            have HI : Hid _ := hin
            rw [hp] at hc
            clear hp h0 h1 hin
            have hd : wr.cell? ⟨w.heap.size, p, none⟩ = some (.bool (seenB g k p)) := hown.2 p hpm
            have hfz := hown.frozen p
            cases hs : seenB g k p with
            | true =>
              obtain ⟨j, hj, he⟩ := (seenB_iff g k p).mp hs
              have HF : Hid (ordB g m m = false) := ordB_twice hj hlt (by rw [he, HP.out])
              rw [hs] at hd
              go_wp2
              go_ret
              exact ⟨ret_b HF.out.symm, hB⟩
            | false =>
              have HS : Hid _ := hs
              rw [hs] at hd
              clear hs
              go_wp2
              go_roundw
              case rel => exact ⟨k + 1, by omega, by go_num, OrdTo_succ hord HI.out (fun i hi he => by
                  have := (seenB_iff g k p).mpr ⟨i, hi, by rw [he, HP.out]⟩
                  rw [HS.out] at this; cases this), (hown.set p hpm (.bool true)).congr (fun q hq => by
                  rw [seenB_succ HP.out q]; by_cases e : q = p <;> simp [e]), hB.setCell (by simp) _⟩
              case measure => simp [intOf]; omega
      · go_wp2
        go_ret
        exact ⟨ret_b (ordB_yes (by rw [show m = k by omega] at hord ⊢; exact hord)).symm, hB⟩
  · have HF : Hid (ordB g m n = false) := ordB_len hl
    have hl' : ((m : Int) != n) = true := by simp; omega
    go_enter Try.func31, Try.ntmps31
    go_wp2
    go_ret
    exact ⟨ret_b HF.out.symm, Below.refl _ _⟩

set_option maxHeartbeats 1000000 in
theorem specOk_row (b off m cap n : Nat) (g : Nat → Int) (w : World) (hm : m ≤ maxLen) (hn : n ≤ maxLen) (hbs : b < w.heap.size) (hrow : IntRow w b off m g) :
    Calls Try.prog 33 #[.int .i64 (n : Int), .slice (some ⟨b, off, none⟩) m cap] w fun e w' => e = .returned (.bool (ordB g m n)) ∧ Below w.heap.size w w' := by
  unfold maxLen at hm hn
  by_cases hl : m = n
  · subst hl
    go_enter Try.func33, Try.ntmps33
    go_wp2
    go_loopw [5] (fun i w' => ∃ k : Nat, k ≤ m ∧ i = .int .i64 k ∧ OrdTo g m k ∧ Below w.heap.size w w') (fun i _ => m - (intOf i).toNat)
    case atStart => exact ⟨0, Nat.zero_le _, rfl, OrdTo_zero g m, Below.refl _ _⟩
    case round =>
      obtain ⟨k, hk, rfl, hord, hB⟩ := hrel
      by_cases hlt : k < m
      · have hc := (hrow.below hB hbs) k hlt
        have hlt' : (k : Int) < m := by omega
        cases hi : inB (g k) 0 ((m : Int) - 1) with
        | false =>
          have hi0 : ¬ (0 ≤ g k ∧ g k < m) := by unfold inB at hi; simp at hi; omega
          have HF : Hid (ordB g m m = false) := ordB_out hlt hi0
          clear hi0
          go_wp2_with (go_at_call 44; refine (in_any _ _ _ _).mono ?_; rintro e w' ⟨rfl, rfl⟩)
          go_ret
          exact ⟨ret_b HF.out.symm, hB⟩
        | true =>
          have hi0 := inB_t hi
          have HI : Hid (0 ≤ g k ∧ g k < m) := by have h : 0 ≤ g k ∧ g k < m := by omega
                                                  exact h
          clear hi0
          go_wp2_with (go_at_call 44; refine (in_any _ _ _ _).mono ?_; rintro e w' ⟨rfl, rfl⟩)
          go_loopw [6] (fun i w' => ∃ q : Nat, q ≤ k ∧ i = .int .i64 q ∧ (∀ j, j < q → g j ≠ g k) ∧ Below w.heap.size w w') (fun i _ => k - (intOf i).toNat)
          case atStart => exact ⟨0, Nat.zero_le _, rfl, fun j hj => absurd hj (Nat.not_lt_zero _), hB⟩
          case round =>
            clear hB hc
            obtain ⟨q, hq, rfl, hno, hB⟩ := hrel
            by_cases hlq : q < k
            · have hne := later_some wr
              have c0 := fun x : Later wr => x.cell ((hrow.below hB hbs) k hlt)
              have c1 := fun x : Later wr => x.cell ((hrow.below hB hbs) q (by omega))
              have hqm : (q : Int) < m := by omega
              cases he : (g q == g k) with
              | true =>
                have HF : Hid (ordB g m m = false) := ordB_twice hlq hlt (by simpa using he)
                go_wp2
                refine wp_region_later (by kernel_rfl) (by kernel_rfl) ?_
                repeat (go_big_quiet_step (fail))
                refine wpQuiet_nil (later_all ?_)
                intro w1 hb1
                go_wp2
                go_ret
                exact ⟨ret_b HF.out.symm, hB.trans (hb1.mono hB.size)⟩
              | false =>
                have HE0 : g q ≠ g k := by simpa using he
                have HE : Hid _ := HE0
                clear HE0
                go_wp2
                refine wp_region_later (by kernel_rfl) (by kernel_rfl) ?_
                repeat (go_big_quiet_step (fail))
                refine wpQuiet_nil (later_all ?_)
                intro w1 hb1
                go_wp2
                go_roundw
                case rel => exact ⟨q + 1, by omega, by go_num, fun j hj => by
                  by_cases e : j = q
                  · subst e; exact HE.out
                  · exact hno j (by omega), hB.trans (hb1.mono hB.size)⟩
                case measure => simp [intOf]; omega
            · go_wp2
              go_roundw
              case rel => exact ⟨k + 1, by omega, by go_num, OrdTo_succ hord HI.out (fun i hi => hno i (by omega)), hB⟩
              case measure => simp [intOf]; omega
      · go_wp2
        go_ret
        exact ⟨ret_b (ordB_yes (by rw [show m = k by omega] at hord ⊢; exact hord)).symm, hB⟩
  · have HF : Hid (ordB g m n = false) := ordB_len hl
    have hl' : ((m : Int) != n) = true := by simp; omega
    go_enter Try.func33, Try.ntmps33
    go_wp2
    go_ret
    exact ⟨ret_b HF.out.symm, Below.refl _ _⟩
end Go.Proofs.Ytlmcblcijndipaa
