/- Texts of the proof, one behind another: WI, W9. -/
import Derived.Test.YtlmcblcijndipabGreatM05
import Derived.Test.YtlmcblcijndipabGreatM15
import Derived.Test.YtlmcblcijndipabGreatM16
import Derived.Test.YtlmcblcijndipabGreatM14
namespace Go.Proofs.YtlmcblcijndipabGreat
open Go.RowKit
theorem IntRow.below {B : Nat} {w w' : World} {b off n : Nat} {g : Nat → Int} (h : IntRow w b off n g) (hb : Below B w w') (hB : b < B) : IntRow w' b off n g :=
  fun i hi => (hb.cell hB).trans (h i hi)
def OwnInts (w : World) (b n : Nat) (g : Nat → Int) : Prop := (∃ cs, w.heap[b]? = some (.cells cs 3 (0, 0)) ∧ cs.size = n) ∧ IntRow w b 0 n g
theorem OwnInts.below {B : Nat} {w w' : World} {b n : Nat} {g : Nat → Int} (h : OwnInts w b n g) (hb : Below B w w') (hB : b < B) : OwnInts w' b n g := by
  obtain ⟨⟨cs, h1, h2⟩, h3⟩ := h
  exact ⟨⟨cs, (hb.block _ hB).trans h1, h2⟩, h3.below hb hB⟩
theorem OwnInts.lt {w : World} {b n : Nat} {g : Nat → Int} (h : OwnInts w b n g) : b < w.heap.size := by
  obtain ⟨⟨cs, h1, _⟩, _⟩ := h
  rcases Nat.lt_or_ge b w.heap.size with h | h
  · exact h
  · rw [Array.getElem?_eq_none h] at h1; cases h1
theorem OwnInts.frozen {w : World} {b n : Nat} {g : Nat → Int} (h : OwnInts w b n g) (j : Nat) : w.frozen? ⟨b, j, none⟩ = false := by
  obtain ⟨⟨cs, h1, _⟩, _⟩ := h
  exact frozen_of_row w _ j cs _ h1
theorem info_int : (Tryz0.prog.info? 3).map (fun i => (i.size, i.bytes, i.zero)) = some (1, 8, some (.int .i64 0)) := by kernel_rfl
theorem make_ints (n : Nat) (hn : n ≤ 1048576) (w : World) :
    (Instr.makeSlice 24 (.int .i64 (n : Int)) (.int .i64 (n : Int))).run Tryz0.prog w = .ok (.slice (some ⟨w.heap.size, 0, none⟩) n n) (w.alloc (.cells (madeCells #[.int .i64 0] n) 3)) := by
  have hi := info_int
  cases hI : Tryz0.prog.info? 3 with
  | none => rw [hI] at hi; simp at hi
  | some i =>
    rw [hI] at hi
    simp only [Option.map_some, Option.some.injEq, Prod.mk.injEq] at hi
    obtain ⟨h6, h56, hz⟩ := hi
    have := run_make (P := Tryz0.prog) w 24 3 i _ (Tryz0.tr_underlying Tryz.underlying24) hI hz .i64 .i64 n n (by omega) (by omega) (by rw [h56]; omega) (by omega)
    rw [h6] at this
    simpa [Value.cells] using this
theorem made_ints (w : World) (n : Nat) : OwnInts (w.alloc (.cells (madeCells #[.int .i64 0] n) 3)) w.heap.size n (fun _ => 0) := by
  have hg : (w.alloc (.cells (madeCells #[.int .i64 0] n) 3)).heap[w.heap.size]? = some (.cells (madeCells #[.int .i64 0] n) 3 (0, 0)) := heap_alloc_new _ _
  refine ⟨⟨_, hg, size_madeCells _ _⟩, fun i hi => ?_⟩
  rw [cell_of_row _ _ _ _ _ _ hg]
  simp [madeCells, Nat.mod_one, hi]
theorem OwnInts.set {w : World} {b n : Nat} {g : Nat → Int} (h : OwnInts w b n g) (k : Nat) (hk : k < n) (x : Int) : OwnInts (w.setCell ⟨b, k, none⟩ (.int .i64 x)) b n (fun i => if i = k then x else g i) := by
  obtain ⟨⟨cs, h1, h2⟩, h3⟩ := h
  have h1' := heap_setCell_same _ _ k _ _ (.int .i64 x) h1
  refine ⟨⟨_, h1', by simp [h2]⟩, fun i hi => ?_⟩
  by_cases e : i = k
  · subst e
    rw [cell_of_row _ _ _ _ _ _ h1']
    simp [Array.getElem?_setIfInBounds] <;> omega
  · rw [World.cell?_setCell_other _ _ _ _ (by simp <;> omega)]
    simp only [if_neg e]
    exact h3 i hi
theorem OwnInts.congr {w : World} {b n : Nat} {g g' : Nat → Int} (h : OwnInts w b n g) (e : ∀ i, i < n → g i = g' i) : OwnInts w b n g' :=
  ⟨h.1, fun i hi => by rw [← e i hi]; exact h.2 i hi⟩
theorem OwnInts.cellAt {w : World} {b n : Nat} {g : Nat → Int} (h : OwnInts w b n g) (k : Nat) (hk : k < n) : w.cell? ⟨b, k, none⟩ = some (.int .i64 (g k)) := by
  have := h.2 k hk; simpa using this
set_option maxHeartbeats 400000 in
theorem toI_row (b off n cap : Nat) (g : Nat → Int) (w : World) (hn : n ≤ 1048576) (hbs : b < w.heap.size) (hrow : IntRow w b off n g) :
    Calls Tryz0.prog 32 #[.slice (some ⟨b, off, none⟩) n cap] w fun e w' => e = .returned (.slice (some ⟨w.heap.size, 0, none⟩) n n) ∧ OwnInts w' w.heap.size n g ∧ Below w.heap.size w w' := by
  have hmk := make_ints n hn
  go_enter Tryz0.func32, Tryz.ntmps32
  go_wp2
  go_loopw [4] (fun i w' => ∃ k : Nat, k ≤ n ∧ i = .int .i64 k ∧ OwnInts w' w.heap.size n (fun i => if i < k then g i else 0) ∧ Below w.heap.size w w') (fun i _ => n - (intOf i).toNat)
  case atStart => exact ⟨0, Nat.zero_le _, rfl, (made_ints w n).congr (fun i hi => by simp), (Below.refl _ _).alloc (Nat.le_refl _) _⟩
  case round =>
    obtain ⟨k, hk, rfl, hown, hB⟩ := hrel
    by_cases hlt : k < n
    · have hc := (hrow.below hB hbs) k hlt
      have hd := hown.cellAt k hlt
      have hfz := hown.frozen k
      go_wp2
      go_roundw
      case rel => exact ⟨k + 1, by omega, by go_num, (hown.set k hlt (g k)).congr (fun i hi => by
        by_cases e : i = k
        · subst e; simp
        · simp only [if_neg e]; by_cases h : i < k
          · rw [if_pos h, if_pos (by omega)]
          · rw [if_neg h, if_neg (by omega)]), hB.setCell (by simp) _⟩
      case measure => simp [intOf]; omega
    · go_wp2
      go_ret
      exact ⟨rfl, hown.congr (fun i hi => by rw [if_pos (by omega)]), hB⟩
theorem toI_none (a : Option Addr) (cap : Nat) (g : Nat → Int) (w : World) :
    Calls Tryz0.prog 32 #[.slice a 0 cap] w fun e w' => e = .returned (.slice (some ⟨w.heap.size, 0, none⟩) 0 0) ∧ OwnInts w' w.heap.size 0 g ∧ Below w.heap.size w w' := by
  have hmk : ∀ w, (Instr.makeSlice 24 (.int .i64 0) (.int .i64 0)).run Tryz0.prog w = .ok (.slice (some ⟨w.heap.size, 0, none⟩) 0 0) (w.alloc (.cells (madeCells #[.int .i64 0] 0) 3)) := make_ints 0 (by omega)
  go_enter Tryz0.func32, Tryz.ntmps32
  go_wp2
  go_loopw [4] (fun i w' => i = .int .i64 0 ∧ OwnInts w' w.heap.size 0 g ∧ Below w.heap.size w w') (fun _ _ => 0)
  case atStart => exact ⟨rfl, (made_ints w 0).congr (fun i hi => absurd hi (Nat.not_lt_zero _)), (Below.refl _ _).alloc (Nat.le_refl _) _⟩
  case round =>
    obtain ⟨rfl, hs, hB⟩ := hrel
    go_wp2
    go_ret
    exact ⟨rfl, hs, hB⟩
set_option maxHeartbeats 1000000 in
theorem eqI_same (b off cap b' off' cap' n : Nat) (g : Nat → Int) (w : World) (hn : n ≤ 1048576) (hbs : b < w.heap.size) (hrow : IntRow w b off n g) (hbs' : b' < w.heap.size) (hrow' : IntRow w b' off' n g) :
    Calls Tryz0.prog 9 #[.slice (some ⟨b, off, none⟩) n cap, .slice (some ⟨b', off', none⟩) n cap'] w fun e w' => e = .returned (.bool true) ∧ Below w.heap.size w w' := by
  go_enter Tryz0.func9, Tryz.ntmps9
  go_wp2
  go_loopw [5] (fun i w' => ∃ k : Nat, k ≤ n ∧ i = .int .i64 k ∧ Below w.heap.size w w') (fun i _ => n - (intOf i).toNat)
  case atStart => exact ⟨0, Nat.zero_le _, rfl, Below.refl _ _⟩
  case round =>
    obtain ⟨k, hk, rfl, hB⟩ := hrel
    by_cases hlt : k < n
    · have hr := hrow.below hB hbs k hlt
      have hr' := hrow'.below hB hbs' k hlt
      have hlt' : (k : Int) < n := by omega
      have hne := later_some wr
      have c0 := fun x : Later wr => x.cell hr
      have d0 := fun x : Later wr => x.cell hr'
      go_wp2
      refine wp_region_later (by kernel_rfl) (by kernel_rfl) ?_
      repeat (go_big_quiet_step (fail))
      refine wpQuiet_nil (later_all ?_)
      intro w1 hb1
      go_wp2
      go_roundw
      case rel => exact ⟨k + 1, by omega, by go_num, hB.trans (hb1.mono hB.size)⟩
      case measure => simp [intOf]; omega
    · go_wp2
      go_ret
      exact ⟨rfl, hB⟩
def IsInts (w : World) (a : Option Addr) (n : Nat) (g : Nat → Int) : Prop := n ≤ maxLen ∧ (n = 0 ∨ ∃ b off, a = some ⟨b, off, none⟩ ∧ b < w.heap.size ∧ IntRow w b off n g) ∧ ∀ i, i < n → (Lit.int .i64 (g i)).wf = true
theorem IsInts.below {w w' : World} {a : Option Addr} {n : Nat} {g : Nat → Int} (h : IsInts w a n g) (hb : Below w.heap.size w w') : IsInts w' a n g := by
  obtain ⟨hn, hz | ⟨b, off, rfl, hlt, hrow⟩, hf⟩ := h
  · exact ⟨hn, .inl hz, hf⟩
  · exact ⟨hn, .inr ⟨b, off, rfl, Nat.lt_of_lt_of_le hlt hb.size, hrow.below hb hlt⟩, hf⟩
theorem toI_any (a : Option Addr) (n cap : Nat) (g : Nat → Int) (w : World) (h : IsInts w a n g) (hn : n ≤ 1048576) :
    Calls Tryz0.prog 32 #[.slice a n cap] w fun e w' => e = .returned (.slice (some ⟨w.heap.size, 0, none⟩) n n) ∧ OwnInts w' w.heap.size n g ∧ Below w.heap.size w w' := by
  obtain ⟨_, hz | ⟨b, off, rfl, hb, hrow⟩, hf⟩ := h
  · subst hz; exact toI_none a cap g w
  · exact toI_row b off n cap g w hn hb hrow
end Go.Proofs.YtlmcblcijndipabGreat

namespace Go.Proofs.YtlmcblcijndipabGreat
open Go.RowKit
theorem ret_i {k : IntKind} {a b : Int} (h : a = b) : Ending.returned (.int k a) = .returned (.int k b) := by rw [h]
theorem inB_t {n lo hi : Int} (h : inB n lo hi = true) : lo ≤ n ∧ n ≤ hi := by unfold inB at h; simpa using h
theorem heavier_any (x y : Int) (w : World) :
    Calls Tryz0.prog 136 #[.int .i64 x, .int .i64 y] w fun e w' => e = .returned (.int .i64 (heavyZ x y)) ∧ w' = w := by
  cases hx : inB x 1 3 with
  | false =>
    go_enter Tryz0.func136, Tryz.ntmps136
    go_wp2_with (go_at_call 64; refine (wake_any _ _).mono ?_; rintro e w' ⟨rfl, rfl⟩)
    all_goals go_ret
    all_goals exact ⟨ret_i (by unfold heavyZ; rw [hx]; rfl), rfl⟩
  | true =>
    have hx' := inB_t hx
    cases hy : inB y 1 3 with
    | false =>
      go_enter Tryz0.func136, Tryz.ntmps136
      go_wp2_with (go_at_call 64; refine (wake_any _ _).mono ?_; rintro e w' ⟨rfl, rfl⟩)
      all_goals go_ret
      all_goals exact ⟨ret_i (by unfold heavyZ; rw [hx, hy]; rfl), rfl⟩
    | true =>
      have hy' := inB_t hy
      obtain ⟨hx1, hx2⟩ := hx'
      obtain ⟨hy1, hy2⟩ := hy'
      by_cases hlt : y < x
      · go_enter Tryz0.func136, Tryz.ntmps136
        go_wp2_with (go_at_call 64; refine (wake_any _ _).mono ?_; rintro e w' ⟨rfl, rfl⟩)
        all_goals go_ret
        all_goals exact ⟨ret_i (by unfold heavyZ; rw [hx, hy]; simp [hlt]), rfl⟩
      · go_enter Tryz0.func136, Tryz.ntmps136
        go_wp2_with (go_at_call 64; refine (wake_any _ _).mono ?_; rintro e w' ⟨rfl, rfl⟩)
        all_goals go_ret
        all_goals exact ⟨ret_i (by unfold heavyZ; rw [hx, hy]; simp; omega), rfl⟩
theorem implGap_any (a b : Mv) (w : World) :
    Calls Tryz0.prog 122 #[.agg #[.string a.name, .bool a.lands, .int .i64 a.wake, .int .i64 a.est, .int .i64 a.late, .int .i64 a.prom], .agg #[.string b.name, .bool b.lands, .int .i64 b.wake, .int .i64 b.est, .int .i64 b.late, .int .i64 b.prom]] w fun e w' => e = .returned (.int .i64 (a.gap b)) ∧ Below w.heap.size w w' := by
  obtain ⟨hb1, hb2⟩ := heavyZ_bd a.wake b.wake
  cases hl : a.lands
  all_goals
    go_enter Tryz0.func122, Tryz.ntmps122
    go_wp2_with (go_at_call 136; refine (heavier_any _ _ _).mono ?_; rintro e w' ⟨rfl, rfl⟩)
    go_ret
    exact ⟨ret_i (by unfold Mv.gap; rw [gapZ_eq, hl]; simp <;> omega), ((Below.refl _ _).alloc (Nat.le_refl _) _).alloc (by simp) _⟩
set_option maxHeartbeats 400000 in
theorem specGap_any (a b : Mv) (w : World) :
    Calls Tryz0.prog 61 #[.agg #[.string a.name, .bool a.lands, .int .i64 a.wake, .int .i64 a.est, .int .i64 a.late, .int .i64 a.prom], .agg #[.string b.name, .bool b.lands, .int .i64 b.wake, .int .i64 b.est, .int .i64 b.late, .int .i64 b.prom]] w fun e w' => e = .returned (.int .i64 (a.gap b)) ∧ Below w.heap.size w w' := by
  by_cases hlt : b.wake < a.wake
  · cases hx : inB a.wake 1 3 with
    | false =>
      cases hl : a.lands
      all_goals
        go_enter Tryz0.func61, Tryz.ntmps61
        go_wp2_with (go_at_call 21; refine (in_any _ _ _ _).mono ?_; rintro e w' ⟨rfl, rfl⟩)
        go_ret
        exact ⟨ret_i (by unfold Mv.gap gapZ; rw [hl, hx]; simp), ((Below.refl _ _).alloc (Nat.le_refl _) _).alloc (by simp) _⟩
    | true =>
      obtain ⟨hx1, hx2⟩ := inB_t hx
      cases hy : inB b.wake 1 3 with
      | false =>
        cases hl : a.lands
        all_goals
          go_enter Tryz0.func61, Tryz.ntmps61
          go_wp2_with (go_at_call 21; refine (in_any _ _ _ _).mono ?_; rintro e w' ⟨rfl, rfl⟩)
          go_ret
          exact ⟨ret_i (by unfold Mv.gap gapZ; rw [hl, hx, hy]; simp), ((Below.refl _ _).alloc (Nat.le_refl _) _).alloc (by simp) _⟩
      | true =>
        obtain ⟨hy1, hy2⟩ := inB_t hy
        cases hl : a.lands
        all_goals
          go_enter Tryz0.func61, Tryz.ntmps61
          go_wp2_with (go_at_call 21; refine (in_any _ _ _ _).mono ?_; rintro e w' ⟨rfl, rfl⟩)
          go_ret
          exact ⟨ret_i (by unfold Mv.gap gapZ; rw [hl, hx, hy]; simp [hlt]; omega), ((Below.refl _ _).alloc (Nat.le_refl _) _).alloc (by simp) _⟩
  · cases hl : a.lands
    all_goals
      go_enter Tryz0.func61, Tryz.ntmps61
      go_wp2_with (go_at_call 21; refine (in_any _ _ _ _).mono ?_; rintro e w' ⟨rfl, rfl⟩)
      go_ret
      exact ⟨ret_i (by unfold Mv.gap gapZ; rw [hl, decide_eq_false (p := b.wake < a.wake) (by omega)]; simp), ((Below.refl _ _).alloc (Nat.le_refl _) _).alloc (by simp) _⟩
theorem suits_any (m : Mv) (t : Int) (w : World) :
    Calls Tryz0.prog 100 #[.agg #[.string m.name, .bool m.lands, .int .i64 m.wake, .int .i64 m.est, .int .i64 m.late, .int .i64 m.prom], .int .i64 t] w fun e w' => e = .returned (.bool (m.suits t)) ∧ Below w.heap.size w w' := by
  cases hi : inB t m.est m.late with
  | false =>
    go_enter Tryz0.func100, Tryz.ntmps100
    go_wp2_with (go_at_call 105; refine (inSpan_any _ _ _ _ _ _ _ _).mono ?_; rintro e w1 ⟨rfl, hb1⟩; obtain ⟨hc1, hf1⟩ := bcell hb1)
    all_goals go_ret
    all_goals exact ⟨ret_b (by unfold Mv.suits suitB; simp [hi]), (one_more (one_new w _) hb1).2⟩
  | true =>
    by_cases h1 : (m.prom == -1) = true
    · go_enter Tryz0.func100, Tryz.ntmps100
      go_wp2_with (go_at_call 105; refine (inSpan_any _ _ _ _ _ _ _ _).mono ?_; rintro e w1 ⟨rfl, hb1⟩; obtain ⟨hc1, hf1⟩ := bcell hb1)
      all_goals go_ret
      all_goals exact ⟨ret_b (by unfold Mv.suits suitB; simp [hi, h1]), (one_more (one_new w _) hb1).2⟩
    · have h1' : (m.prom == -1) = false := by simpa using h1
      clear h1
      go_enter Tryz0.func100, Tryz.ntmps100
      go_wp2_with (go_at_call 105; refine (inSpan_any _ _ _ _ _ _ _ _).mono ?_; rintro e w1 ⟨rfl, hb1⟩; obtain ⟨hc1, hf1⟩ := bcell hb1)
      all_goals go_ret
      all_goals exact ⟨ret_b (by unfold Mv.suits suitB; simp [hi, h1']), (one_more (one_new w _) hb1).2⟩
theorem near_any (a b : Mv) (s t : Int) (w : World) (hs0 : 0 ≤ s) (hs1 : s ≤ 10000) (ht0 : 0 ≤ t) (ht1 : t ≤ 10000) :
    Calls Tryz0.prog 102 #[.agg #[.string a.name, .bool a.lands, .int .i64 a.wake, .int .i64 a.est, .int .i64 a.late, .int .i64 a.prom], .agg #[.string b.name, .bool b.lands, .int .i64 b.wake, .int .i64 b.est, .int .i64 b.late, .int .i64 b.prom], .int .i64 s, .int .i64 t] w fun e w' => e = .returned (.bool (a.near b s t)) ∧ Below w.heap.size w w' := by
  by_cases h : t < s
  · go_enter Tryz0.func102, Tryz.ntmps102
    go_wp2_with (go_at_call 122; refine (implGap_any b a _).mono ?_; rintro e w1 ⟨rfl, hb1⟩; obtain ⟨hc1, hf1⟩ := bcell hb1)
    all_goals go_ret
    all_goals exact ⟨ret_b (by unfold Mv.near nearB; rw [if_pos h]; unfold Mv.gap; rfl), ((((Below.refl _ w).alloc (Nat.le_refl _) _).alloc (by simp) _).trans (hb1.mono (by simp; omega)))⟩
  · go_enter Tryz0.func102, Tryz.ntmps102
    go_wp2_with (go_at_call 122; refine (implGap_any a b _).mono ?_; rintro e w1 ⟨rfl, hb1⟩; obtain ⟨hc1, hf1⟩ := bcell hb1)
    all_goals go_ret
    all_goals exact ⟨ret_b (by unfold Mv.near nearB; rw [if_neg (by omega)]; unfold Mv.gap; rfl), ((((Below.refl _ w).alloc (Nat.le_refl _) _).alloc (by simp) _).trans (hb1.mono (by simp; omega)))⟩
theorem apart_any (a b : Mv) (s t : Int) (w : World) (hs0 : 0 ≤ s) (hs1 : s ≤ 10000) (ht0 : 0 ≤ t) (ht1 : t ≤ 10000) :
    Calls Tryz0.prog 97 #[.agg #[.string a.name, .bool a.lands, .int .i64 a.wake, .int .i64 a.est, .int .i64 a.late, .int .i64 a.prom], .int .i64 s, .agg #[.string b.name, .bool b.lands, .int .i64 b.wake, .int .i64 b.est, .int .i64 b.late, .int .i64 b.prom], .int .i64 t] w fun e w' => e = .returned (.bool (!a.near b s t)) ∧ Below w.heap.size w w' := by
  have hn := nearB_apart a.lands a.wake b.lands b.wake s t
  by_cases e : s = t
  · subst e
    rw [if_pos rfl] at hn
    go_enter Tryz0.func97, Tryz.ntmps97
    go_wp2
    go_ret
    exact ⟨ret_b hn.symm, ((Below.refl _ w).alloc (Nat.le_refl _) _).alloc (by simp) _⟩
  · rw [if_neg e] at hn
    have e' : (s == t) = false := by simpa using e
    by_cases h : s < t
    · rw [if_pos h] at hn
      have HN : Hid _ := hn
      clear hn
      go_enter Tryz0.func97, Tryz.ntmps97
      go_wp2_with (go_at_call 61; refine (specGap_any a b _).mono ?_; rintro e w1 ⟨rfl, hb1⟩; obtain ⟨hc1, hf1⟩ := bcell hb1)
      all_goals go_ret
      all_goals exact ⟨ret_b HN.out.symm, ((((Below.refl _ w).alloc (Nat.le_refl _) _).alloc (by simp) _).trans (hb1.mono (by simp; omega)))⟩
    · rw [if_neg h] at hn
      have HN : Hid _ := hn
      clear hn
      go_enter Tryz0.func97, Tryz.ntmps97
      go_wp2_with (go_at_call 61; refine (specGap_any b a _).mono ?_; rintro e w1 ⟨rfl, hb1⟩; obtain ⟨hc1, hf1⟩ := bcell hb1)
      all_goals go_ret
      all_goals exact ⟨ret_b HN.out.symm, ((((Below.refl _ w).alloc (Nat.le_refl _) _).alloc (by simp) _).trans (hb1.mono (by simp; omega)))⟩
end Go.Proofs.YtlmcblcijndipabGreat
