/- The law's own helpers: numbers held against each other, gaps, what fits by the definition. -/
import Derived.Test.YtlmcblcijndipaaF4
namespace Go.Proofs.Ytlmcblcijndipaa
open Go.RowKit
set_option linter.unusedVariables false

set_option maxHeartbeats 1000000 in
theorem wInts_same (b off cap b' off' cap' n : Nat) (g : Nat → Int) (w : World) (hn : n ≤ 1048576) (hbs : b < w.heap.size) (hrow : IntRow w b off n g) (hbs' : b' < w.heap.size) (hrow' : IntRow w b' off' n g) :
    Calls Try.prog 10 #[.slice (some ⟨b, off, none⟩) n cap, .slice (some ⟨b', off', none⟩) n cap'] w fun e w' => e = .returned (.bool true) ∧ Below w.heap.size w w' := by
  go_enter Try.func10, Try.ntmps10
  go_wp2
  go_loopw [5] (fun i w' => ∃ k : Nat, k ≤ n ∧ i = .int .i64 k ∧ Below w.heap.size w w') (fun i _ => n - (intOf i).toNat)
  case atStart => exact ⟨0, Nat.zero_le _, rfl, Below.refl _ _⟩
  case round =>
    obtain ⟨k, hk, rfl, hB⟩ := hrel
    by_cases hlt : k < n
    · have hr := hrow.below hB hbs k hlt
      have hr' := hrow'.below hB hbs' k hlt
      have hlt' : (k : Int) < n := by omega
      have hne := later_some wr
      have c0 := fun x : Later wr => x.cell hr
      have d0 := fun x : Later wr => x.cell hr'
      go_wp2
      refine wp_region_later (by kernel_rfl) (by kernel_rfl) ?_
      repeat (go_big_quiet_step (fail))
      refine wpQuiet_nil (later_all ?_)
      intro w1 hb1
      go_wp2
      go_roundw
      case rel => exact ⟨k + 1, by omega, by go_num, hB.trans (hb1.mono hB.size)⟩
      case measure => simp [intOf]; omega
    · go_wp2
      go_ret
      exact ⟨rfl, hB⟩
theorem wInts_none (a a' : Option Addr) (cap cap' : Nat) (w : World) :
    Calls Try.prog 10 #[.slice a 0 cap, .slice a' 0 cap'] w fun e w' => e = .returned (.bool true) ∧ Below w.heap.size w w' := by
  go_enter Try.func10, Try.ntmps10
  go_wp2
  go_loopw [5] (fun i w' => i = .int .i64 0 ∧ Below w.heap.size w w') (fun _ _ => 0)
  case atStart => exact ⟨rfl, Below.refl _ _⟩
  case round =>
    obtain ⟨rfl, hB⟩ := hrel
    go_wp2
    go_ret
    exact ⟨rfl, hB⟩

/-- the gap, by the table -/
theorem wGap_any (a b : Mv) (w : World) (ha : 1 ≤ a.wake ∧ a.wake ≤ 3) (hb : 1 ≤ b.wake ∧ b.wake ≤ 3) :
    Calls Try.prog 42 #[.agg #[.string a.name, .bool a.lands, .int .i64 a.wake, .int .i64 a.est, .int .i64 a.late, .int .i64 a.prom], .agg #[.string b.name, .bool b.lands, .int .i64 b.wake, .int .i64 b.est, .int .i64 b.late, .int .i64 b.prom]] w fun e w' => e = .returned (.int .i64 (a.gap b)) ∧ Below w.heap.size w w' := by
  have hB0 : ∀ o1 o2, Below w.heap.size w ((w.alloc o1).alloc o2) := fun o1 o2 => ((Below.refl _ w).alloc (Nat.le_refl _) _).alloc (by simp) _
  have hg : a.gap b = (if a.lands then 2 else 1) + (if b.wake < a.wake then a.wake - b.wake else 0) := by
    unfold Mv.gap gapZ inB
    simp [ha, hb]
  have HG : Hid (a.gap b = (if a.lands then 2 else 1) + (if b.wake < a.wake then a.wake - b.wake else 0)) := hg
  clear hg
  cases hl : a.lands <;> by_cases hw : b.wake < a.wake
  all_goals
    go_enter Try.func42, Try.ntmps42
    go_wp2
    go_ret
    refine ⟨?_, hB0 _ _⟩
    rw [HG.out]
    simp [hl, hw] <;> omega

theorem suits_w {m : Mv} {t : Int} (h : m.ok = true) (hs : m.suits t = true) : ¬ t < m.est ∧ ¬ m.late < t ∧ (0 ≤ m.prom → t = m.prom) := by
  have hb := Mv.ok_bd h
  unfold Mv.suits suitB inB at hs
  simp only [Bool.and_eq_true, decide_eq_true_eq, Bool.or_eq_true, beq_iff_eq] at hs
  omega
theorem near_w {a b : Mv} {s t : Int} (h : a.near b s t = false) : (s ≤ t → a.gap b ≤ t - s) ∧ (t ≤ s → b.gap a ≤ s - t) := by
  have h1 := nearB_apart a.lands a.wake b.lands b.wake s t
  unfold Mv.near at h
  rw [h] at h1
  have g1 := gapZ_pos a.lands a.wake b.wake
  unfold Mv.gap
  by_cases e : s = t
  · subst e; simp at h1
  · rw [if_neg e] at h1
    by_cases hst : s < t
    · rw [if_pos hst] at h1; simp at h1; exact ⟨fun _ => h1, fun _ => by omega⟩
    · rw [if_neg hst] at h1; simp at h1; exact ⟨fun _ => by omega, fun _ => h1⟩
end Go.Proofs.Ytlmcblcijndipaa
