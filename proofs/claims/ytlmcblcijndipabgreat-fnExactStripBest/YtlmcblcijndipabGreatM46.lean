/- Texts of the proof, one behind another: W8. -/
import Derived.Test.YtlmcblcijndipabGreatM14
import Derived.Test.YtlmcblcijndipabGreatM15
/- The laws' own comparisons: of what is the same. -/
namespace Go.Proofs.YtlmcblcijndipabGreat
open Go.RowKit

set_option maxHeartbeats 400000 in
theorem eqMv_same (m : Mv) (w : World) :
    Calls Tryz0.prog 27 #[.agg #[.string m.name, .bool m.lands, .int .i64 m.wake, .int .i64 m.est, .int .i64 m.late, .int .i64 m.prom], .agg #[.string m.name, .bool m.lands, .int .i64 m.wake, .int .i64 m.est, .int .i64 m.late, .int .i64 m.prom]] w fun e w' => e = .returned (.bool true) ∧ Below w.heap.size w w' := by
  go_enter Tryz0.func27, Tryz.ntmps27
  go_wp2
  go_ret
  exact ⟨rfl, ((Below.refl _ _).alloc (Nat.le_refl _) _).alloc (by simp) _⟩

set_option maxHeartbeats 1000000 in
theorem eqS_same (b off cap b' off' cap' n : Nat) (f : Nat → Mv) (w : World) (hn : n ≤ 1048576) (hbs : b < w.heap.size) (hrow : MvRow w b off n f) (hbs' : b' < w.heap.size) (hrow' : MvRow w b' off' n f) :
    Calls Tryz0.prog 10 #[.slice (some ⟨b, off, none⟩) n cap, .slice (some ⟨b', off', none⟩) n cap'] w fun e w' => e = .returned (.bool true) ∧ Below w.heap.size w w' := by
  go_enter Tryz0.func10, Tryz.ntmps10
  go_wp2
  go_loopw [5] (fun i w' => ∃ k : Nat, k ≤ n ∧ i = .int .i64 k ∧ Below w.heap.size w w') (fun i _ => n - (intOf i).toNat)
  case atStart => exact ⟨0, Nat.zero_le _, rfl, Below.refl _ _⟩
  case round =>
    obtain ⟨k, hk, rfl, hB⟩ := hrel
    by_cases hlt : k < n
    · have hr := hrow.below hB hbs k hlt
      have hr' := hrow'.below hB hbs' k hlt
      have hlt' : (k : Int) < n := by omega
      have hne := later_some wr
      have c0 := fun x : Later wr => x.cell hr.c0
      have c1 := fun x : Later wr => x.cell hr.c1
      have c2 := fun x : Later wr => x.cell hr.c2
      have c3 := fun x : Later wr => x.cell hr.c3
      have c4 := fun x : Later wr => x.cell hr.c4
      have c5 := fun x : Later wr => x.cell hr.c5
      have d0 := fun x : Later wr => x.cell hr'.c0
      have d1 := fun x : Later wr => x.cell hr'.c1
      have d2 := fun x : Later wr => x.cell hr'.c2
      have d3 := fun x : Later wr => x.cell hr'.c3
      have d4 := fun x : Later wr => x.cell hr'.c4
      have d5 := fun x : Later wr => x.cell hr'.c5
      go_wp2
      refine wp_region_later (by kernel_rfl) (by kernel_rfl) ?_
      repeat (go_big_quiet_step ((go_at_call 27; exact later_call (eqMv_same (f k) _))))
      refine wpQuiet_nil (later_all ?_)
      intro w1 hb1
      go_wp2
      go_roundw
      case rel => exact ⟨k + 1, by omega, by go_num, hB.trans (hb1.mono hB.size)⟩
      case measure => simp [intOf]; omega
    · go_wp2
      go_ret
      exact ⟨rfl, hB⟩
end Go.Proofs.YtlmcblcijndipabGreat
