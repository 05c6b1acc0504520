/- The earliest ticks in an order: the program's, walked. -/
import Derived.Test.YtlmcblcijndipaaS1
import Derived.Test.YtlmcblcijndipaaW5
import Derived.Test.YtlmcblcijndipaaEarlP
namespace Go.Proofs.Ytlmcblcijndipaa
open Go.RowKit
set_option linter.unusedVariables false

theorem ret_ib {a c : Int} {b d : Bool} (h : a = c) (h' : b = d) : Ending.returned (.tuple #[.int .i64 a, .bool b]) = .returned (.tuple #[.int .i64 c, .bool d]) := by rw [h, h']
theorem ret_vb {a c : Value} {b d : Bool} (h : a = c) (h' : b = d) : Ending.returned (.tuple #[a, .bool b]) = .returned (.tuple #[c, .bool d]) := by rw [h, h']

set_option maxHeartbeats 400000 in
theorem kept_any (m : Mv) (t : Int) (w : World) :
    Calls Try.prog 55 #[.agg #[.string m.name, .bool m.lands, .int .i64 m.wake, .int .i64 m.est, .int .i64 m.late, .int .i64 m.prom], .int .i64 t] w fun e w' => e = .returned (.tuple #[.int .i64 (keptV m t), .bool (keptB m t)]) ∧ Below w.heap.size w w' := by
  have hA : Below w.heap.size w (w.alloc (.cells #[.string m.name, .bool m.lands, .int .i64 m.wake, .int .i64 m.est, .int .i64 m.late, .int .i64 m.prom] 38)) := (Below.refl _ _).alloc (Nat.le_refl _) _
  have g4 : (w.alloc (.cells #[.string m.name, .bool m.lands, .int .i64 m.wake, .int .i64 m.est, .int .i64 m.late, .int .i64 m.prom] 38)).cell? ⟨w.heap.size, 4, none⟩ = some (.int .i64 m.late) := by simp
  have g5 : (w.alloc (.cells #[.string m.name, .bool m.lands, .int .i64 m.wake, .int .i64 m.est, .int .i64 m.late, .int .i64 m.prom] 38)).cell? ⟨w.heap.size, 5, none⟩ = some (.int .i64 m.prom) := by simp
  have hne := later_some (w.alloc (.cells #[.string m.name, .bool m.lands, .int .i64 m.wake, .int .i64 m.est, .int .i64 m.late, .int .i64 m.prom] 38))
  have e4 := fun x : Later (w.alloc (.cells #[.string m.name, .bool m.lands, .int .i64 m.wake, .int .i64 m.est, .int .i64 m.late, .int .i64 m.prom] 38)) => x.cell g4
  have e5 := fun x : Later (w.alloc (.cells #[.string m.name, .bool m.lands, .int .i64 m.wake, .int .i64 m.est, .int .i64 m.late, .int .i64 m.prom] 38)) => x.cell g5
  clear g4 g5
  by_cases hp : m.prom = -1
  · have hp' : (m.prom != -1) = false := by simpa using hp
    have HV0 : keptV m t = t := by unfold keptV; rw [if_pos hp]
    have HV : Hid (keptV m t = t) := HV0
    have HB0 : keptB m t = decide (t ≤ m.late) := by unfold keptB; rw [if_pos hp]
    have HB : Hid (keptB m t = decide (t ≤ m.late)) := HB0
    clear HV0 HB0 hp
    go_enter Try.func55, Try.ntmps55
    go_wp2
    refine wp_region_later (by kernel_rfl) (by kernel_rfl) ?_
    repeat (go_big_quiet_step (fail))
    refine wpQuiet_nil (later_all ?_)
    intro w1 hb1
    go_wp2
    go_ret2
    exact ⟨ret_ib HV.out.symm HB.out.symm, hA.trans (hb1.mono hA.size)⟩
  · have hp' : (m.prom != -1) = true := by simpa using hp
    have HV0 : keptV m t = m.prom := by unfold keptV; rw [if_neg hp]
    have HV : Hid (keptV m t = m.prom) := HV0
    have HB0 : keptB m t = decide (t ≤ m.prom) := by unfold keptB; rw [if_neg hp]
    have HB : Hid (keptB m t = decide (t ≤ m.prom)) := HB0
    clear HV0 HB0 hp
    go_enter Try.func55, Try.ntmps55
    go_wp2
    refine wp_region_later (by kernel_rfl) (by kernel_rfl) ?_
    repeat (go_big_quiet_step (fail))
    refine wpQuiet_nil (later_all ?_)
    intro w1 hb1
    go_wp2
    go_ret2
    exact ⟨ret_ib HV.out.symm HB.out.symm, hA.trans (hb1.mono hA.size)⟩

set_option maxHeartbeats 400000 in
/-- the closure: how soon one may come behind another one -/
theorem soon_any (a p : Nat) (bt bl : Nat) (b off n cap : Nat) (f : Nat → Mv) (tb : Nat) (T : Nat → Int) (w : World) (ha : a < n) (hp : p < n) (hn : n ≤ 1048576)
    (hT : 0 ≤ T a ∧ T a ≤ 10000)
    (ct : w.cell? ⟨bt, 0, none⟩ = some (.slice (some ⟨tb, 0, none⟩) n n)) (cl : w.cell? ⟨bl, 0, none⟩ = some (.slice (some ⟨b, off, none⟩) n cap)) (hrow : MvRow w b off n f) (hown : OwnInts w tb n T) :
    Calls Try.prog 53 #[.int .i64 (a : Int), .int .i64 (p : Int), .pointer (some ⟨bt, 0, none⟩), .pointer (some ⟨bl, 0, none⟩)] w fun e w' => e = .returned (.int .i64 (T a + (f a).gap (f p))) ∧ Below w.heap.size w w' := by
  have hg1 := gapZ_pos (f a).lands (f a).wake (f p).wake
  have hg2 := gapZ_le (f a).lands (f a).wake (f p).wake
  have hg : 1 ≤ (f a).gap (f p) ∧ (f a).gap (f p) ≤ 4 := ⟨hg1, hg2⟩
  clear hg1 hg2
  obtain ⟨hg1, hg2⟩ := hg
  obtain ⟨hT0, hT1⟩ := hT
  have ha' : (a : Int) < n := by omega
  have hp' : (p : Int) < n := by omega
  have hra := hrow a ha
  have hrp := hrow p hp
  have hne := later_some w
  have x0 := fun x : Later w => x.cell ct
  have x1 := fun x : Later w => x.cell cl
  have x2 := fun x : Later w => x.cell (hown.cellAt a ha)
  have a0 := fun x : Later w => x.cell hra.c0
  have a1 := fun x : Later w => x.cell hra.c1
  have a2 := fun x : Later w => x.cell hra.c2
  have a3 := fun x : Later w => x.cell hra.c3
  have a4 := fun x : Later w => x.cell hra.c4
  have a5 := fun x : Later w => x.cell hra.c5
  have b0 := fun x : Later w => x.cell hrp.c0
  have b1 := fun x : Later w => x.cell hrp.c1
  have b2 := fun x : Later w => x.cell hrp.c2
  have b3 := fun x : Later w => x.cell hrp.c3
  have b4 := fun x : Later w => x.cell hrp.c4
  have b5 := fun x : Later w => x.cell hrp.c5
  go_enter Try.func53, Try.ntmps53
  go_wp2
  refine wp_region_later (by kernel_rfl) (by kernel_rfl) ?_
  repeat (go_big_quiet_step ((go_at_call 54; exact later_call (implGap_any (f a) (f p) _))))
  refine wpQuiet_nil (later_all ?_)
  intro w1 hb1
  go_wp2
  go_ret
  exact ⟨rfl, hb1⟩
end Go.Proofs.Ytlmcblcijndipaa
