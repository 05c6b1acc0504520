/- A tick passes: tried, in the program. -/
import Derived.Test.YtlmcblcijndipabGreatDoorU4
import Derived.Test.YtlmcblcijndipabGreatDoorB3
import Derived.Handy
namespace Go.Proofs.YtlmcblcijndipabGreatDoor
open Go.RowKit Go.Extern.Stop Go.Stop Go.Extern
set_option linter.unusedVariables false

abbrev nilV : Value := .slice none 0 0
abbrev passV : Value := .iface 75 (.agg #[])
abbrev refV (c : Int) : Value := .iface 128 (.agg #[.int .i64 c])
theorem m_made (w : World) : (Go.method 440 75 (.agg #[]) "loop.example/lapstrip/impl.made").run Tryz.prog w = .ok (287, .agg #[]) w := by kernel_rfl
theorem as_pass (v : Value) (w : World) : (Instr.typeAssert (.iface 75 v) 104 131 true).run Tryz.prog w = .ok (.tuple #[.nilIface, .bool false]) w := run_typeAssert_lacksB Tryz.underlying131 (by kernel_rfl) (by kernel_rfl) v 104 w

section
variable (now shift : Int) (b off n cap : Nat) (f : Nat → Mv) (b' off' m cap' : Nat) (t : Nat → Int) (w : World) (hn : n ≤ 1048576) (hm1 : m ≤ maxLen) (hbs : b < w.heap.size) (hrow : MvRow w b off n f) (hbs' : b' < w.heap.size) (hrow' : IntRow w b' off' m t)
include hn hm1 hbs hrow hbs' hrow'

set_option maxRecDepth 10000 in
set_option maxHeartbeats 1000000 in
theorem tried_A (hb : bookB now shift f n t m = false) :
    Calls Tryz.prog 64 #[bkV now shift (.slice (some ⟨b, off, none⟩) n cap) (.slice (some ⟨b', off', none⟩) m cap'), passV] w fun e w' => e = .returned (.tuple #[bkV 0 0 nilV nilV, refV 1]) ∧ Below w.heap.size w w' := by
  have hB2 : ∀ o1 o2, Below w.heap.size w ((w.alloc o1).alloc o2) := fun o1 o2 => ((Below.refl _ w).alloc (Nat.le_refl _) _).alloc (by simp) _
  have H1 : ∀ o1 o2, Calls Tryz.prog 90 #[.agg #[.int .i64 now, .int .i64 shift, .slice (some ⟨b, off, none⟩) n cap, .slice (some ⟨b', off', none⟩) m cap']] ((w.alloc o1).alloc o2) fun e w' => e = .returned (.bool false) ∧ Below ((w.alloc o1).alloc o2).heap.size ((w.alloc o1).alloc o2) w' := fun o1 o2 => by
    have := implBook_row now shift b off n cap f b' off' m cap' t _ hn hm1 (Nat.lt_of_lt_of_le hbs (hB2 o1 o2).size) (hrow.below (hB2 o1 o2) hbs) (Nat.lt_of_lt_of_le hbs' (hB2 o1 o2).size) (hrow'.below (hB2 o1 o2) hbs')
    rw [hb] at this; exact this
  have hN2 : ∀ o1 c2 T2, ((w.alloc o1).alloc (.cells c2 T2)).heap[w.heap.size + 1]? = some (.cells c2 T2 (0, 0)) := fun o1 c2 T2 => by have := heap_alloc_new (w.alloc o1) (.cells c2 T2); simpa using this
  go_enter Tryz.func64, Tryz.ntmps64
  go_wp2_with (go_at_call 90; refine (H1 _ _).mono ?_; clear H1; rintro e w1 ⟨rfl, b1⟩; have B1 := (hB2 _ _).trans (b1.mono (hB2 _ _).size); have s1 := b1.size; simp at s1; have g1 := (b1.block (w.heap.size + 1) (by simp)).trans (hN2 _ _ _); have r0 := cell_of_row w1 _ 0 _ _ _ g1; have r1 := cell_of_row w1 _ 1 _ _ _ g1; have r2 := cell_of_row w1 _ 2 _ _ _ g1; have r3 := cell_of_row w1 _ 3 _ _ _ g1; have rf := fun j => frozen_of_row w1 _ j _ _ g1; simp at r0 r1 r2 r3)
  refine bodyPost_ret (v := .tuple #[bkV 0 0 nilV nilV, refV 1]) (by simp [results, Tryz.results64, go_sem, r0, r1, r2, r3]) rfl ⟨rfl, ?_⟩
  exact (((B1.setCell (by simp) _).setCell (by simp) _).setCell (by simp) _).setCell (by simp) _
end
end Go.Proofs.YtlmcblcijndipabGreatDoor
