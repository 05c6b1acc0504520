/- A book that came in, opened. -/
import Derived.Test.YtlmcblcijndipabGreatDoorB4
namespace Go.Proofs.YtlmcblcijndipabGreatDoor
open Go.ChangeShapes Go.WideShapes Go.ChangeAt Go.RowKit
set_option linter.unusedVariables false

theorem cells_book : Tryz.prog.cellsOf 25 = 4 := by kernel_rfl
theorem cells_moves : Tryz.prog.cellsOf 22 = 1 := by kernel_rfl
theorem cells_ints : Tryz.prog.cellsOf 23 = 1 := by kernel_rfl

set_option maxRecDepth 100000 in
theorem open_book {H : Type} {enc : TypeId × Value → H} {w : World} {v : Value} {d : DataW H} {p : List MemPlace} {r : Reach} {b0 : Nat} (hv : Value.okWide Tryz.prog w r b0 25 v) (h : DataW.Trod enc Tryz.prog w 0 (fun _ => true) true 25 v d p) :
    ∃ now shift a n cap f a' m cap' t, v = .agg #[.int .i64 now, .int .i64 shift, .slice a n cap, .slice a' m cap'] ∧ IsMvs w a n cap f ∧ IsInts w a' m t := by
  obtain ⟨cs, rfl, hsz⟩ := okWide_struct Tryz.underlying25 hv
  obtain ⟨k, hk⟩ := h
  obtain ⟨xs, k', _, _, hl, hlen, hf⟩ := DataW.trod_struct Tryz.underlying25 hk
  rw [cells_book] at hl
  obtain ⟨l⟩ := cs
  simp only [Value.cells] at hl hf hk
  match l, hl with
  | [c0, c1, c2, c3], _ =>
  match xs, hlen with
  | [y0, y1, y2, y3], _ =>
  have h0 := hf 0 _ rfl
  have h1 := hf 1 _ rfl
  have h2 := hf 2 _ rfl
  have h3 := hf 3 _ rfl
  simp [cells_int, cells_moves, cells_ints] at h0 h1 h2 h3
  obtain ⟨now, e0, _, _⟩ := DataW.trod_int Tryz.underlying3 h0
  obtain ⟨shift, e1, _, _⟩ := DataW.trod_int Tryz.underlying3 h1
  have q2 : ∃ a n cap, c2 = .slice a n cap := by
    rcases Deep.open_slice Tryz.underlying22 h2 with ⟨hcs, _⟩ | ⟨x, l, c, m, k, D, Pl, hcs, _⟩
    · simp at hcs; exact ⟨_, _, _, hcs⟩
    · simp at hcs; exact ⟨_, _, _, hcs⟩
  have q3 : ∃ a n cap, c3 = .slice a n cap := by
    rcases Deep.open_slice1 Tryz.underlying23 cells_int h3 with ⟨hcs, _⟩ | ⟨x, l, c, m, k, V, D, Pl, hcs, _⟩
    · simp at hcs; exact ⟨_, _, _, hcs⟩
    · simp at hcs; exact ⟨_, _, _, hcs⟩
  obtain ⟨a, n, cap, rfl⟩ := q2
  obtain ⟨a', m, cap', rfl⟩ := q3
  simp at e0 e1
  subst e0 e1
  obtain ⟨f, hf2⟩ := open_moves (a := a) (n := n) (cap := cap) (d := y2.1) (p := y2.2) ⟨k', by simpa [Value.cells] using h2⟩
  obtain ⟨t, ht⟩ := open_nums (a := a') (n := m) (cap := cap') (d := y3.1) (p := y3.2) ⟨k', by simpa [Value.cells] using h3⟩
  exact ⟨now, shift, a, n, cap, f, a', m, cap', t, rfl, hf2, ht⟩
end Go.Proofs.YtlmcblcijndipabGreatDoor
