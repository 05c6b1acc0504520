/- Texts of the proof, one behind another: Open. -/
import Derived.Test.YtlmcblcijndipabGreatM14
import Derived.Deep.Slices
/- What comes in, opened: a move by value, moves in a slice. -/
namespace Go.Proofs.YtlmcblcijndipabGreat
open Go.ChangeShapes Go.WideShapes Go.RowKit Go.Deep

theorem cells_laws : Tryz.prog.cellsOf 45 = 6 := by kernel_rfl
theorem cells_string : Tryz.prog.cellsOf 9 = 1 := by kernel_rfl
theorem cells_bool : Tryz.prog.cellsOf 4 = 1 := by kernel_rfl
theorem cells_int : Tryz.prog.cellsOf 3 = 1 := by kernel_rfl

section
variable {H : Type} {enc : TypeId × Value → H} {w : World} {base : Nat} {spare : Nat → Bool} {held : Bool}

set_option maxRecDepth 100000 in
theorem trod_move {n : Nat} {cs : List Value} {x : DataW H × List MemPlace} (h : DataW.trod enc Tryz.prog w base spare held n 45 cs = some x) :
    ∃ m : Mv, m.Fits ∧ cs = m.cells.toList := by
  obtain ⟨xs, k, _, rfl, hl, hlen, hf⟩ := DataW.trod_struct Tryz.underlying45 h
  rw [cells_laws] at hl
  match cs, hl with
  | [c0, c1, c2, c3, c4, c5], _ =>
  match xs, hlen with
  | [y0, y1, y2, y3, y4, y5], _ =>
  have h0 := hf 0 _ rfl
  have h1 := hf 1 _ rfl
  have h2 := hf 2 _ rfl
  have h3 := hf 3 _ rfl
  have h4 := hf 4 _ rfl
  have h5 := hf 5 _ rfl
  simp [cells_string, cells_bool, cells_int] at h0 h1 h2 h3 h4 h5
  obtain ⟨s, e0, _, hs⟩ := DataW.trod_string Tryz.underlying9 h0
  obtain ⟨l, e1, _⟩ := DataW.trod_bool Tryz.underlying4 h1
  obtain ⟨a, e2, _, ha⟩ := DataW.trod_int Tryz.underlying3 h2
  obtain ⟨b, e3, _, hb⟩ := DataW.trod_int Tryz.underlying3 h3
  obtain ⟨c, e4, _, hc⟩ := DataW.trod_int Tryz.underlying3 h4
  obtain ⟨d, e5, _, hd⟩ := DataW.trod_int Tryz.underlying3 h5
  simp at e0 e1 e2 e3 e4 e5
  subst e0 e1 e2 e3 e4 e5
  exact ⟨⟨s, l, a, b, c, d⟩, ⟨hs, ha, hb, hc, hd⟩, rfl⟩

set_option maxRecDepth 100000 in
theorem open_move {v : Value} {d : DataW H} {p : List MemPlace} {r : Reach} {b0 : Nat} (hv : Value.okWide Tryz.prog w r b0 45 v) (h : DataW.Trod enc Tryz.prog w base spare held 45 v d p) :
    ∃ m : Mv, m.Fits ∧ v = .agg m.cells := by
  obtain ⟨cs, rfl, hsz⟩ := okWide_struct Tryz.underlying45 hv
  obtain ⟨n, hn⟩ := h
  obtain ⟨m, hm, he⟩ := trod_move hn
  refine ⟨m, hm, ?_⟩
  simp only [Value.cells] at he
  congr 1
  exact Array.toList_inj.mp he

end
end Go.Proofs.YtlmcblcijndipabGreat
