/- A move spoilt. -/
import Derived.Test.YtlmcblcijndipaaD3
import Derived.Deep.RegionWith
import Derived.Deep.RegionHeld3
namespace Go.Proofs.Ytlmcblcijndipaa
open Go.RowKit
set_option linter.unusedVariables false

/-- a move whose fields fit, whatever they say -/
structure Fitting (m : Mv) : Prop where
  name : m.name.size ≤ 8
  wake : -9223372036854775808 ≤ m.wake ∧ m.wake ≤ 9223372036854775807
  est : -9223372036854775808 ≤ m.est ∧ m.est ≤ 9223372036854775807
  late : -9223372036854775808 ≤ m.late ∧ m.late ≤ 9223372036854775807
  prom : -9223372036854775808 ≤ m.prom ∧ m.prom ≤ 9223372036854775807
theorem Good.fitting {m : Mv} (h : Good m) : Fitting m := by
  obtain ⟨h1, h2, h3, h4⟩ := h
  exact ⟨h1, by omega, by omega, by omega, by omega⟩

theorem St.to {R Br Bm n₀ : Nat} {w W W' : World} {m : Mv} {q q' : Int} (h : St R Br Bm n₀ w m q W) (hr : R < w.heap.size) (h1 : w.heap.size ≤ Br) (h2 : w.heap.size ≤ Bm) (hRd : Rd W' R q') (hb : But R W W') (hB : Below n₀ W W') : St R Br Bm n₀ w m q' W' := by
  have hs := h.below.size
  obtain ⟨m0, hm0⟩ := h.res
  exact ⟨h.mv.but hb (by omega), ⟨m0, hm0.but hb (by omega)⟩, hRd, fun k hk hne => (hb.block k (by omega) hne).trans (h.but k hk hne), h.below.trans hB⟩
theorem St.alloc {R Br Bm n₀ : Nat} {w W : World} {m : Mv} {q : Int} (h : St R Br Bm n₀ w m q W) (hr : R < w.heap.size) (h0 : n₀ ≤ R) (h1 : w.heap.size ≤ Br) (h2 : w.heap.size ≤ Bm) (o : Obj) : St R Br Bm n₀ w m q (W.alloc o) := by
  have hb : Below W.heap.size W (W.alloc o) := (Below.refl _ _).alloc (Nat.le_refl _) _
  exact h.to hr h1 h2 (h.rd.below hb) (But.of hb) (hb.mono (by have := h.rd.lt; omega))
/-- a field turned -/
theorem St.turn {R Br Bm n₀ : Nat} {w W : World} {m m' : Mv} {q : Int} (h : St R Br Bm n₀ w m q W) (hr : R < w.heap.size) (h0 : n₀ ≤ R) (h1 : w.heap.size ≤ Br) (h2 : w.heap.size ≤ Bm) (hne : Br ≠ Bm) (k : Nat) (v : Value) (hv : MvOwn (W.setCell ⟨Bm, k, none⟩ v) Bm m') : St R Br Bm n₀ w m' q (W.setCell ⟨Bm, k, none⟩ v) := by
  obtain ⟨m0, hm0⟩ := h.res
  exact ⟨hv, ⟨m0, (Below.heap_setCell W _ _ Br (by simpa using hne)).trans hm0⟩, h.rd.set (by omega) _ _, fun k hk hne => (Below.heap_setCell W _ _ k (by simp; omega)).trans (h.but k hk hne), h.below.setCell (by simp; omega) _⟩
theorem MvOwn.name {W : World} {b : Nat} {m : Mv} (h : MvOwn W b m) (x : ByteArray) : MvOwn (W.setCell ⟨b, 0, none⟩ (.string x)) b { m with name := x } := by
  have := heap_setCell_same W b 0 _ _ (.string x) h
  simpa [MvOwn] using this
theorem MvOwn.wake {W : World} {b : Nat} {m : Mv} (h : MvOwn W b m) (x : Int) : MvOwn (W.setCell ⟨b, 2, none⟩ (.int .i64 x)) b { m with wake := x } := by
  have := heap_setCell_same W b 2 _ _ (.int .i64 x) h
  simpa [MvOwn] using this
theorem MvOwn.est {W : World} {b : Nat} {m : Mv} (h : MvOwn W b m) (x : Int) : MvOwn (W.setCell ⟨b, 3, none⟩ (.int .i64 x)) b { m with est := x } := by
  have := heap_setCell_same W b 3 _ _ (.int .i64 x) h
  simpa [MvOwn] using this
theorem MvOwn.late {W : World} {b : Nat} {m : Mv} (h : MvOwn W b m) (x : Int) : MvOwn (W.setCell ⟨b, 4, none⟩ (.int .i64 x)) b { m with late := x } := by
  have := heap_setCell_same W b 4 _ _ (.int .i64 x) h
  simpa [MvOwn] using this
theorem MvOwn.prom {W : World} {b : Nat} {m : Mv} (h : MvOwn W b m) (x : Int) : MvOwn (W.setCell ⟨b, 5, none⟩ (.int .i64 x)) b { m with prom := x } := by
  have := heap_setCell_same W b 5 _ _ (.int .i64 x) h
  simpa [MvOwn] using this

theorem at3 (a b c : Int) (k : Nat) (hk : k < 3) : ∃ v : Int, (#[.int .i64 a, .int .i64 b, .int .i64 c] : Array Value)[k]? = some (.int .i64 v) ∧ (v = a ∨ v = b ∨ v = c) := by
  match k, hk with
  | 0, _ => exact ⟨a, rfl, .inl rfl⟩
  | 1, _ => exact ⟨b, rfl, .inr (.inl rfl)⟩
  | 2, _ => exact ⟨c, rfl, .inr (.inr rfl)⟩

theorem at4 (a b c d : Int) (k : Nat) (hk : k < 4) : ∃ v : Int, (#[.int .i64 a, .int .i64 b, .int .i64 c, .int .i64 d] : Array Value)[k]? = some (.int .i64 v) ∧ (v = a ∨ v = b ∨ v = c ∨ v = d) := by
  match k, hk with
  | 0, _ => exact ⟨a, rfl, .inl rfl⟩
  | 1, _ => exact ⟨b, rfl, .inr (.inl rfl)⟩
  | 2, _ => exact ⟨c, rfl, .inr (.inr (.inl rfl))⟩
  | 3, _ => exact ⟨d, rfl, .inr (.inr (.inr rfl))⟩

theorem at5 (a b c d e : Int) (k : Nat) (hk : k < 5) : ∃ v : Int, (#[.int .i64 a, .int .i64 b, .int .i64 c, .int .i64 d, .int .i64 e] : Array Value)[k]? = some (.int .i64 v) ∧ (v = a ∨ v = b ∨ v = c ∨ v = d ∨ v = e) := by
  match k, hk with
  | 0, _ => exact ⟨a, rfl, .inl rfl⟩
  | 1, _ => exact ⟨b, rfl, .inr (.inl rfl)⟩
  | 2, _ => exact ⟨c, rfl, .inr (.inr (.inl rfl))⟩
  | 3, _ => exact ⟨d, rfl, .inr (.inr (.inr (.inl rfl)))⟩
  | 4, _ => exact ⟨e, rfl, .inr (.inr (.inr (.inr rfl)))⟩

/-- one of four names -/
theorem of_any (R : Nat) (p : Int) (b : Nat) (f : Nat → ByteArray) (w : World) (n₀ : Nat) (h0 : n₀ ≤ R) (hr : Rd w R p) (hp : p ≤ 1000000) (hbR : b ≠ R) (hb : b < w.heap.size) (hf : ∀ i, i < 4 → w.cell? ⟨b, i, none⟩ = some (.string (f i))) :
    Calls Try.prog 69 #[.pointer (some ⟨R, 0, none⟩), .slice (some ⟨b, 0, none⟩) 4 4] w fun e w' => (∃ i, i < 4 ∧ e = .returned (.string (f i))) ∧ Rd w' R (p + 1) ∧ But R w w' ∧ Below n₀ w w' := by
  have H1 := pick_any R p 4 w n₀ h0 hr (by omega) (by omega) (by omega)
  go_enter Try.func69, Try.ntmps69
  go_wp2_with (go_at_call 30; refine H1.mono ?_; clear H1; rintro e w1 ⟨⟨z, rfl, l1, u1⟩, r1, t1, b1⟩; obtain ⟨k, rfl⟩ : ∃ k : Nat, z = (k : Int) := ⟨z.toNat, (by omega)⟩; have hc : w1.cell? ⟨b, k, none⟩ = some (.string (f k)) := (cell_but t1 hb hbR).trans (hf k (by omega)))
  go_ret
  exact ⟨⟨k, by omega, rfl⟩, r1, t1, b1⟩

/-- an operation of a region that draws its order is taken first, its slot said -/
theorem take_at {P : Program} {md : Region.Mode} {ops : Array Oper} {Q : Exit → Act → World → Prop} {S : World → Prop} {i : Nat} {oi : Oper} {v : Value} {fuel : Nat} {listed : Array Bool} {a : Act} {w : World} (d : Nat) (hi : ops[i]? = some oi) (hd : oi.dst = some d)
    (hs : Region.noSelect ops = true) (hf : Region.free md ops listed i = true) (hr : (Region.ready md ops listed).contains i = true)
    (hQ : ∀ c a w, Q (.panic c) (a.put (some d) v) w → Q (.panic c) a w) (hy : YieldsIf P ops S oi v a) (hS : S w)
    (h : wpAnyH P md ops Q S fuel (listed.setIfInBounds i true) (a.put (some d) v) w) : wpAnyH P md ops Q S (fuel + 1) listed a w :=
  wpAnyH_take hi hs hf hr (by rw [hd]; exact hQ) hy hS (by rw [hd]; exact h)

/-- four names -/
def fourN : Nat → ByteArray
  | 0 => ⟨#[]⟩
  | 1 => ⟨#[65]⟩
  | 2 => ⟨#[122, 122]⟩
  | _ => ⟨#[97, 49]⟩
theorem four_size (k : Nat) : (fourN k).size ≤ 8 := by
  match k with
  | 0 => decide
  | 1 => decide
  | 2 => decide
  | _ + 3 => exact (by decide : (⟨#[97, 49]⟩ : ByteArray).size ≤ 8)
theorem four_at (W : World) : ∀ i, i < 4 → (W.alloc (.cells #[.string ⟨#[]⟩, .string ⟨#[65]⟩, .string ⟨#[122, 122]⟩, .string ⟨#[97, 49]⟩] 9)).cell? ⟨W.heap.size, i, none⟩ = some (.string (fourN i)) := fun i hi => by
  rw [World.cell?_alloc_at _ _ _ _ rfl]
  match i, hi with
  | 0, _ => rfl
  | 1, _ => rfl
  | 2, _ => rfl
  | 3, _ => rfl
end Go.Proofs.Ytlmcblcijndipaa
