/- Rows that grow by appending; who goes and who stays when a tick passes. -/
import Derived.Test.YtlmcblcijndipabGreatDoorT6
import Derived.Deep.RegionHeld3
import Derived.Deep.RegionLaw
import Derived.Deep.Slices
namespace Go.Proofs.YtlmcblcijndipabGreatDoor
open Go.RowKit
set_option linter.unusedVariables false

/-- the cells of n moves in a row -/
def mcells (f : Nat → Mv) (n : Nat) : List Value := (List.range n).flatMap fun j => (f j).cells.toList
theorem mcells_len (f : Nat → Mv) : ∀ n, (mcells f n).length = n * 6
  | 0 => rfl
  | n + 1 => by
    have := mcells_len f n
    unfold mcells at this ⊢
    rw [List.range_succ, List.flatMap_append, List.length_append, this]
    simp [Nat.add_mul]
theorem mcells_succ (f : Nat → Mv) (n : Nat) : mcells f (n + 1) = mcells f n ++ (f n).cells.toList := by
  unfold mcells; rw [List.range_succ, List.flatMap_append]; simp
theorem mcells_congr {f g : Nat → Mv} : ∀ {n : Nat}, (∀ j, j < n → f j = g j) → mcells f n = mcells g n
  | 0, _ => rfl
  | n + 1, h => by rw [mcells_succ, mcells_succ, mcells_congr (fun j hj => h j (by omega)), h n (by omega)]
theorem mcells_get (f : Nat → Mv) : ∀ n i k, i < n → k < 6 → (mcells f n)[i * 6 + k]? = (f i).cells.toList[k]?
  | 0, i, k, hi, _ => absurd hi (Nat.not_lt_zero _)
  | n + 1, i, k, hi, hk => by
    rw [mcells_succ]
    by_cases e : i = n
    · subst e
      rw [List.getElem?_append_right (by rw [mcells_len]; omega), mcells_len]
      congr 1; omega
    · rw [List.getElem?_append_left (by rw [mcells_len]; omega)]
      exact mcells_get f n i k (by omega) hk
/-- a row of moves of one's own reads as moves -/
theorem own_row {w : World} {base B n c : Nat} {T : TypeId} {f : Nat → Mv} (h : w.ownsRow base T 6 (.slice (some ⟨B, 0, none⟩) n c) n (mcells f n)) : MvRow w B 0 n f := by
  intro i hi
  have q : ∀ k, k < 6 → w.cell? ⟨B, 0 + i * 6 + k, none⟩ = (f i).cells.toList[k]? := fun k hk => by
    rw [Nat.zero_add, h.cellAt (i * 6 + k) (by omega)]; exact mcells_get f n i k hi hk
  exact ⟨q 0 (by omega), q 1 (by omega), q 2 (by omega), q 3 (by omega), q 4 (by omega), q 5 (by omega)⟩
/-- a move in a block of one's own -/
def MvOwn (w : World) (b : Nat) (m : Mv) : Prop := w.heap[b]? = some (.cells #[.string m.name, .bool m.lands, .int .i64 m.wake, .int .i64 m.est, .int .i64 m.late, .int .i64 m.prom] 36 (0, 0))
theorem MvOwn.at_ {w : World} {b : Nat} {m : Mv} (h : MvOwn w b m) : MvAt w b 0 m := by
  constructor <;> (rw [cell_of_row _ _ _ _ _ _ h]; rfl)
theorem MvOwn.frozen {w : World} {b : Nat} {m : Mv} (h : MvOwn w b m) (j : Nat) : w.frozen? ⟨b, j, none⟩ = false := frozen_of_row w _ j _ _ h
theorem info_mv : (Tryz.prog.info? 36).map (fun i => (i.zero, i.size, i.bytes)) = some (some (.agg #[.string ByteArray.empty, .bool false, .int .i64 0, .int .i64 0, .int .i64 0, .int .i64 0]), 6, 56) := by kernel_rfl
theorem own_mv {W : World} {b : Nat} {m : Mv} (h : MvOwn W b m) : ∀ (j : Nat) (u : Value), m.cells.toList[j]? = some u → W.cell? ((⟨b, 0, none⟩ : Addr).add j) = some u := fun j u hu => by
  have e : (⟨b, 0, none⟩ : Addr).add j = ⟨b, j, none⟩ := by simp [Addr.add]; omega
  rw [e, cell_of_row _ _ _ _ _ _ h]; simpa using hu
theorem one_mv (m : Mv) : ∀ u ∈ m.cells.toList, u.oneCell' = true := fun u hu => by
  simp at hu; rcases hu with rfl | rfl | rfl | rfl | rfl | rfl <;> rfl
theorem own_below {w w' : World} {base : Nat} {e : TypeId} {size g n cap : Nat} {xs : List Value} (h : w.ownsRow base e size (.slice (some ⟨g, 0, none⟩) n cap) n xs) (hb : Below w.heap.size w w') : w'.ownsRow base e size (.slice (some ⟨g, 0, none⟩) n cap) n xs := by
  obtain ⟨h1, h2 | ⟨g', cap', cur, h2, h3, h4, h5⟩⟩ := h
  · exact absurd h2.1 (by simp)
  · exact ⟨h1, .inr ⟨g', cap', cur, h2, h3, (hb.block g' (Array.getElem?_eq_some_iff.1 h4).1).trans h4, h5⟩⟩
theorem own_empty {w : World} {base g : Nat} {e : TypeId} (hg : base ≤ g) (h : w.heap[g]? = some (.cells #[] e (0, 0))) : w.ownsRow base e 1 (.slice (some ⟨g, 0, none⟩) 0 0) 0 [] :=
  ⟨rfl, .inr ⟨g, 0, #[], rfl, hg, h, Nat.le_refl _, Nat.zero_le _, rfl, rfl⟩⟩
theorem own_lt {w : World} {base : Nat} {e : TypeId} {size g n cap : Nat} {xs : List Value} (h : w.ownsRow base e size (.slice (some ⟨g, 0, none⟩) n cap) n xs) : g < w.heap.size ∧ n ≤ cap := by
  obtain ⟨h1, h2 | ⟨g', cap', cur, h2, h3, h4, h5⟩⟩ := h
  · exact absurd h2.1 (by simp)
  · simp at h2
    obtain ⟨rfl, rfl⟩ := h2
    exact ⟨(Array.getElem?_eq_some_iff.1 h4).1, h5.1⟩

theorem addr_add (B o j : Nat) : (⟨B, o, none⟩ : Addr).add j = ⟨B, o + j, none⟩ := by unfold Addr.add; split <;> simp_all
theorem one_cell {W : World} {blk : Nat} {v : Value} {T : TypeId} (h : W.heap[blk]? = some (.cells #[v] T (0, 0))) : ∀ (j : Nat) (u : Value), [v][j]? = some u → W.cell? ((⟨blk, 0, none⟩ : Addr).add j) = some u := fun j u hu => by
  match j, hu with
  | 0, hu => rw [addr_add, cell_of_row _ _ _ _ _ _ h]; simpa using hu
theorem own_base {w : World} {base base' : Nat} {e : TypeId} {size : Nat} {v : Value} {n : Nat} {xs : List Value} (h : w.ownsRow base e size v n xs) (hb : base' ≤ base) : w.ownsRow base' e size v n xs := by
  obtain ⟨h1, h2 | ⟨g, cap, cur, h2, h3, h4⟩⟩ := h
  · exact ⟨h1, .inl h2⟩
  · exact ⟨h1, .inr ⟨g, cap, cur, h2, Nat.le_trans hb h3, h4⟩⟩
theorem own_block {w : World} {base : Nat} {e : TypeId} {size : Nat} {v : Value} {n : Nat} {xs : List Value} (h : w.ownsRow base e size v n xs) (r : Nat) (hr : v.ownBlock = some r) : base ≤ r := by
  obtain ⟨h1, h2 | ⟨g, cap, cur, h2, h3, h4⟩⟩ := h
  · rw [h2.1] at hr; cases hr
  · rw [h2] at hr; simp [Value.ownBlock] at hr; omega
theorem own_succ {w : World} {base : Nat} {e : TypeId} {size : Nat} {v : Value} {n : Nat} {xs : List Value} (h : w.ownsRow base e size v (n + 1) xs) : ∃ B c, v = .slice (some ⟨B, 0, none⟩) (n + 1) c := by
  obtain ⟨h1, h2 | ⟨g, cap, cur, h2, h3, h4⟩⟩ := h
  · omega
  · exact ⟨g, cap, h2⟩

/-- an append onto a slice of one's own, as one step of a region that draws its order -/
theorem step_append_own {P : Program} {ops : Array Oper} {o : Oper} {a : Act} {w : World} {K : Act → World → Prop} {Q : Exit → Act → World → Prop} {E : Prop}
    (hg : o.guard = none) (s x : Operand) (t : TypeId) (hop : o.op = Op.call { callee := Callee.builtin Builtin.append, args := #[s, x], argTypes := #[t, t] })
    (e : TypeId) (i : TypeInfo) (z : Value) (size bytes : Nat) (h1 : P.underlying t = some (.slice e)) (h2 : P.info? e = some i) (h3 : i.zero = some z) (h4 : i.size = size) (h5 : i.bytes = bytes) (h6 : z.cells.size = size) (h7 : 0 < size)
    (base : Nat) (v : Value) (n : Nat) (olds : List Value) (hs : a.eval s = v) (hown : w.ownsRow base e size v n olds)
    (ad : Addr) (m c : Nat) (news : List Value) (hx : a.eval x = .slice (some ad) m c) (hn : news.length = m * size) (hc : ∀ j u, news[j]? = some u → w.cell? (ad.add j) = some u) (h1c : ∀ u ∈ news, u.oneCell' = true)
    (b1 : n + m ≤ maxLen) (b2 : (n + m) * bytes ≤ 140737488355328) (hb : base ≤ w.heap.size)
    (hK : ∀ v' w', w'.ownsRow base e size v' (n + m) (olds ++ news) → w.grownBy w' v.ownBlock → K (a.put o.dst v') w') :
    if Region.wanted o (yielded ops a.tmps) = true then Oper.wp P o a w K Q else E := by
  have hw : Region.wanted o (yielded ops a.tmps) = true := by simp [Region.wanted, hg]
  rw [if_pos hw]
  obtain ⟨v', w', hrun, r1, r2, _⟩ := run_append_own (P := P) w base t o.type e i z size bytes h1 h2 h3 h4 h5 h6 h7 v n olds hown ad m c news hn hc h1c b1 b2 hb
  unfold Oper.wp
  simp [execOp, hop, resolve, invoke, builtin, hs, hx, hrun, Result.andThen]
  exact hK v' w' r1 r2

/-- an operation of a region that draws its order is taken first, its slot said -/
theorem take_at {P : Program} {md : Region.Mode} {ops : Array Oper} {Q : Exit → Act → World → Prop} {S : World → Prop} {i : Nat} {oi : Oper} {v : Value} {fuel : Nat} {listed : Array Bool} {a : Act} {w : World} (d : Nat) (hi : ops[i]? = some oi) (hd : oi.dst = some d)
    (hs : Region.noSelect ops = true) (hf : Region.free md ops listed i = true) (hr : (Region.ready md ops listed).contains i = true)
    (hQ : ∀ c a w, Q (.panic c) (a.put (some d) v) w → Q (.panic c) a w) (hy : YieldsIf P ops S oi v a) (hS : S w)
    (h : wpAnyH P md ops Q S fuel (listed.setIfInBounds i true) (a.put (some d) v) w) : wpAnyH P md ops Q S (fuel + 1) listed a w :=
  wpAnyH_take hi hs hf hr (by rw [hd]; exact hQ) hy hS (by rw [hd]; exact h)


/-! ### who stays and who goes, ahead of place k -/
def stay (now : Int) (t : Nat → Int) : Nat → List Nat
  | 0 => []
  | k + 1 => if t k = now then stay now t k else stay now t k ++ [k]
def gone (now : Int) (t : Nat → Int) : Nat → List Nat
  | 0 => []
  | k + 1 => if t k = now then gone now t k ++ [k] else gone now t k
theorem stay_len (now : Int) (t : Nat → Int) : ∀ k, (stay now t k).length ≤ k
  | 0 => Nat.le_refl _
  | k + 1 => by have := stay_len now t k; simp only [stay]; split <;> simp <;> omega
theorem gone_len (now : Int) (t : Nat → Int) : ∀ k, (gone now t k).length ≤ k
  | 0 => Nat.le_refl _
  | k + 1 => by have := gone_len now t k; simp only [gone]; split <;> simp <;> omega
/-- a move with its tick as promise, where that is near -/
def promMv (m : Mv) (tick now : Int) : Mv := if tick < now + 4 then { m with prom := tick } else m
/-- the cells of those who stay -/
def stayM (f : Nat → Mv) (t : Nat → Int) (now : Int) (l : List Nat) : List Value := l.flatMap fun i => (promMv (f i) (t i) (now + 1)).cells.toList
def stayT (t : Nat → Int) (l : List Nat) : List Value := l.map fun i => .int .i64 (t i)
def goneN (f : Nat → Mv) (l : List Nat) : List Value := l.map fun i => .string (f i).name
theorem stayM_snoc (f : Nat → Mv) (t : Nat → Int) (now : Int) (l : List Nat) (k : Nat) : stayM f t now (l ++ [k]) = stayM f t now l ++ (promMv (f k) (t k) (now + 1)).cells.toList := by simp [stayM]
theorem stayT_snoc (t : Nat → Int) (l : List Nat) (k : Nat) : stayT t (l ++ [k]) = stayT t l ++ [.int .i64 (t k)] := by simp [stayT]
theorem goneN_snoc (f : Nat → Mv) (l : List Nat) (k : Nat) : goneN f (l ++ [k]) = goneN f l ++ [.string (f k).name] := by simp [goneN]
/-- a list by its places -/
def nth (l : List Nat) (j : Nat) : Nat := l.getD j 0
theorem range_nth (l : List Nat) : (List.range l.length).map (nth l) = l := by
  apply List.ext_getElem
  · simp
  · intro i h1 h2
    simp [nth, List.getD_eq_getElem?_getD, List.getElem?_eq_getElem h2]
theorem stayM_cells (f : Nat → Mv) (t : Nat → Int) (now : Int) (l : List Nat) : stayM f t now l = mcells (fun j => promMv (f (nth l j)) (t (nth l j)) (now + 1)) l.length := by
  unfold stayM mcells
  conv => lhs; rw [← range_nth l]
  rw [List.flatMap_map]
theorem stayT_get (t : Nat → Int) (l : List Nat) (j : Nat) (h : j < l.length) : (stayT t l)[j]? = some (.int .i64 (t (nth l j))) := by
  simp [stayT, nth, List.getD_eq_getElem?_getD, List.getElem?_eq_getElem h]
theorem goneN_get (f : Nat → Mv) (l : List Nat) (j : Nat) (h : j < l.length) : (goneN f l)[j]? = some (.string (f (nth l j)).name) := by
  simp [goneN, nth, List.getD_eq_getElem?_getD, List.getElem?_eq_getElem h]

set_option maxHeartbeats 400000 in
theorem promised_any (m : Mv) (tick now : Int) (w : World) (h0 : 0 ≤ now) (h1 : now ≤ 20000) :
    Calls Tryz.prog 131 #[.agg #[.string m.name, .bool m.lands, .int .i64 m.wake, .int .i64 m.est, .int .i64 m.late, .int .i64 m.prom], .int .i64 tick, .int .i64 now] w fun e w' => e = .returned (.agg #[.string (promMv m tick now).name, .bool (promMv m tick now).lands, .int .i64 (promMv m tick now).wake, .int .i64 (promMv m tick now).est, .int .i64 (promMv m tick now).late, .int .i64 (promMv m tick now).prom]) ∧ Below w.heap.size w w' := by
  have hwr : IntKind.i64.wrap (now + 4) = now + 4 := by rw [IntKind.wrap_i64]; omega
  by_cases h : tick < now + 4
  · have HP : Hid (promMv m tick now = { m with prom := tick }) := by have h : promMv m tick now = { m with prom := tick } := by unfold promMv; rw [if_pos h]
                                                                      exact h
    go_enter Tryz.func131, Tryz.ntmps131
    go_wp2
    refine bodyPost_ret (v := .agg #[.string m.name, .bool m.lands, .int .i64 m.wake, .int .i64 m.est, .int .i64 m.late, .int .i64 tick]) (by simp [results, Tryz.results131, go_sem]) rfl ⟨by rw [HP.out], ?_⟩
    repeat (first | exact Below.refl _ _ | refine Below.alloc ?_ (by simp <;> omega) _ | refine Below.setCell ?_ (by simp <;> omega) _)
  · have HP : Hid (promMv m tick now = m) := by have h : promMv m tick now = m := by unfold promMv; rw [if_neg h]
                                                exact h
    go_enter Tryz.func131, Tryz.ntmps131
    go_wp2
    refine bodyPost_ret (v := .agg #[.string m.name, .bool m.lands, .int .i64 m.wake, .int .i64 m.est, .int .i64 m.late, .int .i64 m.prom]) (by simp [results, Tryz.results131, go_sem]) rfl ⟨by rw [HP.out], ?_⟩
    repeat (first | exact Below.refl _ _ | refine Below.alloc ?_ (by simp <;> omega) _ | refine Below.setCell ?_ (by simp <;> omega) _)
end Go.Proofs.YtlmcblcijndipabGreatDoor
