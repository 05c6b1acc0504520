/- Texts of the proof, one behind another: AP. -/
import Derived.Below
import Derived.Laws.AppendOwn
namespace Go.Proofs.YtlmcblcijndipabGreat
open Go Go.RowKit
set_option linter.unusedVariables false
def PlainRow (w : World) (b : Nat) : Prop := ∃ cs e, w.heap[b]? = some (.cells cs e (0, 0)) ∧ ∀ v ∈ cs, (∃ x, v = .bool x) ∨ (∃ k x, v = .int k x) ∨ ∃ s, v = .string s
def PlainV (v : Value) : Prop := (∃ x, v = .bool x) ∨ (∃ k x, v = .int k x) ∨ ∃ s, v = .string s
def AllPl (w : World) (v : Value) : Prop := ∀ B, v.ownBlock = some B → PlainRow w B
theorem PlainRow.same {w w' : World} {b : Nat} (h : PlainRow w b) (e : w'.heap[b]? = w.heap[b]?) : PlainRow w' b := by obtain ⟨cs, t, h1, h2⟩ := h; exact ⟨cs, t, e.trans h1, h2⟩
theorem PlainRow.lt {w : World} {b : Nat} (h : PlainRow w b) : b < w.heap.size := by obtain ⟨cs, t, h1, h2⟩ := h; exact (Array.getElem?_eq_some_iff.1 h1).1
theorem PlainRow.set {w : World} {b j : Nat} {v : Value} (h : PlainRow w b) (hv : PlainV v) : PlainRow (w.setCell ⟨b, j, none⟩ v) b := by
  obtain ⟨cs, t, h1, h2⟩ := h
  refine ⟨cs.setIfInBounds j v, t, heap_setCell_same _ _ j _ _ v h1, fun u hu => ?_⟩
  rcases Array.mem_or_eq_of_mem_setIfInBounds hu with h | h
  · exact h2 u h
  · rw [h]; exact hv
theorem zero_mem {z : Array Value} {n : Nat} {u : Value} (h : u ∈ Builtin.zeroCells z n) : u ∈ z := by
  unfold Builtin.zeroCells at h
  obtain ⟨i, hi, rfl⟩ := Array.mem_map.1 h
  have hz : 0 < z.size := by
    rcases Nat.eq_zero_or_pos z.size with h0 | h0
    · rw [h0] at hi; simp at hi
    · exact h0
  have hlt := Nat.mod_lt i hz
  rw [getElem!_pos z (i % z.size) hlt]
  exact Array.getElem_mem hlt
section
variable {P : Program} {w : World}
theorem run_append_pl (base : Nat) (t ty e : TypeId) (i : TypeInfo) (z : Value) (size bytes : Nat) (ht : P.underlying t = some (.slice e)) (hi : P.info? e = some i) (hz : i.zero = some z) (hsize : i.size = size) (hby : i.bytes = bytes) (hzs : z.cells.size = size)
    (v : Value) (n : Nat) (xs : List Value) (hown : w.ownsRow base e size v n xs) (hpl : AllPl w v)
    (a : Addr) (m c : Nat) (news : List Value) (hl : news.length = m * size) (hnews : ∀ j u, news[j]? = some u → w.cell? (a.add j) = some u) (h1 : ∀ u ∈ news, u.oneCell' = true) (hnp : ∀ u ∈ news, PlainV u) (hzp : ∀ u ∈ z.cells, PlainV u)
    (h63 : n + m ≤ maxLen) (hbytes : (n + m) * bytes ≤ 140737488355328) {v' : Value} {w' : World} (hr : (Builtin.append_ #[t, t] ty #[v, .slice (some a) m c]).run P w = .ok v' w') : AllPl w' v' := by
  subst hsize hby
  have hsmall : n + m ≤ 9223372036854775807 := by simp only [maxLen] at h63; omega
  have fresh : ∀ (cs : Array Value) (k l : Nat), (∀ u ∈ cs, PlainV u) → AllPl (w.drew.alloc (.cells cs e)) (.slice (some ⟨w.heap.size, 0, none⟩) k l) := fun cs k l h B hB => by
    simp only [Value.ownBlock, Option.some.injEq] at hB
    subst hB
    exact ⟨cs, e, heap_alloc_new w.drew _, h⟩
  rcases hown.2 with ⟨rfl, rfl⟩ | ⟨g, cap, cur, rfl, hbg, hg, hnc, hcm, hcs, htake⟩
  · by_cases hm : m = 0
    · subst hm
      have hn : news = [] := List.eq_nil_of_length_eq_zero (by simpa using hl)
      subst hn
      have hr' : (Builtin.append_ #[t, t] ty #[.slice none 0 0, .slice (some a) 0 c]).run P w = .ok (.slice none 0 0) w := by
        simp [Builtin.append_, run_underlying ht, sizeOf, typeInfo, hi, Builtin.lenOf, Builtin.firstCells, loadCells, loadCellsFrom]
      rw [hr'] at hr
      simp only [Result.ok.injEq] at hr
      obtain ⟨rfl, rfl⟩ := hr
      exact fun B hB => by cases hB
    · rw [run_append_nil (P := P) w t ty e i z ht hi hz a m c news hl hnews (by omega) (by omega) (by have hb := hbytes; simp only [Nat.zero_add] at hb; omega)] at hr
      simp only [Result.ok.injEq] at hr
      obtain ⟨rfl, rfl⟩ := hr
      refine fresh _ _ _ fun u hu => ?_
      rcases Array.mem_append.1 hu with h | h
      · exact hnp u (by simpa using h)
      · exact hzp u (zero_mem h)
  · obtain ⟨cs0, e0, k1, k2⟩ := hpl g rfl
    have hcur : ∀ u ∈ cur, PlainV u := by
      rw [hg] at k1
      simp only [Option.some.injEq, Obj.cells.injEq] at k1
      obtain ⟨rfl, _⟩ := k1
      exact k2
    by_cases hroom : n + m ≤ cap
    · have hfit : n * i.size + news.length ≤ cur.size := by rw [hl, hcs, ← Nat.add_mul]; exact Nat.mul_le_mul_right _ hroom
      rw [run_append_room (P := P) w t ty e i ht hi g n cap cur hg a m c news hl hnews h1 hroom hfit] at hr
      simp only [Result.ok.injEq] at hr
      obtain ⟨rfl, rfl⟩ := hr
      intro B hB
      simp only [Value.ownBlock, Option.some.injEq] at hB
      subst hB
      refine ⟨_, e, setRow_heap w g cur _ e _ hg, fun u hu => ?_⟩
      have hu : u ∈ cur.toList.take (n * i.size) ++ news ++ cur.toList.drop (n * i.size + news.length) := by simpa using hu
      rcases List.mem_append.1 hu with hu | hu
      · rcases List.mem_append.1 hu with hu | hu
        · exact hcur u (by simpa using List.mem_of_mem_take hu)
        · exact hnp u hu
      · exact hcur u (by simpa using List.mem_of_mem_drop hu)
    · have holds : ∀ j u, xs[j]? = some u → w.cell? ((⟨g, 0, none⟩ : Addr).add j) = some u := hown.cells (g := g) rfl
      rw [run_append_grow (P := P) w t ty e i z ht hi hz ⟨g, 0, none⟩ n cap xs hown.1 holds a m c news hl hnews (by omega) (by omega) (growslice_fits (by omega) hbytes)] at hr
      simp only [Result.ok.injEq] at hr
      obtain ⟨rfl, rfl⟩ := hr
      refine fresh _ _ _ fun u hu => ?_
      rcases Array.mem_append.1 hu with h | h
      · rcases Array.mem_append.1 h with h | h
        · have h : u ∈ xs := by simpa using h
          rw [← htake] at h
          exact hcur u (by simpa using List.mem_of_mem_take h)
        · exact hnp u (by simpa using h)
      · exact hzp u (zero_mem h)
theorem wpList_append_pl {ops : Array Oper} {rest : List Oper} {o : Oper} {a : Act} {Q : Exit → Act → World → Prop} (hgd : o.guard = none) (s x : Operand) (t : TypeId)
    (ho : o.op = .call { callee := .builtin .append, args := #[s, x], argTypes := #[t, t] })
    (base : Nat) (e : TypeId) (i : TypeInfo) (z : Value) (size bytes : Nat) (ht : P.underlying t = some (.slice e)) (hi : P.info? e = some i) (hz : i.zero = some z) (hsize : i.size = size) (hby : i.bytes = bytes) (hzs : z.cells.size = size) (hsz : 0 < size)
    (v : Value) (n : Nat) (xs : List Value) (hs : a.eval s = v) (hown : w.ownsRow base e size v n xs) (hpl : AllPl w v)
    (ad : Addr) (m c : Nat) (news : List Value) (hx : a.eval x = .slice (some ad) m c) (hl : news.length = m * size) (hnews : ∀ j u, news[j]? = some u → w.cell? (ad.add j) = some u) (h1 : ∀ u ∈ news, u.oneCell' = true) (hnp : ∀ u ∈ news, PlainV u) (hzp : ∀ u ∈ z.cells, PlainV u)
    (h63 : n + m ≤ maxLen) (hbytes : (n + m) * bytes ≤ 140737488355328) (hbase : base ≤ w.heap.size)
    (h : ∀ v' w', w'.ownsRow base e size v' (n + m) (xs ++ news) → w.grownBy w' v.ownBlock → AllPl w' v' → wpList P ops Q rest (a.put o.dst v') w') : wpList P ops Q (o :: rest) a w := by
  refine wpList_plain hgd fun K hK => ?_
  obtain ⟨v', w', hr, h2, h3, h4⟩ := run_append_own (P := P) w base t o.type e i z size bytes ht hi hz hsize hby hzs hsz v n xs hown ad m c news hl hnews h1 h63 hbytes hbase
  have h5 := run_append_pl base t o.type e i z size bytes ht hi hz hsize hby hzs v n xs hown hpl ad m c news hl hnews h1 hnp hzp h63 hbytes hr
  unfold Oper.wp execOp
  simp only [ho, resolve, invoke, builtin, Sem.run_bind, Sem.run_pure, Result.andThen_ok, List.map_toArray, List.map_cons, List.map_nil, hs, hx, hr]
  exact hK _ _ (h v' w' h2 h3 h5)
end
end Go.Proofs.YtlmcblcijndipabGreat
