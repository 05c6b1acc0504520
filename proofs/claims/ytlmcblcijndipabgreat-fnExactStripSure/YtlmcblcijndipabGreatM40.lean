/- Texts of the proof, one behind another: MC, CM. -/
import Derived.Test.YtlmcblcijndipabGreatM11
import Derived.Test.YtlmcblcijndipabGreatM15
import Derived.Test.YtlmcblcijndipabGreatM38
namespace Go.Proofs.YtlmcblcijndipabGreat
open Go.RowKit
set_option linter.unusedVariables false
def rowC (f : Nat → Mv) (n : Nat) : List Value := (List.range n).flatMap fun j => (f j).cells.toList
theorem rowC_len (f : Nat → Mv) : ∀ n, (rowC f n).length = n * 6
  | 0 => rfl
  | n + 1 => by
    have := rowC_len f n
    unfold rowC at this ⊢
    rw [List.range_succ, List.flatMap_append, List.length_append, this]
    simp [Nat.add_mul]
theorem rowC_succ (f : Nat → Mv) (n : Nat) : rowC f (n + 1) = rowC f n ++ (f n).cells.toList := by
  unfold rowC; rw [List.range_succ, List.flatMap_append]; simp
theorem rowC_congr {f g : Nat → Mv} : ∀ {n : Nat}, (∀ j, j < n → f j = g j) → rowC f n = rowC g n
  | 0, _ => rfl
  | n + 1, h => by rw [rowC_succ, rowC_succ, rowC_congr (fun j hj => h j (by omega)), h n (by omega)]
theorem rowC_get (f : Nat → Mv) : ∀ n i k, i < n → k < 6 → (rowC f n)[i * 6 + k]? = (f i).cells.toList[k]?
  | 0, i, k, hi, _ => absurd hi (Nat.not_lt_zero _)
  | n + 1, i, k, hi, hk => by
    rw [rowC_succ]
    by_cases e : i = n
    · subst e
      rw [List.getElem?_append_right (by rw [rowC_len]; omega), rowC_len]
      congr 1; omega
    · rw [List.getElem?_append_left (by rw [rowC_len]; omega)]
      exact rowC_get f n i k (by omega) hk
theorem rowC_own {w : World} {base B n c : Nat} {T : TypeId} {f : Nat → Mv} (h : w.ownsRow base T 6 (.slice (some ⟨B, 0, none⟩) n c) n (rowC f n)) : MvRow w B 0 n f := by
  intro i hi
  have q : ∀ k, k < 6 → w.cell? ⟨B, 0 + i * 6 + k, none⟩ = (f i).cells.toList[k]? := fun k hk => by
    rw [Nat.zero_add, h.cellAt (i * 6 + k) (by omega)]; exact rowC_get f n i k hi hk
  exact ⟨q 0 (by omega), q 1 (by omega), q 2 (by omega), q 3 (by omega), q 4 (by omega), q 5 (by omega)⟩
theorem infoC_mv : (Tryz0.prog.info? 48).map (fun i => (i.zero, i.size, i.bytes)) = some (some (.agg #[.string ByteArray.empty, .bool false, .int .i64 0, .int .i64 0, .int .i64 0, .int .i64 0]), 6, 56) := by kernel_rfl
theorem oneC_mv (m : Mv) : ∀ u ∈ m.cells.toList, u.oneCell' = true := fun u hu => by
  simp at hu; rcases hu with rfl | rfl | rfl | rfl | rfl | rfl <;> rfl
theorem plainC_mv (m : Mv) : ∀ u ∈ m.cells.toList, PlainV u := fun u hu => by
  simp at hu
  rcases hu with rfl | rfl | rfl | rfl | rfl | rfl <;> first | exact .inl ⟨_, rfl⟩ | exact .inr (.inl ⟨_, _, rfl⟩) | exact .inr (.inr ⟨_, rfl⟩)
theorem plainC_zero : ∀ u ∈ (Value.agg #[.string ByteArray.empty, .bool false, .int .i64 0, .int .i64 0, .int .i64 0, .int .i64 0]).cells, PlainV u := fun u hu => by
  simp [Value.cells] at hu
  rcases hu with rfl | rfl | rfl <;> first | exact .inl ⟨_, rfl⟩ | exact .inr (.inl ⟨_, _, rfl⟩) | exact .inr (.inr ⟨_, rfl⟩)
theorem addC_add (B o j : Nat) : (⟨B, o, none⟩ : Addr).add j = ⟨B, o + j, none⟩ := by unfold Addr.add; split <;> simp_all
theorem rowC_cells {w : World} {b off n : Nat} {f : Nat → Mv} (h : MvRow w b off n f) : ∀ (j : Nat) (u : Value), (rowC f n)[j]? = some u → w.cell? ((⟨b, off, none⟩ : Addr).add j) = some u := fun j u hu => by
  have hj : j < n * 6 := by rcases Nat.lt_or_ge j (n * 6) with h | h; exact h; rw [List.getElem?_eq_none (by rw [rowC_len]; exact h)] at hu; cases hu
  have e : j = j / 6 * 6 + j % 6 := by omega
  obtain ⟨c0, c1, c2, c3, c4, c5⟩ := h (j / 6) (by omega)
  rw [e, rowC_get f n (j / 6) (j % 6) (by omega) (by omega)] at hu
  rw [addC_add]
  have k : j % 6 = 0 ∨ j % 6 = 1 ∨ j % 6 = 2 ∨ j % 6 = 3 ∨ j % 6 = 4 ∨ j % 6 = 5 := by omega
  rcases k with k | k | k | k | k | k <;> rw [k] at hu <;> simp at hu <;> subst hu
  · rw [← c0]; congr 2; omega
  · rw [← c1]; congr 2; omega
  · rw [← c2]; congr 2; omega
  · rw [← c3]; congr 2; omega
  · rw [← c4]; congr 2; omega
  · rw [← c5]; congr 2; omega
theorem rowC_mem {f : Nat → Mv} {n : Nat} {u : Value} (h : u ∈ rowC f n) : ∃ i, i < n ∧ u ∈ (f i).cells.toList := by
  unfold rowC at h
  obtain ⟨i, hi, hu⟩ := List.mem_flatMap.1 h
  exact ⟨i, by simpa using hi, hu⟩
theorem rowC_one (f : Nat → Mv) (n : Nat) : ∀ u ∈ rowC f n, u.oneCell' = true := fun u hu => by obtain ⟨i, _, h⟩ := rowC_mem hu; exact oneC_mv _ u h
theorem rowC_plain (f : Nat → Mv) (n : Nat) : ∀ u ∈ rowC f n, PlainV u := fun u hu => by obtain ⟨i, _, h⟩ := rowC_mem hu; exact plainC_mv _ u h
theorem infoC_ex : ∃ i, Tryz0.prog.info? 48 = some i ∧ i.zero = some (.agg #[.string ByteArray.empty, .bool false, .int .i64 0, .int .i64 0, .int .i64 0, .int .i64 0]) ∧ i.size = 6 ∧ i.bytes = 56 := by
  have h := infoC_mv
  cases hI : Tryz0.prog.info? 48 with
  | none => rw [hI] at h; simp at h
  | some i => rw [hI] at h; simp only [Option.map_some, Option.some.injEq, Prod.mk.injEq] at h; exact ⟨i, rfl, h.1, h.2.1, h.2.2⟩
end Go.Proofs.YtlmcblcijndipabGreat

namespace Go.Proofs.YtlmcblcijndipabGreat
open Go.RowKit
set_option linter.unusedVariables false
theorem infoC_moves : Tryz0.prog.underlying 27 = some (.slice 48) := by kernel_rfl
set_option maxRecDepth 10000 in
set_option maxHeartbeats 1000000 in
theorem cloneM_row (b n cap : Nat) (g : Nat → Mv) (w : World) (hn : n ≤ 1048576) (hbs : b < w.heap.size) (hrow : MvRow w b 0 n g) :
    Calls Tryz0.prog 103 #[.slice (some ⟨b, 0, none⟩) n cap] w fun e w' => ∃ B c, e = .returned (.slice (some ⟨B, 0, none⟩) n c) ∧ w'.ownsRow w.heap.size 48 6 (.slice (some ⟨B, 0, none⟩) n c) n (rowC g n) ∧ PlainRow w' B ∧ Below w.heap.size w w' := by
  obtain ⟨i, hI, hz0, hz1, hz2⟩ := infoC_ex
  have bA : Below w.heap.size w (w.alloc (.cells #[] 48)) := (Below.refl _ _).alloc (Nat.le_refl _) _
  have hnil := Go.Lib.run_eql_slice_nil (P := Tryz0.prog) w 27 48 (some ⟨b, 0, none⟩) n cap 0 0 infoC_moves
  have hown : (w.alloc (.cells #[] 48)).ownsRow w.heap.size 48 6 (.slice (some ⟨w.heap.size, 0, none⟩) 0 0) 0 [] := World.ownsRow_made w #[] 0 (Nat.le_refl _) (by unfold maxLen; omega) (by simp)
  have hpl : AllPl (w.alloc (.cells #[] 48)) (.slice (some ⟨w.heap.size, 0, none⟩) 0 0) := fun B hB => by
    simp only [Value.ownBlock, Option.some.injEq] at hB
    subst hB
    exact ⟨#[], _, heap_alloc_new _ _, fun v hv => by simp at hv⟩
  obtain ⟨v', w', hr, h2, h3, h4⟩ := run_append_own (P := Tryz0.prog) (w.alloc (.cells #[] 48)) w.heap.size 27 27 48 i _ 6 56 infoC_moves hI hz0 hz1 hz2 rfl (by omega) (.slice (some ⟨w.heap.size, 0, none⟩) 0 0) 0 [] hown ⟨b, 0, none⟩ n cap (rowC g n) (rowC_len g n) (rowC_cells (hrow.below bA hbs)) (rowC_one g n) (by unfold maxLen; omega) (by omega) (by simp)
  have h5 := run_append_pl (P := Tryz0.prog) w.heap.size 27 27 48 i _ 6 56 infoC_moves hI hz0 hz1 hz2 rfl (.slice (some ⟨w.heap.size, 0, none⟩) 0 0) 0 [] hown hpl ⟨b, 0, none⟩ n cap (rowC g n) (rowC_len g n) (rowC_cells (hrow.below bA hbs)) (rowC_one g n) (rowC_plain g n) plainC_zero (by unfold maxLen; omega) (by omega) hr
  simp only [Nat.zero_add, List.nil_append] at h2
  obtain ⟨B, c, rfl⟩ : ∃ B c, v' = .slice (some ⟨B, 0, none⟩) n c := by
    rcases h2.2 with ⟨e, _⟩ | ⟨g, cap, cur, e, _⟩
    · exact absurd (h4.1 e).1 (by simp)
    · exact ⟨g, cap, e⟩
  have hB : Below w.heap.size w w' := bA.grown h3 bA.size (fun q hq => by simp [Value.ownBlock] at hq; omega)
  go_enter Tryz0.func103, Tryz.ntmps103
  go_wp2_with (refine wpList_append_run rfl (.tmp 5) (.tmp 6) 27 rfl _ _ (by rfl) (by rfl) hr ?_)
  go_ret
  exact ⟨B, c, rfl, h2, h5 B rfl, hB⟩
end Go.Proofs.YtlmcblcijndipabGreat
