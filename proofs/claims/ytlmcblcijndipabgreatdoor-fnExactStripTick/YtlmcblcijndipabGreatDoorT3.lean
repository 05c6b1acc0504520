/- Moves marked. -/
import Derived.Test.YtlmcblcijndipabGreatDoorT2
namespace Go.Proofs.YtlmcblcijndipabGreatDoor
open Go.RowKit
set_option linter.unusedVariables false

/-- a move stored into a row -/
theorem row_put {w : World} {B n k : Nat} {f : Nat → Mv} {cur : Array Value} {T : TypeId} (h : MvRow w B 0 n f) (hg : w.heap[B]? = some (.cells cur T (0, 0))) (hs : n * 6 ≤ cur.size) (hk : k < n) (m : Mv) : MvRow (setMv w B (k * 6) m) B 0 n (fun j => if j = k then m else f j) := by
  intro i hi
  by_cases e : i = k
  · subst e
    simp only [if_true]
    rw [Nat.zero_add]
    exact setMv_at w B (i * 6) m cur T hg (by omega)
  · simp only [if_neg e]
    obtain ⟨c0, c1, c2, c3, c4, c5⟩ := h i hi
    have o : ∀ j, j < 6 → (setMv w B (k * 6) m).cell? ⟨B, 0 + i * 6 + j, none⟩ = w.cell? ⟨B, 0 + i * 6 + j, none⟩ := fun j hj => setMv_other w B (k * 6) m _ (by omega)
    exact ⟨(o 0 (by omega)).trans c0, (o 1 (by omega)).trans c1, (o 2 (by omega)).trans c2, (o 3 (by omega)).trans c3, (o 4 (by omega)).trans c4, (o 5 (by omega)).trans c5⟩
theorem MvRow.congr {w : World} {b off n : Nat} {f f' : Nat → Mv} (h : MvRow w b off n f) (e : ∀ i, i < n → f i = f' i) : MvRow w b off n f' := fun i hi => by rw [← e i hi]; exact h i hi
theorem setMv_block' (W : World) (B o : Nat) (m : Mv) (k : Nat) (h : k ≠ B) : (setMv W B o m).heap[k]? = W.heap[k]? := by
  unfold setMv
  rw [Below.heap_setCell _ _ _ _ (by simpa using h), Below.heap_setCell _ _ _ _ (by simpa using h), Below.heap_setCell _ _ _ _ (by simpa using h), Below.heap_setCell _ _ _ _ (by simpa using h), Below.heap_setCell _ _ _ _ (by simpa using h), Below.heap_setCell _ _ _ _ (by simpa using h)]

/-- a move's marks -/
def markMv (k : Int) (i : Nat) : Mv := ⟨markB (k + i * 6), (k + i * 6 + 1) % 3 == 0, k + i * 6 + 1 + 1, k + i * 6 + 1 + 1 + 1, k + i * 6 + 1 + 1 + 1 + 1, k + i * 6 + 1 + 1 + 1 + 1 + 1⟩

theorem but_midT {T : TypeId} {lo hi B : Nat} {w w' : World} {cs : Array Value} (h : But B w w') (h1 : lo ≤ B) (h2 : B < hi) (hg : w.heap[B]? = some (.cells cs T (0, 0))) (hb : Below lo w w') : MidT T lo hi w w' :=
  ⟨h.size, fun k hk h' => h.block k hk (fun e => by
    subst e
    rcases h' with h' | h' | ⟨cs', T', hne, h'⟩
    · omega
    · omega
    · rw [hg] at h'; simp at h'; exact hne h'.2.symm), hb⟩

set_option maxHeartbeats 1000000 in
theorem markM_own {w : World} {lo hi : Nat} {v : Value} {n : Nat} {f : Nat → Mv} (k : Int) (hn : n ≤ 1048576) (h0 : 0 ≤ k) (h1 : k ≤ 10000000) (h : OwnM w lo hi v n f) :
    Calls Tryz.prog 42 #[v, .int .i64 k] w fun e w' => e = .returned (.int .i64 (k + n * 6)) ∧ OwnM w' lo hi v n (markMv k) ∧ MidT 36 lo hi w w' := by
  rcases h with ⟨rfl, a, c, rfl⟩ | ⟨B, c, cs, rfl, hc, hlo, hhi, hz, hg, hs, hr⟩
  · go_enter Tryz.func42, Tryz.ntmps42
    go_wp2
    go_loopw [1, 5] (fun x i wr => i = .int .i64 0 ∧ x = .int .i64 k ∧ wr = w) (fun _ _ _ => 0)
    case atStart => exact ⟨rfl, rfl, rfl⟩
    case round =>
      obtain ⟨rfl, rfl, rfl⟩ := hrel
      go_wp2
      go_ret
      exact ⟨by simp, .inl ⟨rfl, a, c, rfl⟩, MidT.refl _ _ _ _⟩
  · go_enter Tryz.func42, Tryz.ntmps42
    go_wp2
    go_loopw [1, 5] (fun x i wr => ∃ j : Nat, j ≤ n ∧ i = .int .i64 j ∧ x = .int .i64 (k + j * 6) ∧ (∃ cs, wr.heap[B]? = some (.cells cs 36 (0, 0)) ∧ n * 6 ≤ cs.size) ∧ MvRow wr B 0 n (fun i => if i < j then markMv k i else f i) ∧ But B w wr ∧ Below lo w wr) (fun _ i _ => n - (intOf i).toNat)
    case atStart => exact ⟨0, Nat.zero_le _, rfl, by simp, ⟨cs, hg, hs⟩, hr.congr (fun i hi => by simp), But.refl _ _, Below.refl _ _⟩
    case round =>
      obtain ⟨j, hj, rfl, rfl, ⟨cs', hg', hs'⟩, hr', hbut, hB⟩ := hrel
      by_cases hlt : j < n
      · have hlt' : (j : Int) < n := by omega
        have HT := markText_fn (k + j * 6) wr (by omega) (by omega)
        obtain ⟨mb, hmb⟩ : ∃ mb, mb = markB (k + j * 6) := ⟨_, rfl⟩
        rw [← hmb] at HT
        have HMB : Hid (mb = markB (k + j * 6)) := hmb
        clear hmb
        have hzb : B < wr.heap.size := (Array.getElem?_eq_some_iff.1 hg').1
        go_wp2_with (go_at_call 50; refine HT.mono ?_; clear HT; rintro e w1 ⟨rfl, hb1⟩; have hg1 := (hb1.block B hzb).trans hg'; have hr1 := hr'.below hb1 hzb; obtain ⟨e0, e1, e2, e3, e4, e5⟩ := hr1 j hlt; simp only [Nat.zero_add] at e0 e1 e2 e3 e4 e5; have hfz := fun i => frozen_of_row w1 B i _ _ hg1)
        have hbut1 : But B w w1 := hbut.trans (But.of hb1)
        have hB1 : Below lo w w1 := hB.trans (hb1.mono (by omega))
        obtain ⟨m', hm'⟩ : ∃ m' : Mv, m' = ⟨mb, (k + j * 6 + 1) % 3 == 0, k + j * 6 + 1 + 1, k + j * 6 + 1 + 1 + 1, k + j * 6 + 1 + 1 + 1 + 1, k + j * 6 + 1 + 1 + 1 + 1 + 1⟩ := ⟨_, rfl⟩
        have hmk : m' = markMv k j := by rw [hm', HMB.out]; rfl
        have hW : ((((((w1.setCell ⟨B, j * 6, none⟩ (.string mb)).setCell ⟨B, j * 6 + 1, none⟩ (.bool ((k + j * 6 + 1) % 3 == 0))).setCell ⟨B, j * 6 + 2, none⟩ (.int .i64 (k + j * 6 + 1 + 1))).setCell ⟨B, j * 6 + 3, none⟩ (.int .i64 (k + j * 6 + 1 + 1 + 1))).setCell ⟨B, j * 6 + 4, none⟩ (.int .i64 (k + j * 6 + 1 + 1 + 1 + 1))).setCell ⟨B, j * 6 + 5, none⟩ (.int .i64 (k + j * 6 + 1 + 1 + 1 + 1 + 1))) = setMv w1 B (j * 6) m' := by rw [hm']; rfl
        rw [hW]
        obtain ⟨cs2, hg2, hs2⟩ := setMv_heap w1 B (j * 6) m' _ _ hg1
        have hr2 := row_put hr1 hg1 hs' hlt m'
        have hbut2 : But B w (setMv w1 B (j * 6) m') := (((((hbut1.setCell _ _).setCell _ _).setCell _ _).setCell _ _).setCell _ _).setCell _ _
        have hB2 : Below lo w (setMv w1 B (j * 6) m') := setMv_below hB1 hlo _ _
        refine ⟨⟨j + 1, by omega, by simp, congrArg (Value.int .i64) (by omega), ⟨cs2, hg2, by omega⟩, hr2.congr (fun i hi => ?_), hbut2, hB2⟩, by simp [intOf]; omega⟩
        by_cases e : i = j
        · subst e; rw [if_pos rfl, if_pos (by omega)]; exact hmk
        · simp only [if_neg e]; by_cases h : i < j
          · rw [if_pos h, if_pos (by omega)]
          · rw [if_neg h, if_neg (by omega)]
      · have hjn : j = n := by omega
        subst hjn
        go_wp2
        go_ret
        exact ⟨rfl, .inr ⟨B, c, cs', rfl, hc, hlo, hhi, Nat.le_trans hz hbut.size, hg', hs', hr'.congr (fun i hi => by rw [if_pos hi])⟩, but_midT hbut hlo hhi hg hB⟩
end Go.Proofs.YtlmcblcijndipabGreatDoor
