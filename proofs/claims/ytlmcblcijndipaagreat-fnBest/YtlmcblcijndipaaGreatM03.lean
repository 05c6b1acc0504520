/- Texts of the proof, one behind another: W1, W2, W3, W4, W5, W6. -/
import Derived.Test.YtlmcblcijndipaaGreatChecked
import Derived.Test.YtlmcblcijndipaaGreatM01
import Derived.Test.YtlmcblcijndipaaGreatM02
import Derived.WalkKit
import Derived.ProofKit
import Derived.WalkLawsBesides
/- The walks of the functions on one move: what each of them answers. -/
namespace Go.Proofs.YtlmcblcijndipaaGreat
open Go.RowKit

theorem ret_b {a b : Bool} (h : a = b) : Ending.returned (.bool a) = .returned (.bool b) := by rw [h]

theorem in_any (n lo hi : Int) (w : World) :
    Calls Tryz0.prog 27 #[.int .i64 n, .int .i64 lo, .int .i64 hi] w fun e w' => e = .returned (.bool (inB n lo hi)) ∧ w' = w := by
  go_enter Tryz0.func27, Tryz.ntmps27
  go_wp2
  all_goals go_ret
  all_goals exact ⟨ret_b (by unfold inB; rw [Bool.eq_iff_iff]; simp; omega), rfl⟩

theorem wake_any (n : Int) (w : World) :
    Calls Tryz0.prog 84 #[.int .i64 n] w fun e w' => e = .returned (.bool (inB n 1 3)) ∧ w' = w := by
  go_enter Tryz0.func84, Tryz.ntmps84
  go_wp2
  all_goals go_ret
  all_goals exact ⟨ret_b (by unfold inB; rw [Bool.eq_iff_iff]; simp; omega), rfl⟩

theorem span_any (a b : Int) (w : World) :
    Calls Tryz0.prog 85 #[.int .i64 a, .int .i64 b] w fun e w' => e = .returned (.bool (inB a 0 b && decide (b ≤ 10000))) ∧ w' = w := by
  go_enter Tryz0.func85, Tryz.ntmps85
  go_wp2
  all_goals go_ret
  all_goals exact ⟨ret_b (by unfold inB; rw [Bool.eq_iff_iff]; simp; omega), rfl⟩

theorem rune_any (r : Int) (w : World) :
    Calls Tryz0.prog 135 #[.int .i32 r] w fun e w' => e = .returned (.bool (okB r)) ∧ w' = w := by
  go_enter Tryz0.func135, Tryz.ntmps135
  go_wp2
  all_goals go_ret
  all_goals exact ⟨ret_b (by unfold okB; rw [Bool.eq_iff_iff]; simp; omega), rfl⟩
end Go.Proofs.YtlmcblcijndipaaGreat

/- The walks over a name: what the two functions that look at one answer. -/
namespace Go.Proofs.YtlmcblcijndipaaGreat
open Go.RowKit

theorem specName_no (s : ByteArray) (w : World) (h : inB s.size 1 8 = false) :
    Calls Tryz0.prog 111 #[.string s] w fun e w' => e = .returned (.bool (nameB s)) ∧ w' = w := by
  have hn : nameB s = false := by
    unfold inB at h
    by_cases h1 : 1 ≤ s.size
    · exact nameB_long (by simp at h; omega)
    · exact nameB_short h1
  go_enter Tryz0.func111, Tryz.ntmps111
  go_wp2_with (go_at_call 27; refine (in_any _ _ _ _).mono ?_; rintro e w' ⟨rfl, rfl⟩)
  go_ret
  exact ⟨ret_b hn.symm, rfl⟩

set_option maxHeartbeats 400000 in
theorem specName_yes (s : ByteArray) (w : World) (hs : s.size ≤ maxLen) (hin : inB s.size 1 8 = true) :
    Calls Tryz0.prog 111 #[.string s] w fun e w' => e = .returned (.bool (nameB s)) ∧ w' = w := by
  unfold maxLen at hs
  have hb : 1 ≤ s.size ∧ s.size ≤ 8 := by have hin' := hin; unfold inB at hin'; simp at hin'; omega
  go_enter Tryz0.func111, Tryz.ntmps111
  go_wp2_with (go_at_call 27; refine (in_any _ _ _ _).mono ?_; rintro e w' ⟨rfl, rfl⟩)
  go_loop [3, 4] (fun i _ => ∃ k : Nat, k ≤ s.size ∧ i = .int .i64 k ∧ okTo s k) (fun i _ => s.size - (intOf i).toNat)
  case atStart => exact ⟨0, Nat.zero_le _, rfl, okTo_zero s⟩
  case round =>
    obtain ⟨k, hk, rfl, ho⟩ := hrel
    by_cases hlt : k < s.size
    · go_wp2
      all_goals first
        | (go_round
           case rel => exact ⟨k + 1, by omega, by go_num, okTo_succ ho hlt (by unfold okB; simp at *; omega)⟩
           case measure => simp [intOf]; omega)
        | (go_ret
           exact ⟨ret_b (nameB_no hlt (by unfold okB; simp at *; omega)).symm, rfl⟩)
    · go_wp2
      go_ret
      exact ⟨ret_b (nameB_yes hb.1 hb.2 (by rw [show s.size = k by omega]; exact ho)).symm, rfl⟩

theorem specName_any (s : ByteArray) (w : World) (hs : s.size ≤ maxLen) :
    Calls Tryz0.prog 111 #[.string s] w fun e w' => e = .returned (.bool (nameB s)) ∧ w' = w := by
  by_cases h : inB s.size 1 8 = true
  · exact specName_yes s w hs h
  · exact specName_no s w (by simpa using h)

/-- the iterator of a range over a string is one block more -/
theorem below_iter (w : World) (s : ByteArray) (p : Nat) : Below w.heap.size w (w.iter s p) :=
  (Below.refl _ _).alloc (Nat.le_refl _) _

set_option maxRecDepth 1000000 in
theorem implName_yes (s : ByteArray) (w : World) (hb : 1 ≤ s.size ∧ s.size ≤ 8) :
    Calls Tryz0.prog 83 #[.string s] w fun e w' => e = .returned (.bool (nameB s)) ∧ Below w.heap.size w w' := by
  go_enter Tryz0.func83, Tryz.ntmps83
  go_wp2
  go_loopw [4] (fun _ w' => ∃ pos : Nat, w' = w.iter s pos ∧ pos ≤ s.size ∧ okTo s pos) (fun _ w' => s.size - w'.iterPos w.heap.size)
  case atStart => exact ⟨0, rfl, Nat.zero_le _, okTo_zero s⟩
  case round =>
    obtain ⟨pos, rfl, hp0, ho⟩ := hrel
    by_cases hp : pos < s.size
    · have hnx : ∀ ty, (Instr.next (.pointer (some ⟨w.heap.size, 0, none⟩)) true ty).run Tryz0.prog (w.iter s pos) = _ := fun ty => run_next_any w s pos ty hp
      by_cases ha : (s[pos]'hp).toNat < 128
      · have hd := decode_ascii s pos hp ha
        rw [hd] at hnx
        clear hd
        by_cases hok : okB ((s[pos]'hp).toNat : Int) = true
        · go_wp2_with (go_at_call 135; refine (rune_any _ _).mono ?_; rintro e w' ⟨rfl, rfl⟩)
          go_roundw
          case rel => exact ⟨pos + 1, rfl, by omega, okTo_succ ho hp hok⟩
          case measure => simp; omega
        · have hok' : okB ((s[pos]'hp).toNat : Int) = false := by simpa using hok
          have hnn : nameB s = false := nameB_no hp hok'
          clear hok
          go_wp2_with (go_at_call 135; refine (rune_any _ _).mono ?_; rintro e w' ⟨rfl, rfl⟩)
          go_ret
          exact ⟨ret_b hnn.symm, below_iter _ _ _⟩
      · have hh := decode_high s pos hp (by omega)
        have hno : okB ((Utf8.decode s pos).1 : Int) = false := okB_no (by omega)
        have hnn : nameB s = false := nameB_no hp (okB_no (by omega))
        go_wp2_with (go_at_call 135; refine (rune_any _ _).mono ?_; rintro e w' ⟨rfl, rfl⟩)
        go_ret
        exact ⟨ret_b hnn.symm, below_iter _ _ _⟩
    · have hnx : ∀ ty, (Instr.next (.pointer (some ⟨w.heap.size, 0, none⟩)) true ty).run Tryz0.prog (w.iter s pos) = _ := fun ty => run_next_end w s pos ty hp
      go_wp2
      go_ret
      exact ⟨ret_b (nameB_yes hb.1 hb.2 (by rw [show s.size = pos by omega]; exact ho)).symm, below_iter _ _ _⟩

theorem implName_no (s : ByteArray) (w : World) (hb : ¬ (1 ≤ s.size ∧ s.size ≤ 8)) :
    Calls Tryz0.prog 83 #[.string s] w fun e w' => e = .returned (.bool (nameB s)) ∧ Below w.heap.size w w' := by
  have hn : nameB s = false := by
    by_cases h1 : 1 ≤ s.size
    · exact nameB_long (by omega)
    · exact nameB_short h1
  by_cases h1 : 1 ≤ s.size
  · have h8 : 8 < s.size := by omega
    go_enter Tryz0.func83, Tryz.ntmps83
    go_wp2
    go_ret
    first | exact ⟨ret_b hn.symm, Below.refl _ _⟩ | exact ⟨rfl, Below.refl _ _⟩
  · go_enter Tryz0.func83, Tryz.ntmps83
    go_wp2
    go_ret
    first | exact ⟨ret_b hn.symm, Below.refl _ _⟩ | exact ⟨rfl, Below.refl _ _⟩

theorem implName_any (s : ByteArray) (w : World) :
    Calls Tryz0.prog 83 #[.string s] w fun e w' => e = .returned (.bool (nameB s)) ∧ Below w.heap.size w w' := by
  by_cases hb : 1 ≤ s.size ∧ s.size ≤ 8
  · exact implName_yes s w hb
  · exact implName_no s w hb
end Go.Proofs.YtlmcblcijndipaaGreat

/- The walks over one move: in its span, its promise, whether it is ok; its copy. -/
namespace Go.Proofs.YtlmcblcijndipaaGreat
open Go.RowKit

theorem inSpan_any (s : ByteArray) (l : Bool) (a b c d t : Int) (w : World) :
    Calls Tryz0.prog 60 #[.agg #[.string s, .bool l, .int .i64 a, .int .i64 b, .int .i64 c, .int .i64 d], .int .i64 t] w fun e w' => e = .returned (.bool (inB t b c)) ∧ Below w.heap.size w w' := by
  go_enter Tryz0.func60, Tryz.ntmps60
  go_wp2
  all_goals go_ret
  all_goals exact ⟨ret_b (by unfold inB; rw [Bool.eq_iff_iff]; simp; omega), (Below.refl _ _).alloc (Nat.le_refl _) _⟩

theorem promise_any (s : ByteArray) (l : Bool) (a b c d : Int) (w : World) :
    Calls Tryz0.prog 86 #[.agg #[.string s, .bool l, .int .i64 a, .int .i64 b, .int .i64 c, .int .i64 d]] w fun e w' => e = .returned (.bool (promB b c d)) ∧ Below w.heap.size w w' := by
  by_cases hd : (d == -1) = true
  · go_enter Tryz0.func86, Tryz.ntmps86
    go_wp2
    go_ret
    exact ⟨ret_b (by unfold promB; rw [hd]; rfl), (Below.refl _ _).alloc (Nat.le_refl _) _⟩
  · have hd' : (d == -1) = false := by simpa using hd
    clear hd
    go_enter Tryz0.func86, Tryz.ntmps86
    go_wp2_with (go_at_call 60; refine (inSpan_any _ _ _ _ _ _ _ _).mono ?_; rintro e w' ⟨rfl, hb⟩)
    go_ret
    exact ⟨ret_b (by unfold promB; rw [hd']; rfl), ((Below.refl _ _).alloc (Nat.le_refl _) _).trans (hb.mono (by simp))⟩
end Go.Proofs.YtlmcblcijndipaaGreat

/- The walks over one move: whether it is ok, in the model and in the program; its size; its copy. -/
namespace Go.Proofs.YtlmcblcijndipaaGreat
open Go.RowKit

theorem bcell {W w1 : World} (hb : Below W.heap.size W w1) : (∀ b o, b < W.heap.size → w1.cell? ⟨b, o, none⟩ = W.cell? ⟨b, o, none⟩) ∧ (∀ b o, b < W.heap.size → w1.frozen? ⟨b, o, none⟩ = W.frozen? ⟨b, o, none⟩) :=
  ⟨fun b o h => hb.cell (p := ⟨b, o, none⟩) h, fun b o h => hb.frozen (p := ⟨b, o, none⟩) h⟩

/-- one call more: the first new block lies on, and nothing old has turned -/
theorem one_more {w W w1 : World} (h : w.heap.size < W.heap.size ∧ Below w.heap.size w W) (hb : Below W.heap.size W w1) : w.heap.size < w1.heap.size ∧ Below w.heap.size w w1 :=
  ⟨Nat.lt_of_lt_of_le h.1 hb.size, h.2.trans (hb.mono (Nat.le_of_lt h.1))⟩
theorem one_new (w : World) (o : Obj) : w.heap.size < (w.alloc o).heap.size ∧ Below w.heap.size w (w.alloc o) := ⟨by simp, (Below.refl _ _).alloc (Nat.le_refl _) _⟩

set_option maxHeartbeats 400000 in
theorem specMove_any (s : ByteArray) (l : Bool) (a b c d : Int) (w : World) (hs : s.size ≤ maxLen) :
    Calls Tryz0.prog 54 #[.agg #[.string s, .bool l, .int .i64 a, .int .i64 b, .int .i64 c, .int .i64 d]] w fun e w' => e = .returned (.bool (moveB s a b c d)) ∧ Below w.heap.size w w' := by
  go_enter Tryz0.func54, Tryz.ntmps54
  go_wp2_with (first | (go_at_call 111; refine (specName_any _ _ hs).mono ?_; rintro e w' ⟨rfl, rfl⟩) | (go_at_call 27; refine (in_any _ _ _ _).mono ?_; rintro e w' ⟨rfl, rfl⟩))
  all_goals go_ret
  all_goals exact ⟨ret_b (by unfold moveB promB; simp [*] <;> omega), (Below.refl _ _).alloc (Nat.le_refl _) _⟩

set_option maxHeartbeats 400000 in
theorem implMove_any (s : ByteArray) (l : Bool) (a b c d : Int) (w : World) :
    Calls Tryz0.prog 45 #[.agg #[.string s, .bool l, .int .i64 a, .int .i64 b, .int .i64 c, .int .i64 d]] w fun e w' => e = .returned (.bool (moveB s a b c d)) ∧ Below w.heap.size w w' := by
  go_enter Tryz0.func45, Tryz.ntmps45
  go_wp2_with (first | (go_at_call 83; refine (implName_any _ _).mono ?_; rintro e w1 ⟨rfl, hb1⟩; obtain ⟨hc1, hf1⟩ := bcell hb1) | (go_at_call 84; refine (wake_any _ _).mono ?_; rintro e w' ⟨rfl, rfl⟩) | (go_at_call 85; refine (span_any _ _ _).mono ?_; rintro e w' ⟨rfl, rfl⟩) | (go_at_call 86; refine (promise_any _ _ _ _ _ _ _).mono ?_; rintro e w2 ⟨rfl, hb2⟩))
  all_goals go_ret
  all_goals refine ⟨ret_b (by unfold moveB; simp [*]), ?_⟩
  all_goals first
    | exact ((Below.refl _ _).alloc (Nat.le_refl _) _).trans ((hb1.mono (by simp)).trans (hb2.mono (by have := hb1.size; simp at this; omega)))
    | exact ((Below.refl _ _).alloc (Nat.le_refl _) _).trans (hb1.mono (by simp))

end Go.Proofs.YtlmcblcijndipaaGreat

/- The walks over moves in a slice. -/
namespace Go.Proofs.YtlmcblcijndipaaGreat
open Go.RowKit

/-- a move in memory -/
structure MvAt (w : World) (b o : Nat) (m : Mv) : Prop where
  c0 : w.cell? ⟨b, o, none⟩ = some (.string m.name)
  c1 : w.cell? ⟨b, o + 1, none⟩ = some (.bool m.lands)
  c2 : w.cell? ⟨b, o + 2, none⟩ = some (.int .i64 m.wake)
  c3 : w.cell? ⟨b, o + 3, none⟩ = some (.int .i64 m.est)
  c4 : w.cell? ⟨b, o + 4, none⟩ = some (.int .i64 m.late)
  c5 : w.cell? ⟨b, o + 5, none⟩ = some (.int .i64 m.prom)
/-- n moves in memory, in a row -/
def MvRow (w : World) (b off n : Nat) (f : Nat → Mv) : Prop := ∀ i, i < n → MvAt w b (off + i * 6) (f i)

theorem MvAt.below {B : Nat} {w w' : World} {b o : Nat} {m : Mv} (h : MvAt w b o m) (hb : Below B w w') (hB : b < B) : MvAt w' b o m :=
  ⟨(hb.cell hB).trans h.c0, (hb.cell hB).trans h.c1, (hb.cell hB).trans h.c2, (hb.cell hB).trans h.c3, (hb.cell hB).trans h.c4, (hb.cell hB).trans h.c5⟩
theorem MvRow.below {B : Nat} {w w' : World} {b off n : Nat} {f : Nat → Mv} (h : MvRow w b off n f) (hb : Below B w w') (hB : b < B) : MvRow w' b off n f :=
  fun i hi => (h i hi).below hb hB

end Go.Proofs.YtlmcblcijndipaaGreat

/- The copy of moves in a slice. -/
namespace Go.Proofs.YtlmcblcijndipaaGreat
open Go.RowKit

/-- a move stored -/
def setMv (w : World) (g o : Nat) (m : Mv) : World :=
  (((((w.setCell ⟨g, o, none⟩ (.string m.name)).setCell ⟨g, o + 1, none⟩ (.bool m.lands)).setCell ⟨g, o + 2, none⟩ (.int .i64 m.wake)).setCell ⟨g, o + 3, none⟩ (.int .i64 m.est)).setCell ⟨g, o + 4, none⟩ (.int .i64 m.late)).setCell ⟨g, o + 5, none⟩ (.int .i64 m.prom)

theorem cell_other (w : World) (a b : Addr) (v : Value) (h : a ≠ b) : (w.setCell a v).cell? b = w.cell? b := World.cell?_setCell_other w a b v h
theorem setMv_other (w : World) (g o : Nat) (m : Mv) (j : Nat) (h : j < o ∨ o + 6 ≤ j) : (setMv w g o m).cell? ⟨g, j, none⟩ = w.cell? ⟨g, j, none⟩ := by
  unfold setMv
  rw [cell_other _ _ _ _ (by simp <;> omega), cell_other _ _ _ _ (by simp <;> omega), cell_other _ _ _ _ (by simp <;> omega), cell_other _ _ _ _ (by simp <;> omega), cell_other _ _ _ _ (by simp <;> omega), cell_other _ _ _ _ (by simp <;> omega)]
theorem setMv_at (w : World) (g o : Nat) (m : Mv) (cs : Array Value) (t : TypeId) (hg : w.heap[g]? = some (.cells cs t (0, 0))) (hs : o + 6 ≤ cs.size) : MvAt (setMv w g o m) g o m := by
  have h0 := hg
  have h1 := heap_setCell_same _ _ o _ _ (.string m.name) h0
  have h2 := heap_setCell_same _ _ (o + 1) _ _ (.bool m.lands) h1
  have h3 := heap_setCell_same _ _ (o + 2) _ _ (.int .i64 m.wake) h2
  have h4 := heap_setCell_same _ _ (o + 3) _ _ (.int .i64 m.est) h3
  have h5 := heap_setCell_same _ _ (o + 4) _ _ (.int .i64 m.late) h4
  have h6 := heap_setCell_same _ _ (o + 5) _ _ (.int .i64 m.prom) h5
  constructor <;> (unfold setMv; rw [cell_of_row _ _ _ _ _ _ h6]; simp [Array.getElem?_setIfInBounds]; omega)
theorem setMv_below {B : Nat} {a w : World} (h : Below B a w) {g : Nat} (hg : B ≤ g) (o : Nat) (m : Mv) : Below B a (setMv w g o m) :=
  (((((h.setCell (by simpa using hg) _).setCell (by simpa using hg) _).setCell (by simpa using hg) _).setCell (by simpa using hg) _).setCell (by simpa using hg) _).setCell (by simpa using hg) _
/-- a block of n moves of one's own -/
def OwnMvs (w : World) (b n : Nat) : Prop := ∃ cs, w.heap[b]? = some (.cells cs 42 (0, 0)) ∧ cs.size = n * 6
end Go.Proofs.YtlmcblcijndipaaGreat
