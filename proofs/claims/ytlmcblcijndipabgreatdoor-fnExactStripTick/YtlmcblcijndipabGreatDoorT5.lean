/- Marked moves and names looked at again; names held against each other. -/
import Derived.Test.YtlmcblcijndipabGreatDoorT4
namespace Go.Proofs.YtlmcblcijndipabGreatDoor
open Go.RowKit
set_option linter.unusedVariables false

set_option maxHeartbeats 1000000 in
theorem heldT_own {w : World} {lo hi : Nat} {v : Value} {n : Nat} (k : Int) (hn : n ≤ 1048576) (h0 : 0 ≤ k) (h1 : k ≤ 100000000) (h : OwnS w lo hi v n (fun i => markB (k + i))) :
    Calls Tryz.prog 25 #[v, .int .i64 k] w fun e w' => e = .returned (.int .i64 (k + n)) ∧ Below w.heap.size w w' := by
  rcases h with ⟨rfl, a, c, rfl⟩ | ⟨B, c, cs, rfl, hc, hlo, hhi, hz, hg, hs, hr⟩
  · go_enter Tryz.func25, Tryz.ntmps25
    go_wp2
    go_loopw [1, 5] (fun x i wr => i = .int .i64 0 ∧ x = .int .i64 k ∧ wr = w) (fun _ _ _ => 0)
    case atStart => exact ⟨rfl, rfl, rfl⟩
    case round =>
      obtain ⟨rfl, rfl, rfl⟩ := hrel
      go_wp2
      go_ret
      exact ⟨by simp, Below.refl _ _⟩
  · go_enter Tryz.func25, Tryz.ntmps25
    go_wp2
    go_loopw [1, 5] (fun x i wr => ∃ j : Nat, j ≤ n ∧ i = .int .i64 j ∧ x = .int .i64 (k + j) ∧ Below w.heap.size w wr) (fun _ i _ => n - (intOf i).toNat)
    case atStart => exact ⟨0, Nat.zero_le _, rfl, by simp, Below.refl _ _⟩
    case round =>
      obtain ⟨j, hj, rfl, rfl, hB⟩ := hrel
      by_cases hlt : j < n
      · have hlt' : (j : Int) < n := by omega
        have hd : wr.cell? ⟨B, j, none⟩ = some (.string (markB (k + j))) := (hr.below hB (by omega)) j hlt
        obtain ⟨mb, hmb⟩ : ∃ mb, mb = markB (k + j) := ⟨_, rfl⟩
        have HT : ∀ x : Later wr, Calls Tryz.prog 50 #[.int .i64 (k + j)] x.at_ fun e w' => e = .returned (.string mb) ∧ Below x.at_.heap.size x.at_ w' := fun x => by
          rw [hmb]; exact markText_fn (k + j) x.at_ (by omega) (by omega)
        rw [← hmb] at hd
        clear hmb
        have hne := later_some wr
        have c0 := fun x : Later wr => x.cell hd
        go_wp2
        refine wp_region_later (by kernel_rfl) (by kernel_rfl) ?_
        repeat (go_big_quiet_step ((go_at_call 50; exact later_call (HT _))))
        refine wpQuiet_nil (later_all ?_)
        intro w1 hb1
        go_wp2
        go_roundw
        case rel => exact ⟨j + 1, by omega, by go_num, by go_num, hB.trans (hb1.mono hB.size)⟩
        case measure => simp [intOf]; omega
      · have hjn : j = n := by omega
        subst hjn
        go_wp2
        go_ret
        exact ⟨rfl, hB⟩

set_option maxHeartbeats 2000000 in
theorem heldM_own {w : World} {lo hi : Nat} {v : Value} {n : Nat} (k : Int) (hn : n ≤ 1048576) (h0 : 0 ≤ k) (h1 : k ≤ 10000000) (h : OwnM w lo hi v n (markMv k)) :
    Calls Tryz.prog 44 #[v, .int .i64 k] w fun e w' => e = .returned (.int .i64 (k + n * 6)) ∧ Below w.heap.size w w' := by
  rcases h with ⟨rfl, a, c, rfl⟩ | ⟨B, c, cs, rfl, hc, hlo, hhi, hz, hg, hs, hr⟩
  · go_enter Tryz.func44, Tryz.ntmps44
    go_wp2
    go_loopw [1, 5] (fun x i wr => i = .int .i64 0 ∧ x = .int .i64 k ∧ wr = w) (fun _ _ _ => 0)
    case atStart => exact ⟨rfl, rfl, rfl⟩
    case round =>
      obtain ⟨rfl, rfl, rfl⟩ := hrel
      go_wp2
      go_ret
      exact ⟨by simp, Below.refl _ _⟩
  · go_enter Tryz.func44, Tryz.ntmps44
    go_wp2
    go_loopw [1, 5] (fun x i wr => ∃ j : Nat, j ≤ n ∧ i = .int .i64 j ∧ x = .int .i64 (k + j * 6) ∧ Below w.heap.size w wr) (fun _ i _ => n - (intOf i).toNat)
    case atStart => exact ⟨0, Nat.zero_le _, rfl, by simp, Below.refl _ _⟩
    case round =>
      obtain ⟨j, hj, rfl, rfl, hB⟩ := hrel
      by_cases hlt : j < n
      · have hlt' : (j : Int) < n := by omega
        obtain ⟨d0, d1, d2, d3, d4, d5⟩ := (hr.below hB (by omega)) j hlt
        simp only [Nat.zero_add, markMv] at d0 d1 d2 d3 d4 d5
        obtain ⟨mb, hmb⟩ : ∃ mb, mb = markB (k + j * 6) := ⟨_, rfl⟩
        have HT : ∀ x : Later wr, Calls Tryz.prog 50 #[.int .i64 (k + j * 6)] x.at_ fun e w' => e = .returned (.string mb) ∧ Below x.at_.heap.size x.at_ w' := fun x => by
          rw [hmb]; exact markText_fn (k + j * 6) x.at_ (by omega) (by omega)
        rw [← hmb] at d0
        clear hmb
        have hne := later_some wr
        have c0 := fun x : Later wr => x.cell d0
        go_wp2
        refine wp_region_later (by kernel_rfl) (by kernel_rfl) ?_
        repeat (go_big_quiet_step ((go_at_call 50; exact later_call (HT _))))
        refine wpQuiet_nil (later_all ?_)
        intro w1 hb1
        have lB : B < wr.heap.size := Nat.lt_of_lt_of_le (by omega) hB.size
        have e1 := (hb1.cell (p := ⟨B, j * 6 + 1, none⟩) lB).trans d1
        have e2 := (hb1.cell (p := ⟨B, j * 6 + 2, none⟩) lB).trans d2
        have e3 := (hb1.cell (p := ⟨B, j * 6 + 3, none⟩) lB).trans d3
        have e4 := (hb1.cell (p := ⟨B, j * 6 + 4, none⟩) lB).trans d4
        have e5 := (hb1.cell (p := ⟨B, j * 6 + 5, none⟩) lB).trans d5
        clear c0 hne d0 d1 d2 d3 d4 d5 HT
        go_wp2
        go_roundw
        case rel => exact ⟨j + 1, by omega, by go_num, congrArg (Value.int .i64) (by omega), hB.trans (hb1.mono hB.size)⟩
        case measure => simp [intOf]; omega
      · have hjn : j = n := by omega
        subst hjn
        go_wp2
        go_ret
        exact ⟨rfl, hB⟩

set_option maxHeartbeats 1000000 in
theorem eqT_same (b cap b' cap' n : Nat) (g : Nat → ByteArray) (w : World) (hn : n ≤ 1048576) (hbs : b < w.heap.size) (hrow : StrRow w b n g) (hbs' : b' < w.heap.size) (hrow' : StrRow w b' n g) :
    Calls Tryz.prog 23 #[.slice (some ⟨b, 0, none⟩) n cap, .slice (some ⟨b', 0, none⟩) n cap'] w fun e w' => e = .returned (.bool true) ∧ Below w.heap.size w w' := by
  go_enter Tryz.func23, Tryz.ntmps23
  go_wp2
  go_loopw [5] (fun i w' => ∃ k : Nat, k ≤ n ∧ i = .int .i64 k ∧ Below w.heap.size w w') (fun i _ => n - (intOf i).toNat)
  case atStart => exact ⟨0, Nat.zero_le _, rfl, Below.refl _ _⟩
  case round =>
    obtain ⟨k, hk, rfl, hB⟩ := hrel
    by_cases hlt : k < n
    · have hr := hrow.below hB hbs k hlt
      have hr' := hrow'.below hB hbs' k hlt
      have hlt' : (k : Int) < n := by omega
      have hne := later_some wr
      have c0 := fun x : Later wr => x.cell hr
      have d0 := fun x : Later wr => x.cell hr'
      go_wp2
      refine wp_region_later (by kernel_rfl) (by kernel_rfl) ?_
      repeat (go_big_quiet_step (fail))
      refine wpQuiet_nil (later_all ?_)
      intro w1 hb1
      go_wp2
      go_roundw
      case rel => exact ⟨k + 1, by omega, by go_num, hB.trans (hb1.mono hB.size)⟩
      case measure => simp [intOf]; omega
    · go_wp2
      go_ret
      exact ⟨rfl, hB⟩
theorem eqT_none (a a' : Option Addr) (cap cap' : Nat) (w : World) :
    Calls Tryz.prog 23 #[.slice a 0 cap, .slice a' 0 cap'] w fun e w' => e = .returned (.bool true) ∧ Below w.heap.size w w' := by
  go_enter Tryz.func23, Tryz.ntmps23
  go_wp2
  go_loopw [5] (fun i w' => i = .int .i64 0 ∧ Below w.heap.size w w') (fun _ _ => 0)
  case atStart => exact ⟨rfl, Below.refl _ _⟩
  case round =>
    obtain ⟨rfl, hB⟩ := hrel
    go_wp2
    go_ret
    exact ⟨rfl, hB⟩
theorem eqT_any {w : World} {lo hi lo' hi' : Nat} {v v' : Value} {n : Nat} {g : Nat → ByteArray} (hn : n ≤ 1048576) (h : OwnS w lo hi v n g) (h' : OwnS w lo' hi' v' n g) :
    Calls Tryz.prog 23 #[v, v'] w fun e w' => e = .returned (.bool true) ∧ Below w.heap.size w w' := by
  rcases h with ⟨rfl, a, c, rfl⟩ | ⟨B, c, cs, rfl, _, _, hB, hz, hg, _, hr⟩
  · rcases h' with ⟨_, a', c', rfl⟩ | ⟨B', c', cs', rfl, _⟩
    · exact eqT_none _ _ _ _ _
    · exact eqT_none _ _ _ _ _
  · rcases h' with ⟨rfl, a', c', rfl⟩ | ⟨B', c', cs', rfl, _, _, hB', hz', hg', _, hr'⟩
    · exact eqT_none _ _ _ _ _
    · exact eqT_same B c B' c' n g w hn (by omega) hr (by omega) hr'
end Go.Proofs.YtlmcblcijndipabGreatDoor
