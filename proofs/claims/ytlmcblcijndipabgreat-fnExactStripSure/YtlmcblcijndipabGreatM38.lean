/- Texts of the proof, one behind another: N1, N2. -/
import Derived.Test.YtlmcblcijndipabGreatM24
import Derived.Test.YtlmcblcijndipabGreatM26
import Derived.Test.YtlmcblcijndipabGreatM37
namespace Go.Proofs.YtlmcblcijndipabGreat
open Go.RowKit
set_option linter.unusedVariables false
theorem But.drew {B : Nat} {a w : World} (h : But B a w) : But B a w.drew := ⟨h.size, h.block⟩
theorem But.drewN {B : Nat} {a w : World} (h : But B a w) (q : Nat) : But B a (w.drewN q) := ⟨h.size, h.block⟩
theorem OwnInts.drewN {w : World} {b n : Nat} {g : Nat → Int} (h : OwnInts w b n g) (q : Nat) : OwnInts (w.drewN q) b n g := h
theorem below_drewN {B : Nat} {a w : World} (h : Below B a w) (q : Nat) : Below B a (w.drewN q) := ⟨h.os, h.tape, h.output, h.size, h.block⟩
theorem OwnInts.drew {w : World} {b n : Nat} {g : Nat → Int} (h : OwnInts w b n g) : OwnInts w.drew b n g := h
def revTo (h : Nat → Int) (m k : Nat) (y : Nat) : Int := if y < k ∨ m ≤ y + k then h (m - 1 - y) else h y
def onRow (g : Nat → Int) (off : Nat) (r : Nat → Int) (x : Nat) : Int := if x < off then g x else r (x - off)
set_option maxHeartbeats 1000000 in
theorem reverse_row (b n off m cap : Nat) (g : Nat → Int) (w : World) (hn : n ≤ 1048576) (hoff : off + m = n) (hown : OwnInts w b n g) :
    Calls Tryz0.prog 120 #[.slice (some ⟨b, off, none⟩) m cap] w fun e w' => (∃ v, e = .returned v) ∧ OwnInts w' b n (onRow g off (fun y => g (off + (m - 1 - y)))) ∧ But b w w' ∧ Below b w w' := by
  have hbl := hown.lt
  go_enter Tryz0.func120, Tryz.ntmps120
  go_wp2
  go_loopw [2, 3] (fun x y wr => ∃ k : Nat, 2 * k ≤ m + 1 ∧ x = .int .i64 k ∧ y = .int .i64 ((m : Int) - 1 - k) ∧ OwnInts wr b n (onRow g off (revTo (fun y => g (off + y)) m k)) ∧ But b w wr ∧ Below b w wr) (fun x _ _ => m - (intOf x).toNat)
  case atStart => exact ⟨0, by omega, rfl, by simp, hown.congr (fun i hi => by unfold onRow revTo; split; rfl; rw [if_neg (by omega)]; congr 1; omega), But.refl _ _, Below.refl _ _⟩
  case round =>
    obtain ⟨k, hk, rfl, rfl, hown1, hbut, hbel⟩ := hrel
    by_cases hlt : 2 * k + 1 < m
    · obtain ⟨q, hq⟩ : ∃ q, m = q + k + 1 := ⟨m - 1 - k, by omega⟩
      have e1 : ((m : Int) - 1 - k) = (q : Int) := by omega
      have hlt' : (k : Int) < q := by omega
      have hqm : (q : Int) < m := by omega
      have hkm : (k : Int) < m := by omega
      have c1 := hown1.cellAt (off + k) (by omega)
      have c2 := hown1.cellAt (off + q) (by omega)
      have hfz := fun j => hown1.frozen j
      rw [e1]
      go_wp2
      go_region
      all_goals
        go_wp2
        go_roundw
        case rel =>
          refine ⟨k + 1, by omega, by go_num, by first | (congr 1; omega) | (go_num), ?_, (hbut.setCell _ _).setCell _ _ |>.drew, ((hbel.setCell (Nat.le_refl _) _).setCell (Nat.le_refl _) _).drew⟩
          refine OwnInts.drew (((hown1.set (off + k) (by omega) _).set (off + q) (by omega) _).congr fun i hi => ?_)
          unfold onRow revTo
          by_cases h0 : i < off
          · rw [if_neg (by omega), if_neg (by omega), if_pos h0, if_pos h0]
          · obtain ⟨y, rfl⟩ : ∃ y, i = off + y := ⟨i - off, by omega⟩
            simp only [Nat.add_sub_cancel_left]
            by_cases h1 : y = q
            · subst h1
              rw [if_pos rfl, if_neg (by omega), if_neg (by omega), if_neg (by omega), if_pos (by omega)]
              congr 2; omega
            · by_cases h2 : y = k
              · subst h2
                rw [if_neg (by omega), if_pos rfl, if_neg (by omega), if_neg (by omega), if_neg (by omega), if_pos (by omega)]
                try (congr 2; omega)
              · rw [if_neg (by omega), if_neg (by omega), if_neg h0, if_neg h0]
                by_cases h3 : y < k ∨ m ≤ y + k
                · rw [if_pos (by omega), if_pos (by omega)]
                · rw [if_neg (by omega), if_neg (by omega)]
        case measure => simp [intOf]; omega
    · go_wp2
      go_end0
      refine ⟨⟨_, rfl⟩, hown1.congr (fun i hi => ?_), hbut, hbel⟩
      unfold onRow revTo
      by_cases h0 : i < off
      · rw [if_pos h0, if_pos h0]
      · rw [if_neg h0, if_neg h0]
        by_cases h3 : i - off < k ∨ m ≤ i - off + k
        · rw [if_pos h3]
        · rw [if_neg h3]; congr 1; omega
theorem lastAsc_step {g : Nat → Nat} {m : Nat} (h : g (m + 1) < g m) : lastAsc g (m + 1) = lastAsc g m := by simp [lastAsc, h]
theorem lastAsc_here {g : Nat → Nat} {m : Nat} (h : ¬ g (m + 1) < g m) : lastAsc g (m + 1) = some m := by simp [lastAsc, h]
theorem lastGe_step {g : Nat → Nat} {x m : Nat} (h : g (m + 1) < x) : lastGe g x (m + 1) = lastGe g x m := by simp [lastGe, h]
theorem lastGe_here {g : Nat → Nat} {x m : Nat} (h : ¬ g (m + 1) < x) : lastGe g x (m + 1) = m + 1 := by simp [lastGe, h]
theorem turn_eq (g : Nat → Nat) {n k q i : Nat} (hi : i < n) (hk : k + 1 < n) (hq : k < q) : onRow (fun i => if i = q then (g k : Int) else if i = k then (g q : Int) else (g i : Int)) (k + 1) (fun y => (fun i => if i = q then (g k : Int) else if i = k then (g q : Int) else (g i : Int)) (k + 1 + (n - (k + 1) - 1 - y))) i = ((turnF n (swapF g k q) k i : Nat) : Int) := by
  unfold onRow turnF swapF
  by_cases h0 : i ≤ k
  · simp only [if_pos (show i < k + 1 by omega), if_pos h0, if_neg (show ¬ i = q by omega)]
    split <;> rfl
  · have e1 : k + 1 + (n - (k + 1) - 1 - (i - (k + 1))) = n + k - i := by omega
    simp only [if_neg (show ¬ i < k + 1 by omega), if_neg h0, e1]
    split
    · rfl
    · split <;> rfl
set_option maxHeartbeats 2000000 in
theorem next_row (b n cap : Nat) (g : Nat → Nat) (w : World) (hn : n ≤ 1048576) (hcap : n ≤ cap) (hown : OwnInts w b n (fun i => (g i : Int))) :
    Calls Tryz0.prog 94 #[.slice (some ⟨b, 0, none⟩) n cap] w fun e w' => e = .returned (.bool (nextF n g).isSome) ∧ (∀ g', nextF n g = some g' → OwnInts w' b n (fun i => (g' i : Int))) ∧ But b w w' ∧ Below b w w' := by
  have hbl := hown.lt
  go_enter Tryz0.func94, Tryz.ntmps94
  go_wp2
  rcases Nat.eq_zero_or_pos n with hz | hpos
  · subst hz
    go_loopw [3] (fun x wr => x = .int .i64 (-2) ∧ wr = w) (fun x _ => 0)
    case atStart => exact ⟨by go_num, rfl⟩
    case round =>
      obtain ⟨rfl, rfl⟩ := hrel
      go_wp2
      go_quiet (fail)
      go_wp2
      go_ret
      exact ⟨ret_b rfl, fun g' h => by simp [nextF, lastAsc] at h, (But.refl _ _).drewN _, below_drewN (Below.refl _ _) _⟩
  have hpos' : 0 < n := hpos
  go_loopw [3] (fun x wr => ∃ k : Nat, x = .int .i64 ((k : Int) - 1) ∧ k + 1 ≤ n ∧ lastAsc g (n - 1) = lastAsc g k ∧ OwnInts wr b n (fun i => (g i : Int)) ∧ But b w wr ∧ Below b w wr) (fun x _ => (intOf x + 1).toNat)
  case atStart => exact ⟨n - 1, by go_num, by omega, rfl, hown, But.refl _ _, Below.refl _ _⟩
  case round =>
    obtain ⟨k, rfl, hk, hla, hown1, hbut, hbel⟩ := hrel
    cases k with
    | zero =>
      have hno : nextF n g = none := by unfold nextF; rw [hla]; rfl
      have HN : Hid (nextF n g = none) := hno
      clear hno
      go_wp2
      go_quiet (fail)
      go_wp2
      go_ret
      exact ⟨ret_b (by rw [HN.out]; rfl), fun g' h => absurd (HN.out.symm.trans h) (by simp), hbut.drewN _, below_drewN hbel _⟩
    | succ k =>
      have e0 : (((k + 1 : Nat) : Int) - 1) = (k : Int) := by omega
      have hkn : (k : Int) < n := by omega
      have hkn1 : (k : Int) + 1 < n := by omega
      have c1 := hown1.cellAt k (by omega)
      have c2 := hown1.cellAt (k + 1) (by omega)
      rw [e0]
      by_cases hd : g (k + 1) < g k
      · have hd' : (((g (k + 1) : Nat) : Int) < ((g k : Nat) : Int)) := by omega
        go_wp2
        go_quiet (fail)
        go_wp2
        go_roundw
        case rel => exact ⟨k, by go_num, by omega, hla.trans (lastAsc_step hd), hown1.drewN _, hbut.drewN _, below_drewN hbel _⟩
        case measure => simp [intOf] <;> omega
      · have hd' : ¬ (((g (k + 1) : Nat) : Int) < ((g k : Nat) : Int)) := by omega
        have hla2 : lastAsc g (n - 1) = some k := hla.trans (lastAsc_here hd)
        have HN : Hid (nextF n g = some (turnF n (swapF g k (lastGe g (g k) (n - 1))) k)) := by unfold nextF; rw [hla2]; exact rfl
        clear hla hla2
        go_wp2
        go_quiet (fail)
        go_wp2
        go_loopw [4] (fun x W => ∃ q : Nat, x = .int .i64 q ∧ k + 1 ≤ q ∧ q + 1 ≤ n ∧ lastGe g (g k) (n - 1) = lastGe g (g k) q ∧ OwnInts W b n (fun i => (g i : Int)) ∧ But b w W ∧ Below b w W) (fun x _ => (intOf x).toNat)
        case atStart => exact ⟨n - 1, by go_num, by omega, by omega, rfl, hown1.drewN _, hbut.drewN _, below_drewN hbel _⟩
        case round =>
          clear hown1 hbut hbel c1 c2
          obtain ⟨q, rfl, hkq, hqn, hge, hown1, hbut, hbel⟩ := hrel
          have c1 := hown1.cellAt k (by omega)
          have c2 := hown1.cellAt q (by omega)
          have hqn' : (q : Int) < n := by omega
          by_cases hc : g q < g k
          · have hc' : (((g q : Nat) : Int) < ((g k : Nat) : Int)) := by omega
            have hne : q ≠ k + 1 := fun e => by subst e; exact hd hc
            obtain ⟨q, rfl⟩ : ∃ p, q = p + 1 := ⟨q - 1, by omega⟩
            go_wp2
            go_quiet (fail)
            go_wp2
            go_roundw
            case rel => exact ⟨q, by go_num, by omega, by omega, hge.trans (lastGe_step hc), hown1.drewN _, hbut.drewN _, below_drewN hbel _⟩
            case measure => simp [intOf]
          · have hc' : ¬ (((g q : Nat) : Int) < ((g k : Nat) : Int)) := by omega
            have hge2 : lastGe g (g k) (n - 1) = q := by
              obtain ⟨p, rfl⟩ : ∃ p, q = p + 1 := ⟨q - 1, by omega⟩
              exact hge.trans (lastGe_here hc)
            rw [hge2] at HN
            have hfz := fun j => hown1.frozen j
            have hkq' : (k : Int) ≠ q := by omega
            go_wp2
            go_quiet (fail)
            go_wp2
            go_region
            all_goals
              go_wp2_with (go_at_call 120; refine (reverse_row b n (k + 1) (n - (k + 1)) _ _ _ hn (by omega) (((hown1.drewN _).set k (by omega) _).set q (by omega) _)).mono ?_; rintro e w1 ⟨⟨v1, rfl⟩, o1, t1, b1⟩)
              go_ret
              refine ⟨ret_b (by rw [HN.out]; rfl), fun g' h => ?_, (((hbut.drewN _).setCell _ _).setCell _ _).trans t1, (((below_drewN hbel _).setCell (Nat.le_refl _) _).setCell (Nat.le_refl _) _).trans b1⟩
              obtain rfl := Option.some.inj (HN.out.symm.trans h)
              exact o1.congr fun i hi => turn_eq g hi (by omega) (by omega)
end Go.Proofs.YtlmcblcijndipabGreat

namespace Go.Proofs.YtlmcblcijndipabGreat
open Go.RowKit
set_option linter.unusedVariables false
theorem wpList_append_run {P : Program} {ops : Array Oper} {rest : List Oper} {o : Oper} {a : Act} {w : World} {Q : Exit → Act → World → Prop} (hgd : o.guard = none) (s x : Operand) (t : TypeId)
    (ho : o.op = .call { callee := .builtin .append, args := #[s, x], argTypes := #[t, t] }) (v vx : Value) (hs : a.eval s = v) (hx : a.eval x = vx) {v' : Value} {w' : World}
    (hr : (Builtin.append_ #[t, t] o.type #[v, vx]).run P w = .ok v' w') (h : wpList P ops Q rest (a.put o.dst v') w') : wpList P ops Q (o :: rest) a w := by
  have hw : Region.wanted o (yielded ops a.tmps) = true := by simp [Region.wanted, hgd]
  unfold wpList
  rw [if_pos hw]
  refine .inl ?_
  unfold Oper.wp execOp
  simp only [ho, resolve, invoke, builtin, Sem.run_bind, Sem.run_pure, Result.andThen_ok, List.map_toArray, List.map_cons, List.map_nil, hs, hx, hr]
  exact h
def IntsB (w : World) (B : Nat) : Prop := ∃ cs, w.heap[B]? = some (.cells cs 3 (0, 0)) ∧ ∀ v ∈ cs, ∃ x : Int, v = .int .i64 x
theorem IntsB.below {B : Nat} {w w' : World} {b : Nat} (h : IntsB w b) (hb : Below B w w') (hB : b < B) : IntsB w' b := by
  obtain ⟨cs, h1, h2⟩ := h
  exact ⟨cs, (hb.block b hB).trans h1, h2⟩
theorem info_turns' : Tryz0.prog.underlying 85 = some (.slice 3) := by kernel_rfl
theorem append_clone (b n cap : Nat) (g : Nat → Int) (w : World) (hn : n ≤ 1048576) (hbs : b < w.heap.size) (hrow : IntRow w b 0 n g) :
    ∃ B c w', (Builtin.append_ #[85, 85] 85 #[.slice (some ⟨w.heap.size, 0, none⟩) 0 0, .slice (some ⟨b, 0, none⟩) n cap]).run Tryz0.prog (w.alloc (.cells #[] 3)) = .ok (.slice (some ⟨B, 0, none⟩) n c) w' ∧
      n ≤ c ∧ w.heap.size ≤ B ∧ B < w'.heap.size ∧ IntsB w' B ∧ IntRow w' B 0 n g ∧ Below w.heap.size w w' := by
  obtain ⟨i0, hI, hz0, hz1, hz2⟩ : ∃ i0, Tryz0.prog.info? 3 = some i0 ∧ i0.zero = some (.int .i64 0) ∧ i0.size = 1 ∧ i0.bytes = 8 := by
    have h := info_int
    cases hI : Tryz0.prog.info? 3 with
    | none => rw [hI] at h; simp at h
    | some i0 => rw [hI] at h; simp only [Option.map_some, Option.some.injEq, Prod.mk.injEq] at h; exact ⟨i0, rfl, h.2.2, h.1, h.2.1⟩
  have hB0 : Below w.heap.size w (w.alloc (.cells #[] 3)) := (Below.refl _ _).alloc (Nat.le_refl _) _
  have hrow1 := hrow.below hB0 hbs
  have hE : (w.alloc (.cells #[] 3)).heap[w.heap.size]? = some (.cells #[] 3 (0, 0)) := heap_alloc_new _ _
  let news : List Value := (List.range n).map fun j => .int .i64 (g j)
  have hnl : news.length = n * i0.size := by simp [news, hz1]
  have hnews : ∀ j u, news[j]? = some u → (w.alloc (.cells #[] 3)).cell? ((⟨b, 0, none⟩ : Addr).add j) = some u := fun j u hu => by
    have hj : j < n := by rcases Nat.lt_or_ge j n with h | h; exact h; rw [List.getElem?_eq_none (by simp [news]; exact h)] at hu; cases hu
    simp [news, hj] at hu
    rw [← hu]
    have := hrow1 j hj
    rw [show (⟨b, 0, none⟩ : Addr).add j = ⟨b, 0 + j, none⟩ by unfold Addr.add; split <;> simp_all]
    exact this
  have hone : ∀ u ∈ news, u.oneCell' = true := fun u hu => by simp [news] at hu; obtain ⟨_, _, rfl⟩ := hu; rfl
  rcases Nat.eq_zero_or_pos n with hz | hpos
  · subst hz
    have hr := run_append_room (P := Tryz0.prog) (w.alloc (.cells #[] 3)) 85 85 3 i0 info_turns' hI w.heap.size 0 0 #[] hE ⟨b, 0, none⟩ 0 cap news hnl hnews hone (by omega) (by simp [news])
    refine ⟨_, _, _, hr, Nat.le_refl _, Nat.le_refl _, ?_, ⟨_, setRow_heap _ _ _ _ _ _ hE, ?_⟩, fun i hi => absurd hi (Nat.not_lt_zero _), ?_⟩
    · simp
    · simp [news]
    · exact ⟨rfl, rfl, rfl, by simp, fun k hk => (setRow_other _ _ _ _ (by simp; omega)).trans (hB0.block k hk)⟩
  · have hr := run_append_grow (P := Tryz0.prog) (w.alloc (.cells #[] 3)) 85 85 3 i0 (.int .i64 0) info_turns' hI hz0 ⟨w.heap.size, 0, none⟩ 0 0 [] (by simp) (by simp) ⟨b, 0, none⟩ n cap news hnl hnews (by omega) (by omega) (growslice_fits (by omega) (by rw [hz2]; omega))
    have hge := grownCap_ge (w.alloc (.cells #[] 3)) (0 + n) 0 3
    simp only [Nat.zero_add] at hr hge
    refine ⟨_, _, _, hr, hge, ?_, ?_, ⟨_, heap_alloc_new _ _, ?_⟩, ?_, ?_⟩
    · simp
    · simp
    · intro v hv
      simp [news, Builtin.zeroCells, Value.cells] at hv
      rcases hv with ⟨j, _, rfl⟩ | ⟨x, _, rfl⟩
      · exact ⟨_, rfl⟩
      · exact ⟨0, by simp [Nat.mod_one]⟩
    · intro j hj
      have hA := heap_alloc_new (w.alloc (.cells #[] 3)).drew (.cells (#[] ++ news.toArray ++ Builtin.zeroCells (Value.int IntKind.i64 0).cells (grownCap (w.alloc (.cells #[] 3)) n 0 3 - n)) 3)
      rw [show (⟨(w.alloc (.cells #[] 3)).heap.size, 0 + j, none⟩ : Addr) = ⟨(w.alloc (.cells #[] 3)).drew.heap.size, j, none⟩ by simp]
      rw [cell_of_row _ _ _ _ _ _ hA]
      simp [news, hj, Array.getElem?_append]
    · exact (hB0.drew).alloc (by simp) _
set_option maxRecDepth 10000 in
set_option maxHeartbeats 1000000 in
theorem clone_row (b n cap : Nat) (g : Nat → Int) (w : World) (hn : n ≤ 1048576) (hbs : b < w.heap.size) (hrow : IntRow w b 0 n g) :
    Calls Tryz0.prog 95 #[.slice (some ⟨b, 0, none⟩) n cap] w fun e w' => ∃ B c, e = .returned (.slice (some ⟨B, 0, none⟩) n c) ∧ n ≤ c ∧ w.heap.size ≤ B ∧ B < w'.heap.size ∧ IntsB w' B ∧ IntRow w' B 0 n g ∧ Below w.heap.size w w' := by
  obtain ⟨B, c, w', hap, h1, h2, h3, h4, h5, h6⟩ := append_clone b n cap g w hn hbs hrow
  have hnil := Go.Lib.run_eql_slice_nil (P := Tryz0.prog) w 85 3 (some ⟨b, 0, none⟩) n cap 0 0 info_turns'
  go_enter Tryz0.func95, Tryz.ntmps95
  go_wp2_with (refine wpList_append_run rfl (.tmp 5) (.tmp 6) 85 rfl _ _ (by rfl) (by rfl) hap ?_)
  go_ret
  exact ⟨B, c, rfl, h1, h2, h3, h4, h5, h6⟩
end Go.Proofs.YtlmcblcijndipabGreat
