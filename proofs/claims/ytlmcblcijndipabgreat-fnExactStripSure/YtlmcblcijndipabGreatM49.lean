/- Texts of the proof, one behind another: G2, Y2. -/
import Derived.Test.YtlmcblcijndipabGreatM44
import Derived.Test.YtlmcblcijndipabGreatM31
import Derived.Test.YtlmcblcijndipabGreatM48
import Derived.Test.YtlmcblcijndipabGreatM35
import Derived.Test.YtlmcblcijndipabGreatM40
namespace Go.Proofs.YtlmcblcijndipabGreat
open Go Go.Conc Go.RowKit
set_option linter.unusedVariables false
def Tk (r : Option (Nat → Int)) (m lo : Nat) (w : World) (v : Value) : Prop :=
  match r with
  | some T => ∃ B c, lo ≤ B ∧ v = .slice (some ⟨B, 0, none⟩) m c ∧ OwnInts w B m T
  | none => ∃ a c, v = .slice a 0 c
theorem Tk.same {r : Option (Nat → Int)} {m lo : Nat} {w w' : World} {v : Value} (h : Tk r m lo w v) (e : ∀ b, lo ≤ b → b < w.heap.size → w'.heap[b]? = w.heap[b]?) : Tk r m lo w' v := by
  cases r with
  | none => exact h
  | some T => obtain ⟨B, c, h1, h2, h3⟩ := h; exact ⟨B, c, h1, h2, own_same h3 (e B h1 h3.lt)⟩
theorem post_tk {r : Option (Nat → Int)} {m : Nat} {V V' : World} {v : Value} (h : BestPost r m V v V') : ∃ v5, v = .tuple #[v5, .bool r.isSome] ∧ Tk r m V.heap.size V' v5 ∧ Bl V.heap.size V V' := by
  cases r with
  | none => obtain ⟨⟨a, c, rfl⟩, hb⟩ := h; exact ⟨_, rfl, ⟨a, c, rfl⟩, hb⟩
  | some T => obtain ⟨⟨B, c, h1, rfl, h2⟩, hb⟩ := h; exact ⟨_, rfl, ⟨B, c, h1, rfl, h2⟩, hb⟩
end Go.Proofs.YtlmcblcijndipabGreat

namespace Go.Proofs.YtlmcblcijndipabGreat
open Go Go.Conc Go.RowKit
set_option linter.unusedVariables false
set_option linter.unusedSectionVars false
theorem row_est {w : World} {b n k : Nat} {h : Nat → Mv} (hr : MvRow w b 0 n h) (hk : k < n) (x : Int) : MvRow (w.setCell ⟨b, k * 6 + 3, none⟩ (.int .i64 x)) b 0 n (fun i => if i = k then { h k with est := x } else h i) := fun i hi => by
  obtain ⟨c0, c1, c2, c3, c4, c5⟩ := hr i hi
  have o : ∀ j, j ≠ k * 6 + 3 → (w.setCell ⟨b, k * 6 + 3, none⟩ (.int .i64 x)).cell? ⟨b, j, none⟩ = w.cell? ⟨b, j, none⟩ := fun j hj => World.cell?_setCell_other _ _ _ _ (by intro e; cases e; exact hj rfl)
  by_cases e : i = k
  · subst e
    simp only [if_true]
    have c3' : w.cell? ⟨b, i * 6 + 3, none⟩ = some (.int .i64 (h i).est) := by rw [← c3]; congr 2; omega
    have s : (w.setCell ⟨b, i * 6 + 3, none⟩ (.int .i64 x)).cell? ⟨b, i * 6 + 3, none⟩ = some (.int .i64 x) := World.cell?_setCell_same' _ _ _ (by rw [c3']; rfl)
    exact ⟨(o _ (by omega)).trans c0, (o _ (by omega)).trans c1, (o _ (by omega)).trans c2, by rw [← s]; congr 2; omega, (o _ (by omega)).trans c4, (o _ (by omega)).trans c5⟩
  · simp only [if_neg e]
    exact ⟨(o _ (by omega)).trans c0, (o _ (by omega)).trans c1, (o _ (by omega)).trans c2, (o _ (by omega)).trans c3, (o _ (by omega)).trans c4, (o _ (by omega)).trans c5⟩
theorem MvRow.fcongr {w : World} {b off n : Nat} {h h' : Nat → Mv} (hr : MvRow w b off n h) (e : ∀ i, i < n → h i = h' i) : MvRow w b off n h' := fun i hi => by rw [← e i hi]; exact hr i hi
theorem plain_fr {w : World} {b : Nat} (h : PlainRow w b) (j : Nat) : w.frozen? ⟨b, j, none⟩ = false := by obtain ⟨cs, e, h1, _⟩ := h; exact frozen_of_row _ _ j _ _ h1
theorem BestPost.re {r : Option (Nat → Int)} {n : Nat} {V V' : World} {v : Value} (h : BestPost r n V v V') (τ : Nat → Question → Nat) (d : Nat) : BestPost r n V v (re V' τ d) := by
  obtain ⟨h1, h2⟩ := h
  refine ⟨?_, ⟨h2.size, h2.block⟩⟩
  cases r with
  | none => exact h1
  | some T => obtain ⟨B, c, k1, k2, k3⟩ := h1; exact ⟨B, c, k1, k2, own_same k3 rfl⟩
def raiseTo (g : Nat → Mv) (frm : Int) (k i : Nat) : Mv := if i < k then raiseMv (g i) frm else g i
theorem raiseTo_stay {g : Nat → Mv} {frm : Int} {k : Nat} (h : ¬ (g k).prom = -1) (i : Nat) : raiseTo g frm k i = raiseTo g frm (k + 1) i := by
  unfold raiseTo
  by_cases e : i = k
  · subst e; rw [if_neg (by omega), if_pos (by omega)]; unfold raiseMv; rw [if_neg h]
  · by_cases h1 : i < k
    · rw [if_pos h1, if_pos (by omega)]
    · rw [if_neg h1, if_neg (by omega)]
theorem raiseTo_up {g : Nat → Mv} {frm x : Int} {k : Nat} (h : (g k).prom = -1) (hx : max (g k).est frm = x) (i : Nat) : (if i = k then { raiseTo g frm k k with est := x } else raiseTo g frm k i) = raiseTo g frm (k + 1) i := by
  unfold raiseTo
  by_cases e : i = k
  · subst e; rw [if_pos rfl, if_neg (by omega), if_pos (by omega)]; unfold raiseMv; rw [if_pos h, hx]
  · rw [if_neg e]
    by_cases h1 : i < k
    · rw [if_pos h1, if_pos (by omega)]
    · rw [if_neg h1, if_neg (by omega)]
theorem raiseOk_at {m : Mv} {frm : Int} (h : m.prom = -1) : raiseOk m frm = decide (frm ≤ m.late) := by unfold raiseOk; simp [h]
theorem raiseOk_no {m : Mv} {frm : Int} (h : ¬ m.prom = -1) : raiseOk m frm = true := by unfold raiseOk; simp [h]
section
variable [Gl] {ok : Ctx} {c : Frame} {Q : Value → World → Prop}
set_option maxRecDepth 100000 in
set_option maxHeartbeats 4000000 in
theorem wk_plan (E : Wenv Tryz0.prog ok c Dr24) (hPl : ok.inn 57 = true) (hSB : ok.inn 8 = true) (hbt : ok.inn 25 = false) {r0 : Frame} {cs : List Frame} {V : World} (hr0 : ok.inn r0.fn = true)
    {b n cap : Nat} {g : Nat → Mv} {now shift : Int} (hn : n ≤ 6) (hg : ∀ i, i < n → (g i).ok = true) (h0 : 0 ≤ now) (h1 : now ≤ 20000) (hbs : b < V.heap.size) (hrow : MvRow V b 0 n g)
    (hcont : ∀ v V', BestPost (planR g n now shift) n V v V' → WkT Tryz0.prog ok c Dr24 Q ⟨r0.finish v, cs, V'⟩) :
    WkT Tryz0.prog ok c Dr24 Q ⟨Frame.enter Tryz0.prog 57 #[.slice (some ⟨b, 0, none⟩) n cap, .int .i64 now, .int .i64 shift] .normal, r0 :: cs, V⟩ := by
  have hE := enter_at (P := Tryz0.prog) #[.slice (some ⟨b, 0, none⟩) n cap, .int .i64 now, .int .i64 shift] Tryz0.func57 rfl
  simp only [Tryz.ntmps57, List.size_toArray, List.length_cons, List.length_nil, Nat.reduceAdd, Nat.reduceSub, Array.replicate_succ, Array.replicate_zero, List.push_toArray, List.append_toArray, List.nil_append, List.cons_append] at hE
  rw [hE]
  clear hE
  refine WkT.chain E hPl [_, _, _] _ (fun a' w' => (∀ i, i < n → raiseOk (g i) (now + 4) = true) ∧ Bl V.heap.size V w' ∧ ∃ B c8, V.heap.size ≤ B ∧ MvRow w' B 0 n (raiseF g (now + 4)) ∧ PlainRow w' B ∧ FrIs a' (fun u => #[u 0, u 1, .int .i64 shift, u 3, u 4, u 5, u 6, u 7, .slice (some ⟨B, 0, none⟩) n c8, u 9, u 10, u 11, u 12, u 13, u 14, u 15, u 16, u 17, u 18, u 19, u 20, u 21, u 22, u 23, u 24, u 25, u 26, u 27, u 28, u 29, u 30, u 31, u 32, u 33, u 34, u 35, u 36, u 37, u 38, u 39, u 40, u 41, u 42, u 43, u 44, u 45])) (fun a' w' => (¬ ∀ i, i < n → raiseOk (g i) (now + 4) = true) ∧ Bl V.heap.size V w' ∧ a'.defers = [] ∧ a'.tmps[6]? = some (.slice none 0 0) ∧ a'.tmps[7]? = some (.bool false)) ?_ ?_ ?_
  · intro τ d
    have H1 := cloneM_row b n cap g (re V τ d) (by omega) hbs (mv_same hrow rfl)
    have hbl0 : ∀ W, Below (re V τ d).heap.size (re V τ d) W → Bl V.heap.size V W := fun W h => Bl.ofR h
    have hz0 : (re V τ d).heap.size = V.heap.size := rfl
    clear hcont hrow
    simp only [wpChain]
    go_wp2_with (go_at_call 103; refine H1.mono ?_; clear H1; rintro e w1 ⟨B, c8, rfl, ow, pl1, b1⟩; have row1 := rowC_own ow; have hB0 := (ow.lt B rfl).1; clear ow)
    have hwr : IntKind.i64.wrap (now + 4) = now + 4 := by rw [IntKind.wrap_i64]; omega
    go_loopw [15, 9, 10] (fun x _ _ W => ∃ k : Nat, x = .int .i64 k ∧ k ≤ n ∧ Below (re V τ d).heap.size (re V τ d) W ∧ MvRow W B 0 n (raiseTo g (now + 4) k) ∧ PlainRow W B ∧ ∀ i, i < k → raiseOk (g i) (now + 4) = true) (fun x _ _ _ => n - (intOf x).toNat)
    case atStart => exact ⟨0, rfl, Nat.zero_le _, b1, row1.fcongr fun i _ => by unfold raiseTo; rw [if_neg (by omega)], pl1, fun i hi => absurd hi (Nat.not_lt_zero _)⟩
    case round =>
      clear row1 pl1 b1
      obtain ⟨k, rfl, hk, hBr, hrw, hpl, hall⟩ := hrel
      by_cases hlt : k < n
      · have hlt' : (k : Int) < n := by omega
        have hgk : raiseTo g (now + 4) k k = g k := by unfold raiseTo; rw [if_neg (Nat.lt_irrefl _)]
        have hok := Mv.ok_bd (hg k hlt)
        obtain ⟨c0, c1, c2, c3, c4, c5⟩ := hrw k hlt
        rw [hgk] at c0 c1 c2 c3 c4 c5
        simp only [Nat.zero_add] at c0 c1 c2 c3 c4 c5
        have hlB := hpl.lt
        have bA := boxMv_below wr (g k)
        have hMi := boxMv_at wr (g k)
        by_cases hp : (g k).prom = -1
        · obtain ⟨x, hx⟩ : ∃ x, max (g k).est (now + 4) = x := ⟨_, rfl⟩
          have hfr3 := plain_fr hpl (k * 6 + 3)
          go_wp2
          all_goals first | (exfalso; omega) | skip
          try rw [hx]
          have rS := (row_est hrw hlt x).fcongr (fun i _ => raiseTo_up hp hx i)
          have pS : PlainRow (wr.setCell ⟨B, k * 6 + 3, none⟩ (.int .i64 x)) B := hpl.set (.inr (.inl ⟨_, _, rfl⟩))
          have bS := hBr.setCell (p := ⟨B, k * 6 + 3, none⟩) (by show (re V τ d).heap.size ≤ B; omega) (.int .i64 x)
          have eS : (wr.setCell ⟨B, k * 6 + 3, none⟩ (.int .i64 x)).cell? ⟨B, k * 6 + 3, none⟩ = some (.int .i64 x) := World.cell?_setCell_same' _ _ _ (by rw [c3]; rfl)
          have zS : (wr.setCell ⟨B, k * 6 + 3, none⟩ (.int .i64 x)).heap.size = wr.heap.size := by simp
          revert rS pS bS eS zS
          generalize wr.setCell ⟨B, k * 6 + 3, none⟩ (.int .i64 x) = W0
          intro rS pS bS eS zS
          have bB : Below W0.heap.size W0 (W0.alloc (.cells #[.string (g k).name, .bool (g k).lands, .int .i64 (g k).wake, .int .i64 (g k).est, .int .i64 (g k).late, .int .i64 (-1)] 48)) := (Below.refl _ _).alloc (Nat.le_refl _) _
          have e1 := (bB.cell (p := ⟨B, k * 6 + 3, none⟩) pS.lt).trans eS
          have l1 : (W0.alloc (.cells #[.string (g k).name, .bool (g k).lands, .int .i64 (g k).wake, .int .i64 (g k).est, .int .i64 (g k).late, .int .i64 (-1)] 48)).cell? ⟨wr.heap.size, 4, none⟩ = some (.int .i64 (g k).late) := by rw [← zS]; simp
          have r1 := rS.below bB pS.lt
          have p1 := pS.same (bB.block B pS.lt)
          have b1 := bS.trans (bB.mono bS.size)
          revert e1 l1 r1 p1 b1
          generalize (W0.alloc (.cells #[.string (g k).name, .bool (g k).lands, .int .i64 (g k).wake, .int .i64 (g k).est, .int .i64 (g k).late, .int .i64 (-1)] 48)) = W1
          intro e1 l1 r1 p1 b1
          clear rS pS bS eS zS bB hrw hpl hBr c0 c1 c2 c3 c4 c5 bA hMi hfr3
          by_cases hle : x ≤ (g k).late
          · have hnl : ¬ (g k).late < x := by omega
            have hdl : decide ((g k).late < x) = false := by simpa using hnl
            have hne := later_some W1
            have x0 := fun x : Later W1 => x.cell e1
            have x1 := fun x : Later W1 => x.cell l1
            refine wp_region_later (by kernel_rfl) (by kernel_rfl) ?_
            repeat (go_big_quiet_step (fail))
            refine wpQuiet_nil (later_all ?_)
            intro w2 hb2
            clear hne x0 x1
            go_wp2
            all_goals first | (exfalso; omega) | skip
            go_roundw
            case rel => exact ⟨k + 1, by go_num, by omega, b1.trans (hb2.mono b1.size), r1.below hb2 p1.lt, p1.same (hb2.block B p1.lt), fun i hi => by
              by_cases e : i = k
              · subst e; rw [raiseOk_at hp]; simp; omega
              · exact hall i (by omega)⟩
            case measure => simp [intOf]; omega
          · have hnl : (g k).late < x := by omega
            have hno : ¬ ∀ i, i < n → raiseOk (g i) (now + 4) = true := fun h => by
              have := h k hlt
              rw [raiseOk_at hp] at this
              simp at this
              omega
            have hdl : decide ((g k).late < x) = true := by simpa using hnl
            have hne := later_some W1
            have x0 := fun x : Later W1 => x.cell e1
            have x1 := fun x : Later W1 => x.cell l1
            refine wp_region_later (by kernel_rfl) (by kernel_rfl) ?_
            repeat (go_big_quiet_step (fail))
            refine wpQuiet_nil (later_all ?_)
            intro w2 hb2
            clear hne x0 x1
            have hend := hbl0 _ (b1.trans (hb2.mono b1.size))
            go_wp2
            all_goals first | (exfalso; omega) | skip
            first
              | exact ⟨hno, hend⟩
              | (right; exact ⟨rfl, hno, hend, rfl, rfl, rfl⟩)
              | trace_state
        · go_wp2
          go_roundw
          case rel => exact ⟨k + 1, by go_num, by omega, hBr.trans (bA.mono hBr.size), (hrw.below bA hlB).fcongr (fun i _ => raiseTo_stay hp i), hpl.same (bA.block B hlB), fun i hi => by
            by_cases e : i = k
            · subst e; exact raiseOk_no hp
            · exact hall i (by omega)⟩
          case measure => simp [intOf]; omega
      · have hlt' : ¬ (k : Int) < n := by omega
        have hkn : k = n := by omega
        subst hkn
        go_wp2
        exact ⟨hall, hbl0 _ hBr, B, by omega, hrw.fcongr (fun i hi => by unfold raiseTo raiseF; rw [if_pos hi]), hpl, c8, rfl, rfl⟩
  · rintro a' w1 ⟨hall, hb1, B, c8, hB0, row1, pl1, hfr⟩
    obtain ⟨u, rfl⟩ := hfr.open
    clear hfr
    have hP : planR g n now shift = bestR (raiseF g (now + 4)) n shift (nearD (raiseF g (now + 4)) n shift) := by unfold planR; rw [if_pos hall]
    have hz1 := hb1.size
    refine WkT.seq E hPl (WkT.region E hPl ?_)
    rw [range_from]
    refine WkT.opsFrom E hPl 0 2 (by simp) (fun a' w' => (∃ τ d, w' = re w1 τ d) ∧ FrIs a' (fun u => #[u 0, u 1, .int .i64 shift, u 3, u 4, u 5, u 6, u 7, .slice (some ⟨B, 0, none⟩) n c8, u 9, u 10, u 11, u 12, u 13, u 14, u 15, u 16, u 17, u 18, u 19, u 20, u 21, u 22, u 23, u 24, u 25, u 26, u 27, u 28, u 29, u 30, u 31, u 32, u 33, u 34, u 35, u 36, u 37, u 38, u 39, u 40, .slice (some ⟨B, 0, none⟩) n c8, .int .i64 shift, u 43, u 44, u 45])) ?_ ?_
    · intro τ d
      clear hcont
      simp only [List.drop_zero, List.take_succ_cons, List.take_zero]
      go_wp2
      exact ⟨⟨τ, d, rfl⟩, rfl, rfl⟩
    rintro a' w' ⟨⟨τ, d, rfl⟩, hfr⟩
    clear u
    obtain ⟨u, rfl⟩ := hfr.open
    clear hfr
    refine WkT.bestOp E hSB hbt hPl (i := 2) rfl rfl (B := B) (off := 0) (n := n) (cap := c8) (f := raiseF g (now + 4)) (shift := shift) (fun w => by simp [execOp, resolve, invoke, Act.eval, go_sem]) (by omega) pl1.lt (mv_same row1 rfl) (plain_same pl1 rfl) (nearD_near _ n shift) ?_
    intro v V2 hpost
    have hpost0 : BestPost (planR g n now shift) n V v V2 := by
      rw [hP]
      refine ⟨?_, ⟨Nat.le_trans hb1.size hpost.2.size, fun k hk => (hpost.2.block k (by show k < w1.heap.size; omega)).trans (hb1.block k hk)⟩⟩
      have := hpost.1
      revert this
      cases bestR (raiseF g (now + 4)) n shift (nearD (raiseF g (now + 4)) n shift) with
      | none => exact id
      | some T => rintro ⟨B', c', h1, h2⟩; exact ⟨B', c', Nat.le_trans hz1 h1, h2⟩
    obtain ⟨v5, rfl, t5, hb2'⟩ := post_tk hpost
    obtain ⟨br, hbr⟩ : ∃ br, (bestR (raiseF g (now + 4)) n shift (nearD (raiseF g (now + 4)) n shift)).isSome = br := ⟨_, rfl⟩
    rw [hbr] at hpost0 ⊢
    have hco := hcont
    clear hcont hpost hb2' t5
    refine WkT.opsFrom E hPl 3 4 (by simp) (fun a' w' => (∃ τ d, w' = re V2 τ d) ∧ FrIs a' (fun u => #[u 0, u 1, u 2, u 3, u 4, u 5, v5, .bool br, u 8, u 9, u 10, u 11, u 12, u 13, u 14, u 15, u 16, u 17, u 18, u 19, u 20, u 21, u 22, u 23, u 24, u 25, u 26, u 27, u 28, u 29, u 30, u 31, u 32, u 33, u 34, u 35, u 36, u 37, u 38, u 39, u 40, u 41, u 42, u 43, u 44, u 45])) ?_ ?_
    · intro τ d
      clear hco
      simp only [List.drop_succ_cons, List.drop_zero, List.take_succ_cons, List.take_zero, Act.put]
      go_wp2
      exact ⟨⟨τ, d, rfl⟩, rfl, rfl⟩
    rintro a' w' ⟨⟨τ2, d2, rfl⟩, hfr⟩
    clear u
    obtain ⟨u, rfl⟩ := hfr.open
    clear hfr
    refine WkT.regionEnd E hPl (WkT.ret E hPl ?_)
    refine WkT.leave E hr0 (v := .tuple #[v5, .bool br]) (fun τ d => ⟨rfl, rfl, rfl, _, Tryz0.func57, ?_⟩) (hco (.tuple #[v5, .bool br]) _ (hpost0.re τ2 d2))
    have := results_tmp2 (fn := Tryz.f57) rfl ((fun u => #[u 0, u 1, u 2, u 3, u 4, u 5, v5, .bool br, u 8, u 9, u 10, u 11, u 12, u 13, u 14, u 15, u 16, u 17, u 18, u 19, u 20, u 21, u 22, u 23, u 24, u 25, u 26, u 27, u 28, u 29, u 30, u 31, u 32, u 33, u 34, u 35, u 36, u 37, u 38, u 39, u 40, u 41, u 42, u 43, u 44, u 45]) u) Tryz0.prog (re (re V2 τ2 d2) τ d)
    exact this
  · rintro a w todo ⟨h2, h3, h4, h5, h6⟩
    refine WkT.leave E hr0 (v := .tuple #[.slice none 0 0, .bool false]) (fun τ d => ⟨rfl, h4, rfl, _, Tryz0.func57, ?_⟩) (hcont _ _ ⟨by unfold planR; rw [if_neg h2]; exact ⟨none, 0, rfl⟩, h3⟩)
    have := results_tmp2 (fn := Tryz.f57) rfl a.tmps Tryz0.prog (re w τ d)
    rw [getD_of h5, getD_of h6] at this
    exact this
end
end Go.Proofs.YtlmcblcijndipabGreat
