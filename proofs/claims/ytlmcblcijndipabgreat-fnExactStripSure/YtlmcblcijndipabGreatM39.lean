/- Texts of the proof, one behind another: N3, N4. -/
import Derived.Test.YtlmcblcijndipabGreatM38
import Derived.Test.YtlmcblcijndipabGreatM16c
import Derived.Sort.LoopGhostIn
namespace Go.Proofs.YtlmcblcijndipabGreat
open Go.RowKit Go.Shelf
attribute [local go_sem] Oper.semAt_some
set_option linter.unusedVariables false
theorem makeT (n : Nat) (hn : n ≤ 1048576) (w : World) :
    (Instr.makeSlice 85 (.int .i64 (n : Int)) (.int .i64 (n : Int))).run Tryz0.prog w = .ok (.slice (some ⟨w.heap.size, 0, none⟩) n n) (w.alloc (.cells (madeCells #[.int .i64 0] n) 3)) := by
  have hi := info_int
  cases hI : Tryz0.prog.info? 3 with
  | none => rw [hI] at hi; simp at hi
  | some i =>
    rw [hI] at hi
    simp only [Option.map_some, Option.some.injEq, Prod.mk.injEq] at hi
    obtain ⟨h6, h56, hz⟩ := hi
    have := run_make (P := Tryz0.prog) w 85 3 i _ info_turns' hI hz .i64 .i64 n n (by omega) (by omega) (by rw [h56]; omega) (by omega)
    rw [h6] at this
    simpa [Value.cells] using this
theorem listT (n : Nat) (w : World) (hn : n ≤ 1048576) :
    Calls Tryz0.prog 90 #[.int .i64 (n : Int)] w fun e w' => e = .returned (.slice (some ⟨w.heap.size, 0, none⟩) n n) ∧ OwnInts w' w.heap.size n (fun i => (i : Int)) ∧ Below w.heap.size w w' := by
  have hmk := makeT n hn
  go_enter Tryz0.func90, Tryz.ntmps90
  go_wp2
  go_loopw [9] (fun i w' => ∃ k : Nat, k ≤ n ∧ i = .int .i64 k ∧ OwnInts w' w.heap.size n (fun i => if i < k then (i : Int) else 0) ∧ Below w.heap.size w w') (fun i _ => n - (intOf i).toNat)
  case atStart => exact ⟨0, Nat.zero_le _, rfl, (made_ints w n).congr (fun i hi => by simp), (Below.refl _ _).alloc (Nat.le_refl _) _⟩
  case round =>
    obtain ⟨k, hk, rfl, hown, hB⟩ := hrel
    by_cases hlt : k < n
    · have hlt' : (k : Int) < n := by omega
      have hd := hown.cellAt k hlt
      have hfz := hown.frozen k
      go_wp2
      go_roundw
      case rel => exact ⟨k + 1, by omega, by go_num, (hown.set k hlt (k : Int)).congr (fun i hi => by
        by_cases e : i = k
        · subst e; simp
        · simp only [if_neg e]; by_cases h : i < k
          · rw [if_pos h, if_pos (by omega)]
          · rw [if_neg h, if_neg (by omega)]), hB.setCell (by simp) _⟩
      case measure => simp [intOf]; omega
    · go_wp2
      go_ret
      exact ⟨rfl, hown.congr (fun i hi => by rw [if_pos (by omega)]), hB⟩
theorem orders_any (n : Int) (w : World) :
    Calls Tryz0.prog 50 #[.int .i64 n] w fun e w' => e = .returned (.func (.func 93) #[] #[.pointer (some ⟨w.heap.size, 0, none⟩)]) ∧ w' = w.alloc (.cells #[.int .i64 n] 3) := by
  go_enter Tryz0.func50, Tryz.ntmps50
  go_wp2
  go_ret
  exact ⟨rfl, rfl⟩
set_option maxHeartbeats 1000000 in
theorem orders_stops (m Bn n l : Nat) (J : Nat → World → Prop) (W : World) (hn : n ≤ 6) (hBn : Bn < W.heap.size) (hc : W.cell? ⟨Bn, 0, none⟩ = some (.int .i64 (n : Int)))
    (h0 : ∀ W', Below W.heap.size W W' → W.heap.size < W'.heap.size → J 0 W')
    (hs : ∀ k W1 W2, J k W1 → But W.heap.size W1 W2 → Below W.heap.size W1 W2 → J k W2)
    (hY : ∀ k lst W0 W1 C c, (allP n)[k]? = some lst → J k W0 → W.heap.size < W0.heap.size → Below W0.heap.size W0 W1 → W0.heap.size ≤ C → C < W1.heap.size → n ≤ c → IntsB W1 C → IntRow W1 C 0 n (fun i => ((pl lst i : Nat) : Int)) →
      YieldAt Fence.wide (m - 1) Tryz0.prog l #[.slice (some ⟨C, 0, none⟩) n c] W1 fun e W' => e = .returned (.bool true) ∧ J (k + 1) W' ∧ W1.heap.size ≤ W'.heap.size ∧ W'.heap[W.heap.size]? = W1.heap[W.heap.size]?) :
    CallsIn Fence.wide m Tryz0.prog 93 #[.func (.yield l) #[] #[], .pointer (some ⟨Bn, 0, none⟩)] W fun e W' => (∃ v, e = .returned v) ∧ J (allP n).length W' := by
  obtain ⟨hN, hN0⟩ := allP_length n hn
  obtain ⟨l0, hl0, hl0'⟩ := allP_first n hn
  have hch := chain_ok hn
  refine callsIn_of_wp Tryz0.func93 rfl trivial ?_ rfl
  simp only [Tryz.ntmps93, List.size_toArray, List.length_cons, List.length_nil, Nat.reduceAdd, Nat.reduceSub, Array.replicate_succ, Array.replicate_zero, List.push_toArray, List.append_toArray, List.nil_append, List.cons_append]
  gi_wp2_with (refine ⟨trivial, fun h => (by simp [Fence.wide] at h), ?_⟩; refine (callsIn_wide.2 (listT n W (by omega))).mono ?_; rintro e w1 ⟨rfl, own1, b1⟩)
  gi_loopg [4] (allP n).length (fun r v wr => (∃ k lst, v = .bool true ∧ r + k = (allP n).length ∧ (allP n)[k]? = some lst ∧ J k wr ∧ W.heap.size < wr.heap.size ∧ OwnInts wr W.heap.size n (fun i => ((pl lst i : Nat) : Int))) ∨ (v = .bool false ∧ J (allP n).length wr))
  case atStart => exact .inl ⟨0, l0, rfl, rfl, hl0, h0 _ b1 own1.lt, own1.lt, own1.congr fun i hi => by rw [hl0' i hi]⟩
  case round =>
    rcases hrel with ⟨k, lst, rfl, hrk, hlst, hJ, hlt, hown⟩ | ⟨rfl, hJ⟩
    · gi_wp2_with (first | (refine ⟨trivial, fun h => (by simp [Fence.wide] at h), ?_⟩; refine (callsIn_wide.2 (clone_row _ n n _ wr (by omega) hlt hown.2)).mono ?_; rintro e w2 ⟨C, c, rfl, hc1, hC1, hC2, hC3, hC4, b2⟩; obtain ⟨fn, tmps, assign, body, hy, hR⟩ := hY k lst wr w2 C c hlst hJ hlt b2 hC1 hC2 hc1 hC3 hC4))
      refine ⟨fun h => (by simp [Fence.wide] at h), hR.mono ?_⟩
      rintro e W3 ⟨rfl, hJ3, hz3, hT3⟩
      have hown3 : OwnInts W3 W.heap.size n (fun i => ((pl lst i : Nat) : Int)) := by
        have h2 := hown.below b2 hlt
        obtain ⟨⟨cs, g1, g2⟩, g3⟩ := h2
        have g1' := hT3.trans g1
        refine ⟨⟨cs, g1', g2⟩, fun i hi => ?_⟩
        rw [cell_of_row _ _ _ _ _ _ g1', ← cell_of_row w2 _ _ _ _ _ g1]
        exact g3 i hi
      have hlt3 : W.heap.size < W3.heap.size := hown3.lt
      obtain ⟨hc1', hc2'⟩ := chain_step hch hlst
      have hkN : k < (allP n).length := (List.getElem?_eq_some_iff.1 hlst).1
      clear hown hJ hy hR b2
      gi_wp2_with (refine ⟨trivial, fun h => (by simp [Fence.wide] at h), ?_⟩; refine (callsIn_wide.2 (next_row _ n n (pl lst) W3 (by omega) (Nat.le_refl _) hown3)).mono ?_; rintro e w4 ⟨rfl, g4, t4, b4⟩)
      by_cases hk1 : k + 1 < (allP n).length
      · obtain ⟨lst', hl'⟩ : ∃ x, (allP n)[k + 1]? = some x := ⟨_, List.getElem?_eq_getElem hk1⟩
        obtain ⟨g, hg, hg'⟩ := hc1' lst' hl'
        gi_roundg ((allP n).length - (k + 1))
        case rel => exact .inl ⟨k + 1, lst', by rw [hg]; rfl, by omega, hl', hs _ _ _ hJ3 t4 b4, by have := t4.size; omega, (g4 g hg).congr fun i hi => by rw [hg' i hi]⟩
        case measure => omega
      · have hg := hc2' (by omega)
        have hkN' : k + 1 = (allP n).length := by omega
        rw [hkN'] at hJ3
        gi_roundg 0
        case rel => exact .inr ⟨by rw [hg]; rfl, hs _ _ _ hJ3 t4 b4⟩
        case measure => omega
    · gi_wp2
      go_end0
      exact ⟨⟨_, rfl⟩, hJ⟩
end Go.Proofs.YtlmcblcijndipabGreat

namespace Go.Proofs.YtlmcblcijndipabGreat
open Go.RowKit Go.Shelf
set_option linter.unusedVariables false
structure Save (B : Nat) (w w' : World) : Prop where
  os : w'.os = w.os
  tape : w'.tape = w.tape
  output : w'.output = w.output
  size : w.heap.size ≤ w'.heap.size
  block : ∀ k, k < w.heap.size → (k < B ∨ B + 2 < k) → w'.heap[k]? = w.heap[k]?
theorem Save.trans {B : Nat} {a b c : World} (h : Save B a b) (k : Save B b c) : Save B a c :=
  ⟨k.os.trans h.os, k.tape.trans h.tape, k.output.trans h.output, Nat.le_trans h.size k.size, fun i hi hB => (k.block i (Nat.lt_of_lt_of_le hi h.size) hB).trans (h.block i hi hB)⟩
theorem Save.below {B : Nat} {w w' : World} (h : Below w.heap.size w w') : Save B w w' := ⟨h.os, h.tape, h.output, h.size, fun k hk _ => h.block k hk⟩
theorem Save.but {B : Nat} {w w' : World} (t : But (B + 2) w w') (h : Below (B + 2) w w') : Save B w w' := ⟨h.os, h.tape, h.output, h.size, fun k hk hB => t.block k hk (by omega)⟩
theorem Save.put {B : Nat} (w : World) (o : Obj) : Save B w (w.putObj (B + 1) o) := ⟨rfl, rfl, rfl, by simp [World.putObj], fun k hk hB => World.putObj_heap_other (by omega)⟩
variable {P : Program}
theorem wpIn_orders {g : Operand} {ps : Array Tmp} {assign body : Code} {Q : Exit → Act → World → Prop} {a : Act} {w : World} {m Bn n : Nat} (h1 : 1 ≤ m) (hg : a.eval g = .func (.func 93) #[] #[.pointer (some ⟨Bn, 0, none⟩)])
    (hn : n ≤ 6) (hBn : Bn < w.heap.size) (hc : w.cell? ⟨Bn, 0, none⟩ = some (.int .i64 (n : Int))) (hps : ps.size = 1)
    (I : Nat → World → Prop) (hI : ∀ k W1 W2, I k W1 → Save w.heap.size W1 W2 → I k W2) (h0 : I 0 w) (a₁ : Value → Act)
    (hassign : ∀ (l : Nat) (x : Value) (W : World) (K : Act → World → Prop), K (a₁ x) W →
      assign.wpIn (Fence.wide.inRound l) (m - 1 - 1) Tryz0.prog (Exit.then K (fun _ _ _ => False)) { tmps := (ps.zip #[x]).foldl (fun t (p, v) => t.setIfInBounds p v) a.tmps, defers := [] } W)
    (hbody : ∀ (l k : Nat) (lst : List Nat) (W0 W : World) (C c : Nat), (allP n)[k]? = some lst → I k W0 → w.heap.size + 2 < W0.heap.size → Save w.heap.size W0 W → W0.heap.size ≤ C → C < W.heap.size → n ≤ c → IntsB W C → IntRow W C 0 n (fun i => ((pl lst i : Nat) : Int)) →
      body.wpIn (Fence.wide.inRound l) (m - 1 - 1) Tryz0.prog (fun e _ W' => e = .normal ∧ I (k + 1) W' ∧ W.heap.size ≤ W'.heap.size ∧ ∀ b, w.heap.size ≤ b → b ≤ w.heap.size + 2 → W'.heap[b]? = W.heap[b]?) (a₁ (.slice (some ⟨C, 0, none⟩) n c)) W)
    (hdone : ∀ (D : Nat) (W : World), w.heap.size ≤ D → I (allP n).length W → W.heap[D]? = some (.deferred (some [])) → Q .normal { a with defers := { target := .collected D, args := #[] } :: a.defers } W) :
    (Code.rangeFunc g ps assign body).wpIn Fence.wide m Tryz0.prog Q a w := by
  refine wpIn_rangeFunc ?_
  intro fn hfn
  show _
  obtain ⟨rec, hrec⟩ : ∃ rec : LoopState → Option Code → Loop, rec = fun st pe => { state := st, pending := pe, fn, tmps := a.tmps, params := ps, assign, body, defers := w.heap.size } := ⟨_, rfl⟩
  obtain ⟨W1, hW1⟩ : ∃ W1, (w.alloc (.deferred (some []))).alloc (.loop (rec .ready none)) = W1 := ⟨_, rfl⟩
  have hL1 : W1.heap[w.heap.size + 1]? = some (.loop (rec .ready none)) := by
    rw [← hW1]; have := World.alloc_heap_new (w.alloc (.deferred (some []))) (.loop (rec .ready none)); rwa [World.size_alloc] at this
  have hK1 : W1.heap[w.heap.size]? = some (.deferred (some [])) := by
    rw [← hW1]; exact (Below.heap_alloc _ _ _ (by simp)).trans (World.alloc_heap_new w _)
  have hb1 : Below w.heap.size w W1 := by
    rw [← hW1]; exact ((Below.refl _ w).alloc (Nat.le_refl _) _).alloc (by simp) _
  have hz1 : W1.heap.size = w.heap.size + 2 := by rw [← hW1]; simp
  refine ⟨w.heap.size + 1, [{ target := .collected w.heap.size, args := #[] }], W1, { target := .fn (.func 93) #[.pointer (some ⟨Bn, 0, none⟩)], args := #[.func (.yield (w.heap.size + 1)) #[] #[]] }, W1, 93,
    #[.func (.yield (w.heap.size + 1)) #[] #[]] ++ #[.pointer (some ⟨Bn, 0, none⟩)], W1, ?_, ?_, ?_, ?_, fun _ => h1, ?_⟩
  · rw [← hW1, hrec]; exact run_enterLoop_outer _ _ _ _ _
  · simp only [resolve, hg]
    simp [go_sem]
  · intro f' hf'; trivial
  · simp [invoke, go_sem]
  · have hst := orders_stops (m - 1) Bn n (w.heap.size + 1) (fun k W => I k W ∧ W.heap[w.heap.size + 1]? = some (.loop (rec .ready none)) ∧ W.heap[w.heap.size]? = some (.deferred (some [])))
      W1 hn (by omega) ((hb1.cell (p := ⟨Bn, 0, none⟩) hBn).trans hc) ?_ ?_ ?_
    · refine hst.mono ?_
      rintro e W2 ⟨⟨v, rfl⟩, hi, hl, hk⟩
      exact ⟨none, _, by have := run_endLoop (P := Tryz0.prog) hl (by rw [hrec]; simp); rw [hrec] at this; exact this, hdone _ _ (Nat.le_refl _) (hI _ _ _ hi (Save.put _ _)) ((World.putObj_heap_other (by omega)).trans hk)⟩
    · intro W' hb hlt
      exact ⟨hI _ _ _ h0 ((Save.below hb1).trans (Save.below hb)), (hb.block _ (by omega)).trans hL1, (hb.block _ (by omega)).trans hK1⟩
    · rintro k Wa Wb ⟨hi, hl, hk⟩ ht hb
      rw [hz1] at ht hb
      have z1 := (Array.getElem?_eq_some_iff.1 hl).1
      exact ⟨hI _ _ _ hi (Save.but ht hb), (ht.block _ (by omega) (by omega)).trans hl, (ht.block _ (by omega) (by omega)).trans hk⟩
    · rintro k lst W0 W C c hlst ⟨hi, hl, hk⟩ hlt hb hC hC' hcc hC3 hC4
      rw [hz1] at hlt
      replace hl := (hb.block _ (by omega)).trans hl
      replace hk := (hb.block _ (by omega)).trans hk
      have hlt1 : w.heap.size + 1 < W.heap.size := by omega
      have hy := run_yield (P := Tryz0.prog) (args := #[.slice (some ⟨C, 0, none⟩) n c]) hl (by rw [hrec]; simp [hps])
      rw [hrec] at hy
      refine ⟨fn, _, assign, body, hy, roundIn_of_wpIn hfn (hassign _ _ W _ ⟨_, run_beginRound hl (by rw [hrec]), ?_⟩)⟩
      have hl2 : (W.putObj (w.heap.size + 1) (.loop { rec .ready none with state := .busy })).heap[w.heap.size + 1]? = some (.loop { rec .ready none with state := .busy }) := World.putObj_heap_same hlt1
      have hk2 : (W.putObj (w.heap.size + 1) (.loop { rec .ready none with state := .busy })).heap[w.heap.size]? = some (.deferred (some [])) := (World.putObj_heap_other (by omega)).trans hk
      have hT2 : (W.putObj (w.heap.size + 1) (.loop { rec .ready none with state := .busy })).heap[w.heap.size + 2]? = W.heap[w.heap.size + 2]? := World.putObj_heap_other (by omega)
      have hCne : w.heap.size + 1 ≠ C := by omega
      have hC2 : (W.putObj (w.heap.size + 1) (.loop { rec .ready none with state := .busy })).heap[C]? = W.heap[C]? := World.putObj_heap_other (by omega)
      have hzz : (W.putObj (w.heap.size + 1) (.loop { rec .ready none with state := .busy })).heap.size = W.heap.size := by simp [World.putObj]
      refine wpIn_mono (hbody _ k lst W0 _ C c hlst hi (by omega) ((Save.below hb).trans (Save.put _ _)) hC (by rw [hzz]; exact hC') hcc (by obtain ⟨cs, g1, g2⟩ := hC3; exact ⟨cs, hC2.trans g1, g2⟩) (fun i hi => by have := hC4 i hi; simp only [World.cell?, hC2] at this ⊢; exact this)) ?_
      rintro e a3 W3 ⟨rfl, hi3, hz3, hk3⟩
      have hl3 := (hk3 (w.heap.size + 1) (by omega) (by omega)).trans hl2
      have hr := run_endRound (P := Tryz0.prog) none hl3
      rw [hrec] at hr
      have hz4 : W.heap.size ≤ W3.heap.size := Nat.le_trans (Nat.le_of_eq hzz.symm) hz3
      have hlt3 : w.heap.size + 1 < W3.heap.size := by omega
      refine ⟨_, _, hr, rfl, ⟨hI _ _ _ hi3 (Save.put _ _), ?_, ?_⟩, ?_, ?_⟩
      · rw [World.putObj_heap_same hlt3, hrec]; rfl
      · exact (World.putObj_heap_other (by omega)).trans ((hk3 _ (by omega) (by omega)).trans hk2)
      · simp only [World.putObj, Array.size_setIfInBounds]; exact hz4
      · rw [hz1]
        exact (World.putObj_heap_other (by omega)).trans ((hk3 _ (by omega) (by omega)).trans hT2)
end Go.Proofs.YtlmcblcijndipabGreat
