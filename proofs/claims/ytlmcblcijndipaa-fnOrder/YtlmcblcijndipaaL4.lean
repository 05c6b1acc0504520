/- FnOrder: the ticks in a drawn order, walked. -/
import Derived.Test.YtlmcblcijndipaaL3
import Derived.Deep.RegionHeld3
namespace Go.Proofs.Ytlmcblcijndipaa
open Go.RowKit
set_option linter.unusedVariables false

/-- the numbers of a row -/
def ivals (T : Nat → Int) (n : Nat) : List Value := (List.range n).map fun j => .int .i64 (T j)
theorem ivals_len (T : Nat → Int) (n : Nat) : (ivals T n).length = n := by simp [ivals]
theorem ivals_get {T : Nat → Int} {n j : Nat} (h : j < n) : (ivals T n)[j]? = some (.int .i64 (T j)) := by simp [ivals, h]
theorem ivals_one (T : Nat → Int) (n : Nat) : ∀ u ∈ ivals T n, u.oneCell' = true := fun u hu => by unfold ivals at hu; simp at hu; obtain ⟨_, _, rfl⟩ := hu; rfl
theorem ivals_cells {w : World} {b n : Nat} {T : Nat → Int} (h : IntRow w b 0 n T) : ∀ (j : Nat) (u : Value), (ivals T n)[j]? = some u → w.cell? ((⟨b, 0, none⟩ : Addr).add j) = some u := fun j u hu => by
  have hj : j < n := by rcases Nat.lt_or_ge j n with h | h; exact h; rw [List.getElem?_eq_none (by rw [ivals_len]; exact h)] at hu; cases hu
  rw [ivals_get hj] at hu
  rw [addr_add, h j hj]; exact hu
theorem own_irow {w : World} {base B n c : Nat} {T : TypeId} {t : Nat → Int} (h : w.ownsRow base T 1 (.slice (some ⟨B, 0, none⟩) n c) n (ivals t n)) : IntRow w B 0 n t := fun i hi => by
  rw [Nat.zero_add, h.cellAt i (by omega)]; exact ivals_get hi
theorem own_pos {w : World} {base : Nat} {T : TypeId} {v : Value} {n : Nat} {xs : List Value} (h : w.ownsRow base T 1 v n xs) (hn : 0 < n) : ∃ B c, v = .slice (some ⟨B, 0, none⟩) n c := by
  obtain ⟨k, rfl⟩ : ∃ k, n = k + 1 := ⟨n - 1, by omega⟩
  exact own_succ h
theorem IntRow.set {w : World} {b n k : Nat} {t : Nat → Int} (h : IntRow w b 0 n t) (hk : k < n) (x : Int) : IntRow (w.setCell ⟨b, k, none⟩ (.int .i64 x)) b 0 n (fun p => if p = k then x else t p) := fun i hi => by
  rw [Nat.zero_add]
  by_cases e : i = k
  · subst e
    have h1 := h i hi
    rw [Nat.zero_add] at h1
    simp only [if_true]
    exact World.cell?_setCell_same' _ _ _ (by rw [h1]; rfl)
  · rw [World.cell?_setCell_other _ _ _ _ (by intro e'; cases e'; exact e rfl)]
    simp only [if_neg e]
    have h1 := h i hi
    rw [Nat.zero_add] at h1
    exact h1

set_option maxRecDepth 10000 in
set_option maxHeartbeats 8000000 in
theorem order_any (a : Option Addr) (n cap : Nat) (c : Nat → Int) (w : World) (h : IsCode w a n c) (hcap : n ≤ cap) :
    Calls Try.prog 3 #[.slice a n cap] w fun e w' => e = .returned (.bool true) ∧ Below w.heap.size w w' := by
  have hn := h.1
  unfold maxLen at hn
  have H1 := draw_any a n cap c w h hcap
  go_enter Try.func3, Try.ntmps3
  go_wp2_with (go_at_call 7; refine H1.mono ?_; clear H1; rintro e w1 ⟨⟨B, c1, m, f, B', c', k, g, rfl, hm, hk, hkc, hB, row1, hf, hB', ord1⟩, b1⟩)
  · go_ret
    exact ⟨rfl, Below.refl _ _⟩
  · have hff : ∀ i, i < m → (f i).Fits := fun i hi => (hf i hi).fits
    have H2 := implOrder_row B 0 m c1 f B' 0 k c' g w1 (by omega) (by omega) hkc hB row1 hB' ord1
    clear h hcap hf
    cases hR : orderR f m g k with
    | none =>
      have HR : Hid (orderR f m g k = none) := hR
      rw [hR] at H2
      clear hR
      go_wp2_with (first
        | (go_at_call 8; refine H2.mono ?_; clear H2; rintro e w2 ⟨⟨ai, ci, rfl⟩, b2⟩; have H3 := specOrder_row B 0 m c1 f B' 0 k c' g w2 (by omega) (by omega) (Nat.lt_of_lt_of_le hB b2.size) (row1.below b2 hB) hff (Nat.lt_of_lt_of_le hB' b2.size) (ord1.below b2 hB'); rw [HR.out] at H3)
        | (go_at_call 9; refine H3.mono ?_; clear H3; rintro e w3 ⟨⟨aw, cs, rfl⟩, b3⟩; replace b3 := b2.trans (b3.mono b2.size); have H4 := wInts_none ai aw ci cs w3)
        | (go_at_call 10; refine H4.mono ?_; clear H4; rintro e w4 ⟨rfl, b4⟩; replace b4 := b3.trans (b4.mono b3.size); have H5 := implFirst_row B 0 m c1 f w4 (by omega) (Nat.lt_of_lt_of_le hB b4.size) (row1.below b4 hB))
        | (go_at_call 11; refine H5.mono ?_; clear H5; rintro e w5 ⟨⟨g1, B1, k1, hf1, _, rfl, o5⟩, b5⟩; replace b5 := b4.trans (b5.mono b4.size); have H6 := specFirst_row B 0 m c1 f w5 (by omega) (Nat.lt_of_lt_of_le hB b5.size) (row1.below b5 hB))
        | (go_at_call 12; refine H6.mono ?_; clear H6; rintro e w6 ⟨⟨g2, B2, k2, hf2, rfl, lt6, i6⟩, b6⟩; have o6 := o5.below b6 o5.lt; replace b6 := b5.trans (b6.mono b5.size); have H7 := wInts_same B1 0 k1 B2 0 k2 m (fun i => ((g1 i : Nat) : Int)) w6 (by omega) o6.lt o6.2 lt6 (i6.congr (first_one hf2 hf1)))
        | (go_at_call 10; refine H7.mono ?_; clear H7; rintro e w7 ⟨rfl, b7⟩; replace b7 := b6.trans (b7.mono b6.size); have H8 := implMoves_row B 0 m c1 f w7 (by omega) (Nat.lt_of_lt_of_le hB b7.size) (row1.below b7 hB))
        | (go_at_call 13; refine H8.mono ?_; clear H8; rintro e w8 ⟨rfl, b8⟩; replace b8 := b7.trans (b8.mono b7.size); have H9 := specMoves_row B 0 m c1 f w8 (by omega) (Nat.lt_of_lt_of_le hB b8.size) (row1.below b8 hB) hff)
        | (go_at_call 14; refine H9.mono ?_; clear H9; rintro e w9 ⟨rfl, b9⟩; replace b9 := b8.trans (b9.mono b8.size)))
      go_ret
      exact ⟨rfl, b1.trans (b9.mono b1.size)⟩
    | some T =>
      obtain ⟨hmv, hkm, hord, hE⟩ := orderR_some hR
      subst hkm
      have HR : Hid (orderR f k g k = some T) := hR
      rw [hR] at H2
      clear hR
      have HF : Hid (fitsB f k T k = true) := by have h : fitsB f k T k = true := (fitsB_iff hmv).mpr hE.fit
                                                 exact h
      have HM : Hid (movesB f k = true) := hmv
      clear hmv
      go_wp2_with (first
        | (go_at_call 8; refine H2.mono ?_; clear H2; rintro e w2 ⟨⟨Bi, ci, hBi, rfl, o2⟩, b2⟩; have H3 := specOrder_row B 0 k c1 f B' 0 k c' g w2 (by omega) (by omega) (Nat.lt_of_lt_of_le hB b2.size) (row1.below b2 hB) hff (Nat.lt_of_lt_of_le hB' b2.size) (ord1.below b2 hB'); rw [HR.out] at H3)
        | (go_at_call 9; refine H3.mono ?_; clear H3; rintro e w3 ⟨⟨Bs, cs, hBs, rfl, s3⟩, b3⟩; have o3 := o2.below b3 o2.lt; replace b3 := b2.trans (b3.mono b2.size); have H4 := wInts_same Bi 0 ci Bs 0 cs k T w3 (by omega) o3.lt o3.2 s3.lt s3.2)
        | (go_at_call 10; refine H4.mono ?_; clear H4; rintro e w4 ⟨rfl, b4⟩; have o4 := o3.below b4 o3.lt; replace b4 := b3.trans (b4.mono b3.size); have H5 := implFirst_row B 0 k c1 f w4 (by omega) (Nat.lt_of_lt_of_le hB b4.size) (row1.below b4 hB))
        | (go_at_call 11; refine H5.mono ?_; clear H5; rintro e w5 ⟨⟨g1, B1, k1, hf1, _, rfl, p5⟩, b5⟩; have o5 := o4.below b5 o4.lt; replace b5 := b4.trans (b5.mono b4.size); have H6 := specFirst_row B 0 k c1 f w5 (by omega) (Nat.lt_of_lt_of_le hB b5.size) (row1.below b5 hB))
        | (go_at_call 12; refine H6.mono ?_; clear H6; rintro e w6 ⟨⟨g2, B2, k2, hf2, rfl, lt6, i6⟩, b6⟩; have p6 := p5.below b6 p5.lt; have o6 := o5.below b6 o5.lt; replace b6 := b5.trans (b6.mono b5.size); have H7 := wInts_same B1 0 k1 B2 0 k2 k (fun i => ((g1 i : Nat) : Int)) w6 (by omega) p6.lt p6.2 lt6 (i6.congr (first_one hf2 hf1)))
        | (go_at_call 10; refine H7.mono ?_; clear H7; rintro e w7 ⟨rfl, b7⟩; have o7 := o6.below b7 o6.lt; replace b7 := b6.trans (b7.mono b6.size); have H8 := implMoves_row B 0 k c1 f w7 (by omega) (Nat.lt_of_lt_of_le hB b7.size) (row1.below b7 hB))
        | (go_at_call 13; refine H8.mono ?_; clear H8; rintro e w8 ⟨rfl, b8⟩; have o8 := o7.below b8 o7.lt; replace b8 := b7.trans (b8.mono b7.size); have H9 := specMoves_row B 0 k c1 f w8 (by omega) (Nat.lt_of_lt_of_le hB b8.size) (row1.below b8 hB) hff)
        | (go_at_call 14; refine H9.mono ?_; clear H9; rintro e w9 ⟨rfl, b9⟩; have o9 := o8.below b9 o8.lt; replace b9 := b8.trans (b9.mono b8.size); have H10 := implFits_row B 0 k c1 f Bi 0 k ci T w9 (by omega) (by unfold maxLen; omega) (Nat.lt_of_lt_of_le hB b9.size) (row1.below b9 hB) o9.lt o9.2; rw [HF.out] at H10)
        | (go_at_call 15; refine H10.mono ?_; clear H10; rintro e w10 ⟨rfl, b10⟩; have o10 := o9.below b10 o9.lt; replace b10 := b9.trans (b10.mono b9.size); have H11 := wFits_row B 0 k c1 f Bi 0 ci T w10 (Nat.lt_of_lt_of_le hB b10.size) (row1.below b10 hB) o10.lt o10.2 HM.out hE.fit)
        | (go_at_call 16; refine H11.mono ?_; clear H11; rintro e w11 ⟨rfl, b11⟩; have o11 := o10.below b11 o10.lt; replace b11 := b10.trans (b11.mono b10.size)))
      have hB11 : Below w.heap.size w w11 := b1.trans (b11.mono b1.size)
      have row11 := row1.below b11 hB
      have ord11 := plc_row (ord1.below b11 hB') hord
      have lB := Nat.lt_of_lt_of_le hB b11.size
      have lB' := Nat.lt_of_lt_of_le hB' b11.size
      have lBi := o11.lt
      clear o2 o3 o4 o5 o6 o7 o8 o9 o10 s3 p5 p6 i6 b2 b3 b4 b5 b6 b7 b8 b9 b10 b11 row1 ord1 hf1 hf2 b1
      have hE' := hE
      have HE : Hid (Earl f (plc g) k T) := hE
      clear hE' hE HR HF
      obtain ⟨i0, hI, hz0, hz1, hz2⟩ : ∃ i0, Try.prog.info? 3 = some i0 ∧ i0.zero = some (.int .i64 0) ∧ i0.size = 1 ∧ i0.bytes = 8 := by
        have h := info_int
        cases hI : Try.prog.info? 3 with
        | none => rw [hI] at h; simp at h
        | some i0 => rw [hI] at h; simp only [Option.map_some, Option.some.injEq, Prod.mk.injEq] at h; exact ⟨i0, rfl, h.2.2, h.1, h.2.1⟩
      go_loopw [9, 10] (fun x s wr => ∃ j : Nat, j ≤ k ∧ x = .int .i64 j ∧ Below w11.heap.size w11 wr) (fun x _ _ => k - (intOf x).toNat)
      case atStart => exact ⟨0, Nat.zero_le _, rfl, Below.refl _ _⟩
      case round =>
        obtain ⟨j, hj, rfl, hBr⟩ := hrel
        by_cases hlt : j < k
        · have hlt' : (j : Int) < k := by omega
          have hoj := plc_lt hord j hlt
          have hoj' : ((plc g j : Nat) : Int) < k := by omega
          have rr := ord11.below hBr lB'
          have tt := o11.2.below hBr lBi
          have ej := rr j hlt
          have tj := tt (plc g j) hoj
          simp only [Nat.zero_add] at ej tj
          have hbd := Mv.ok_bd (movesB_ok HM.out (plc g j) hoj)
          have hsu := suits_bd (HE.out.fit.1 (plc g j) hoj)
          have hwr : IntKind.i64.wrap (T (plc g j) - 1) = T (plc g j) - 1 := by rw [IntKind.wrap_i64]; omega
          have HFS : Hid (fitsB f k (fun p => if p = plc g j then T p - 1 else T p) k = false) := by
            have h : fitsB f k (fun p => if p = plc g j then T p - 1 else T p) k = false := by
              rw [Bool.eq_false_iff]; intro hh; exact HE.out.least j hlt ((fitsB_iff HM.out).mp hh)
            exact h
          have hne := later_some wr
          have x0 := fun x : Later wr => x.cell ej
          have x1 := fun x : Later wr => x.cell tj
          rcases j with _ | j
          · go_wp2
            refine wp_region_later (by kernel_rfl) (by kernel_rfl) ?_
            repeat (go_big_quiet_step (fail))
            refine wpQuiet_nil (later_all ?_)
            intro w12 hb12
            have B12 : Below w11.heap.size w11 w12 := hBr.trans (hb12.mono hBr.size)
            have r12 := ord11.below B12 lB'
            have t12 := o11.2.below B12 lBi
            have l12 : Bi < w12.heap.size := Nat.lt_of_lt_of_le lBi B12.size
            have l12' : B' < w12.heap.size := Nat.lt_of_lt_of_le lB' B12.size
            have bA : Below w12.heap.size w12 (w12.alloc (.cells #[] 3)) := (Below.refl _ _).alloc (Nat.le_refl _) _
            clear hne x0 x1 hb12 rr tt ej tj
            go_wp2_with (at_builtin; refine wpList_append_own _ rfl (.tmp 96) (.tmp 97) 24 rfl w12.heap.size 3 i0 _ 1 8 Try.underlying24 hI hz0 hz1 hz2 rfl (by decide) (.slice (some ⟨w12.heap.size, 0, none⟩) 0 0) 0 [] (by rfl) (own_empty (Nat.le_refl _) (heap_alloc_new _ _)) ⟨Bi, 0, none⟩ k ci (ivals T k) (by rfl) (by rw [ivals_len]; omega) (ivals_cells (t12.below bA l12)) (ivals_one T k) (by unfold maxLen; omega) (by omega) (by simp) ?_; intro v13 w13 ho13 hg13 _; simp only [Nat.zero_add, List.nil_append] at ho13; obtain ⟨B3, c3, rfl⟩ := own_pos ho13 (by omega))
            have b13 : Below w12.heap.size w12 w13 := bA.grown hg13 bA.size (fun q hq => by simp [Value.ownBlock] at hq; omega)
            have hl3 : w12.heap.size ≤ B3 := own_block ho13 B3 rfl
            have s13 := own_irow ho13
            have lt3 : B3 < w13.heap.size := (own_open ho13).2.1
            have e13 := r12.below b13 l12' (0) hlt
            have q13 := s13 (plc g (0)) hoj
            simp only [Nat.zero_add] at e13 q13
            obtain ⟨_, _, cur, hcur, _⟩ := own_open ho13
            have fr13 := frozen_of_row w13 B3 (plc g (0)) cur _ hcur
            clear hcur ho13 hg13
            go_region_with (fail)
            all_goals
              have sN : IntRow (w13.setCell ⟨B3, plc g (0), none⟩ (.int .i64 (T (plc g (0)) - 1))) B3 0 k (fun p => if p = plc g (0) then T p - 1 else T p) := (s13.set hoj (T (plc g (0)) - 1)).congr (fun p hp => by
                by_cases e : p = plc g (0)
                · subst e; simp
                · simp only [if_neg e])
              have sD : IntRow (w13.setCell ⟨B3, plc g (0), none⟩ (.int .i64 (T (plc g (0)) - 1))).drew B3 0 k (fun p => if p = plc g (0) then T p - 1 else T p) := sN
              have bN : Below w12.heap.size w12 (w13.setCell ⟨B3, plc g (0), none⟩ (.int .i64 (T (plc g (0)) - 1))).drew := (b13.setCell hl3 _).drew
              have lN : B3 < (w13.setCell ⟨B3, plc g (0), none⟩ (.int .i64 (T (plc g (0)) - 1))).drew.heap.size := by simpa using lt3
              clear sN
              revert sD bN lN
              generalize (w13.setCell ⟨B3, plc g (0), none⟩ (.int .i64 (T (plc g (0)) - 1))).drew = W14
              intro sD bN lN
              have B14 : Below w11.heap.size w11 W14 := B12.trans (bN.mono B12.size)
              have fitN : ∀ x : Later W14, Calls Try.prog 15 #[.slice (some ⟨B, 0, none⟩) k c1, .slice (some ⟨B3, 0, none⟩) k c3] x.at_ fun e w' => e = .returned (.bool false) ∧ Below x.at_.heap.size x.at_ w' := fun x => by
                have h := implFits_row B 0 k c1 f B3 0 k c3 _ x.at_ (by omega) (by unfold maxLen; omega) (Nat.lt_of_lt_of_le lB (Nat.le_trans B14.size x.below.size)) ((row11.below B14 lB).below x.below (Nat.lt_of_lt_of_le lB B14.size)) (Nat.lt_of_lt_of_le lN x.below.size) (sD.below x.below lN)
                rw [HFS.out] at h
                exact h
              have hne := later_some W14
              clear s13 q13 e13 fr13 bA b13 r12 t12 bN sD
              go_wp2
              refine wp_region_later (by kernel_rfl) (by kernel_rfl) ?_
              repeat (go_big_quiet_step ((go_at_call 15; exact later_call (fitN _))))
              refine wpQuiet_nil (later_all ?_)
              intro w15 hb15
              go_wp2
              go_roundw
              case rel => exact ⟨0 + 1, by omega, by go_num, B14.trans (hb15.mono B14.size)⟩
              case measure => simp [intOf]; omega
          · have hj1 := plc_lt hord j (by omega)
            have hj1' : ((plc g j : Nat) : Int) < k := by omega
            have ej1 := rr j (by omega)
            have tj1 := tt (plc g j) hj1
            simp only [Nat.zero_add] at ej1 tj1
            have x2 := fun x : Later wr => x.cell ej1
            have x3 := fun x : Later wr => x.cell tj1
            have ZU : Hid (decide (T (plc g (j + 1)) ≤ T (plc g j)) = false) := by
              have h : decide (T (plc g (j + 1)) ≤ T (plc g j)) = false := by
                have := HE.out.up j (j + 1) (by omega) hlt
                simpa using this
              exact h
            go_wp2
            have zu := ZU.out
            refine wp_region_later (by kernel_rfl) (by kernel_rfl) ?_
            repeat (go_big_quiet_step (fail))
            refine wpQuiet_nil (later_all ?_)
            intro w12 hb12
            have B12 : Below w11.heap.size w11 w12 := hBr.trans (hb12.mono hBr.size)
            have r12 := ord11.below B12 lB'
            have t12 := o11.2.below B12 lBi
            have l12 : Bi < w12.heap.size := Nat.lt_of_lt_of_le lBi B12.size
            have l12' : B' < w12.heap.size := Nat.lt_of_lt_of_le lB' B12.size
            have bA : Below w12.heap.size w12 (w12.alloc (.cells #[] 3)) := (Below.refl _ _).alloc (Nat.le_refl _) _
            clear hne x0 x1 hb12 rr tt ej tj x2 x3 ej1 tj1 zu
            go_wp2_with (at_builtin; refine wpList_append_own _ rfl (.tmp 96) (.tmp 97) 24 rfl w12.heap.size 3 i0 _ 1 8 Try.underlying24 hI hz0 hz1 hz2 rfl (by decide) (.slice (some ⟨w12.heap.size, 0, none⟩) 0 0) 0 [] (by rfl) (own_empty (Nat.le_refl _) (heap_alloc_new _ _)) ⟨Bi, 0, none⟩ k ci (ivals T k) (by rfl) (by rw [ivals_len]; omega) (ivals_cells (t12.below bA l12)) (ivals_one T k) (by unfold maxLen; omega) (by omega) (by simp) ?_; intro v13 w13 ho13 hg13 _; simp only [Nat.zero_add, List.nil_append] at ho13; obtain ⟨B3, c3, rfl⟩ := own_pos ho13 (by omega))
            have b13 : Below w12.heap.size w12 w13 := bA.grown hg13 bA.size (fun q hq => by simp [Value.ownBlock] at hq; omega)
            have hl3 : w12.heap.size ≤ B3 := own_block ho13 B3 rfl
            have s13 := own_irow ho13
            have lt3 : B3 < w13.heap.size := (own_open ho13).2.1
            have e13 := r12.below b13 l12' (j + 1) hlt
            have q13 := s13 (plc g (j + 1)) hoj
            simp only [Nat.zero_add] at e13 q13
            obtain ⟨_, _, cur, hcur, _⟩ := own_open ho13
            have fr13 := frozen_of_row w13 B3 (plc g (j + 1)) cur _ hcur
            clear hcur ho13 hg13
            go_region_with (fail)
            all_goals
              have sN : IntRow (w13.setCell ⟨B3, plc g (j + 1), none⟩ (.int .i64 (T (plc g (j + 1)) - 1))) B3 0 k (fun p => if p = plc g (j + 1) then T p - 1 else T p) := (s13.set hoj (T (plc g (j + 1)) - 1)).congr (fun p hp => by
                by_cases e : p = plc g (j + 1)
                · subst e; simp
                · simp only [if_neg e])
              have sD : IntRow (w13.setCell ⟨B3, plc g (j + 1), none⟩ (.int .i64 (T (plc g (j + 1)) - 1))).drew B3 0 k (fun p => if p = plc g (j + 1) then T p - 1 else T p) := sN
              have bN : Below w12.heap.size w12 (w13.setCell ⟨B3, plc g (j + 1), none⟩ (.int .i64 (T (plc g (j + 1)) - 1))).drew := (b13.setCell hl3 _).drew
              have lN : B3 < (w13.setCell ⟨B3, plc g (j + 1), none⟩ (.int .i64 (T (plc g (j + 1)) - 1))).drew.heap.size := by simpa using lt3
              clear sN
              revert sD bN lN
              generalize (w13.setCell ⟨B3, plc g (j + 1), none⟩ (.int .i64 (T (plc g (j + 1)) - 1))).drew = W14
              intro sD bN lN
              have B14 : Below w11.heap.size w11 W14 := B12.trans (bN.mono B12.size)
              have fitN : ∀ x : Later W14, Calls Try.prog 15 #[.slice (some ⟨B, 0, none⟩) k c1, .slice (some ⟨B3, 0, none⟩) k c3] x.at_ fun e w' => e = .returned (.bool false) ∧ Below x.at_.heap.size x.at_ w' := fun x => by
                have h := implFits_row B 0 k c1 f B3 0 k c3 _ x.at_ (by omega) (by unfold maxLen; omega) (Nat.lt_of_lt_of_le lB (Nat.le_trans B14.size x.below.size)) ((row11.below B14 lB).below x.below (Nat.lt_of_lt_of_le lB B14.size)) (Nat.lt_of_lt_of_le lN x.below.size) (sD.below x.below lN)
                rw [HFS.out] at h
                exact h
              have hne := later_some W14
              clear s13 q13 e13 fr13 bA b13 r12 t12 bN sD
              go_wp2
              refine wp_region_later (by kernel_rfl) (by kernel_rfl) ?_
              repeat (go_big_quiet_step ((go_at_call 15; exact later_call (fitN _))))
              refine wpQuiet_nil (later_all ?_)
              intro w15 hb15
              go_wp2
              go_roundw
              case rel => exact ⟨j + 1 + 1, by omega, by go_num, B14.trans (hb15.mono B14.size)⟩
              case measure => simp [intOf]; omega
        · go_wp2
          go_ret
          exact ⟨rfl, hB11.trans (hBr.mono hB11.size)⟩
end Go.Proofs.Ytlmcblcijndipaa
