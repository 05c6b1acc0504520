/- Texts of the proof, one behind another: A2, A3. -/
import Derived.Test.YtlmcblcijndipabGreatM28
import Derived.Test.YtlmcblcijndipabGreatM37
import Derived.Test.YtlmcblcijndipabGreatM38
import Derived.Test.YtlmcblcijndipabGreatM41
import Derived.Test.YtlmcblcijndipabGreatM24d
import Derived.Test.YtlmcblcijndipabGreatM25
import Derived.Test.YtlmcblcijndipabGreatM18
import Derived.Test.YtlmcblcijndipabGreatM27
namespace Go.Proofs.YtlmcblcijndipabGreat
open Go.RowKit
set_option linter.unusedVariables false
set_option maxHeartbeats 1000000 in
theorem better_row (b off n cap : Nat) (f : Nat → Mv) (B1 c1 B2 c2 : Nat) (T S : Nat → Int) (w : World) (h6 : n ≤ 6) (hbs : b < w.heap.size) (hrow : MvRow w b off n f) (hb1 : B1 < w.heap.size) (hT : IntRow w B1 0 n T) (hbT : LateBd f T n) (hb2 : B2 < w.heap.size) (hS : IntRow w B2 0 n S) (hbS : LateBd f S n) :
    Calls Tryz0.prog 40 #[.slice (some ⟨b, off, none⟩) n cap, .slice (some ⟨B1, 0, none⟩) n c1, .slice (some ⟨B2, 0, none⟩) n c2] w fun e w' => e = .returned (.bool (lexL (keyT f n T) (keyT f n S))) ∧ Below w.heap.size w w' := by
  have H1 := specLate_row b off n cap f B1 0 n c1 T w h6 (Nat.le_refl _) hbs hrow hb1 hT hbT
  have HK : lexL (keyT f n T) (keyT f n S) = if sumTo f T n = sumTo f S n then (if mostTo f T n = mostTo f S n then lexL (rowL T n 0) (rowL S n 0) else decide (mostTo f T n < mostTo f S n)) else decide (sumTo f T n < sumTo f S n) := rfl
  obtain ⟨R, hR⟩ : ∃ R, lexL (keyT f n T) (keyT f n S) = R := ⟨_, rfl⟩
  rw [hR] at HK
  rw [hR]
  clear hR
  obtain ⟨s1, e1⟩ : ∃ s1, sumTo f T n = s1 := ⟨_, rfl⟩
  obtain ⟨s2, e2⟩ : ∃ s2, sumTo f S n = s2 := ⟨_, rfl⟩
  obtain ⟨t1, e3⟩ : ∃ t1, mostTo f T n = t1 := ⟨_, rfl⟩
  obtain ⟨t2, e4⟩ : ∃ t2, mostTo f S n = t2 := ⟨_, rfl⟩
  rw [e1, e2, e3, e4] at HK
  by_cases hs : s1 = s2
  · rw [if_pos hs] at HK
    have hs' : (s1 != s2) = false := by simp [hs]
    clear hs
    by_cases ht : t1 = t2
    · rw [if_pos ht] at HK
      have ht' : (t1 != t2) = false := by simp [ht]
      clear ht
      have HK : Hid _ := HK
      go_enter Tryz0.func40, Tryz.ntmps40
      go_wp2_with (first | (go_at_call 62; refine H1.mono ?_; clear H1; rintro e w1 ⟨rfl, hbw1⟩; rw [e1, e3]) | (go_at_call 62; refine (specLate_row b off n cap f B2 0 n c2 S _ h6 (Nat.le_refl _) (Nat.lt_of_lt_of_le hbs hbw1.size) (hrow.below hbw1 hbs) (Nat.lt_of_lt_of_le hb2 hbw1.size) (hS.below hbw1 hb2) hbS).mono ?_; rintro e w2 ⟨rfl, hbw2⟩; rw [e2, e4]))
      have hB2 : Below w.heap.size w w2 := hbw1.trans (hbw2.mono hbw1.size)
      clear hbw1 hbw2
      go_loopw [11] (fun i wr => ∃ k : Nat, k ≤ n ∧ i = .int .i64 k ∧ lexL (rowL T n 0) (rowL S n 0) = lexL (rowL T (n - k) k) (rowL S (n - k) k) ∧ Below w.heap.size w wr) (fun i _ => n - (intOf i).toNat)
      case atStart => exact ⟨0, Nat.zero_le _, rfl, rfl, hB2⟩
      case round =>
        obtain ⟨k, hk, rfl, hlx, hB⟩ := hrel
        by_cases hlt : k < n
        · have hlt' : (k : Int) < n := by omega
          have cT := hT.below hB hb1 k hlt
          have cS := hS.below hB hb2 k hlt
          simp only [Nat.zero_add] at cT cS
          have hx : lexL (rowL T (n - k) k) (rowL S (n - k) k) = if T k = S k then lexL (rowL T (n - (k + 1)) (k + 1)) (rowL S (n - (k + 1)) (k + 1)) else decide (T k < S k) := by
            rw [show n - k = (n - (k + 1)) + 1 by omega]; rfl
          by_cases he : T k = S k
          · rw [if_pos he] at hx
            have he' : (T k != S k) = false := by simp [he]
            have HX : Hid _ := hlx.trans hx
            clear hlx hx he
            go_wp2
            go_quiet (fail)
            go_wp2
            go_roundw
            case rel => exact ⟨k + 1, by omega, by go_num, HX.out, below_drewN hB _⟩
            case measure => simp [intOf]; omega
          · rw [if_neg he] at hx
            have he' : (T k != S k) = true := by simp [he]
            have HX : Hid _ := HK.out.trans (hlx.trans hx)
            clear hlx hx he HK
            go_wp2
            go_quiet (fail)
            go_wp2
            go_quiet (fail)
            go_wp2
            go_ret
            exact ⟨ret_b HX.out.symm, below_drewN (below_drewN hB _) _⟩
        · obtain rfl : k = n := by omega
          rw [Nat.sub_self] at hlx
          have HX : Hid _ := HK.out.trans hlx
          clear hlx HK
          go_wp2
          go_ret
          exact ⟨ret_b HX.out.symm, hB⟩
    · rw [if_neg ht] at HK
      have ht' : (t1 != t2) = true := by simp [ht]
      clear ht
      have HK : Hid _ := HK
      go_enter Tryz0.func40, Tryz.ntmps40
      go_wp2_with (first | (go_at_call 62; refine H1.mono ?_; clear H1; rintro e w1 ⟨rfl, hbw1⟩; rw [e1, e3]) | (go_at_call 62; refine (specLate_row b off n cap f B2 0 n c2 S _ h6 (Nat.le_refl _) (Nat.lt_of_lt_of_le hbs hbw1.size) (hrow.below hbw1 hbs) (Nat.lt_of_lt_of_le hb2 hbw1.size) (hS.below hbw1 hb2) hbS).mono ?_; rintro e w2 ⟨rfl, hbw2⟩; rw [e2, e4]))
      go_ret
      exact ⟨ret_b HK.out.symm, hbw1.trans (hbw2.mono hbw1.size)⟩
  · rw [if_neg hs] at HK
    have hs' : (s1 != s2) = true := by simp [hs]
    clear hs
    have HK : Hid _ := HK
    go_enter Tryz0.func40, Tryz.ntmps40
    go_wp2_with (first | (go_at_call 62; refine H1.mono ?_; clear H1; rintro e w1 ⟨rfl, hbw1⟩; rw [e1, e3]) | (go_at_call 62; refine (specLate_row b off n cap f B2 0 n c2 S _ h6 (Nat.le_refl _) (Nat.lt_of_lt_of_le hbs hbw1.size) (hrow.below hbw1 hbs) (Nat.lt_of_lt_of_le hb2 hbw1.size) (hS.below hbw1 hb2) hbS).mono ?_; rintro e w2 ⟨rfl, hbw2⟩; rw [e2, e4]))
    go_ret
    exact ⟨ret_b HK.out.symm, hbw1.trans (hbw2.mono hbw1.size)⟩
end Go.Proofs.YtlmcblcijndipabGreat

namespace Go.Proofs.YtlmcblcijndipabGreat
open Go.RowKit
set_option linter.unusedVariables false
theorem bestO_snoc (f : Nat → Mv) (n : Nat) (L : List (List Nat)) (l : List Nat) : bestO f n (L ++ [l]) = betterO f n (bestO f n L) l := by simp [bestO, List.foldl_append]
theorem filter_take' (p : List Nat → Bool) {A : List (List Nat)} {k : Nat} {l : List Nat} (h : A[k]? = some l) : (A.take (k + 1)).filter p = (A.take k).filter p ++ (if p l then [l] else []) := by
  rw [List.take_add_one, h, List.filter_append]
  simp [List.filter_cons]
def BestIs (r : Option (Nat → Int)) (f : Nat → Mv) (n lo : Nat) (v fv : Value) (wr : World) : Prop :=
  match r with
  | some T => fv = .bool true ∧ LateBd f T n ∧ ∃ B c, v = .slice (some ⟨B, 0, none⟩) n c ∧ lo ≤ B ∧ OwnInts wr B n T
  | none => fv = .bool false ∧ ∃ a c, v = .slice a 0 c
theorem BestIs.later {r : Option (Nat → Int)} {f : Nat → Mv} {n lo : Nat} {v fv : Value} {wr wr' : World} (h : BestIs r f n lo v fv wr) (hb : Below wr.heap.size wr wr') : BestIs r f n lo v fv wr' := by
  cases r with
  | none => exact h
  | some T => obtain ⟨h1, h2, B, c, h3, h4, h5⟩ := h; exact ⟨h1, h2, B, c, h3, h4, h5.below hb h5.lt⟩
set_option maxRecDepth 10000 in
set_option maxHeartbeats 4000000 in
theorem l4Best_row (b off n cap : Nat) (f : Nat → Mv) (shift : Int) (w : World) (hm : movesB f n = true) (hbs : b < w.heap.size) (hrow : MvRow w b off n f) (p : List Nat → Bool)
    (hp : ∀ g, IsFirst f n g → ∀ l ∈ allP n, ∀ r, IsShift (fun i => ((pl l i : Nat) : Int)) (fun i => ((g i : Nat) : Int)) n r → (p l = true ↔ r ≤ shift)) :
    Calls Tryz0.prog 22 #[.slice (some ⟨b, off, none⟩) n cap, .int .i64 shift] w fun e w' => EarlSays (bestO f n ((allP n).filter p)) n w e w' ∧ Below w.heap.size w w' := by
  have h6 := movesB_six hm
  obtain ⟨hN720, hN0⟩ := allP_length n h6
  have hB0 : ∀ o1, Below w.heap.size w (w.alloc o1) := fun o1 => (Below.refl _ w).alloc (Nat.le_refl _) _
  have H1 := fun o1 => specFirst_row b off n cap f (w.alloc o1) (by omega) (by simp; omega) (hrow.below (hB0 o1) hbs)
  go_enter Tryz0.func22, Tryz.ntmps22
  go_wp2_with (first | (go_at_call 36; refine (H1 _).mono ?_; clear H1; rintro e w1 ⟨⟨g, FB, Fc, hg, rfl, hFB, hFr⟩, b1⟩) | (go_at_call 37; refine (l4All_row n _ h6).mono ?_; rintro e w2 ⟨⟨vL, vals, rfl, own2, rows2⟩, b2⟩; obtain ⟨M, hM⟩ : ∃ M, (allP n).length = M + 1 := ⟨(allP n).length - 1, by omega⟩; rw [hM] at own2; obtain ⟨LB, Lc, rfl⟩ := own_succ own2))
  have hBw1 : Below w.heap.size w w1 := (hB0 _).trans (b1.mono (by simp))
  have hBw2 : Below w.heap.size w w2 := hBw1.trans (b2.mono hBw1.size)
  have hFr2 := hFr.below b2 hFB
  have hFB2 : FB < w2.heap.size := Nat.lt_of_lt_of_le hFB b2.size
  have hLB1 := (own_lt own2).1
  have hall : ∀ (I : Nat) (lst : List Nat), (allP n)[I]? = some lst → ∃ tb tc, w2.cell? ⟨LB, I, none⟩ = some (.slice (some ⟨tb, 0, none⟩) n tc) ∧ tb < w2.heap.size ∧ IntRow w2 tb 0 n (fun i => ((pl lst i : Nat) : Int)) := fun I lst hI => by
    obtain ⟨tb, tc, h1, h2, ⟨cs, h3⟩, h4⟩ := rows2 I lst hI
    have hlt := (List.getElem?_eq_some_iff.1 hI).1
    exact ⟨tb, tc, by rw [own2.cellAt I (by omega)]; exact h1, (Array.getElem?_eq_some_iff.1 h3).1, h4⟩
  clear own2 rows2 hFr hFB b1 b2
  have HM : Hid _ := hm
  clear hm
  go_loopw [6, 7, 10] (fun v fv x wr => ∃ I : Nat, I ≤ (allP n).length ∧ x = .int .i64 I ∧ BestIs (bestO f n (((allP n).take I).filter p)) f n w.heap.size v fv wr ∧ Below w2.heap.size w2 wr) (fun _ _ x _ => (allP n).length - (intOf x).toNat)
  case atStart => exact ⟨0, Nat.zero_le _, rfl, ⟨rfl, _, _, rfl⟩, Below.refl _ _⟩
  case round =>
    obtain ⟨I, hI, rfl, hbest, hB⟩ := hrel
    by_cases hlI : I < (allP n).length
    · obtain ⟨lst, hlst⟩ : ∃ x, (allP n)[I]? = some x := ⟨_, List.getElem?_eq_getElem hlI⟩
      have hlI' : (I : Int) < (M : Int) + 1 := by omega
      have hmem := List.mem_of_getElem? hlst
      obtain ⟨tb, tc, hc1, ht2, hr1⟩ := hall I lst hlst
      obtain ⟨hll, hlow, hdif⟩ := allP_ord hmem
      have hc2 : wr.cell? ⟨LB, I, none⟩ = some (.slice (some ⟨tb, 0, none⟩) n tc) := (hB.cell (p := ⟨LB, I, none⟩) hLB1).trans hc1
      have hz2 := hB.size
      have hBwr : Below w.heap.size w wr := hBw2.trans (hB.mono hBw2.size)
      have H2 := specShift_row tb 0 n tc FB 0 n Fc (fun i => ((pl lst i : Nat) : Int)) (fun i => ((g i : Nat) : Int)) wr (by omega) (by omega) (by omega) (hr1.below hB ht2) (by omega) (hFr2.below hB hFB2)
      have hordl : OrdTo (fun i => ((pl lst i : Nat) : Int)) n n := ⟨fun i hi => by have := hlow i hi; dsimp only; omega, fun i j hij hj => by have := hdif i j hij hj; dsimp only; omega⟩
      have hsh : ∀ r, ShiftSays (fun i => ((pl lst i : Nat) : Int)) n (fun i => ((g i : Nat) : Int)) n r → (p lst = true ↔ r ≤ shift) := fun r hr => by
        unfold ShiftSays at hr
        rw [if_pos ⟨rfl, ordB_yes hordl, ordB_yes hg.ord⟩] at hr
        exact hp g hg lst hmem r hr
      have hsn := fun (h : p lst = true) => (by rw [filter_take' p hlst, if_pos h, bestO_snoc] : bestO f n (((allP n).take (I + 1)).filter p) = betterO f n (bestO f n (((allP n).take I).filter p)) lst)
      have hsn' := fun (h : p lst = false) => (by rw [filter_take' p hlst, if_neg (by simp [h]), List.append_nil] : bestO f n (((allP n).take (I + 1)).filter p) = bestO f n (((allP n).take I).filter p))
      cases hpl : p lst with
      | false =>
        have hE := hsn' hpl
        have HE : Hid _ := hE
        clear hsn hsn' hE
        rw [hpl] at hsh
        have HSH : Hid _ := hsh
        clear hsh
        go_wp2_with (go_at_call 38; refine H2.mono ?_; clear H2; rintro e w3 ⟨⟨r, rfl, hr⟩, b3⟩; have hrs : shift < r := (by have := (HSH.out r hr); simp at this; exact this))
        go_roundw
        case rel => exact ⟨I + 1, by omega, by go_num, by rw [HE.out]; exact hbest.later b3, hB.trans (b3.mono hB.size)⟩
        case measure => simp [intOf]; omega
      | true =>
        have hE := hsn hpl
        clear hsn hsn'
        rw [hpl] at hsh
        have HSH : Hid _ := hsh
        clear hsh
        cases hEa : earl f (pl lst) n with
        | none =>
          have HE : Hid (bestO f n (((allP n).take (I + 1)).filter p) = bestO f n (((allP n).take I).filter p)) := by rw [hE]; unfold betterO; rw [hEa]; exact rfl
          clear hE
          go_wp2_with (first | (go_at_call 38; refine H2.mono ?_; clear H2; rintro e w3 ⟨⟨r, rfl, hr⟩, b3⟩; have hrs : r ≤ shift := (by have := (HSH.out r hr); simp at this; exact this); have hc3 : w3.cell? ⟨LB, I, none⟩ = some (.slice (some ⟨tb, 0, none⟩) n tc) := (b3.cell (p := ⟨LB, I, none⟩) (by simp; omega)).trans hc2) | (go_at_call 39; refine (l3Order_row b off n cap f tb 0 tc (pl lst) w3 HM.out hlow (by have := b3.size; have := hBwr.size; omega) (hrow.below (hBwr.trans (b3.mono hBwr.size)) hbs) (by have := b3.size; omega) ((hr1.below hB ht2).below b3 (by omega))).mono ?_; rintro e w4 ⟨hs4, b4⟩; rw [hEa] at hs4; obtain ⟨ta, tcc, rfl⟩ := hs4))
          go_roundw
          case rel => exact ⟨I + 1, by omega, by go_num, by rw [HE.out]; exact (hbest.later b3).later b4, (hB.trans (b3.mono hB.size)).trans (b4.mono (by have := hB.size; have := b3.size; omega))⟩
          case measure => simp [intOf]; omega
        | some T =>
          have hlT : LateBd f T n := LateBd.fits HM.out (earl_says HM.out hlow hdif hEa).fit
          cases hres : bestO f n (((allP n).take I).filter p) with
          | none =>
            have HE : Hid (bestO f n (((allP n).take (I + 1)).filter p) = some T) := by rw [hE, hres]; unfold betterO; rw [hEa]; exact rfl
            clear hE
            rw [hres] at hbest
            obtain ⟨rfl, a, c, rfl⟩ := hbest
            go_wp2_with (first | (go_at_call 38; refine H2.mono ?_; clear H2; rintro e w3 ⟨⟨r, rfl, hr⟩, b3⟩; have hrs : r ≤ shift := (by have := (HSH.out r hr); simp at this; exact this); have hc3 : w3.cell? ⟨LB, I, none⟩ = some (.slice (some ⟨tb, 0, none⟩) n tc) := (b3.cell (p := ⟨LB, I, none⟩) (by simp; omega)).trans hc2) | (go_at_call 39; refine (l3Order_row b off n cap f tb 0 tc (pl lst) w3 HM.out hlow (by have := b3.size; have := hBwr.size; omega) (hrow.below (hBwr.trans (b3.mono hBwr.size)) hbs) (by have := b3.size; omega) ((hr1.below hB ht2).below b3 (by omega))).mono ?_; rintro e w4 ⟨hs4, b4⟩; rw [hEa] at hs4; obtain ⟨TB, Tc, hTB, rfl, hTo⟩ := hs4))
            go_roundw
            case rel => exact ⟨I + 1, by omega, by go_num, by rw [HE.out]; exact ⟨rfl, hlT, TB, Tc, rfl, by have := b3.size; have := hBwr.size; omega, hTo⟩, (hB.trans (b3.mono hB.size)).trans (b4.mono (by have := hB.size; have := b3.size; omega))⟩
            case measure => simp [intOf]; omega
          | some S =>
            rw [hres] at hbest
            obtain ⟨rfl, hlS, B, c, rfl, hBl, hown⟩ := hbest
            cases hlx : lexL (keyT f n T) (keyT f n S) with
            | true =>
              have h0 : bestO f n (((allP n).take (I + 1)).filter p) = some T := by rw [hE, hres]; unfold betterO; rw [hEa]; simp [hlx]
              have HE : Hid _ := h0
              clear h0
              clear hE
              go_wp2_with (first | (go_at_call 38; refine H2.mono ?_; clear H2; rintro e w3 ⟨⟨r, rfl, hr⟩, b3⟩; have hrs : r ≤ shift := (by have := (HSH.out r hr); simp at this; exact this); have hc3 : w3.cell? ⟨LB, I, none⟩ = some (.slice (some ⟨tb, 0, none⟩) n tc) := (b3.cell (p := ⟨LB, I, none⟩) (by simp; omega)).trans hc2) | (go_at_call 39; refine (l3Order_row b off n cap f tb 0 tc (pl lst) w3 HM.out hlow (by have := b3.size; have := hBwr.size; omega) (hrow.below (hBwr.trans (b3.mono hBwr.size)) hbs) (by have := b3.size; omega) ((hr1.below hB ht2).below b3 (by omega))).mono ?_; rintro e w4 ⟨hs4, b4⟩; rw [hEa] at hs4; obtain ⟨TB, Tc, hTB, rfl, hTo⟩ := hs4) | (go_at_call 40; refine (better_row b off n cap f TB Tc B c T S w4 h6 (by have := b3.size; have := b4.size; have := hBwr.size; omega) (hrow.below ((hBwr.trans (b3.mono hBwr.size)).trans (b4.mono (by have := b3.size; have := hBwr.size; omega))) hbs) hTo.lt hTo.2 hlT (by have := hown.lt; have := b3.size; have := b4.size; omega) ((hown.below b3 hown.lt).below b4 (Nat.lt_of_lt_of_le hown.lt b3.size)).2 hlS).mono ?_; rintro e w5 ⟨rfl, b5⟩; rw [hlx]))
              go_roundw
              case rel => exact ⟨I + 1, by omega, by go_num, by rw [HE.out]; exact ⟨rfl, hlT, TB, Tc, rfl, by have := b3.size; have := hBwr.size; omega, hTo.below b5 hTo.lt⟩, ((hB.trans (b3.mono hB.size)).trans (b4.mono (by have := hB.size; have := b3.size; omega))).trans (b5.mono (by have := hB.size; have := b3.size; have := b4.size; omega))⟩
              case measure => simp [intOf]; omega
            | false =>
              have h0 : bestO f n (((allP n).take (I + 1)).filter p) = some S := by rw [hE, hres]; unfold betterO; rw [hEa]; simp [hlx]
              have HE : Hid _ := h0
              clear h0
              clear hE
              go_wp2_with (first | (go_at_call 38; refine H2.mono ?_; clear H2; rintro e w3 ⟨⟨r, rfl, hr⟩, b3⟩; have hrs : r ≤ shift := (by have := (HSH.out r hr); simp at this; exact this); have hc3 : w3.cell? ⟨LB, I, none⟩ = some (.slice (some ⟨tb, 0, none⟩) n tc) := (b3.cell (p := ⟨LB, I, none⟩) (by simp; omega)).trans hc2) | (go_at_call 39; refine (l3Order_row b off n cap f tb 0 tc (pl lst) w3 HM.out hlow (by have := b3.size; have := hBwr.size; omega) (hrow.below (hBwr.trans (b3.mono hBwr.size)) hbs) (by have := b3.size; omega) ((hr1.below hB ht2).below b3 (by omega))).mono ?_; rintro e w4 ⟨hs4, b4⟩; rw [hEa] at hs4; obtain ⟨TB, Tc, hTB, rfl, hTo⟩ := hs4) | (go_at_call 40; refine (better_row b off n cap f TB Tc B c T S w4 h6 (by have := b3.size; have := b4.size; have := hBwr.size; omega) (hrow.below ((hBwr.trans (b3.mono hBwr.size)).trans (b4.mono (by have := b3.size; have := hBwr.size; omega))) hbs) hTo.lt hTo.2 hlT (by have := hown.lt; have := b3.size; have := b4.size; omega) ((hown.below b3 hown.lt).below b4 (Nat.lt_of_lt_of_le hown.lt b3.size)).2 hlS).mono ?_; rintro e w5 ⟨rfl, b5⟩; rw [hlx]))
              go_roundw
              case rel => exact ⟨I + 1, by omega, by go_num, by rw [HE.out]; exact ⟨rfl, hlS, B, c, rfl, hBl, ((hown.below b3 hown.lt).below b4 (Nat.lt_of_lt_of_le hown.lt b3.size)).below b5 (by have := hown.lt; have := b3.size; have := b4.size; omega)⟩, ((hB.trans (b3.mono hB.size)).trans (b4.mono (by have := hB.size; have := b3.size; omega))).trans (b5.mono (by have := hB.size; have := b3.size; have := b4.size; omega))⟩
              case measure => simp [intOf]; omega
    · obtain rfl : I = (allP n).length := by omega
      have hlI' : ¬ (((allP n).length : Nat) : Int) < (M : Int) + 1 := by omega
      rw [List.take_length] at hbest
      cases hres : bestO f n ((allP n).filter p) with
      | none =>
        rw [hres] at hbest
        obtain ⟨rfl, a, c, rfl⟩ := hbest
        go_wp2
        go_ret2
        exact ⟨⟨a, c, rfl⟩, hBw2.trans (hB.mono hBw2.size)⟩
      | some T =>
        rw [hres] at hbest
        obtain ⟨rfl, _, B, c, rfl, hBl, hown⟩ := hbest
        go_wp2
        go_ret2
        exact ⟨⟨B, c, hBl, rfl, hown⟩, hBw2.trans (hB.mono hBw2.size)⟩
def bestR (f : Nat → Mv) (n : Nat) (shift : Int) (p : List Nat → Bool) : Option (Nat → Int) := if movesB f n = true ∧ 0 ≤ shift ∧ shift ≤ 6 then bestO f n ((allP n).filter p) else none
def NearP (f : Nat → Mv) (n : Nat) (shift : Int) (p : List Nat → Bool) : Prop := ∀ g, IsFirst f n g → ∀ l ∈ allP n, ∀ r, IsShift (fun i => ((pl l i : Nat) : Int)) (fun i => ((g i : Nat) : Int)) n r → (p l = true ↔ r ≤ shift)
theorem says_form {r : Option (Nat → Int)} {n : Nat} {w : World} {e : Ending} {w' : World} (h : EarlSays r n w e w') : ∃ a k c bo, e = .returned (.tuple #[.slice a k c, .bool bo]) := by
  cases r with
  | none => obtain ⟨a, c, rfl⟩ := h; exact ⟨a, 0, c, false, rfl⟩
  | some T => obtain ⟨B, c, _, rfl, _⟩ := h; exact ⟨_, n, c, true, rfl⟩
theorem says_low {r : Option (Nat → Int)} {n : Nat} {w w1 : World} {e : Ending} {w' : World} (h : EarlSays r n w1 e w') (hl : w.heap.size ≤ w1.heap.size) : EarlSays r n w e w' := by
  cases r with
  | none => exact h
  | some T => obtain ⟨B, c, h1, h2⟩ := h; exact ⟨B, c, Nat.le_trans hl h1, h2⟩
end Go.Proofs.YtlmcblcijndipabGreat
