/- Texts of the proof, one behind another: G3. -/
import Derived.Test.YtlmcblcijndipaaGreatM47
import Derived.Test.YtlmcblcijndipaaGreatM48
/- FnBest, walked with bestTry as a door. -/
namespace Go.Proofs.YtlmcblcijndipaaGreat
open Go Go.Conc Go.RowKit
set_option linter.unusedVariables false
set_option linter.unusedSectionVars false

theorem i64_min : IntKind.i64.min = -9223372036854775808 := by decide
theorem i64_max : IntKind.i64.max = 9223372036854775807 := by decide
/-- the numbers of a row -/
def ivals (T : Nat → Int) (n : Nat) : List Value := (List.range n).map fun j => .int .i64 (T j)
theorem ivals_len (T : Nat → Int) (n : Nat) : (ivals T n).length = n := by simp [ivals]
theorem ivals_get {T : Nat → Int} {n j : Nat} (h : j < n) : (ivals T n)[j]? = some (.int .i64 (T j)) := by simp [ivals, h]
theorem ivals_one (T : Nat → Int) (n : Nat) : ∀ u ∈ ivals T n, u.oneCell' = true := fun u hu => by unfold ivals at hu; simp at hu; obtain ⟨_, _, rfl⟩ := hu; rfl
theorem ivals_cells {w : World} {b n : Nat} {T : Nat → Int} (h : IntRow w b 0 n T) : ∀ (j : Nat) (u : Value), (ivals T n)[j]? = some u → w.cell? ((⟨b, 0, none⟩ : Addr).add j) = some u := fun j u hu => by
  have hj : j < n := by rcases Nat.lt_or_ge j n with h | h; exact h; rw [List.getElem?_eq_none (by rw [ivals_len]; exact h)] at hu; cases hu
  rw [ivals_get hj] at hu
  rw [show (⟨b, 0, none⟩ : Addr).add j = ⟨b, 0 + j, none⟩ by unfold Addr.add; split <;> simp_all, h j hj]; exact hu
theorem own_irow {w : World} {base B n c : Nat} {T : TypeId} {t : Nat → Int} (h : w.ownsRow base T 1 (.slice (some ⟨B, 0, none⟩) n c) n (ivals t n)) : IntRow w B 0 n t := fun i hi => by
  rw [Nat.zero_add, h.cellAt i (by omega)]; exact ivals_get hi
theorem own_pos {w : World} {base : Nat} {T : TypeId} {v : Value} {n : Nat} {xs : List Value} (h : w.ownsRow base T 1 v n xs) (hn : 0 < n) : ∃ B c, v = .slice (some ⟨B, 0, none⟩) n c := by
  obtain ⟨k, rfl⟩ : ∃ k, n = k + 1 := ⟨n - 1, by omega⟩
  exact own_succ h
theorem IntRow.set {w : World} {b n k : Nat} {t : Nat → Int} (h : IntRow w b 0 n t) (hk : k < n) (x : Int) : IntRow (w.setCell ⟨b, k, none⟩ (.int .i64 x)) b 0 n (fun p => if p = k then x else t p) := fun i hi => by
  rw [Nat.zero_add]
  by_cases e : i = k
  · subst e
    have h1 := h i hi
    rw [Nat.zero_add] at h1
    simp only [if_true]
    exact World.cell?_setCell_same' _ _ _ (by rw [h1]; rfl)
  · rw [World.cell?_setCell_other _ _ _ _ (by intro e'; cases e'; exact e rfl)]
    simp only [if_neg e]
    have h1 := h i hi
    rw [Nat.zero_add] at h1
    exact h1
theorem wf_of {x : Int} (h : -9223372036854775808 ≤ x ∧ x ≤ 9223372036854775807) : (Lit.int .i64 x).wf = true := by
  show (decide (IntKind.i64.min ≤ x) && decide (x ≤ IntKind.i64.max)) = true
  rw [i64_min, i64_max]; simpa using h
theorem Fitting.fits {m : Mv} (h : Fitting m) : m.Fits := ⟨by have := h.name; unfold maxLen; omega, wf_of h.wake, wf_of h.est, wf_of h.late, wf_of h.prom⟩
section
variable [Gl] {ok : Ctx} {c : Frame}
set_option maxRecDepth 100000 in
set_option maxHeartbeats 4000000 in
theorem wk_fnBest (E : Wenv Tryz0.prog ok c Dr24) (hL : ok.inn 3 = true) (hSB : ok.inn 6 = true) (hbt : ok.inn 24 = false) {V : World} {a : Option Addr} {n cap : Nat} {cd : Nat → Int} (h : IsCode V a n cd) (hcap : n ≤ cap) :
    WkT Tryz0.prog ok c Dr24 (fun v V' => v = .bool true ∧ Bl V.heap.size V V') ⟨Frame.enter Tryz0.prog 3 #[.slice a n cap] .normal, [], V⟩ := by
  have hE := enter_at (P := Tryz0.prog) #[.slice a n cap] Tryz0.func3 rfl
  simp only [Tryz.ntmps3, List.size_toArray, List.length_cons, List.length_nil, Nat.reduceAdd, Nat.reduceSub, Array.replicate_succ, Array.replicate_zero, List.push_toArray, List.append_toArray, List.nil_append, List.cons_append] at hE
  rw [hE]
  clear hE
  have htop : ∀ (a' : Act) (w' : World) (todo : List Item), (Bl V.heap.size V w' ∧ a'.defers = [] ∧ a'.tmps[2]? = some (.bool true)) → WkT Tryz0.prog ok c Dr24 (fun v V' => v = .bool true ∧ Bl V.heap.size V V') ⟨{ (base 3).at a' todo with mode := .returning }, [], w'⟩ := by
    rintro a' w' todo ⟨h1, h2, h3⟩
    refine WkT.ends (fun τ d => ⟨rfl, .bool true, ⟨rfl, h2, rfl, _, Tryz0.func3, ?_⟩, rfl, ⟨h1.size, h1.block⟩⟩) ⟨_, 2, Tryz0.func3, rfl⟩
    have := results_tmp (fn := Tryz.f3) rfl a'.tmps Tryz0.prog (re w' τ d)
    rw [getD_of h3] at this
    exact this
  refine WkT.chain E hL [_, _, _] _ (fun a' w' => Bl V.heap.size V w' ∧ ∃ (B c1 m : Nat) (f : Nat → Mv) (sh : Int), m ≤ 6 ∧ -1 ≤ sh ∧ sh ≤ 7 ∧ V.heap.size ≤ B ∧ MvRow w' B 0 m f ∧ (∀ j, j < m → Fitting (f j)) ∧ PlainRow w' B ∧ FrIs a' (fun u => #[.slice a n cap, u 1, u 2, .slice (some ⟨B, 0, none⟩) m c1, .int .i64 sh, u 5, u 6, u 7, u 8, u 9, u 10, u 11, u 12, u 13, u 14, u 15, u 16, u 17, u 18, u 19, u 20, u 21, u 22, u 23, u 24, u 25, u 26, u 27, u 28, u 29, u 30, u 31, u 32, u 33, u 34, u 35, u 36, u 37, u 38, u 39, u 40, u 41, u 42, u 43, u 44, u 45, u 46, u 47, u 48, u 49, u 50, u 51, u 52, u 53, u 54, u 55, u 56, u 57, u 58, u 59, u 60, u 61, u 62, u 63, u 64, u 65, u 66, u 67, u 68, u 69, u 70, u 71, u 72, u 73, u 74, u 75, u 76, u 77, u 78, u 79, u 80, u 81, u 82, u 83, u 84, u 85, u 86, u 87, u 88, u 89, u 90, u 91, u 92, u 93, u 94, u 95, u 96, u 97, u 98, u 99, u 100, u 101, u 102, u 103, u 104, u 105, u 106, u 107, u 108, u 109, u 110, u 111, u 112, u 113, u 114, u 115, u 116, u 117, u 118, u 119, u 120, u 121, u 122, u 123, u 124, u 125, u 126, u 127, u 128, u 129, u 130, u 131, u 132, u 133, u 134, u 135, u 136, u 137, u 138, u 139, u 140, u 141, u 142, u 143, u 144, u 145, u 146, u 147, u 148, u 149, u 150, u 151, u 152, u 153, u 154, u 155, u 156])) (fun a' w' => Bl V.heap.size V w' ∧ a'.defers = [] ∧ a'.tmps[2]? = some (.bool true)) ?_ ?_ (fun a' w' todo hh => htop a' w' todo hh)
  · intro τ d
    have h' : IsCode (re V τ d) a n cd := h
    have hn := h.1
    unfold maxLen at hn
    have H1 := drawBest_any a n cap cd (re V τ d) h' hcap
    clear htop h h'
    simp only [wpChain]
    go_wp2_with (go_at_call 5; refine H1.mono ?_; clear H1; rintro e w1 ⟨⟨B, c1, m, f, sh, rfl, hm, hs1, hs2, hB0, hB, row1, hf, pl1⟩, b1⟩)
    · right; refine ⟨by first | rfl | trivial, ⟨Nat.le_refl _, fun _ _ => rfl⟩, ?_⟩; first | exact ⟨rfl, rfl⟩ | simp
    · left
      exact ⟨by first | rfl | trivial, Bl.ofR b1, B, c1, m, f, sh, hm, hs1, hs2, hB0, row1, hf, pl1, rfl, rfl⟩
  · rintro a' w1 ⟨hb1, B, c1, m, f, sh, hm, hs1, hs2, hB0, row1, hf, pl1, hfr⟩
    have hff : ∀ i, i < m → (f i).Fits := fun i hi => (hf i hi).fits
    clear hf
    obtain ⟨u, rfl⟩ := hfr.open
    clear hfr
    have hz1 := hb1.size
    have hB1 := pl1.lt
    obtain ⟨r, hr⟩ : ∃ r, bestR f m sh (nearD f m sh) = r := ⟨_, rfl⟩
    obtain ⟨br, hbr⟩ : ∃ br, r.isSome = br := ⟨_, rfl⟩
    obtain ⟨r6, hr6⟩ : ∃ r, bestR f m 6 (nearD f m 6) = r := ⟨_, rfl⟩
    obtain ⟨b6, hb6⟩ : ∃ br, r6.isSome = br := ⟨_, rfl⟩
    refine WkT.seq E hL (WkT.region E hL ?_)
    rw [range_from]
    refine WkT.opsFrom E hL 0 2 (by simp) (fun a' w' => (∃ τ d, w' = re w1 τ d) ∧ FrIs a' (fun u => #[.slice a n cap, u 1, u 2, .slice (some ⟨B, 0, none⟩) m c1, .int .i64 sh, u 5, u 6, u 7, u 8, u 9, u 10, u 11, u 12, u 13, u 14, u 15, u 16, u 17, u 18, u 19, u 20, u 21, u 22, u 23, u 24, u 25, u 26, u 27, u 28, u 29, u 30, u 31, .slice (some ⟨B, 0, none⟩) m c1, .int .i64 sh, u 34, u 35, u 36, u 37, u 38, u 39, u 40, u 41, u 42, u 43, u 44, u 45, u 46, u 47, u 48, u 49, u 50, u 51, u 52, u 53, u 54, u 55, u 56, u 57, u 58, u 59, u 60, u 61, u 62, u 63, u 64, u 65, u 66, u 67, u 68, u 69, u 70, u 71, u 72, u 73, u 74, u 75, u 76, u 77, u 78, u 79, u 80, u 81, u 82, u 83, u 84, u 85, u 86, u 87, u 88, u 89, u 90, u 91, u 92, u 93, u 94, u 95, u 96, u 97, u 98, u 99, u 100, u 101, u 102, u 103, u 104, u 105, u 106, u 107, u 108, u 109, u 110, u 111, u 112, u 113, u 114, u 115, u 116, u 117, u 118, u 119, u 120, u 121, u 122, u 123, u 124, u 125, u 126, u 127, u 128, u 129, u 130, u 131, u 132, u 133, u 134, u 135, u 136, u 137, u 138, u 139, u 140, u 141, u 142, u 143, u 144, u 145, u 146, u 147, u 148, u 149, u 150, u 151, u 152, u 153, u 154, u 155, u 156])) ?_ ?_
    · intro τ d
      clear htop
      simp only [List.drop_zero, List.take_succ_cons, List.take_zero]
      go_wp2
      exact ⟨⟨τ, d, rfl⟩, rfl, rfl⟩
    rintro a' w' ⟨⟨τ, d, rfl⟩, hfr⟩
    clear u
    obtain ⟨u, rfl⟩ := hfr.open
    clear hfr
    refine WkT.bestOp E hSB hbt hL (i := 2) rfl rfl (B := B) (off := 0) (n := m) (cap := c1) (f := f) (shift := sh) (fun w => by simp [execOp, resolve, invoke, Act.eval, go_sem]) (by omega) hB1 (mv_same row1 rfl) (plain_same pl1 rfl) (nearD_near f m sh) ?_
    intro v V2 hpost
    obtain ⟨v5, rfl, t5, hb2'⟩ := post_tk hpost
    have hb2 : Bl w1.heap.size w1 V2 := ⟨hb2'.size, hb2'.block⟩
    replace t5 : Tk r m w1.heap.size V2 v5 := by rw [hr] at t5; exact t5
    rw [hr, hbr]
    clear hpost hb2'
    refine WkT.opsFrom E hL 3 5 (by simp) (fun a' w' => (∃ τ d, w' = re V2 τ d) ∧ FrIs a' (fun u => #[.slice a n cap, u 1, u 2, .slice (some ⟨B, 0, none⟩) m c1, .int .i64 sh, v5, .bool br, u 7, u 8, u 9, u 10, u 11, u 12, u 13, u 14, u 15, u 16, u 17, u 18, u 19, u 20, u 21, u 22, u 23, u 24, u 25, u 26, u 27, u 28, u 29, u 30, u 31, u 32, u 33, u 34, u 35, u 36, u 37, u 38, u 39, u 40, u 41, u 42, u 43, u 44, u 45, u 46, u 47, u 48, u 49, u 50, u 51, u 52, u 53, u 54, u 55, u 56, u 57, u 58, u 59, u 60, u 61, u 62, u 63, u 64, u 65, u 66, u 67, u 68, u 69, u 70, u 71, u 72, u 73, u 74, u 75, u 76, u 77, u 78, u 79, u 80, u 81, u 82, u 83, u 84, u 85, u 86, u 87, u 88, u 89, u 90, u 91, u 92, u 93, u 94, u 95, u 96, u 97, u 98, u 99, u 100, u 101, u 102, u 103, u 104, u 105, u 106, u 107, u 108, u 109, u 110, u 111, u 112, u 113, u 114, u 115, u 116, u 117, u 118, u 119, u 120, u 121, u 122, u 123, u 124, u 125, u 126, u 127, u 128, u 129, u 130, u 131, u 132, u 133, u 134, u 135, u 136, u 137, u 138, u 139, u 140, u 141, u 142, u 143, u 144, u 145, u 146, u 147, u 148, u 149, u 150, u 151, u 152, u 153, u 154, u 155, u 156])) ?_ ?_
    · intro τ d
      clear htop
      simp only [List.drop_succ_cons, List.drop_zero, List.take_succ_cons, List.take_zero, Act.put]
      go_wp2
      exact ⟨⟨τ, d, rfl⟩, rfl, rfl⟩
    rintro a' w' ⟨⟨τ2, d2, rfl⟩, hfr⟩
    clear u
    obtain ⟨u, rfl⟩ := hfr.open
    clear hfr
    refine WkT.regionEnd E hL ?_
    have hz2 := hb2.size
    have row2 : MvRow V2 B 0 m f := mv_same row1 (hb2.block B hB1)
    have pl2 : PlainRow V2 B := plain_same pl1 (hb2.block B hB1)
    have hb02 : Bl V.heap.size V V2 := hb1.trans hb2 hz1
    have hB2 := pl2.lt
    clear hb1 hb2 row1 pl1
    refine WkT.chain E hL [_, _] _ (fun a' w' => Bl V2.heap.size V2 w' ∧ FrIs a' (fun u => #[.slice a n cap, u 1, u 2, .slice (some ⟨B, 0, none⟩) m c1, .int .i64 sh, v5, .bool br, u 7, u 8, u 9, u 10, u 11, u 12, u 13, u 14, u 15, u 16, u 17, u 18, u 19, u 20, u 21, u 22, u 23, u 24, u 25, u 26, u 27, u 28, u 29, u 30, u 31, u 32, u 33, u 34, u 35, u 36, u 37, u 38, u 39, u 40, u 41, u 42, u 43, u 44, u 45, u 46, u 47, u 48, u 49, u 50, u 51, u 52, u 53, u 54, u 55, u 56, u 57, u 58, u 59, u 60, u 61, u 62, u 63, u 64, u 65, u 66, u 67, u 68, u 69, u 70, u 71, u 72, u 73, u 74, u 75, u 76, u 77, u 78, u 79, u 80, u 81, u 82, u 83, u 84, u 85, u 86, u 87, u 88, u 89, u 90, u 91, u 92, u 93, u 94, u 95, u 96, u 97, u 98, u 99, u 100, u 101, u 102, u 103, u 104, u 105, u 106, u 107, u 108, u 109, u 110, u 111, u 112, u 113, u 114, u 115, u 116, u 117, u 118, u 119, u 120, u 121, u 122, u 123, u 124, u 125, u 126, u 127, u 128, u 129, u 130, u 131, u 132, u 133, u 134, u 135, u 136, u 137, u 138, u 139, u 140, u 141, u 142, u 143, u 144, u 145, u 146, u 147, u 148, u 149, u 150, u 151, u 152, u 153, u 154, u 155, u 156])) (fun _ _ => False) ?_ ?_ (fun _ _ _ hh => hh.elim)
    · intro τ d
      have H1 := specBest_row B 0 m c1 f sh (re V2 τ d) (by omega) hB2 (mv_same row2 rfl) hff (nearD f m sh) (nearD_near f m sh)
      have t5' : Tk r m w1.heap.size (re V2 τ d) v5 := t5.same fun _ _ _ => rfl
      clear htop
      simp only [wpChain]
      go_wp2_with (first
        | (go_at_call 7; refine H1.mono ?_; clear H1; rintro e w3 ⟨s3, b3⟩; obtain ⟨v7, rfl, t7⟩ := says_tk s3; rw [hr] at t7; rw [hr, hbr]; have H2 := wInts_tk (by omega) (t5'.same (w' := w3) fun b _ h3 => b3.block b h3) t7)
        | (go_at_call 8; refine H2.mono ?_; clear H2; rintro e w4 ⟨rfl, b4⟩; have B4 := b3.trans (b4.mono b3.size)))
      left
      exact ⟨by first | rfl | trivial, Bl.ofR B4, rfl, rfl⟩
    rintro a' w3 ⟨hb3, hfr⟩
    clear u
    obtain ⟨u, rfl⟩ := hfr.open
    clear hfr
    have hz3 := hb3.size
    have row3 : MvRow w3 B 0 m f := mv_same row2 (hb3.block B hB2)
    have pl3 : PlainRow w3 B := plain_same pl2 (hb3.block B hB2)
    have t53 : Tk r m w1.heap.size w3 v5 := t5.same fun b _ h3 => hb3.block b h3
    have hb03 : Bl V.heap.size V w3 := hb02.trans hb3 (by omega)
    have hB3 := pl3.lt
    clear hb02 hb3 row2 pl2 t5
    refine WkT.seq E hL (WkT.region E hL ?_)
    rw [range_from]
    refine WkT.opsFrom E hL 0 1 (by simp) (fun a' w' => (∃ τ d, w' = re w3 τ d) ∧ FrIs a' (fun u => #[.slice a n cap, u 1, u 2, .slice (some ⟨B, 0, none⟩) m c1, .int .i64 sh, v5, .bool br, u 7, u 8, u 9, u 10, u 11, u 12, u 13, u 14, u 15, u 16, u 17, u 18, u 19, u 20, u 21, u 22, u 23, u 24, u 25, u 26, u 27, u 28, u 29, u 30, u 31, u 32, u 33, u 34, u 35, u 36, u 37, u 38, u 39, u 40, u 41, u 42, u 43, u 44, u 45, u 46, u 47, u 48, u 49, u 50, u 51, u 52, .slice (some ⟨B, 0, none⟩) m c1, u 54, u 55, u 56, u 57, u 58, u 59, u 60, u 61, u 62, u 63, u 64, u 65, u 66, u 67, u 68, u 69, u 70, u 71, u 72, u 73, u 74, u 75, u 76, u 77, u 78, u 79, u 80, u 81, u 82, u 83, u 84, u 85, u 86, u 87, u 88, u 89, u 90, u 91, u 92, u 93, u 94, u 95, u 96, u 97, u 98, u 99, u 100, u 101, u 102, u 103, u 104, u 105, u 106, u 107, u 108, u 109, u 110, u 111, u 112, u 113, u 114, u 115, u 116, u 117, u 118, u 119, u 120, u 121, u 122, u 123, u 124, u 125, u 126, u 127, u 128, u 129, u 130, u 131, u 132, u 133, u 134, u 135, u 136, u 137, u 138, u 139, u 140, u 141, u 142, u 143, u 144, u 145, u 146, u 147, u 148, u 149, u 150, u 151, u 152, u 153, u 154, u 155, u 156])) ?_ ?_
    · intro τ d
      clear htop
      simp only [List.drop_zero, List.take_succ_cons, List.take_zero]
      go_wp2
      exact ⟨⟨τ, d, rfl⟩, rfl, rfl⟩
    rintro a' w' ⟨⟨τ4, d4, rfl⟩, hfr⟩
    clear u
    obtain ⟨u, rfl⟩ := hfr.open
    clear hfr
    refine WkT.bestOp E hSB hbt hL (i := 1) rfl rfl (B := B) (off := 0) (n := m) (cap := c1) (f := f) (shift := 6) (fun w => by simp [execOp, resolve, invoke, Act.eval, go_sem]) (by omega) hB3 (mv_same row3 rfl) (plain_same pl3 rfl) (nearD_near f m 6) ?_
    intro v V4 hpost
    obtain ⟨v9, rfl, t9, hb4'⟩ := post_tk hpost
    have hb4 : Bl w3.heap.size w3 V4 := ⟨hb4'.size, hb4'.block⟩
    replace t9 : Tk r6 m w3.heap.size V4 v9 := by rw [hr6] at t9; exact t9
    rw [hr6, hb6]
    clear hpost hb4'
    refine WkT.opsFrom E hL 2 5 (by simp) (fun a' w' => (∃ τ d, w' = re V4 τ d) ∧ FrIs a' (fun u => #[.slice a n cap, u 1, u 2, .slice (some ⟨B, 0, none⟩) m c1, .int .i64 sh, v5, .bool br, u 7, u 8, v9, .bool b6, u 11, u 12, u 13, u 14, u 15, u 16, u 17, u 18, u 19, u 20, u 21, u 22, u 23, u 24, u 25, u 26, u 27, u 28, u 29, u 30, u 31, u 32, u 33, u 34, u 35, u 36, u 37, u 38, u 39, u 40, u 41, u 42, u 43, u 44, u 45, u 46, u 47, u 48, u 49, u 50, u 51, u 52, u 53, u 54, u 55, u 56, u 57, u 58, u 59, u 60, u 61, u 62, u 63, u 64, u 65, u 66, u 67, u 68, u 69, u 70, u 71, u 72, u 73, u 74, u 75, u 76, u 77, u 78, u 79, u 80, u 81, u 82, u 83, u 84, u 85, u 86, u 87, u 88, u 89, u 90, u 91, u 92, u 93, u 94, u 95, u 96, u 97, u 98, u 99, u 100, u 101, u 102, u 103, u 104, u 105, u 106, u 107, u 108, u 109, u 110, u 111, u 112, u 113, u 114, u 115, u 116, u 117, u 118, u 119, u 120, u 121, u 122, u 123, u 124, u 125, u 126, u 127, u 128, u 129, u 130, u 131, u 132, u 133, u 134, u 135, u 136, u 137, u 138, u 139, u 140, u 141, u 142, u 143, u 144, u 145, u 146, u 147, u 148, u 149, u 150, u 151, u 152, u 153, u 154, u 155, u 156])) ?_ ?_
    · intro τ d
      clear htop
      simp only [List.drop_succ_cons, List.drop_zero, List.take_succ_cons, List.take_zero, Act.put]
      go_wp2
      exact ⟨⟨τ, d, rfl⟩, rfl, rfl⟩
    rintro a' w' ⟨⟨τ5, d5, rfl⟩, hfr⟩
    clear u
    obtain ⟨u, rfl⟩ := hfr.open
    clear hfr
    refine WkT.regionEnd E hL ?_
    have hz4 := hb4.size
    have row4 : MvRow V4 B 0 m f := mv_same row3 (hb4.block B hB3)
    have t54 : Tk r m w1.heap.size V4 v5 := t53.same fun b _ h3 => hb4.block b h3
    have hb04 : Bl V.heap.size V V4 := hb03.trans hb4 (by omega)
    have hB4 : B < V4.heap.size := by omega
    clear hb03 hb4 row3 pl3 t53
    cases r with
    | none =>
      refine WkT.chain E hL [_] _ (fun _ _ => False) (fun a' w' => Bl V.heap.size V w' ∧ a'.defers = [] ∧ a'.tmps[2]? = some (.bool true)) ?_ (fun _ _ hh => hh.elim) (fun a' w' todo hh => htop a' w' todo hh)
      intro τ d
      clear htop
      obtain ⟨a5, c5, rfl⟩ := t54
      subst hbr
      simp only [wpChain, Option.isSome_none]
      go_wp2
      right; refine ⟨by first | rfl | trivial, ⟨hb04.size, hb04.block⟩, ?_⟩; first | exact ⟨rfl, rfl⟩ | simp
    | some T =>
      have hF := found_of hr
      obtain ⟨T6, e6, hF6, hle⟩ := hF.more
      rw [e6] at hr6
      subst hr6 hbr hb6
      obtain ⟨B5, c5, _, rfl, o5⟩ := t54
      obtain ⟨B9, c9, _, rfl, o9⟩ := t9
      have hcost := hF.cost
      have hcost6 := hF6.cost
      have hfits := hF.fits
      obtain ⟨S, hS⟩ : ∃ S, sumTo f T m = S := ⟨_, rfl⟩
      obtain ⟨M, hM⟩ : ∃ S, mostTo f T m = S := ⟨_, rfl⟩
      obtain ⟨S6, hS6⟩ : ∃ S, sumTo f T6 m = S := ⟨_, rfl⟩
      obtain ⟨M6, hM6⟩ : ∃ S, mostTo f T6 m = S := ⟨_, rfl⟩
      rw [hS, hM] at hcost
      rw [hS6, hM6] at hcost6
      rw [hS, hM, hS6, hM6] at hle
      refine WkT.chain E hL [_, _, _, _, _] _ (fun a' w' => Bl V4.heap.size V4 w' ∧ ∃ (g : Nat → Nat) (BF : Nat), IsFirst f m g ∧ OwnInts w' BF m (fun i => ((g i : Nat) : Int)) ∧ FrIs a' (fun u => #[.slice a n cap, u 1, u 2, .slice (some ⟨B, 0, none⟩) m c1, .int .i64 sh, u 5, u 6, u 7, u 8, u 9, u 10, .int .i64 S, u 12, u 13, u 14, .slice (some ⟨BF, 0, none⟩) m m, u 16, u 17, u 18, u 19, u 20, u 21, u 22, u 23, u 24, u 25, u 26, u 27, u 28, u 29, u 30, u 31, u 32, u 33, u 34, u 35, u 36, u 37, u 38, u 39, u 40, u 41, u 42, u 43, u 44, u 45, u 46, u 47, u 48, u 49, u 50, u 51, u 52, u 53, u 54, u 55, u 56, u 57, u 58, u 59, u 60, u 61, u 62, u 63, u 64, u 65, u 66, u 67, u 68, u 69, u 70, u 71, u 72, u 73, u 74, u 75, u 76, u 77, u 78, u 79, u 80, u 81, u 82, u 83, u 84, u 85, u 86, u 87, u 88, u 89, u 90, u 91, u 92, u 93, u 94, u 95, u 96, u 97, u 98, u 99, u 100, u 101, u 102, u 103, u 104, u 105, u 106, u 107, u 108, u 109, u 110, u 111, u 112, u 113, u 114, u 115, u 116, u 117, u 118, u 119, u 120, u 121, u 122, u 123, u 124, u 125, u 126, u 127, u 128, u 129, u 130, u 131, u 132, u 133, u 134, u 135, u 136, u 137, u 138, u 139, u 140, u 141, u 142, u 143, u 144, u 145, u 146, u 147, u 148, u 149, u 150, u 151, u 152, u 153, u 154, u 155, u 156])) (fun _ _ => False) ?_ ?_ (fun _ _ _ hh => hh.elim)
      · intro τ d
        clear htop
        have row5 : MvRow (re (re V4 τ5 d5) τ d) B 0 m f := mv_same row4 rfl
        have o5' : OwnInts (re (re V4 τ5 d5) τ d) B5 m T := own_same o5 rfl
        have o9' : OwnInts (re (re V4 τ5 d5) τ d) B9 m T6 := own_same o9 rfl
        have hB5 : B < (re (re V4 τ5 d5) τ d).heap.size := hB4
        have hb5 : Bl V4.heap.size V4 (re (re V4 τ5 d5) τ d) := ⟨Nat.le_refl _, fun _ _ => rfl⟩
        revert row5 o5' o9' hB5 hb5
        generalize re (re V4 τ5 d5) τ d = w0
        intro row5 o5' o9' hB5 hb5
        clear row4 o5 o9 hB4 hF hF6 e6 hb04 hff hr
        have H1 := implCost_row B 0 m c1 f B5 0 m c5 T w0 (by omega) (by unfold maxLen; omega) hB5 row5 o5'.lt o5'.2
        rw [hcost] at H1
        simp only at H1
        simp only [wpChain, Option.isSome_some]
        rcases hle with hlt | ⟨heq, hle⟩
        · have hn1 : ¬ S < S6 := by omega
          have hn2 : ¬ S6 = S := by omega
          go_wp2_with (first
            | (go_at_call 9; refine H1.mono ?_; clear H1; rintro e w2 ⟨rfl, b2⟩; have H2 := implCost_row B 0 m c1 f B9 0 m c9 T6 w2 (by omega) (by unfold maxLen; omega) (Nat.lt_of_lt_of_le hB5 b2.size) (row5.below b2 hB5) (o9'.below b2 o9'.lt).lt (o9'.below b2 o9'.lt).2; rw [hcost6] at H2; simp only at H2)
            | (go_at_call 9; refine H2.mono ?_; clear H2; rintro e w3 ⟨rfl, b3⟩; have B3 := b2.trans (b3.mono b2.size); have H3 := implFits_row B 0 m c1 f B5 0 m c5 T w3 (by omega) (by unfold maxLen; omega) (Nat.lt_of_lt_of_le hB5 B3.size) (row5.below B3 hB5) (o5'.below B3 o5'.lt).lt (o5'.below B3 o5'.lt).2; rw [hfits] at H3)
            | (go_at_call 10; refine H3.mono ?_; clear H3; rintro e w4 ⟨rfl, b4⟩; have B4 := B3.trans (b4.mono B3.size); have H4 := implFirst_cap B 0 m c1 f w4 (by omega) (Nat.lt_of_lt_of_le hB5 B4.size) (row5.below B4 hB5))
            | (go_at_call 11; refine H4.mono ?_; clear H4; rintro e w5 ⟨⟨g, BF, hg, _, rfl, oF⟩, b5⟩; have B5 := B4.trans (b5.mono B4.size)))
          all_goals first | (exfalso; omega) | skip
          left
          exact ⟨by first | rfl | trivial, ⟨Nat.le_trans hb5.size B5.size, fun k hk => (B5.block k (Nat.lt_of_lt_of_le hk hb5.size)).trans (hb5.block k hk)⟩, g, BF, hg, oF, rfl, rfl⟩
        · subst heq
          have hn1 : ¬ M < M6 := by omega
          go_wp2_with (first
            | (go_at_call 9; refine H1.mono ?_; clear H1; rintro e w2 ⟨rfl, b2⟩; have H2 := implCost_row B 0 m c1 f B9 0 m c9 T6 w2 (by omega) (by unfold maxLen; omega) (Nat.lt_of_lt_of_le hB5 b2.size) (row5.below b2 hB5) (o9'.below b2 o9'.lt).lt (o9'.below b2 o9'.lt).2; rw [hcost6] at H2; simp only at H2)
            | (go_at_call 9; refine H2.mono ?_; clear H2; rintro e w3 ⟨rfl, b3⟩; have B3 := b2.trans (b3.mono b2.size); have H3 := implFits_row B 0 m c1 f B5 0 m c5 T w3 (by omega) (by unfold maxLen; omega) (Nat.lt_of_lt_of_le hB5 B3.size) (row5.below B3 hB5) (o5'.below B3 o5'.lt).lt (o5'.below B3 o5'.lt).2; rw [hfits] at H3)
            | (go_at_call 10; refine H3.mono ?_; clear H3; rintro e w4 ⟨rfl, b4⟩; have B4 := B3.trans (b4.mono B3.size); have H4 := implFirst_cap B 0 m c1 f w4 (by omega) (Nat.lt_of_lt_of_le hB5 B4.size) (row5.below B4 hB5))
            | (go_at_call 11; refine H4.mono ?_; clear H4; rintro e w5 ⟨⟨g, BF, hg, _, rfl, oF⟩, b5⟩; have B5 := B4.trans (b5.mono B4.size)))
          all_goals first | (exfalso; omega) | skip
          left
          exact ⟨by first | rfl | trivial, ⟨Nat.le_trans hb5.size B5.size, fun k hk => (B5.block k (Nat.lt_of_lt_of_le hk hb5.size)).trans (hb5.block k hk)⟩, g, BF, hg, oF, rfl, rfl⟩
      · rintro a' w5 ⟨hb5, g, BF, hg, oF, hfr⟩
        clear u
        obtain ⟨u, rfl⟩ := hfr.open
        clear hfr
        have hz5 := hb5.size
        have row5 : MvRow w5 B 0 m f := mv_same row4 (hb5.block B hB4)
        have hb05 : Bl V.heap.size V w5 := hb04.trans hb5 (by omega)
        refine WkT.last E hL [_, _] (fun a' w' => Bl V.heap.size V w' ∧ a'.defers = [] ∧ a'.tmps[2]? = some (.bool true)) ?_ (fun a' w' todo hh => htop a' w' todo hh)
        intro τ d
        clear htop
        have row0 : MvRow (re w5 τ d) B 0 m f := mv_same row5 rfl
        have oF0 : OwnInts (re w5 τ d) BF m (fun i => ((g i : Nat) : Int)) := own_same oF rfl
        have hB0 : B < (re w5 τ d).heap.size := by show B < w5.heap.size; omega
        have hb0 : Bl V.heap.size V (re w5 τ d) := ⟨hb05.size, hb05.block⟩
        revert row0 oF0 hB0 hb0
        generalize re w5 τ d = w0
        intro row0 oF0 hB0 hb0
        have HO : Hid (∀ (o : Nat → Int) (rr : Int) (Sx : Nat → Int), ShiftSays o m (fun i => ((g i : Nat) : Int)) m rr → rr ≤ sh → orderR f m o m = some Sx → S ≤ (costZ f m Sx m).1) := fun o rr Sx h1 h2 h3 => by
          have := hF.order hg h1 h2 h3
          omega
        have hzV := hb0.size
        have lBF := oF0.lt
        clear row4 row5 oF hb05 hb5 hb04 hF hF6 e6 hr hff o5 o9 hcost hcost6 hfits hle hB4
        obtain ⟨i0, hI, hz0, hi1, hi2⟩ := info_int'
        simp only [wpChain]
        go_wp2
        go_loopw [16, 17, 18, 19, 20, 21, 22] (fun k _ _ _ _ _ _ wr => ∃ i : Nat, k = .int .i64 i ∧ i ≤ m ∧ Below w0.heap.size w0 wr) (fun k _ _ _ _ _ _ _ => m - (intOf k).toNat)
        case atStart => exact ⟨0, rfl, Nat.zero_le _, Below.refl _ _⟩
        case round =>
          obtain ⟨i, rfl, hi, hBr⟩ := hrel
          have wr1 : IntKind.i64.wrap ((i : Int) + 1) = (i : Int) + 1 := by rw [IntKind.wrap_i64]; omega
          by_cases hlt : i + 1 < m
          · have hlt' : (i : Int) + 1 < m := by omega
            have hlt2 : (i : Int) < m := by omega
            have rFr := oF0.2.below hBr lBF
            have lFr : BF < wr.heap.size := Nat.lt_of_lt_of_le lBF hBr.size
            have bA : Below wr.heap.size wr (wr.alloc (.cells #[] 3)) := (Below.refl _ _).alloc (Nat.le_refl _) _
            have e1 := rFr (i + 1) hlt
            have e0 := rFr i (by omega)
            simp only [Nat.zero_add] at e1 e0
            go_wp2_with (at_builtin; refine wpList_append_own _ rfl (.tmp 106) (.tmp 107) 26 rfl wr.heap.size 3 i0 _ 1 8 (Tryz0.tr_underlying Tryz.underlying26) hI hz0 hi1 hi2 rfl (by decide) (.slice (some ⟨wr.heap.size, 0, none⟩) 0 0) 0 [] (by rfl) (own_empty (Nat.le_refl _) (heap_alloc_new _ _)) ⟨BF, 0, none⟩ m m (ivals (fun i => ((g i : Nat) : Int)) m) (by rfl) (by rw [ivals_len]; omega) (ivals_cells (rFr.below bA lFr)) (ivals_one _ m) (by unfold maxLen; omega) (by omega) (by simp) ?_; intro v13 w13 ho13 hg13 _; simp only [Nat.zero_add, List.nil_append] at ho13; obtain ⟨B3, c3, rfl⟩ := own_pos ho13 (by omega); have b13 : Below wr.heap.size wr w13 := bA.grown hg13 bA.size (fun q hq => by simp [Value.ownBlock] at hq; omega); have hl3 : wr.heap.size ≤ B3 := own_block ho13 B3 rfl; have hc3 := (own_lt ho13).2; have lt3 := (own_lt ho13).1; have s13 := own_irow ho13; obtain ⟨_, _, cur, hcur, _⟩ := own_open ho13; have fr0 := frozen_of_row w13 B3 i cur _ hcur; have fr1 := frozen_of_row w13 B3 (i + 1) cur _ hcur; have g1 : w13.cell? ⟨BF, i + 1, none⟩ = some (.int .i64 ((g (i + 1) : Nat) : Int)) := (b13.cell (p := ⟨BF, i + 1, none⟩) lFr).trans e1; have g0 : ∀ v, (w13.setCell ⟨B3, i, none⟩ v).cell? ⟨BF, i, none⟩ = some (.int .i64 ((g i : Nat) : Int)) := (fun v => (World.cell?_setCell_other _ _ _ _ (by intro e; cases e; omega)).trans ((b13.cell (p := ⟨BF, i, none⟩) lFr).trans e0)); have q0 := s13 i (by omega); have q1 := s13 (i + 1) hlt; simp only [Nat.zero_add] at q0 q1)
            have sN := (s13.set (k := i) (by omega) ((g (i + 1) : Nat) : Int)).set (k := i + 1) hlt ((g i : Nat) : Int)
            have bN := hBr.trans (((b13.setCell (p := ⟨B3, i, none⟩) hl3 (.int .i64 ((g (i + 1) : Nat) : Int))).setCell (p := ⟨B3, i + 1, none⟩) hl3 (.int .i64 ((g i : Nat) : Int))).mono hBr.size)
            have lN : B3 < ((w13.setCell ⟨B3, i, none⟩ (.int .i64 ((g (i + 1) : Nat) : Int))).setCell ⟨B3, i + 1, none⟩ (.int .i64 ((g i : Nat) : Int))).heap.size := by simpa using lt3
            revert sN bN lN
            generalize ((w13.setCell ⟨B3, i, none⟩ (.int .i64 ((g (i + 1) : Nat) : Int))).setCell ⟨B3, i + 1, none⟩ (.int .i64 ((g i : Nat) : Int))) = W14
            intro sN bN lN
            obtain ⟨o3, sN⟩ : ∃ o, IntRow W14 B3 0 m o := ⟨_, sN⟩
            clear q0 q1 g0 g1 fr0 fr1 hcur s13 b13 ho13 hg13 e0 e1 bA rFr
            go_loopw [17, 18, 19, 20, 21, 22] (fun vo j _ _ _ _ wv => ∃ (q Bo co : Nat) (o : Nat → Int), q ≤ 2 ∧ j = .int .i64 q ∧ vo = .slice (some ⟨Bo, 0, none⟩) m co ∧ m ≤ co ∧ Bo < wv.heap.size ∧ IntRow wv Bo 0 m o ∧ Below w0.heap.size w0 wv) (fun _ j _ _ _ _ _ => 2 - (intOf j).toNat)
            case atStart => exact ⟨0, B3, c3, o3, by omega, rfl, rfl, hc3, lN, sN, bN⟩
            case round =>
              clear sN bN lN hBr
              obtain ⟨q, Bo, co, o, hq2, rfl, rfl, hco, lo, ro, hBv⟩ := hrel
              have lB := Nat.lt_of_lt_of_le hB0 hBv.size
              have rB := row0.below hBv hB0
              have lF := Nat.lt_of_lt_of_le lBF hBv.size
              have rF := oF0.2.below hBv lBF
              by_cases hq : q < 2
              · have hq01 : q = 0 ∨ q = 1 := by omega
                rcases hq01 with rfl | rfl
                · have H1 := implOrder_row B 0 m c1 f Bo 0 m co o wr (by omega) (by omega) hco lB rB lo ro
                  obtain ⟨rr, hrr⟩ : ∃ rr, ShiftSays o m (fun i => ((g i : Nat) : Int)) m rr := by
                    obtain ⟨_, _, ⟨rr, _, hrr⟩, _⟩ := ex_of_calls (implShift_row Bo 0 m co BF 0 m m o (fun i => ((g i : Nat) : Int)) wr (by omega) (by omega) lo ro lF rF)
                    exact ⟨rr, hrr⟩
                  have HS : ∀ w3, Below wr.heap.size wr w3 → Calls Tryz0.prog 13 #[.slice (some ⟨Bo, 0, none⟩) m co, .slice (some ⟨BF, 0, none⟩) m m] w3 (fun e w' => e = .returned (.int .i64 rr) ∧ Below w3.heap.size w3 w') := fun w3 B3 => (implShift_row Bo 0 m co BF 0 m m o (fun i => ((g i : Nat) : Int)) w3 (by omega) (by omega) (Nat.lt_of_lt_of_le lo B3.size) (IntRow.below ro B3 lo) (Nat.lt_of_lt_of_le lF B3.size) (rF.below B3 lF)).mono (fun e w' h => by obtain ⟨⟨r4, h4, hr4⟩, b4⟩ := h; exact ⟨by rw [h4, hr4.unique hrr], b4⟩)
                  cases hO : orderR f m o m with
                  | none =>
                    rw [hO] at H1
                    clear hrr hO
                    go_wp2_with (first
                      | (go_at_call 12; refine H1.mono ?_; clear H1; rintro e w2 ⟨s2, b2⟩; obtain ⟨v19, rfl, t19⟩ := says_tk s2; have H2 := implCost_tk B 0 m c1 f w2 (by omega) (by omega) (Nat.lt_of_lt_of_le lB b2.size) (rB.below b2 lB) t19)
                      | (go_at_call 9; refine H2.mono ?_; clear H2; rintro e w3 ⟨⟨x, y, rfl, _⟩, b3⟩; have B3 := b2.trans (b3.mono b2.size)))
                    go_roundw
                    case rel => exact ⟨1, Bo, co, o, by omega, by first | rfl | go_num, rfl, hco, Nat.lt_of_lt_of_le lo B3.size, IntRow.below ro B3 lo, hBv.trans (B3.mono hBv.size)⟩
                    case measure => simp [intOf]
                  | some Sx =>
                    rw [hO] at H1
                    have hcst := fun hle => HO.out o rr Sx hrr hle hO
                    clear hrr hO
                    by_cases hle : rr ≤ sh
                    · have hcst := hcst hle
                      go_wp2_with (first
                        | (go_at_call 12; refine H1.mono ?_; clear H1; rintro e w2 ⟨s2, b2⟩; obtain ⟨v19, rfl, t19⟩ := says_tk s2; have H2 := implCost_tk B 0 m c1 f w2 (by omega) (by omega) (Nat.lt_of_lt_of_le lB b2.size) (rB.below b2 lB) t19)
                        | (go_at_call 9; refine H2.mono ?_; clear H2; rintro e w3 ⟨⟨x, y, rfl, hx⟩, b3⟩; have B3 := b2.trans (b3.mono b2.size); have hxS : ¬ x < S := (by have := hx Sx rfl; omega); clear hx; have H3 := HS w3 B3)
                        | (go_at_call 13; refine H3.mono ?_; clear H3; rintro e w4 ⟨rfl, b4⟩; have B4 := B3.trans (b4.mono B3.size)))
                      all_goals first | (exfalso; omega) | skip
                      go_roundw
                      case rel => exact ⟨1, Bo, co, o, by omega, by first | rfl | go_num, rfl, hco, Nat.lt_of_lt_of_le lo B4.size, IntRow.below ro B4 lo, hBv.trans (B4.mono hBv.size)⟩
                      case measure => simp [intOf]
                    · clear hcst
                      go_wp2_with (first
                        | (go_at_call 12; refine H1.mono ?_; clear H1; rintro e w2 ⟨s2, b2⟩; obtain ⟨v19, rfl, t19⟩ := says_tk s2; have H2 := implCost_tk B 0 m c1 f w2 (by omega) (by omega) (Nat.lt_of_lt_of_le lB b2.size) (rB.below b2 lB) t19)
                        | (go_at_call 9; refine H2.mono ?_; clear H2; rintro e w3 ⟨⟨x, y, rfl, hx⟩, b3⟩; have B3 := b2.trans (b3.mono b2.size); clear hx; have H3 := HS w3 B3)
                        | (go_at_call 13; refine H3.mono ?_; clear H3; rintro e w4 ⟨rfl, b4⟩; have B4 := B3.trans (b4.mono B3.size)))
                      all_goals first | (exfalso; omega) | skip
                      go_roundw
                      case rel => exact ⟨1, Bo, co, o, by omega, by first | rfl | go_num, rfl, hco, Nat.lt_of_lt_of_le lo B4.size, IntRow.below ro B4 lo, hBv.trans (B4.mono hBv.size)⟩
                      case measure => simp [intOf]
                · have H1 := implOrder_row B 0 m c1 f BF 0 m m (fun i => ((g i : Nat) : Int)) wr (by omega) (by omega) (Nat.le_refl _) lB rB lF rF
                  obtain ⟨rr, hrr⟩ : ∃ rr, ShiftSays (fun i => ((g i : Nat) : Int)) m (fun i => ((g i : Nat) : Int)) m rr := by
                    obtain ⟨_, _, ⟨rr, _, hrr⟩, _⟩ := ex_of_calls (implShift_row BF 0 m m BF 0 m m (fun i => ((g i : Nat) : Int)) (fun i => ((g i : Nat) : Int)) wr (by omega) (by omega) lF rF lF rF)
                    exact ⟨rr, hrr⟩
                  have HS : ∀ w3, Below wr.heap.size wr w3 → Calls Tryz0.prog 13 #[.slice (some ⟨BF, 0, none⟩) m m, .slice (some ⟨BF, 0, none⟩) m m] w3 (fun e w' => e = .returned (.int .i64 rr) ∧ Below w3.heap.size w3 w') := fun w3 B3 => (implShift_row BF 0 m m BF 0 m m (fun i => ((g i : Nat) : Int)) (fun i => ((g i : Nat) : Int)) w3 (by omega) (by omega) (Nat.lt_of_lt_of_le lF B3.size) (IntRow.below rF B3 lF) (Nat.lt_of_lt_of_le lF B3.size) (rF.below B3 lF)).mono (fun e w' h => by obtain ⟨⟨r4, h4, hr4⟩, b4⟩ := h; exact ⟨by rw [h4, hr4.unique hrr], b4⟩)
                  cases hO : orderR f m (fun i => ((g i : Nat) : Int)) m with
                  | none =>
                    rw [hO] at H1
                    clear hrr hO
                    go_wp2_with (first
                      | (go_at_call 12; refine H1.mono ?_; clear H1; rintro e w2 ⟨s2, b2⟩; obtain ⟨v19, rfl, t19⟩ := says_tk s2; have H2 := implCost_tk B 0 m c1 f w2 (by omega) (by omega) (Nat.lt_of_lt_of_le lB b2.size) (rB.below b2 lB) t19)
                      | (go_at_call 9; refine H2.mono ?_; clear H2; rintro e w3 ⟨⟨x, y, rfl, _⟩, b3⟩; have B3 := b2.trans (b3.mono b2.size)))
                    go_roundw
                    case rel => exact ⟨2, BF, m, (fun i => ((g i : Nat) : Int)), by omega, by first | rfl | go_num, rfl, (Nat.le_refl _), Nat.lt_of_lt_of_le lF B3.size, IntRow.below rF B3 lF, hBv.trans (B3.mono hBv.size)⟩
                    case measure => simp [intOf]
                  | some Sx =>
                    rw [hO] at H1
                    have hcst := fun hle => HO.out (fun i => ((g i : Nat) : Int)) rr Sx hrr hle hO
                    clear hrr hO
                    by_cases hle : rr ≤ sh
                    · have hcst := hcst hle
                      go_wp2_with (first
                        | (go_at_call 12; refine H1.mono ?_; clear H1; rintro e w2 ⟨s2, b2⟩; obtain ⟨v19, rfl, t19⟩ := says_tk s2; have H2 := implCost_tk B 0 m c1 f w2 (by omega) (by omega) (Nat.lt_of_lt_of_le lB b2.size) (rB.below b2 lB) t19)
                        | (go_at_call 9; refine H2.mono ?_; clear H2; rintro e w3 ⟨⟨x, y, rfl, hx⟩, b3⟩; have B3 := b2.trans (b3.mono b2.size); have hxS : ¬ x < S := (by have := hx Sx rfl; omega); clear hx; have H3 := HS w3 B3)
                        | (go_at_call 13; refine H3.mono ?_; clear H3; rintro e w4 ⟨rfl, b4⟩; have B4 := B3.trans (b4.mono B3.size)))
                      all_goals first | (exfalso; omega) | skip
                      go_roundw
                      case rel => exact ⟨2, BF, m, (fun i => ((g i : Nat) : Int)), by omega, by first | rfl | go_num, rfl, (Nat.le_refl _), Nat.lt_of_lt_of_le lF B4.size, IntRow.below rF B4 lF, hBv.trans (B4.mono hBv.size)⟩
                      case measure => simp [intOf]
                    · clear hcst
                      go_wp2_with (first
                        | (go_at_call 12; refine H1.mono ?_; clear H1; rintro e w2 ⟨s2, b2⟩; obtain ⟨v19, rfl, t19⟩ := says_tk s2; have H2 := implCost_tk B 0 m c1 f w2 (by omega) (by omega) (Nat.lt_of_lt_of_le lB b2.size) (rB.below b2 lB) t19)
                        | (go_at_call 9; refine H2.mono ?_; clear H2; rintro e w3 ⟨⟨x, y, rfl, hx⟩, b3⟩; have B3 := b2.trans (b3.mono b2.size); clear hx; have H3 := HS w3 B3)
                        | (go_at_call 13; refine H3.mono ?_; clear H3; rintro e w4 ⟨rfl, b4⟩; have B4 := B3.trans (b4.mono B3.size)))
                      all_goals first | (exfalso; omega) | skip
                      go_roundw
                      case rel => exact ⟨2, BF, m, (fun i => ((g i : Nat) : Int)), by omega, by first | rfl | go_num, rfl, (Nat.le_refl _), Nat.lt_of_lt_of_le lF B4.size, IntRow.below rF B4 lF, hBv.trans (B4.mono hBv.size)⟩
                      case measure => simp [intOf]
              · have hq' : q = 2 := by omega
                subst hq'
                go_wp2
                go_roundw
                case rel => exact ⟨i + 1, by go_num, by omega, hBv⟩
                case measure => simp [intOf]; omega
          · have hlt' : ¬ (i : Int) + 1 < m := by omega
            go_wp2
            all_goals first | (exfalso; omega) | skip
            have hend : Bl V.heap.size V wr := ⟨Nat.le_trans hzV hBr.size, fun k hk => (hBr.block k (by omega)).trans (hb0.block k hk)⟩
            first
              | exact hend
              | (left; refine ⟨by first | rfl | trivial, ⟨Nat.le_trans hzV hBr.size, fun k hk => (hBr.block k (by omega)).trans (hb0.block k hk)⟩, ?_⟩; first | exact ⟨rfl, rfl⟩ | simp; done)
              | (right; refine ⟨by first | rfl | trivial, ⟨Nat.le_trans hzV hBr.size, fun k hk => (hBr.block k (by omega)).trans (hb0.block k hk)⟩, ?_⟩; first | exact ⟨rfl, rfl⟩ | simp)
end
end Go.Proofs.YtlmcblcijndipaaGreat
