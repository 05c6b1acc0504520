/- Texts of the proof, one behind another: N5. -/
import Derived.Test.YtlmcblcijndipabGreatM39
import Derived.Test.YtlmcblcijndipabGreatM35
import Derived.Test.YtlmcblcijndipabGreatM24d
import Derived.Test.YtlmcblcijndipabGreatM41
import Derived.RangeFuncBox
namespace Go.Proofs.YtlmcblcijndipabGreat
open Go.RowKit Go.Shelf
attribute [local go_sem] Oper.semAt_some
set_option linter.unusedVariables false
def RowsIn (W : World) (n lo : Nat) (vals : List Value) (L : List (List Nat)) : Prop :=
  ∀ (i : Nat) (lst : List Nat), L[i]? = some lst → ∃ tb tc, vals[i]? = some (Value.slice (some ⟨tb, 0, none⟩) n tc) ∧ n ≤ tc ∧ lo ≤ tb ∧ IntsB W tb ∧ IntRow W tb 0 n (fun i => ((pl lst i : Nat) : Int))
theorem IntsB.lt {W : World} {b : Nat} (h : IntsB W b) : b < W.heap.size := by obtain ⟨cs, h1, _⟩ := h; exact (Array.getElem?_eq_some_iff.1 h1).1
theorem IntsB.same {W W' : World} {b : Nat} (h : IntsB W b) (e : W'.heap[b]? = W.heap[b]?) : IntsB W' b := by obtain ⟨cs, h1, h2⟩ := h; exact ⟨cs, e.trans h1, h2⟩
theorem IntRow.same {W W' : World} {b off n : Nat} {g : Nat → Int} (h : IntRow W b off n g) (e : W'.heap[b]? = W.heap[b]?) : IntRow W' b off n g := fun i hi => by have := h i hi; simp only [World.cell?, e] at this ⊢; exact this
theorem RowsIn.same {W W' : World} {n lo : Nat} {vals : List Value} {L : List (List Nat)} (h : RowsIn W n lo vals L) (e : ∀ b, lo ≤ b → IntsB W b → W'.heap[b]? = W.heap[b]?) : RowsIn W' n lo vals L := fun i lst hi => by
  obtain ⟨tb, tc, h1, h2, h3, h4, h5⟩ := h i lst hi
  exact ⟨tb, tc, h1, h2, h3, h4.same (e tb h3 h4), h5.same (e tb h3 h4)⟩
theorem RowsIn.low {W : World} {n lo lo' : Nat} {vals : List Value} {L : List (List Nat)} (h : RowsIn W n lo vals L) (hl : lo' ≤ lo) : RowsIn W n lo' vals L := fun i lst hi => by
  obtain ⟨tb, tc, h1, h2, h3, h4⟩ := h i lst hi
  exact ⟨tb, tc, h1, h2, Nat.le_trans hl h3, h4⟩
theorem RowsIn.snoc {W : World} {n lo C c : Nat} {vals : List Value} {L : List (List Nat)} {lst : List Nat} (h : RowsIn W n lo vals L) (hl : vals.length = L.length) (h2 : n ≤ c) (h3 : lo ≤ C) (h4 : IntsB W C) (h5 : IntRow W C 0 n (fun i => ((pl lst i : Nat) : Int))) :
    RowsIn W n lo (vals ++ [.slice (some ⟨C, 0, none⟩) n c]) (L ++ [lst]) := fun i l hi => by
  by_cases hlt : i < L.length
  · rw [List.getElem?_append_left hlt] at hi
    obtain ⟨tb, tc, g1, g2⟩ := h i l hi
    exact ⟨tb, tc, by rw [List.getElem?_append_left (by omega)]; exact g1, g2⟩
  · rw [List.getElem?_append_right (by omega)] at hi
    have hi0 : i - L.length = 0 := by
      have := (List.getElem?_eq_some_iff.1 hi).1
      simp at this; omega
    rw [hi0] at hi
    simp at hi
    subst hi
    exact ⟨C, c, by rw [List.getElem?_append_right (by omega), hl, hi0]; rfl, h2, h3, h4, h5⟩
theorem ints_not_row {W : World} {b : Nat} (h : IntsB W b) {base size k : Nat} {v : Value} {xs : List Value} (hr : W.ownsRow base 85 size v k xs) : some b ≠ v.ownBlock := by
  obtain ⟨cs, h1, _⟩ := h
  rcases hr.2 with ⟨rfl, _⟩ | ⟨g, cap, cur, rfl, _, hgb, _⟩
  · simp [Value.ownBlock]
  · intro e'
    obtain rfl : b = g := by simpa [Value.ownBlock] using e'
    rw [h1] at hgb
    simp at hgb
structure NearBox (W : World) (n lo BN : Nat) (L : List (List Nat)) : Prop where
  ex : ∃ v vals, Boxed W BN 53 v ∧ W.ownsRow lo 85 1 v L.length vals ∧ RowsIn W n lo vals L
theorem NearBox.same {W W' : World} {n lo BN : Nat} {L : List (List Nat)} (h : NearBox W n lo BN L) (hN : W'.heap[BN]? = W.heap[BN]?) (e : ∀ b, lo ≤ b → b < W.heap.size → W'.heap[b]? = W.heap[b]?) : NearBox W' n lo BN L := by
  obtain ⟨v, vals, h1, h2, h3⟩ := h.ex
  refine ⟨v, vals, hN.trans h1, ?_, h3.same fun b hb hi => e b hb hi.lt⟩
  obtain ⟨g1, g2 | ⟨g, cap, cur, rfl, g3, g4, g5⟩⟩ := h2
  · exact ⟨g1, .inl g2⟩
  · exact ⟨g1, .inr ⟨g, cap, cur, rfl, g3, (e g g3 (Array.getElem?_eq_some_iff.1 g4).1).trans g4, g5⟩⟩
theorem near_appended {W w1 : World} {n lo BN C c : Nat} {v v' : Value} {vals : List Value} {L : List (List Nat)} {lst : List Nat} {tmp : Obj} (hv : Boxed W BN 53 v) (hr : W.ownsRow lo 85 1 v L.length vals) (hin : RowsIn W n lo vals L)
    (h2 : n ≤ c) (h3 : lo ≤ C) (h4 : IntsB W C) (h5 : IntRow W C 0 n (fun i => ((pl lst i : Nat) : Int)))
    (hown : w1.ownsRow lo 85 1 v' (L.length + 1) (vals ++ [.slice (some ⟨C, 0, none⟩) n c])) (hg : (W.alloc tmp).grownBy w1 v.ownBlock) :
    Boxed w1 BN 53 v ∧ NearBox (w1.setCell ⟨BN, 0, none⟩ v') n lo BN (L ++ [lst]) ∧ (∀ b, b < W.heap.size → b ≠ BN → some b ≠ v.ownBlock → (w1.setCell ⟨BN, 0, none⟩ v').heap[b]? = W.heap[b]?) ∧ W.heap.size ≤ (w1.setCell ⟨BN, 0, none⟩ v').heap.size := by
  have hte : (53 : TypeId) ≠ 85 := by decide
  have hv1 : Boxed w1 BN 53 v := (hv.alloc tmp).kept hg (hv.not_row hte hr)
  have hsame : ∀ b, b < W.heap.size → b ≠ BN → some b ≠ v.ownBlock → (w1.setCell ⟨BN, 0, none⟩ v').heap[b]? = W.heap[b]? := fun b hb hne ho => by
    rw [Below.heap_setCell _ _ _ b hne, hg.block b (by simp; omega) ho]
    exact Below.heap_alloc _ _ _ hb
  refine ⟨hv1, ⟨v', vals ++ [.slice (some ⟨C, 0, none⟩) n c], hv1.set v', ?_, ?_⟩, hsame, ?_⟩
  · rw [List.length_append]
    exact hown.kept (grownBy_setCell' w1 BN v') (.inr (hv1.not_row hte hown).symm)
  · have hk : ∀ b, IntsB W b → (w1.setCell ⟨BN, 0, none⟩ v').heap[b]? = W.heap[b]? := fun b hb => by
      refine hsame b hb.lt (fun e => ?_) (ints_not_row hb hr)
      obtain ⟨cs, g1, _⟩ := hb
      rw [e, show W.heap[BN]? = _ from hv] at g1
      simp at g1
    have hl : vals.length = L.length := by have := hr.1; omega
    exact (hin.same fun b _ hb => hk b hb).snoc hl h2 h3 (h4.same (hk C h4)) (h5.same (hk C h4))
  · have := hg.size
    simp at this ⊢
    omega
theorem filter_take (p : List Nat → Bool) {A : List (List Nat)} {k : Nat} {l : List Nat} (h : A[k]? = some l) : (A.take (k + 1)).filter p = (A.take k).filter p ++ (if p l then [l] else []) := by
  rw [List.take_add_one, h, List.filter_append]
  simp [List.filter_cons]
theorem ex_of_calls {P : Program} {f : FuncId} {args : Array Value} {w : World} {R : Ending → World → Prop} (h : Calls P f args w R) : ∃ e w', R e w' := by
  obtain ⟨e, w', fr, hR, _⟩ := h []
  exact ⟨e, w', hR⟩
theorem shift_val {W : World} {b cap b' cap' n : Nat} {g h : Nat → Int} {r : Int} (hr : IsShift g h n r) (hn : n ≤ 1048576) (hbs : b < W.heap.size) (hrow : IntRow W b 0 n g) (hord : OrdTo g n n) (hbs' : b' < W.heap.size) (hrow' : IntRow W b' 0 n h) (hord' : OrdTo h n n) (x : Later W) :
    Calls Tryz0.prog 51 #[.slice (some ⟨b, 0, none⟩) n cap, .slice (some ⟨b', 0, none⟩) n cap'] x.at_ fun e w' => e = .returned (.int .i64 r) ∧ Below x.at_.heap.size x.at_ w' := by
  have hb := x.below
  refine (shiftFrom_row b 0 n cap b' 0 cap' g h x.at_ hn (Nat.lt_of_lt_of_le hbs hb.size) (hrow.below hb hbs) hord (Nat.lt_of_lt_of_le hbs' hb.size) (hrow'.below hb hbs') hord').mono ?_
  rintro e w' ⟨⟨s, rfl, hs⟩, h2⟩
  exact ⟨by rw [hs.unique hr], h2⟩
theorem ordOf {n : Nat} {l : List Nat} (h : l ∈ allP n) : OrdTo (fun i => ((pl l i : Nat) : Int)) n n :=
  ⟨fun i hi => by have := (allP_ord h).2.1 i hi; dsimp only; omega, fun i j hij hj => by have := (allP_ord h).2.2 i j hij hj; dsimp only; omega⟩
theorem info_nears : Tryz0.prog.underlying 53 = some (.slice 85) := by kernel_rfl
theorem info_turnsT : (Tryz0.prog.info? 85).map (fun i => (i.size, i.bytes, i.zero)) = some (1, 24, some (.slice none 0 0)) := by kernel_rfl
set_option maxRecDepth 100000 in
set_option maxHeartbeats 4000000 in
theorem near_row (b off n cap : Nat) (f : Nat → Mv) (shift : Int) (w : World) (hm : movesB f n = true) (hbs : b < w.heap.size) (hrow : MvRow w b off n f) (p : List Nat → Bool)
    (hp : ∀ g, IsFirst f n g → ∀ l ∈ allP n, ∀ r, IsShift (fun i => ((pl l i : Nat) : Int)) (fun i => ((g i : Nat) : Int)) n r → (p l = true ↔ r ≤ shift)) :
    Calls Tryz0.prog 26 #[.slice (some ⟨b, off, none⟩) n cap, .int .i64 shift] w fun e w' => (∃ v vals, e = .returned v ∧ w'.ownsRow w.heap.size 85 1 v ((allP n).filter p).length vals ∧ RowsIn w' n w.heap.size vals ((allP n).filter p)) ∧ Below w.heap.size w w' := by
  have h6 := movesB_six hm
  have hn : n ≤ 1048576 := by omega
  have hB0 : ∀ o1, Below w.heap.size w (w.alloc o1) := fun o1 => (Below.refl _ w).alloc (Nat.le_refl _) _
  refine (callsIn_wide (n := 9)).1 ?_
  refine callsIn_of_wp_marks Tryz0.func26 rfl trivial ?_ rfl
  simp only [Tryz.ntmps26, List.size_toArray, List.length_cons, List.length_nil, Nat.reduceAdd, Nat.reduceSub, Array.replicate_succ, Array.replicate_zero, List.push_toArray, List.append_toArray, List.nil_append, List.cons_append]
  gi_wp2_with (first | (refine ⟨trivial, ?_⟩; refine (callsIn_wide.2 (implFirst_row _ _ _ _ f _ hn (by simp; omega) (hrow.below (hB0 _) hbs))).mono ?_; rintro e w1 ⟨⟨g, B, cap1, hg, hB1, rfl, own1⟩, b1⟩) | (refine ⟨trivial, ?_⟩; refine (callsIn_wide.2 (orders_any _ _)).mono ?_; rintro e w' ⟨rfl, rfl⟩))
  have hz1 : w.heap.size + 1 ≤ w1.heap.size := by have := b1.size; simpa using this
  have hBw1 : Below w.heap.size w w1 := (hB0 _).trans (b1.mono (by simp))
  have hBlt := own1.lt
  obtain ⟨WS, hWS⟩ : ∃ WS, ((w1.alloc (.cells #[.slice (some ⟨B, 0, none⟩) n cap1] 85)).alloc (.cells #[.slice none 0 0] 53)).alloc (.cells #[.int .i64 (n : Int)] 3) = WS := ⟨_, rfl⟩
  have hL : Below w1.heap.size w1 WS := hWS ▸ (((Below.refl _ w1).alloc (Nat.le_refl _) _).alloc (by simp) _).alloc (by simp; omega) _
  have hzS : WS.heap.size = w1.heap.size + 3 := by rw [← hWS]; simp
  have c0 : w1.cell? ⟨w.heap.size, 0, none⟩ = some (.int .i64 shift) := (b1.cell (p := ⟨w.heap.size, 0, none⟩) (by simp)).trans (by simp)
  have cS : WS.cell? ⟨w.heap.size, 0, none⟩ = some (.int .i64 shift) := (hL.cell (p := ⟨w.heap.size, 0, none⟩) (by simp; omega)).trans c0
  have cF : WS.cell? ⟨w1.heap.size, 0, none⟩ = some (.slice (some ⟨B, 0, none⟩) n cap1) := by rw [← hWS]; simp [go_sem]
  have cN : Boxed WS (w1.heap.size + 1) 53 (.slice none 0 0) := by
    have h1 : Boxed ((w1.alloc (.cells #[.slice (some ⟨B, 0, none⟩) n cap1] 85)).alloc (.cells #[.slice none 0 0] 53)) (w1.heap.size + 1) 53 (.slice none 0 0) := by
      have := Boxed.new (w1.alloc (.cells #[.slice (some ⟨B, 0, none⟩) n cap1] 85)) 53 (.slice none 0 0)
      simpa using this
    rw [← hWS]; exact h1.alloc _
  have cL : WS.cell? ⟨w1.heap.size + 1 + 1, 0, none⟩ = some (.int .i64 (n : Int)) := by rw [← hWS]; simp [go_sem]
  have ownS := own1.below hL hBlt
  have hBwS : Below w.heap.size w WS := hBw1.trans (hL.mono hBw1.size)
  rw [hWS]
  clear hWS c0 hL own1
  refine wpIn_orders (Bn := w1.heap.size + 1 + 1) (n := n) (by omega) rfl h6 (by omega) cL rfl
    (fun k W => Below w.heap.size w W ∧ But (w1.heap.size + 1) WS W ∧ NearBox W n (WS.heap.size + 3) (w1.heap.size + 1) (((allP n).take k).filter p)) ?hI ?h0 ?a1 ?assign ?body ?done
  case hI =>
    rintro k W1 W2 ⟨i1, i2, i3⟩ hs
    refine ⟨⟨hs.os.trans i1.os, hs.tape.trans i1.tape, hs.output.trans i1.output, Nat.le_trans i1.size hs.size, fun j hj => (hs.block j (by have := i1.size; omega) (by omega)).trans (i1.block j hj)⟩, ⟨Nat.le_trans i2.size hs.size, fun j hj hne => (hs.block j (by have := i2.size; omega) (by omega)).trans (i2.block j hj hne)⟩, i3.same (hs.block _ (by have := i2.size; omega) (by omega)) fun b hb hlt => hs.block b hlt (by omega)⟩
  case h0 => exact ⟨hBwS, But.refl _ _, ⟨.slice none 0 0, [], cN, World.ownsRow_nil _ _ _ _, fun i lst hi => by simp at hi⟩⟩
  case assign =>
    intro l x W K hK
    gi_wp2
    exact hK
  case body =>
    rintro l k lst W0 W C c hlst ⟨i1, i2, i3⟩ hlt hsv hC hC' hcc hC3 hC4
    have hmem : lst ∈ allP n := List.mem_of_getElem? hlst
    have j1 : Below w.heap.size w W := ⟨hsv.os.trans i1.os, hsv.tape.trans i1.tape, hsv.output.trans i1.output, Nat.le_trans i1.size hsv.size, fun j hj => (hsv.block j (by have := i1.size; omega) (by omega)).trans (i1.block j hj)⟩
    have j2 : But (w1.heap.size + 1) WS W := ⟨Nat.le_trans i2.size hsv.size, fun j hj hne => (hsv.block j (by have := i2.size; omega) (by omega)).trans (i2.block j hj hne)⟩
    have j3 : NearBox W n (WS.heap.size + 3) (w1.heap.size + 1) (((allP n).take k).filter p) := i3.same (hsv.block _ (by have := i2.size; omega) (by omega)) fun b hb hlt => hsv.block b hlt (by omega)
    clear i1 i2 i3
    have hzW := j2.size
    have dS : W.cell? ⟨w.heap.size, 0, none⟩ = some (.int .i64 shift) := by have := j2.block w.heap.size (by omega) (by omega); simp only [World.cell?, this] at cS ⊢; exact cS
    have dF : W.cell? ⟨w1.heap.size, 0, none⟩ = some (.slice (some ⟨B, 0, none⟩) n cap1) := by have := j2.block w1.heap.size (by omega) (by omega); simp only [World.cell?, this] at cF ⊢; exact cF
    have ownW := ownS.but j2 (by omega)
    have hordg := hg.ord
    have hordl := ordOf hmem
    obtain ⟨r, hr⟩ : ∃ r, IsShift (fun i => ((pl lst i : Nat) : Int)) (fun i => ((g i : Nat) : Int)) n r := by
      obtain ⟨e, w', ⟨r, _, hr⟩, _⟩ := ex_of_calls (shiftFrom_row C 0 n c B 0 cap1 _ _ W hn hC' hC4 hordl ownW.lt ownW.2 hordg)
      exact ⟨r, hr⟩
    have hpr := hp g hg lst hmem r hr
    have HS := fun x => shift_val (cap := c) (cap' := cap1) hr hn hC' hC4 hordl ownW.lt ownW.2 hordg x
    have hne := later_some W
    have q0 := fun x : Later W => x.cell dS
    have q1 := fun x : Later W => x.cell dF
    have HR : Hid (p lst = true ↔ r ≤ shift) := hpr
    clear hpr hr hordg hordl
    by_cases hle : r ≤ shift
    · gi_wp2
      refine region_in (lets_round _ _) (by kernel_rfl) (by kernel_rfl) (by kernel_rfl) ?_
      repeat (go_big_quiet_step ((go_at_call 51; exact later_call (HS _))))
      refine wpQuiet_nil (later_all ?_)
      intro w2 hb2
      have hf : Hid (((allP n).take (k + 1)).filter p = ((allP n).take k).filter p ++ [lst]) := by
        rw [filter_take p hlst, if_pos (HR.out.2 hle)]; exact rfl
      rw [hzS] at j3
      obtain ⟨v, vals, m1, m2, m3⟩ := (j3.same (W' := w2) (hb2.block _ (by omega)) fun b hb hlt => hb2.block b hlt).ex
      have hC4' := hC4.below hb2 hC'
      have hC3' := hC3.below hb2 hC'
      have hvc := m1.cell
      clear j3 hC3 hC4 hne q0 q1 HS dS dF ownW
      have hzw2 := hb2.size
      obtain ⟨i0, hI, hz0, hz1, hz2⟩ : ∃ i0, Tryz0.prog.info? 85 = some i0 ∧ i0.zero = some (.slice none 0 0) ∧ i0.size = 1 ∧ i0.bytes = 24 := by
        have h := info_turnsT
        cases hI : Tryz0.prog.info? 85 with
        | none => rw [hI] at h; simp at h
        | some i0 => rw [hI] at h; simp only [Option.map_some, Option.some.injEq, Prod.mk.injEq] at h; exact ⟨i0, rfl, h.2.2, h.1, h.2.1⟩
      have hlen : (((allP n).take k).filter p).length ≤ 720 := Nat.le_trans (List.length_filter_le _ _) (by have := (allP_length n h6).1; simp; omega)
      gi_wp2_with (refine wpListIn_append_own _ rfl (.tmp 19) (.tmp 21) 53 rfl (w1.heap.size + 3 + 3) 85 i0 (.slice none 0 0) 1 24 info_nears hI hz0 hz1 hz2 rfl (by decide) v (((allP n).take k).filter p).length vals (by rfl) (m2.alloc _) ⟨_, 0, none⟩ 1 1 [.slice (some ⟨C, 0, none⟩) n c] (by rfl) rfl (one_cell (heap_alloc_new w2 _)) (by simp [Value.oneCell']) (by unfold maxLen; omega) (by omega) (by simp; omega) ?_
                   intro v' w3 own3 gr3 hnn
                   obtain ⟨G, gc, rfl⟩ := ownsRow_succ own3
                   obtain ⟨o1, o2, o3, o4⟩ := near_appended m1 m2 m3 hcc (by omega) hC3' hC4' own3 gr3
                   have hvc3 := o1.cell
                   have hvf3 := o1.frozen)
      have hob : ∀ b, b < w1.heap.size + 3 + 3 → some b ≠ v.ownBlock := fun b hb e => by have := own_block m2 b e.symm; omega
      have hz0w := j1.size
      have o5 : w2.heap.size ≤ w3.heap.size := by have := gr3.size; simp at this; omega
      refine ⟨⟨⟨gr3.os.trans (hb2.os.trans j1.os), gr3.tape.trans (hb2.tape.trans j1.tape), gr3.output.trans (hb2.output.trans j1.output), by omega, fun b hb => (o3 b (by omega) (by omega) (hob b (by omega))).trans ((hb2.block b (by omega)).trans (j1.block b hb))⟩,
        ⟨by omega, fun b hb hne => (o3 b (by omega) hne (hob b (by omega))).trans ((hb2.block b (by omega)).trans (j2.block b hb hne))⟩, ?_⟩, by omega, fun b h1 h2 => (o3 b (by omega) (by omega) (hob b (by omega))).trans (hb2.block b (by omega))⟩
      rw [hf.out]
      exact o2
    · gi_wp2
      refine region_in (lets_round _ _) (by kernel_rfl) (by kernel_rfl) (by kernel_rfl) ?_
      repeat (go_big_quiet_step ((go_at_call 51; exact later_call (HS _))))
      refine wpQuiet_nil (later_all ?_)
      intro w2 hb2
      have hf : Hid (((allP n).take (k + 1)).filter p = ((allP n).take k).filter p) := by
        rw [filter_take p hlst, if_neg (fun h => by have := HR.out.1 h; omega)]; exact List.append_nil _
      gi_wp2
      rw [hzS] at j3
      refine ⟨⟨j1.trans (hb2.mono j1.size), j2.trans (But.of hb2), ?_⟩, hb2.size, fun b h1 h2 => hb2.block b (by omega)⟩
      rw [hf.out]
      exact j3.same (hb2.block _ (by omega)) fun b hb hlt => hb2.block b hlt
  case done =>
    rintro D W hD ⟨i1, i2, i3⟩ hK
    rw [List.take_length] at i3
    obtain ⟨v, vals, j1, j2, j3⟩ := i3.ex
    have cv := j1.cell
    gi_wp2
    refine ⟨by simp, .inl ⟨_, _, rfl, run_takeDeferred hK, ?_⟩⟩
    refine ⟨v, ?_, ⟨v, vals, rfl, own_base (ownsRow_putObj j2 _ hK rfl) (by omega), ?_⟩, i1.trans (belowK_b (w := w) (Nat.le_refl _) W D _ _ (by omega) hK rfl rfl)⟩
    · simp [results, Tryz.f26, go_sem]
    · refine (j3.same (W' := W.putObj D (.deferred none)) fun b hb hi => World.putObj_heap_other fun e => ?_).low (by omega)
      obtain ⟨cs, g1, _⟩ := hi
      rw [e, hK] at g1
      simp at g1
end Go.Proofs.YtlmcblcijndipabGreat
