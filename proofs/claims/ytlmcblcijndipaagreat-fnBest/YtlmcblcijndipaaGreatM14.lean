/- Texts of the proof, one behind another: K5, K6. -/
import Derived.Test.YtlmcblcijndipaaGreatM13
import Derived.Test.YtlmcblcijndipaaGreatM12
import Derived.Deep.RegionLaw
/- The model's StripFirst, walked. -/
namespace Go.Proofs.YtlmcblcijndipaaGreat
open Go.RowKit
set_option linter.unusedVariables false

/-- an append onto a slice of one's own, as one step of a region that draws its order -/
theorem step_append_own {P : Program} {ops : Array Oper} {o : Oper} {a : Act} {w : World} {K : Act → World → Prop} {Q : Exit → Act → World → Prop} {E : Prop}
    (hg : o.guard = none) (s x : Operand) (t : TypeId) (hop : o.op = Op.call { callee := Callee.builtin Builtin.append, args := #[s, x], argTypes := #[t, t] })
    (e : TypeId) (i : TypeInfo) (z : Value) (size bytes : Nat) (h1 : P.underlying t = some (.slice e)) (h2 : P.info? e = some i) (h3 : i.zero = some z) (h4 : i.size = size) (h5 : i.bytes = bytes) (h6 : z.cells.size = size) (h7 : 0 < size)
    (base : Nat) (v : Value) (n : Nat) (olds : List Value) (hs : a.eval s = v) (hown : w.ownsRow base e size v n olds)
    (ad : Addr) (m c : Nat) (news : List Value) (hx : a.eval x = .slice (some ad) m c) (hn : news.length = m * size) (hc : ∀ j u, news[j]? = some u → w.cell? (ad.add j) = some u) (h1c : ∀ u ∈ news, u.oneCell' = true)
    (b1 : n + m ≤ maxLen) (b2 : (n + m) * bytes ≤ 140737488355328) (hb : base ≤ w.heap.size)
    (hK : ∀ v' w', w'.ownsRow base e size v' (n + m) (olds ++ news) → w.grownBy w' v.ownBlock → K (a.put o.dst v') w') :
    if Region.wanted o (yielded ops a.tmps) = true then Oper.wp P o a w K Q else E := by
  have hw : Region.wanted o (yielded ops a.tmps) = true := by simp [Region.wanted, hg]
  rw [if_pos hw]
  obtain ⟨v', w', hrun, r1, r2, _⟩ := run_append_own (P := P) w base t o.type e i z size bytes h1 h2 h3 h4 h5 h6 h7 v n olds hown ad m c news hn hc h1c b1 b2 hb
  unfold Oper.wp
  simp [execOp, hop, resolve, invoke, builtin, hs, hx, hrun, Result.andThen]
  exact hK v' w' r1 r2
end Go.Proofs.YtlmcblcijndipaaGreat

/- The model's StripFirst, walked: the loop. -/
namespace Go.Proofs.YtlmcblcijndipaaGreat
open Go.RowKit
set_option linter.unusedVariables false

theorem key_bel (m : Mv) (w : World) :
    Calls Tryz0.prog 112 #[.agg #[.string m.name, .bool m.lands, .int .i64 m.wake, .int .i64 m.est, .int .i64 m.late, .int .i64 m.prom]] w fun e w' => e = .returned (.int .i64 m.key) ∧ Below w.heap.size w w' := key_any m w

/-- how the one that stands there is held against the one that comes -/
theorem key_ways (f : Nat → Mv) (x i : Nat) (h : x < i) :
    (Bef f x i ∧ (f x).key < (f i).key) ∨ (Bef f x i ∧ decide ((f x).key < (f i).key) = false ∧ ((f x).key == (f i).key) = true ∧ (lessB (f x).name (f i).name || sameB (f x).name (f i).name) = true)
    ∨ (¬ Bef f x i ∧ decide ((f x).key < (f i).key) = false ∧ ((f x).key == (f i).key) = false) ∨ (¬ Bef f x i ∧ decide ((f x).key < (f i).key) = false ∧ ((f x).key == (f i).key) = true ∧ (lessB (f x).name (f i).name || sameB (f x).name (f i).name) = false) := by
  rw [bef_ahead h]
  by_cases h1 : (f x).key < (f i).key
  · exact .inl ⟨.inl h1, h1⟩
  · by_cases h2 : (f x).key = (f i).key
    · cases h3 : (lessB (f x).name (f i).name || sameB (f x).name (f i).name) with
      | true => exact .inr (.inl ⟨.inr ⟨h2, rfl⟩, by simpa using h1, by simpa using h2, rfl⟩)
      | false => exact .inr (.inr (.inr ⟨fun hh => hh.elim h1 (fun ⟨_, c⟩ => Bool.noConfusion c), by simpa using h1, by simpa using h2, rfl⟩))
    · exact .inr (.inr (.inl ⟨fun hh => hh.elim h1 (fun ⟨c, _⟩ => h2 c), by simpa using h1, by simpa using h2⟩))

theorem own_below {w w' : World} {base : Nat} {e : TypeId} {size g n cap : Nat} {xs : List Value} (h : w.ownsRow base e size (.slice (some ⟨g, 0, none⟩) n cap) n xs) (hb : Below w.heap.size w w') : w'.ownsRow base e size (.slice (some ⟨g, 0, none⟩) n cap) n xs := by
  obtain ⟨h1, h2 | ⟨g', cap', cur, h2, h3, h4, h5⟩⟩ := h
  · exact absurd h2.1 (by simp)
  · exact ⟨h1, .inr ⟨g', cap', cur, h2, h3, (hb.block g' (Array.getElem?_eq_some_iff.1 h4).1).trans h4, h5⟩⟩
theorem own_empty {w : World} {base g : Nat} {e : TypeId} (hg : base ≤ g) (h : w.heap[g]? = some (.cells #[] e (0, 0))) : w.ownsRow base e 1 (.slice (some ⟨g, 0, none⟩) 0 0) 0 [] :=
  ⟨rfl, .inr ⟨g, 0, #[], rfl, hg, h, Nat.le_refl _, Nat.zero_le _, rfl, rfl⟩⟩
theorem own_lt {w : World} {base : Nat} {e : TypeId} {size g n cap : Nat} {xs : List Value} (h : w.ownsRow base e size (.slice (some ⟨g, 0, none⟩) n cap) n xs) : g < w.heap.size ∧ n ≤ cap := by
  obtain ⟨h1, h2 | ⟨g', cap', cur, h2, h3, h4, h5⟩⟩ := h
  · exact absurd h2.1 (by simp)
  · simp at h2
    obtain ⟨rfl, rfl⟩ := h2
    exact ⟨(Array.getElem?_eq_some_iff.1 h4).1, h5.1⟩

theorem addr_add (B o j : Nat) : (⟨B, o, none⟩ : Addr).add j = ⟨B, o + j, none⟩ := by unfold Addr.add; split <;> simp_all
theorem one_cell {W : World} {blk : Nat} {v : Value} {T : TypeId} (h : W.heap[blk]? = some (.cells #[v] T (0, 0))) : ∀ (j : Nat) (u : Value), [v][j]? = some u → W.cell? ((⟨blk, 0, none⟩ : Addr).add j) = some u := fun j u hu => by
  match j, hu with
  | 0, hu => rw [addr_add, cell_of_row _ _ _ _ _ _ h]; simpa using hu
theorem own_base {w : World} {base base' : Nat} {e : TypeId} {size : Nat} {v : Value} {n : Nat} {xs : List Value} (h : w.ownsRow base e size v n xs) (hb : base' ≤ base) : w.ownsRow base' e size v n xs := by
  obtain ⟨h1, h2 | ⟨g, cap, cur, h2, h3, h4⟩⟩ := h
  · exact ⟨h1, .inl h2⟩
  · exact ⟨h1, .inr ⟨g, cap, cur, h2, Nat.le_trans hb h3, h4⟩⟩
theorem own_block {w : World} {base : Nat} {e : TypeId} {size : Nat} {v : Value} {n : Nat} {xs : List Value} (h : w.ownsRow base e size v n xs) (r : Nat) (hr : v.ownBlock = some r) : base ≤ r := by
  obtain ⟨h1, h2 | ⟨g, cap, cur, h2, h3, h4⟩⟩ := h
  · rw [h2.1] at hr; cases hr
  · rw [h2] at hr; simp [Value.ownBlock] at hr; omega
theorem own_succ {w : World} {base : Nat} {e : TypeId} {size : Nat} {v : Value} {n : Nat} {xs : List Value} (h : w.ownsRow base e size v (n + 1) xs) : ∃ B c, v = .slice (some ⟨B, 0, none⟩) (n + 1) c := by
  obtain ⟨h1, h2 | ⟨g, cap, cur, h2, h3, h4⟩⟩ := h
  · omega
  · exact ⟨g, cap, h2⟩

set_option maxRecDepth 10000 in
set_option maxHeartbeats 4000000 in
theorem specFirst_row (b off n cap : Nat) (f : Nat → Mv) (w : World) (hn : n ≤ 1048576) (hbs : b < w.heap.size) (hrow : MvRow w b off n f) :
    Calls Tryz0.prog 55 #[.slice (some ⟨b, off, none⟩) n cap] w fun e w' => (∃ (g : Nat → Nat) (B c : Nat), IsFirst f n g ∧ e = .returned (.slice (some ⟨B, 0, none⟩) n c) ∧ B < w'.heap.size ∧ IntRow w' B 0 n (fun i => ((g i : Nat) : Int))) ∧ Below w.heap.size w w' := by
  go_enter Tryz0.func55, Tryz.ntmps55
  go_wp2
  go_loopw [3, 4] (fun v x wr => ∃ (i : Nat) (g : Nat → Nat) (B c : Nat), i ≤ n ∧ x = .int .i64 i ∧ v = .slice (some ⟨B, 0, none⟩) i c ∧ IsFirst f i g ∧ wr.ownsRow w.heap.size 3 1 (.slice (some ⟨B, 0, none⟩) i c) i (vals g i) ∧ Below w.heap.size w wr) (fun _ x _ => n - (intOf x).toNat)
  case atStart => exact ⟨0, id, w.heap.size, 0, Nat.zero_le _, rfl, rfl, isFirst_zero f _, own_empty (Nat.le_refl _) (heap_alloc_new _ _), (Below.refl _ _).alloc (Nat.le_refl _) _⟩
  case round =>
    obtain ⟨i, g, B, c, hi, rfl, rfl, hf, hown, hB⟩ := hrel
    by_cases hlt : i < n
    · have hlt' : (i : Int) < n := by omega
      go_wp2
      go_loopw [5] (fun y wr => ∃ k : Nat, k ≤ i ∧ y = .int .i64 k ∧ (∀ j, j < k → Bef f (g j) i) ∧ wr.ownsRow w.heap.size 3 1 (.slice (some ⟨B, 0, none⟩) i c) i (vals g i) ∧ Below w.heap.size w wr) (fun y _ => i - (intOf y).toNat)
      case atStart => exact ⟨0, Nat.zero_le _, rfl, fun j hj => absurd hj (Nat.not_lt_zero _), hown, hB⟩
      case round =>
        clear hown hB
        obtain ⟨k, hk, rfl, hbef, hown, hB⟩ := hrel
        obtain ⟨hBlt, hic⟩ := own_lt hown
        have hcell : ∀ j, j < i → wr.cell? ⟨B, j, none⟩ = some (.int .i64 ((g j : Nat) : Int)) := fun j hj => by rw [hown.cellAt j (by omega)]; exact vals_get hj
        have hne := later_some wr
        by_cases hlk : k < i
        · have hlk' : (k : Int) < i := by omega
          have hgk := hf.low k hlk
          have hgn : ((g k : Nat) : Int) < n := by omega
          have hri := hrow.below hB hbs i hlt
          have hrg := hrow.below hB hbs (g k) (by omega)
          have x0 := fun x : Later wr => x.cell (hcell k hlk)
          have a0 := fun x : Later wr => x.cell hri.c0
          have a1 := fun x : Later wr => x.cell hri.c1
          have a2 := fun x : Later wr => x.cell hri.c2
          have a3 := fun x : Later wr => x.cell hri.c3
          have a4 := fun x : Later wr => x.cell hri.c4
          have a5 := fun x : Later wr => x.cell hri.c5
          have b0 := fun x : Later wr => x.cell hrg.c0
          have b1 := fun x : Later wr => x.cell hrg.c1
          have b2 := fun x : Later wr => x.cell hrg.c2
          have b3 := fun x : Later wr => x.cell hrg.c3
          have b4 := fun x : Later wr => x.cell hrg.c4
          have b5 := fun x : Later wr => x.cell hrg.c5
          rcases key_ways f (g k) i hgk with ⟨hb', h1⟩ | ⟨hb', h1, h2, h3⟩ | ⟨hb', h1, h2⟩ | ⟨hb', h1, h2, h3⟩
          · have HB : Hid (Bef f (g k) i) := hb'
            clear hb'
            go_wp2
            refine wp_region_later (by kernel_rfl) (by kernel_rfl) ?_
            repeat (go_big_quiet_step ((go_at_call 112; exact later_call (key_bel _ _))))
            refine wpQuiet_nil (later_all ?_)
            intro w1 hb1
            go_wp2
            go_roundw
            case rel => exact ⟨k + 1, by omega, by go_num, fun j hj => by
              by_cases e : j = k
              · subst e; exact HB.out
              · exact hbef j (by omega), own_below hown hb1, hB.trans (hb1.mono hB.size)⟩
            case measure => simp [intOf]; omega
          · have HB : Hid (Bef f (g k) i) := hb'
            have H1 : Hid (decide ((f (g k)).key < (f i).key) = false) := h1
            have H2 : Hid (((f (g k)).key == (f i).key) = true) := h2
            unfold lessB sameB at h3
            have H3 : Hid ((Op.bytesLess (f (g k)).name.toList (f i).name.toList || (f (g k)).name.toList == (f i).name.toList) = true) := h3
            clear hb' h1 h2 h3
            go_wp2
            have h1 := H1.out
            have h2 := H2.out
            have h3 := H3.out
            refine wp_region_later (by kernel_rfl) (by kernel_rfl) ?_
            repeat (go_big_quiet_step ((go_at_call 112; exact later_call (key_bel _ _))))
            refine wpQuiet_nil (later_all ?_)
            intro w1 hb1
            go_wp2
            go_roundw
            case rel => exact ⟨k + 1, by omega, by go_num, fun j hj => by
              by_cases e : j = k
              · subst e; exact HB.out
              · exact hbef j (by omega), own_below hown hb1, hB.trans (hb1.mono hB.size)⟩
            case measure => simp [intOf]; omega
          · have H1 : Hid (decide ((f (g k)).key < (f i).key) = false) := h1
            have H2 : Hid (((f (g k)).key == (f i).key) = false) := h2
            have HF : Hid (IsFirst f (i + 1) (putAt g k i)) := putAt_first hf hk hbef (fun _ => hb')
            clear hb' h1 h2
            go_wp2
            have h1 := H1.out
            have h2 := H2.out
            refine wp_region_later (by kernel_rfl) (by kernel_rfl) ?_
            repeat (go_big_quiet_step ((go_at_call 112; exact later_call (key_bel _ _))))
            refine wpQuiet_nil (later_all ?_)
            intro w1 hb1
            clear x0 a0 a1 a2 a3 a4 a5 b0 b1 b2 b3 b4 b5 hne
            have hown1 := own_below hown hb1
            have hB1 : Below w.heap.size w w1 := hB.trans (hb1.mono hB.size)
            clear hown hB hb1
            go_wp2
            obtain ⟨i0, hI, hz0, hz1, hz2⟩ : ∃ i0, Tryz0.prog.info? 3 = some i0 ∧ i0.zero = some (.int .i64 0) ∧ i0.size = 1 ∧ i0.bytes = 8 := by
              have h := info_int
              cases hI : Tryz0.prog.info? 3 with
              | none => rw [hI] at h; simp at h
              | some i0 => rw [hI] at h; simp only [Option.map_some, Option.some.injEq, Prod.mk.injEq] at h; exact ⟨i0, rfl, h.2.2, h.1, h.2.1⟩
            obtain ⟨hBlt1, hic1⟩ := own_lt hown1
            have hkc : (k : Int) ≤ c := by omega
            have hcell1 : ∀ {W' : World}, Below w1.heap.size w1 W' → ∀ j, j < i → W'.cell? ⟨B, j, none⟩ = some (.int .i64 ((g j : Nat) : Int)) := fun hb' j hj => (hb'.cell (p := ⟨B, j, none⟩) hBlt1).trans (by rw [hown1.cellAt j (by omega)]; exact vals_get hj)
            have cellsA : ∀ {W' : World}, Below w1.heap.size w1 W' → ∀ j u, (vals g k)[j]? = some u → W'.cell? ((⟨B, 0, none⟩ : Addr).add j) = some u := fun hb' j u hu => by
              have hj : j < k := by rcases Nat.lt_or_ge j k with h | h; exact h; rw [List.getElem?_eq_none (by rw [vals_len]; exact h)] at hu; cases hu
              rw [vals_get hj] at hu; rw [addr_add, Nat.zero_add, hcell1 hb' j (by omega)]; exact hu
            have cellsC : ∀ {W' : World}, Below w1.heap.size w1 W' → ∀ j u, (vals (fun j => g (k + j)) (i - k))[j]? = some u → W'.cell? ((⟨B, if c = k then 0 else k, none⟩ : Addr).add j) = some u := fun hb' j u hu => by
              have hj : j < i - k := by rcases Nat.lt_or_ge j (i - k) with h | h; exact h; rw [List.getElem?_eq_none (by rw [vals_len]; exact h)] at hu; cases hu
              rw [vals_get hj] at hu; rw [if_neg (by omega), addr_add, hcell1 hb' (k + j) (by omega)]; exact hu
            have oneV : ∀ (g : Nat → Nat) (k : Nat), ∀ u ∈ vals g k, u.oneCell' = true := fun g k u hu => by unfold vals at hu; simp at hu; obtain ⟨_, _, rfl⟩ := hu; rfl
            have hA1 : (w1.alloc (.cells #[] 3)).heap[w1.heap.size]? = some (.cells #[] 3 (0, 0)) := heap_alloc_new _ _
            have hA2 : ((w1.alloc (.cells #[] 3)).alloc (.cells #[.int .i64 (i : Int)] 3)).heap[w1.heap.size]? = some (.cells #[] 3 (0, 0)) := (Below.heap_alloc _ _ _ (by simp)).trans hA1
            have hA3 : ((w1.alloc (.cells #[.int .i64 (i : Int)] 3)).alloc (.cells #[] 3)).heap[w1.heap.size + 1]? = some (.cells #[] 3 (0, 0)) := by have := heap_alloc_new (w1.alloc (.cells #[.int .i64 (i : Int)] 3)) (.cells #[] 3); simpa using this
            have bA1 : Below w1.heap.size w1 (w1.alloc (.cells #[] 3)).drew := ((Below.refl _ w1).alloc (Nat.le_refl _) _).drew
            have bA2 : Below w1.heap.size w1 ((w1.alloc (.cells #[] 3)).alloc (.cells #[.int .i64 (i : Int)] 3)).drew := (((Below.refl _ w1).alloc (Nat.le_refl _) _).alloc (by simp) _).drew
            have bA3 : Below w1.heap.size w1 ((w1.alloc (.cells #[.int .i64 (i : Int)] 3)).alloc (.cells #[] 3)).drew := (((Below.refl _ w1).alloc (Nat.le_refl _) _).alloc (by simp) _).drew
            have hD2 : ((w1.alloc (.cells #[] 3)).alloc (.cells #[.int .i64 (i : Int)] 3)).heap[w1.heap.size + 1]? = some (.cells #[.int .i64 (i : Int)] 3 (0, 0)) := by have := heap_alloc_new (w1.alloc (.cells #[] 3)) (.cells #[.int .i64 (i : Int)] 3); simpa using this
            have hD3 : ((w1.alloc (.cells #[.int .i64 (i : Int)] 3)).alloc (.cells #[] 3)).heap[w1.heap.size]? = some (.cells #[.int .i64 (i : Int)] 3 (0, 0)) := (Below.heap_alloc _ _ _ (by simp)).trans (heap_alloc_new _ _)
            go_region_law (first
              | (refine step_append_own rfl (.tmp 67) (.tmp 70) 26 rfl 3 i0 (.int .i64 0) 1 8 (Tryz0.tr_underlying Tryz.underlying26) hI hz0 hz1 hz2 rfl (by decide) w1.heap.size (.slice (some ⟨_, 0, none⟩) 0 0) 0 [] (by rfl) (own_empty (by simp) hA1) ⟨B, 0, none⟩ k c (vals g k) (by rfl) (by rw [vals_len]; omega) (cellsA bA1) (oneV g k) (by unfold maxLen; omega) (by omega) bA1.size ?_
                 intro v2 w2 own2 gr2
                 simp only [Nat.zero_add, List.nil_append] at own2
                 have B2 : Below w1.heap.size w1 w2 := bA1.grown gr2 bA1.size (fun q hq => by simp [Value.ownBlock] at hq; omega)
                 skip
                 clear gr2)
              | (refine step_append_own rfl (.tmp 67) (.tmp 70) 26 rfl 3 i0 (.int .i64 0) 1 8 (Tryz0.tr_underlying Tryz.underlying26) hI hz0 hz1 hz2 rfl (by decide) w1.heap.size (.slice (some ⟨_, 0, none⟩) 0 0) 0 [] (by rfl) (own_empty (by simp) hA2) ⟨B, 0, none⟩ k c (vals g k) (by rfl) (by rw [vals_len]; omega) (cellsA bA2) (oneV g k) (by unfold maxLen; omega) (by omega) bA2.size ?_
                 intro v2 w2 own2 gr2
                 simp only [Nat.zero_add, List.nil_append] at own2
                 have B2 : Below w1.heap.size w1 w2 := bA2.grown gr2 bA2.size (fun q hq => by simp [Value.ownBlock] at hq; omega)
                 have d2 : w2.heap[w1.heap.size + 1]? = some (.cells #[.int .i64 (i : Int)] 3 (0, 0)) := (gr2.block (w1.heap.size + 1) (by simp) (by simp [Value.ownBlock])).trans hD2
                 clear gr2)
              | (refine step_append_own rfl (.tmp 67) (.tmp 70) 26 rfl 3 i0 (.int .i64 0) 1 8 (Tryz0.tr_underlying Tryz.underlying26) hI hz0 hz1 hz2 rfl (by decide) w1.heap.size (.slice (some ⟨_, 0, none⟩) 0 0) 0 [] (by rfl) (own_empty (by simp) hA3) ⟨B, 0, none⟩ k c (vals g k) (by rfl) (by rw [vals_len]; omega) (cellsA bA3) (oneV g k) (by unfold maxLen; omega) (by omega) bA3.size ?_
                 intro v2 w2 own2 gr2
                 simp only [Nat.zero_add, List.nil_append] at own2
                 have B2 : Below w1.heap.size w1 w2 := bA3.grown gr2 bA3.size (fun q hq => by simp [Value.ownBlock] at hq; omega)
                 have d2 : w2.heap[w1.heap.size]? = some (.cells #[.int .i64 (i : Int)] 3 (0, 0)) := (gr2.block w1.heap.size (by simp; omega) (by simp [Value.ownBlock])).trans hD3
                 clear gr2)
              | (refine step_append_own rfl (.tmp 71) (.tmp 73) 26 rfl 3 i0 (.int .i64 0) 1 8 (Tryz0.tr_underlying Tryz.underlying26) hI hz0 hz1 hz2 rfl (by decide) w1.heap.size v2 k (vals g k) (by rfl) own2 ⟨_, 0, none⟩ 1 1 [.int .i64 (i : Int)] (by rfl) rfl (one_cell d2) (by simp [Value.oneCell']) (by unfold maxLen; omega) (by omega) B2.size ?_
                 intro v3 w3 own3 gr3
                 have B3 : Below w1.heap.size w1 w3 := B2.grown gr3 B2.size (fun q hq => own_block own2 q hq)
                 clear gr3 B2 own2)
              | (refine step_append_own rfl (.tmp 71) (.tmp 73) 26 rfl 3 i0 (.int .i64 0) 1 8 (Tryz0.tr_underlying Tryz.underlying26) hI hz0 hz1 hz2 rfl (by decide) w1.heap.size v2 k (vals g k) (by rfl) (own2.alloc _) ⟨_, 0, none⟩ 1 1 [.int .i64 (i : Int)] (by rfl) rfl (one_cell (heap_alloc_new w2 _)) (by simp [Value.oneCell']) (by unfold maxLen; omega) (by omega) (B2.alloc B2.size _).size ?_
                 intro v3 w3 own3 gr3
                 have B3 : Below w1.heap.size w1 w3 := (B2.alloc B2.size _).grown gr3 (B2.alloc B2.size _).size (fun q hq => own_block own2 q hq)
                 clear gr3 B2 own2)
              | (refine step_append_own rfl (.tmp 74) (.tmp 77) 26 rfl 3 i0 (.int .i64 0) 1 8 (Tryz0.tr_underlying Tryz.underlying26) hI hz0 hz1 hz2 rfl (by decide) w1.heap.size v3 (k + 1) (vals g k ++ [.int .i64 (i : Int)]) (by rfl) own3 ⟨B, if c = k then 0 else k, none⟩ (i - k) (c - k) (vals (fun j => g (k + j)) (i - k)) (by simp [Act.eval]; split <;> rfl) (by rw [vals_len]; omega) (cellsC B3) (oneV _ _) (by unfold maxLen; omega) (by omega) B3.size ?_
                 intro v4 w4 own4 gr4
                 rw [vals_put g i k hk, show k + 1 + (i - k) = i + 1 by omega] at own4
                 have B4 : Below w1.heap.size w1 w4 := B3.grown gr4 B3.size (fun q hq => own_block own3 q hq)
                 obtain ⟨b4, c4, rfl⟩ := own_succ own4
                 clear gr4 B3 own3))
            all_goals
              go_wp2
              go_roundw
              case rel => exact ⟨i + 1, putAt g k i, b4, c4, by omega, by go_num, rfl, HF.out, own_base own4 hB1.size, hB1.trans (B4.mono hB1.size)⟩
              case measure => simp [intOf]; omega
          · have H1 : Hid (decide ((f (g k)).key < (f i).key) = false) := h1
            have H2 : Hid (((f (g k)).key == (f i).key) = true) := h2
            unfold lessB sameB at h3
            have H3 : Hid ((Op.bytesLess (f (g k)).name.toList (f i).name.toList || (f (g k)).name.toList == (f i).name.toList) = false) := h3
            have HF : Hid (IsFirst f (i + 1) (putAt g k i)) := putAt_first hf hk hbef (fun _ => hb')
            clear hb' h1 h2 h3
            go_wp2
            have h1 := H1.out
            have h2 := H2.out
            have h3 := H3.out
            refine wp_region_later (by kernel_rfl) (by kernel_rfl) ?_
            repeat (go_big_quiet_step ((go_at_call 112; exact later_call (key_bel _ _))))
            refine wpQuiet_nil (later_all ?_)
            intro w1 hb1
            clear x0 a0 a1 a2 a3 a4 a5 b0 b1 b2 b3 b4 b5 hne
            have hown1 := own_below hown hb1
            have hB1 : Below w.heap.size w w1 := hB.trans (hb1.mono hB.size)
            clear hown hB hb1
            go_wp2
            obtain ⟨i0, hI, hz0, hz1, hz2⟩ : ∃ i0, Tryz0.prog.info? 3 = some i0 ∧ i0.zero = some (.int .i64 0) ∧ i0.size = 1 ∧ i0.bytes = 8 := by
              have h := info_int
              cases hI : Tryz0.prog.info? 3 with
              | none => rw [hI] at h; simp at h
              | some i0 => rw [hI] at h; simp only [Option.map_some, Option.some.injEq, Prod.mk.injEq] at h; exact ⟨i0, rfl, h.2.2, h.1, h.2.1⟩
            obtain ⟨hBlt1, hic1⟩ := own_lt hown1
            have hkc : (k : Int) ≤ c := by omega
            have hcell1 : ∀ {W' : World}, Below w1.heap.size w1 W' → ∀ j, j < i → W'.cell? ⟨B, j, none⟩ = some (.int .i64 ((g j : Nat) : Int)) := fun hb' j hj => (hb'.cell (p := ⟨B, j, none⟩) hBlt1).trans (by rw [hown1.cellAt j (by omega)]; exact vals_get hj)
            have cellsA : ∀ {W' : World}, Below w1.heap.size w1 W' → ∀ j u, (vals g k)[j]? = some u → W'.cell? ((⟨B, 0, none⟩ : Addr).add j) = some u := fun hb' j u hu => by
              have hj : j < k := by rcases Nat.lt_or_ge j k with h | h; exact h; rw [List.getElem?_eq_none (by rw [vals_len]; exact h)] at hu; cases hu
              rw [vals_get hj] at hu; rw [addr_add, Nat.zero_add, hcell1 hb' j (by omega)]; exact hu
            have cellsC : ∀ {W' : World}, Below w1.heap.size w1 W' → ∀ j u, (vals (fun j => g (k + j)) (i - k))[j]? = some u → W'.cell? ((⟨B, if c = k then 0 else k, none⟩ : Addr).add j) = some u := fun hb' j u hu => by
              have hj : j < i - k := by rcases Nat.lt_or_ge j (i - k) with h | h; exact h; rw [List.getElem?_eq_none (by rw [vals_len]; exact h)] at hu; cases hu
              rw [vals_get hj] at hu; rw [if_neg (by omega), addr_add, hcell1 hb' (k + j) (by omega)]; exact hu
            have oneV : ∀ (g : Nat → Nat) (k : Nat), ∀ u ∈ vals g k, u.oneCell' = true := fun g k u hu => by unfold vals at hu; simp at hu; obtain ⟨_, _, rfl⟩ := hu; rfl
            have hA1 : (w1.alloc (.cells #[] 3)).heap[w1.heap.size]? = some (.cells #[] 3 (0, 0)) := heap_alloc_new _ _
            have hA2 : ((w1.alloc (.cells #[] 3)).alloc (.cells #[.int .i64 (i : Int)] 3)).heap[w1.heap.size]? = some (.cells #[] 3 (0, 0)) := (Below.heap_alloc _ _ _ (by simp)).trans hA1
            have hA3 : ((w1.alloc (.cells #[.int .i64 (i : Int)] 3)).alloc (.cells #[] 3)).heap[w1.heap.size + 1]? = some (.cells #[] 3 (0, 0)) := by have := heap_alloc_new (w1.alloc (.cells #[.int .i64 (i : Int)] 3)) (.cells #[] 3); simpa using this
            have bA1 : Below w1.heap.size w1 (w1.alloc (.cells #[] 3)).drew := ((Below.refl _ w1).alloc (Nat.le_refl _) _).drew
            have bA2 : Below w1.heap.size w1 ((w1.alloc (.cells #[] 3)).alloc (.cells #[.int .i64 (i : Int)] 3)).drew := (((Below.refl _ w1).alloc (Nat.le_refl _) _).alloc (by simp) _).drew
            have bA3 : Below w1.heap.size w1 ((w1.alloc (.cells #[.int .i64 (i : Int)] 3)).alloc (.cells #[] 3)).drew := (((Below.refl _ w1).alloc (Nat.le_refl _) _).alloc (by simp) _).drew
            have hD2 : ((w1.alloc (.cells #[] 3)).alloc (.cells #[.int .i64 (i : Int)] 3)).heap[w1.heap.size + 1]? = some (.cells #[.int .i64 (i : Int)] 3 (0, 0)) := by have := heap_alloc_new (w1.alloc (.cells #[] 3)) (.cells #[.int .i64 (i : Int)] 3); simpa using this
            have hD3 : ((w1.alloc (.cells #[.int .i64 (i : Int)] 3)).alloc (.cells #[] 3)).heap[w1.heap.size]? = some (.cells #[.int .i64 (i : Int)] 3 (0, 0)) := (Below.heap_alloc _ _ _ (by simp)).trans (heap_alloc_new _ _)
            go_region_law (first
              | (refine step_append_own rfl (.tmp 67) (.tmp 70) 26 rfl 3 i0 (.int .i64 0) 1 8 (Tryz0.tr_underlying Tryz.underlying26) hI hz0 hz1 hz2 rfl (by decide) w1.heap.size (.slice (some ⟨_, 0, none⟩) 0 0) 0 [] (by rfl) (own_empty (by simp) hA1) ⟨B, 0, none⟩ k c (vals g k) (by rfl) (by rw [vals_len]; omega) (cellsA bA1) (oneV g k) (by unfold maxLen; omega) (by omega) bA1.size ?_
                 intro v2 w2 own2 gr2
                 simp only [Nat.zero_add, List.nil_append] at own2
                 have B2 : Below w1.heap.size w1 w2 := bA1.grown gr2 bA1.size (fun q hq => by simp [Value.ownBlock] at hq; omega)
                 skip
                 clear gr2)
              | (refine step_append_own rfl (.tmp 67) (.tmp 70) 26 rfl 3 i0 (.int .i64 0) 1 8 (Tryz0.tr_underlying Tryz.underlying26) hI hz0 hz1 hz2 rfl (by decide) w1.heap.size (.slice (some ⟨_, 0, none⟩) 0 0) 0 [] (by rfl) (own_empty (by simp) hA2) ⟨B, 0, none⟩ k c (vals g k) (by rfl) (by rw [vals_len]; omega) (cellsA bA2) (oneV g k) (by unfold maxLen; omega) (by omega) bA2.size ?_
                 intro v2 w2 own2 gr2
                 simp only [Nat.zero_add, List.nil_append] at own2
                 have B2 : Below w1.heap.size w1 w2 := bA2.grown gr2 bA2.size (fun q hq => by simp [Value.ownBlock] at hq; omega)
                 have d2 : w2.heap[w1.heap.size + 1]? = some (.cells #[.int .i64 (i : Int)] 3 (0, 0)) := (gr2.block (w1.heap.size + 1) (by simp) (by simp [Value.ownBlock])).trans hD2
                 clear gr2)
              | (refine step_append_own rfl (.tmp 67) (.tmp 70) 26 rfl 3 i0 (.int .i64 0) 1 8 (Tryz0.tr_underlying Tryz.underlying26) hI hz0 hz1 hz2 rfl (by decide) w1.heap.size (.slice (some ⟨_, 0, none⟩) 0 0) 0 [] (by rfl) (own_empty (by simp) hA3) ⟨B, 0, none⟩ k c (vals g k) (by rfl) (by rw [vals_len]; omega) (cellsA bA3) (oneV g k) (by unfold maxLen; omega) (by omega) bA3.size ?_
                 intro v2 w2 own2 gr2
                 simp only [Nat.zero_add, List.nil_append] at own2
                 have B2 : Below w1.heap.size w1 w2 := bA3.grown gr2 bA3.size (fun q hq => by simp [Value.ownBlock] at hq; omega)
                 have d2 : w2.heap[w1.heap.size]? = some (.cells #[.int .i64 (i : Int)] 3 (0, 0)) := (gr2.block w1.heap.size (by simp; omega) (by simp [Value.ownBlock])).trans hD3
                 clear gr2)
              | (refine step_append_own rfl (.tmp 71) (.tmp 73) 26 rfl 3 i0 (.int .i64 0) 1 8 (Tryz0.tr_underlying Tryz.underlying26) hI hz0 hz1 hz2 rfl (by decide) w1.heap.size v2 k (vals g k) (by rfl) own2 ⟨_, 0, none⟩ 1 1 [.int .i64 (i : Int)] (by rfl) rfl (one_cell d2) (by simp [Value.oneCell']) (by unfold maxLen; omega) (by omega) B2.size ?_
                 intro v3 w3 own3 gr3
                 have B3 : Below w1.heap.size w1 w3 := B2.grown gr3 B2.size (fun q hq => own_block own2 q hq)
                 clear gr3 B2 own2)
              | (refine step_append_own rfl (.tmp 71) (.tmp 73) 26 rfl 3 i0 (.int .i64 0) 1 8 (Tryz0.tr_underlying Tryz.underlying26) hI hz0 hz1 hz2 rfl (by decide) w1.heap.size v2 k (vals g k) (by rfl) (own2.alloc _) ⟨_, 0, none⟩ 1 1 [.int .i64 (i : Int)] (by rfl) rfl (one_cell (heap_alloc_new w2 _)) (by simp [Value.oneCell']) (by unfold maxLen; omega) (by omega) (B2.alloc B2.size _).size ?_
                 intro v3 w3 own3 gr3
                 have B3 : Below w1.heap.size w1 w3 := (B2.alloc B2.size _).grown gr3 (B2.alloc B2.size _).size (fun q hq => own_block own2 q hq)
                 clear gr3 B2 own2)
              | (refine step_append_own rfl (.tmp 74) (.tmp 77) 26 rfl 3 i0 (.int .i64 0) 1 8 (Tryz0.tr_underlying Tryz.underlying26) hI hz0 hz1 hz2 rfl (by decide) w1.heap.size v3 (k + 1) (vals g k ++ [.int .i64 (i : Int)]) (by rfl) own3 ⟨B, if c = k then 0 else k, none⟩ (i - k) (c - k) (vals (fun j => g (k + j)) (i - k)) (by simp [Act.eval]; split <;> rfl) (by rw [vals_len]; omega) (cellsC B3) (oneV _ _) (by unfold maxLen; omega) (by omega) B3.size ?_
                 intro v4 w4 own4 gr4
                 rw [vals_put g i k hk, show k + 1 + (i - k) = i + 1 by omega] at own4
                 have B4 : Below w1.heap.size w1 w4 := B3.grown gr4 B3.size (fun q hq => own_block own3 q hq)
                 obtain ⟨b4, c4, rfl⟩ := own_succ own4
                 clear gr4 B3 own3))
            all_goals
              go_wp2
              go_roundw
              case rel => exact ⟨i + 1, putAt g k i, b4, c4, by omega, by go_num, rfl, HF.out, own_base own4 hB1.size, hB1.trans (B4.mono hB1.size)⟩
              case measure => simp [intOf]; omega
        · have HF : Hid (IsFirst f (i + 1) (putAt g k i)) := putAt_first hf hk hbef (fun h => absurd h hlk)
          have Z1 : Hid (decide (k < i) = false) := by have h : decide (k < i) = false := by simpa using hlk
                                                       exact h
          go_wp2
          have z1 := Z1.out
          refine wp_region_later (by kernel_rfl) (by kernel_rfl) ?_
          repeat (go_big_quiet_step ((go_at_call 112; exact later_call (key_bel _ _))))
          refine wpQuiet_nil (later_all ?_)
          intro w1 hb1
          clear hne
          have hown1 := own_below hown hb1
          have hB1 : Below w.heap.size w w1 := hB.trans (hb1.mono hB.size)
          clear hown hB hb1
          go_wp2
          obtain ⟨i0, hI, hz0, hz1, hz2⟩ : ∃ i0, Tryz0.prog.info? 3 = some i0 ∧ i0.zero = some (.int .i64 0) ∧ i0.size = 1 ∧ i0.bytes = 8 := by
            have h := info_int
            cases hI : Tryz0.prog.info? 3 with
            | none => rw [hI] at h; simp at h
            | some i0 => rw [hI] at h; simp only [Option.map_some, Option.some.injEq, Prod.mk.injEq] at h; exact ⟨i0, rfl, h.2.2, h.1, h.2.1⟩
          obtain ⟨hBlt1, hic1⟩ := own_lt hown1
          have hkc : (k : Int) ≤ c := by omega
          have hcell1 : ∀ {W' : World}, Below w1.heap.size w1 W' → ∀ j, j < i → W'.cell? ⟨B, j, none⟩ = some (.int .i64 ((g j : Nat) : Int)) := fun hb' j hj => (hb'.cell (p := ⟨B, j, none⟩) hBlt1).trans (by rw [hown1.cellAt j (by omega)]; exact vals_get hj)
          have cellsA : ∀ {W' : World}, Below w1.heap.size w1 W' → ∀ j u, (vals g k)[j]? = some u → W'.cell? ((⟨B, 0, none⟩ : Addr).add j) = some u := fun hb' j u hu => by
            have hj : j < k := by rcases Nat.lt_or_ge j k with h | h; exact h; rw [List.getElem?_eq_none (by rw [vals_len]; exact h)] at hu; cases hu
            rw [vals_get hj] at hu; rw [addr_add, Nat.zero_add, hcell1 hb' j (by omega)]; exact hu
          have cellsC : ∀ {W' : World}, Below w1.heap.size w1 W' → ∀ j u, (vals (fun j => g (k + j)) (i - k))[j]? = some u → W'.cell? ((⟨B, if c = k then 0 else k, none⟩ : Addr).add j) = some u := fun hb' j u hu => by
            have hj : j < i - k := by rcases Nat.lt_or_ge j (i - k) with h | h; exact h; rw [List.getElem?_eq_none (by rw [vals_len]; exact h)] at hu; cases hu
            rw [vals_get hj] at hu; rw [if_neg (by omega), addr_add, hcell1 hb' (k + j) (by omega)]; exact hu
          have oneV : ∀ (g : Nat → Nat) (k : Nat), ∀ u ∈ vals g k, u.oneCell' = true := fun g k u hu => by unfold vals at hu; simp at hu; obtain ⟨_, _, rfl⟩ := hu; rfl
          have hA1 : (w1.alloc (.cells #[] 3)).heap[w1.heap.size]? = some (.cells #[] 3 (0, 0)) := heap_alloc_new _ _
          have hA2 : ((w1.alloc (.cells #[] 3)).alloc (.cells #[.int .i64 (i : Int)] 3)).heap[w1.heap.size]? = some (.cells #[] 3 (0, 0)) := (Below.heap_alloc _ _ _ (by simp)).trans hA1
          have hA3 : ((w1.alloc (.cells #[.int .i64 (i : Int)] 3)).alloc (.cells #[] 3)).heap[w1.heap.size + 1]? = some (.cells #[] 3 (0, 0)) := by have := heap_alloc_new (w1.alloc (.cells #[.int .i64 (i : Int)] 3)) (.cells #[] 3); simpa using this
          have bA1 : Below w1.heap.size w1 (w1.alloc (.cells #[] 3)).drew := ((Below.refl _ w1).alloc (Nat.le_refl _) _).drew
          have bA2 : Below w1.heap.size w1 ((w1.alloc (.cells #[] 3)).alloc (.cells #[.int .i64 (i : Int)] 3)).drew := (((Below.refl _ w1).alloc (Nat.le_refl _) _).alloc (by simp) _).drew
          have bA3 : Below w1.heap.size w1 ((w1.alloc (.cells #[.int .i64 (i : Int)] 3)).alloc (.cells #[] 3)).drew := (((Below.refl _ w1).alloc (Nat.le_refl _) _).alloc (by simp) _).drew
          have hD2 : ((w1.alloc (.cells #[] 3)).alloc (.cells #[.int .i64 (i : Int)] 3)).heap[w1.heap.size + 1]? = some (.cells #[.int .i64 (i : Int)] 3 (0, 0)) := by have := heap_alloc_new (w1.alloc (.cells #[] 3)) (.cells #[.int .i64 (i : Int)] 3); simpa using this
          have hD3 : ((w1.alloc (.cells #[.int .i64 (i : Int)] 3)).alloc (.cells #[] 3)).heap[w1.heap.size]? = some (.cells #[.int .i64 (i : Int)] 3 (0, 0)) := (Below.heap_alloc _ _ _ (by simp)).trans (heap_alloc_new _ _)
          go_region_law (first
            | (refine step_append_own rfl (.tmp 67) (.tmp 70) 26 rfl 3 i0 (.int .i64 0) 1 8 (Tryz0.tr_underlying Tryz.underlying26) hI hz0 hz1 hz2 rfl (by decide) w1.heap.size (.slice (some ⟨_, 0, none⟩) 0 0) 0 [] (by rfl) (own_empty (by simp) hA1) ⟨B, 0, none⟩ k c (vals g k) (by rfl) (by rw [vals_len]; omega) (cellsA bA1) (oneV g k) (by unfold maxLen; omega) (by omega) bA1.size ?_
               intro v2 w2 own2 gr2
               simp only [Nat.zero_add, List.nil_append] at own2
               have B2 : Below w1.heap.size w1 w2 := bA1.grown gr2 bA1.size (fun q hq => by simp [Value.ownBlock] at hq; omega)
               skip
               clear gr2)
            | (refine step_append_own rfl (.tmp 67) (.tmp 70) 26 rfl 3 i0 (.int .i64 0) 1 8 (Tryz0.tr_underlying Tryz.underlying26) hI hz0 hz1 hz2 rfl (by decide) w1.heap.size (.slice (some ⟨_, 0, none⟩) 0 0) 0 [] (by rfl) (own_empty (by simp) hA2) ⟨B, 0, none⟩ k c (vals g k) (by rfl) (by rw [vals_len]; omega) (cellsA bA2) (oneV g k) (by unfold maxLen; omega) (by omega) bA2.size ?_
               intro v2 w2 own2 gr2
               simp only [Nat.zero_add, List.nil_append] at own2
               have B2 : Below w1.heap.size w1 w2 := bA2.grown gr2 bA2.size (fun q hq => by simp [Value.ownBlock] at hq; omega)
               have d2 : w2.heap[w1.heap.size + 1]? = some (.cells #[.int .i64 (i : Int)] 3 (0, 0)) := (gr2.block (w1.heap.size + 1) (by simp) (by simp [Value.ownBlock])).trans hD2
               clear gr2)
            | (refine step_append_own rfl (.tmp 67) (.tmp 70) 26 rfl 3 i0 (.int .i64 0) 1 8 (Tryz0.tr_underlying Tryz.underlying26) hI hz0 hz1 hz2 rfl (by decide) w1.heap.size (.slice (some ⟨_, 0, none⟩) 0 0) 0 [] (by rfl) (own_empty (by simp) hA3) ⟨B, 0, none⟩ k c (vals g k) (by rfl) (by rw [vals_len]; omega) (cellsA bA3) (oneV g k) (by unfold maxLen; omega) (by omega) bA3.size ?_
               intro v2 w2 own2 gr2
               simp only [Nat.zero_add, List.nil_append] at own2
               have B2 : Below w1.heap.size w1 w2 := bA3.grown gr2 bA3.size (fun q hq => by simp [Value.ownBlock] at hq; omega)
               have d2 : w2.heap[w1.heap.size]? = some (.cells #[.int .i64 (i : Int)] 3 (0, 0)) := (gr2.block w1.heap.size (by simp; omega) (by simp [Value.ownBlock])).trans hD3
               clear gr2)
            | (refine step_append_own rfl (.tmp 71) (.tmp 73) 26 rfl 3 i0 (.int .i64 0) 1 8 (Tryz0.tr_underlying Tryz.underlying26) hI hz0 hz1 hz2 rfl (by decide) w1.heap.size v2 k (vals g k) (by rfl) own2 ⟨_, 0, none⟩ 1 1 [.int .i64 (i : Int)] (by rfl) rfl (one_cell d2) (by simp [Value.oneCell']) (by unfold maxLen; omega) (by omega) B2.size ?_
               intro v3 w3 own3 gr3
               have B3 : Below w1.heap.size w1 w3 := B2.grown gr3 B2.size (fun q hq => own_block own2 q hq)
               clear gr3 B2 own2)
            | (refine step_append_own rfl (.tmp 71) (.tmp 73) 26 rfl 3 i0 (.int .i64 0) 1 8 (Tryz0.tr_underlying Tryz.underlying26) hI hz0 hz1 hz2 rfl (by decide) w1.heap.size v2 k (vals g k) (by rfl) (own2.alloc _) ⟨_, 0, none⟩ 1 1 [.int .i64 (i : Int)] (by rfl) rfl (one_cell (heap_alloc_new w2 _)) (by simp [Value.oneCell']) (by unfold maxLen; omega) (by omega) (B2.alloc B2.size _).size ?_
               intro v3 w3 own3 gr3
               have B3 : Below w1.heap.size w1 w3 := (B2.alloc B2.size _).grown gr3 (B2.alloc B2.size _).size (fun q hq => own_block own2 q hq)
               clear gr3 B2 own2)
            | (refine step_append_own rfl (.tmp 74) (.tmp 77) 26 rfl 3 i0 (.int .i64 0) 1 8 (Tryz0.tr_underlying Tryz.underlying26) hI hz0 hz1 hz2 rfl (by decide) w1.heap.size v3 (k + 1) (vals g k ++ [.int .i64 (i : Int)]) (by rfl) own3 ⟨B, if c = k then 0 else k, none⟩ (i - k) (c - k) (vals (fun j => g (k + j)) (i - k)) (by simp [Act.eval]; split <;> rfl) (by rw [vals_len]; omega) (cellsC B3) (oneV _ _) (by unfold maxLen; omega) (by omega) B3.size ?_
               intro v4 w4 own4 gr4
               rw [vals_put g i k hk, show k + 1 + (i - k) = i + 1 by omega] at own4
               have B4 : Below w1.heap.size w1 w4 := B3.grown gr4 B3.size (fun q hq => own_block own3 q hq)
               obtain ⟨b4, c4, rfl⟩ := own_succ own4
               clear gr4 B3 own3))
          all_goals
            go_wp2
            go_roundw
            case rel => exact ⟨i + 1, putAt g k i, b4, c4, by omega, by go_num, rfl, HF.out, own_base own4 hB1.size, hB1.trans (B4.mono hB1.size)⟩
            case measure => simp [intOf]; omega
    · go_wp2
      go_ret
      have hin : i = n := by omega
      subst hin
      obtain ⟨hBlt, hic⟩ := own_lt hown
      exact ⟨⟨g, B, c, hf, rfl, hBlt, fun j hj => by rw [Nat.zero_add, hown.cellAt j (by omega)]; exact vals_get hj⟩, hB⟩
end Go.Proofs.YtlmcblcijndipaaGreat
