/- Texts of the proof, one behind another: H2. -/
import Derived.Test.YtlmcblcijndipabGreatM45
import Derived.Test.YtlmcblcijndipabGreatM48
import Derived.Test.YtlmcblcijndipabGreatM35
/- The law of StripBest, walked with bestTry as a door. -/
namespace Go.Proofs.YtlmcblcijndipabGreat
open Go Go.Conc Go.RowKit
set_option linter.unusedVariables false
set_option linter.unusedSectionVars false

/-- numbers in a row of one's own, between lo and hi; or none -/
def IR (w : World) (lo hi : Nat) (v : Value) (ℓ : Nat) (g : Nat → Int) : Prop :=
  (ℓ = 0 ∧ ∃ a c, v = .slice a 0 c) ∨ ∃ B c, v = .slice (some ⟨B, 0, none⟩) ℓ c ∧ lo ≤ B ∧ B < hi ∧ OwnInts w B ℓ g
theorem IR.same {w w' : World} {lo hi : Nat} {v : Value} {ℓ : Nat} {g : Nat → Int} (h : IR w lo hi v ℓ g) (e : ∀ b, lo ≤ b → b < hi → b < w.heap.size → w'.heap[b]? = w.heap[b]?) : IR w' lo hi v ℓ g := by
  rcases h with h | ⟨B, c, h1, h2, h3, h4⟩
  · exact .inl h
  · exact .inr ⟨B, c, h1, h2, h3, own_same h4 (e B h2 h3 h4.lt)⟩
theorem IR.wide {w : World} {lo hi lo' hi' : Nat} {v : Value} {ℓ : Nat} {g : Nat → Int} (h : IR w lo hi v ℓ g) (h1 : lo' ≤ lo) (h2 : hi ≤ hi') : IR w lo' hi' v ℓ g := by
  rcases h with h | ⟨B, c, e, g1, g2, g3⟩
  · exact .inl h
  · exact .inr ⟨B, c, e, by omega, by omega, g3⟩
theorem eqR {w : World} {lo hi lo' hi' : Nat} {v v' : Value} {ℓ : Nat} {g : Nat → Int} (hn : ℓ ≤ 1048576) (h : IR w lo hi v ℓ g) (h' : IR w lo' hi' v' ℓ g) :
    Calls Tryz0.prog 9 #[v, v'] w fun e w' => e = .returned (.bool true) ∧ Below w.heap.size w w' := by
  rcases h with ⟨rfl, a, c, rfl⟩ | ⟨B, c, rfl, _, _, hB⟩
  · rcases h' with ⟨_, a', c', rfl⟩ | ⟨B', c', rfl, _⟩
    · exact eqI_none _ _ _ _ _
    · exact eqI_none _ _ _ _ _
  · rcases h' with ⟨rfl, a', c', rfl⟩ | ⟨B', c', rfl, _, _, hB'⟩
    · exact eqI_none _ _ _ _ _
    · exact eqI_same B 0 c B' 0 c' ℓ g w hn hB.lt hB.2 hB'.lt hB'.2
theorem markR {w : World} {lo hi : Nat} {v : Value} {ℓ : Nat} {g : Nat → Int} (k : Int) (hn : ℓ ≤ 1048576) (h0 : 0 ≤ k) (h1 : k ≤ 100000000) (hlo : lo ≤ hi) (h : IR w lo hi v ℓ g) :
    Calls Tryz0.prog 12 #[v, .int .i64 k] w fun e w' => e = .returned (.int .i64 (k + ℓ)) ∧ IR w' lo hi v ℓ (fun i => k + i) ∧ w.heap.size ≤ w'.heap.size ∧ ∀ b, b < w.heap.size → (b < lo ∨ hi ≤ b) → w'.heap[b]? = w.heap[b]? := by
  rcases h with ⟨rfl, a, c, rfl⟩ | ⟨B, c, rfl, hl, hh, hB⟩
  · refine (markI_none a c k w).mono ?_
    rintro e w' ⟨rfl, rfl⟩
    exact ⟨by simp, .inl ⟨rfl, a, c, rfl⟩, Nat.le_refl _, fun _ _ _ => rfl⟩
  · refine (markI_own B ℓ c g k w B (Nat.le_refl _) hn h0 h1 hB).mono ?_
    rintro e w' ⟨rfl, o, t, _⟩
    exact ⟨rfl, .inr ⟨B, c, rfl, hl, hh, o⟩, t.size, fun b hb hd => t.block b hb (by omega)⟩
theorem heldR {w : World} {lo hi : Nat} {v : Value} {ℓ : Nat} (k : Int) (hn : ℓ ≤ 1048576) (h0 : 0 ≤ k) (h1 : k ≤ 100000000) (h : IR w lo hi v ℓ (fun i => k + i)) :
    Calls Tryz0.prog 13 #[v, .int .i64 k] w fun e w' => e = .returned (.int .i64 (k + ℓ)) ∧ Below w.heap.size w w' := by
  rcases h with ⟨rfl, a, c, rfl⟩ | ⟨B, c, rfl, hl, hh, hB⟩
  · refine (heldI_none a c k w).mono ?_
    rintro e w' ⟨rfl, rfl⟩
    exact ⟨by simp, Below.refl _ _⟩
  · exact heldI_own B ℓ c k w hn h0 h1 hB
def lenR (r : Option (Nat → Int)) (n : Nat) : Nat := if r.isSome = true then n else 0
def tksR (r : Option (Nat → Int)) : Nat → Int := r.getD fun _ => 0
theorem says_ir {r : Option (Nat → Int)} {n : Nat} {w w' : World} {e : Ending} (h : EarlSays r n w e w') : ∃ a c, e = .returned (.tuple #[.slice a (lenR r n) c, .bool r.isSome]) ∧ IR w' w.heap.size w'.heap.size (.slice a (lenR r n) c) (lenR r n) (tksR r) := by
  cases r with
  | none => obtain ⟨a, c, rfl⟩ := h; exact ⟨a, c, rfl, .inl ⟨rfl, a, c, rfl⟩⟩
  | some T => obtain ⟨B, c, h1, rfl, h2⟩ := h; exact ⟨_, c, rfl, .inr ⟨B, c, rfl, h1, h2.lt, h2⟩⟩
theorem post_ir {r : Option (Nat → Int)} {n : Nat} {V V' : World} {v : Value} (h : BestPost r n V v V') : ∃ a c, v = .tuple #[.slice a (lenR r n) c, .bool r.isSome] ∧ IR V' V.heap.size V'.heap.size (.slice a (lenR r n) c) (lenR r n) (tksR r) := by
  cases r with
  | none => obtain ⟨⟨a, c, rfl⟩, _⟩ := h; exact ⟨a, c, rfl, .inl ⟨rfl, a, c, rfl⟩⟩
  | some T => obtain ⟨⟨B, c, h1, rfl, h2⟩, _⟩ := h; exact ⟨_, c, rfl, .inr ⟨B, c, rfl, h1, h2.lt, h2⟩⟩
theorem mvs_same {w w' : World} {b n : Nat} (h : OwnMvs w b n) (e : w'.heap[b]? = w.heap[b]?) : OwnMvs w' b n := by obtain ⟨cs, h1, h2⟩ := h; exact ⟨cs, e.trans h1, h2⟩
theorem IsMvs.bl {w w' : World} {a : Option Addr} {n cap N : Nat} {f : Nat → Mv} (h : IsMvs w a n cap f) (hN : w.heap.size ≤ N) (hb : Bl N w w') : IsMvs w' a n cap f := by
  obtain ⟨h1, hz | ⟨b, off, rfl, hlt, hr⟩, hf⟩ := h
  · exact ⟨h1, .inl hz, hf⟩
  · exact ⟨h1, .inr ⟨b, off, rfl, Nat.lt_of_lt_of_le hlt hb.size, mv_same hr (hb.block b (by omega))⟩, hf⟩
theorem plain_of {w : World} {b n : Nat} {f : Nat → Mv} (h : OwnMvs w b n) (hr : MvRow w b 0 n f) : PlainRow w b := by
  obtain ⟨cs, h1, h2⟩ := h
  refine ⟨cs, _, h1, fun v hv => ?_⟩
  obtain ⟨j, hj, rfl⟩ := Array.mem_iff_getElem.1 hv
  obtain ⟨c0, c1, c2, c3, c4, c5⟩ := hr (j / 6) (by omega)
  have hc : ∀ {o : Nat} {x : Value}, w.cell? ⟨b, o, none⟩ = some x → o = j → cs[j] = x := fun {o x} hx e => by
    rw [cell_of_row _ _ _ _ _ _ h1, e, Array.getElem?_eq_getElem hj] at hx
    exact Option.some.inj hx
  obtain h | h | h | h | h | h : j % 6 = 0 ∨ j % 6 = 1 ∨ j % 6 = 2 ∨ j % 6 = 3 ∨ j % 6 = 4 ∨ j % 6 = 5 := by omega
  · exact .inr (.inr ⟨_, hc c0 (by omega)⟩)
  · exact .inl ⟨_, hc c1 (by omega)⟩
  · exact .inr (.inl ⟨_, _, hc c2 (by omega)⟩)
  · exact .inr (.inl ⟨_, _, hc c3 (by omega)⟩)
  · exact .inr (.inl ⟨_, _, hc c4 (by omega)⟩)
  · exact .inr (.inl ⟨_, _, hc c5 (by omega)⟩)
/-- what a frame holds: some slots are known -/
def FrIs (a : Act) (s : (Nat → Value) → Array Value) : Prop := a.defers = [] ∧ a.tmps = s (fun i => a.tmps.getD i undef)
theorem FrIs.open {a : Act} {s : (Nat → Value) → Array Value} (h : FrIs a s) : ∃ u, a = ⟨s u, []⟩ := by
  obtain ⟨h1, h2⟩ := h
  refine ⟨fun i => a.tmps.getD i undef, ?_⟩
  rw [← h2, ← h1]
theorem finish_reg {b : Frame} {a : Act} {ops : Array Oper} {i : Nat} {r : List Nat} {k : List Item} {o : Oper} (ho : ops[i]? = some o) (v : Value) : (b.at a (.inRegion ops (i :: r) :: k)).finish v = b.at (a.put o.dst v) (.inRegion ops r :: k) := by
  rw [Frame.finish_at, ho]; rfl

section
variable [Gl] {ok : Ctx} {c : Frame}
/-- the operation that calls StripBest -/
theorem WkT.bestOp {Q : Value → World → Prop} (E : Wenv Tryz0.prog ok c Dr24) (hSB : ok.inn 8 = true) (hbt : ok.inn 25 = false) {b : Frame} {a : Act} {k : List Item} {cs : List Frame} {V : World} (hb : ok.inn b.fn = true) {ops : Array Oper} {i : Nat} {r : List Nat} {o : Oper} (ho : ops[i]? = some o) (hw : Region.wanted o (yielded ops a.tmps) = true)
    {B off n cap : Nat} {f : Nat → Mv} {shift : Int} (hx : ∀ w, (execOp a.eval o).run Tryz0.prog w = .ok (.enter 8 #[.slice (some ⟨B, off, none⟩) n cap, .int .i64 shift]) w)
    (hn : n ≤ 1048576) (hbs : B < V.heap.size) (hrow : MvRow V B off n f) (hplain : PlainRow V B) {p : List Nat → Bool} (hp : NearP f n shift p)
    (hcont : ∀ v V', BestPost (bestR f n shift p) n V v V' → WkT Tryz0.prog ok c Dr24 Q ⟨b.at (a.put o.dst v) (.inRegion ops r :: k), cs, V'⟩) : WkT Tryz0.prog ok c Dr24 Q ⟨b.at a (.inRegion ops (i :: r) :: k), cs, V⟩ :=
  WkT.enterOp E ho hw hSB hx (wk_best E hSB hbt (r0 := b.at a (.inRegion ops (i :: r) :: k)) hb hn hbs hrow hplain hp (fun v V' hv => by rw [finish_reg ho]; exact hcont v V' hv))
set_option maxRecDepth 100000 in
set_option maxHeartbeats 4000000 in
theorem wk_law (E : Wenv Tryz0.prog ok c Dr24) (hL : ok.inn 3 = true) (hSB : ok.inn 8 = true) (hbt : ok.inn 25 = false) {V : World} {a : Option Addr} {n cap : Nat} {f : Nat → Mv} {shift : Int} (h : IsMvs V a n cap f) :
    WkT Tryz0.prog ok c Dr24 (fun v V' => v = .bool true ∧ Bl V.heap.size V V') ⟨Frame.enter Tryz0.prog 3 #[.slice a n cap, .int .i64 shift] .normal, [], V⟩ := by
  obtain ⟨p, hp⟩ := nearP_ex f n shift
  have hE := enter_at (P := Tryz0.prog) #[.slice a n cap, .int .i64 shift] Tryz0.func3 rfl
  simp only [Tryz.ntmps3, List.size_toArray, List.length_cons, List.length_nil, Nat.reduceAdd, Nat.reduceSub, Array.replicate_succ, Array.replicate_zero, List.push_toArray, List.append_toArray, List.nil_append, List.cons_append] at hE
  rw [hE]
  clear hE
  obtain ⟨r, hr⟩ : ∃ r, bestR f n shift p = r := ⟨_, rfl⟩
  obtain ⟨ℓ, hℓ⟩ : ∃ ℓ, lenR r n = ℓ := ⟨_, rfl⟩
  obtain ⟨T, hT⟩ : ∃ T, tksR r = T := ⟨_, rfl⟩
  obtain ⟨br, hbr⟩ : ∃ br, r.isSome = br := ⟨_, rfl⟩
  have hℓn : ℓ ≤ n := by rw [← hℓ]; unfold lenR; split <;> omega
  have htop : ∀ (a' : Act) (w' : World) (todo : List Item), (Bl V.heap.size V w' ∧ a'.defers = [] ∧ a'.tmps[4]? = some (.bool true)) → WkT Tryz0.prog ok c Dr24 (fun v V' => v = .bool true ∧ Bl V.heap.size V V') ⟨{ (base 3).at a' todo with mode := .returning }, [], w'⟩ := by
    rintro a' w' todo ⟨h1, h2, h3⟩
    refine WkT.ends (fun τ d => ⟨rfl, .bool true, ⟨rfl, h2, rfl, _, Tryz0.func3, ?_⟩, rfl, ⟨h1.size, h1.block⟩⟩) ⟨_, 4, Tryz0.func3, rfl⟩
    have := results_tmp (fn := Tryz.f3) rfl a'.tmps Tryz0.prog (re w' τ d)
    rw [getD_of h3] at this
    exact this
  refine WkT.chain E hL [_, _, _, _, _, _] _ (fun a' w' => n ≤ 1048576 ∧ Bl V.heap.size V w' ∧ ∃ a6 c6 B8, V.heap.size ≤ B8 ∧ IR w' V.heap.size B8 (.slice a6 ℓ c6) ℓ T ∧ OwnMvs w' B8 n ∧ MvRow w' B8 0 n f ∧ FrIs a' (fun u => #[.slice a n cap, .int .i64 shift, u 2, u 3, u 4, u 5, .slice a6 ℓ c6, .bool br, .slice (some ⟨B8, 0, none⟩) n n, u 9, u 10, u 11, u 12, u 13, u 14, u 15, u 16, u 17, u 18, u 19, u 20, u 21, u 22, u 23, u 24, u 25, u 26, u 27, u 28, u 29, u 30, u 31, u 32, u 33, u 34, u 35, u 36, u 37, u 38, u 39, u 40, u 41, u 42, u 43, u 44, u 45, u 46, u 47, u 48, u 49, u 50, u 51, u 52, u 53, u 54, u 55, u 56, u 57, u 58, u 59, u 60, u 61, u 62, u 63, u 64, u 65, u 66, u 67, u 68, u 69, u 70, u 71, u 72, u 73, u 74, u 75, u 76, u 77, u 78, u 79, u 80, u 81, u 82, u 83, u 84, u 85, u 86, u 87, u 88, u 89, u 90, u 91, u 92, u 93, u 94, u 95, u 96, u 97, u 98, u 99, u 100])) (fun a' w' => Bl V.heap.size V w' ∧ a'.defers = [] ∧ a'.tmps[4]? = some (.bool true)) ?_ ?_ (fun a' w' todo hh => htop a' w' todo hh)
  · intro τ d
    have h' : IsMvs (re V τ d) a n cap f := h.bl (Nat.le_refl _) ⟨Nat.le_refl _, fun _ _ => rfl⟩
    have H1 := szS_any a n cap f 1048576 (re V τ d) h' (by omega) (by omega)
    clear htop
    simp only [wpChain]
    go_wp2_with (go_at_call 5; refine H1.mono ?_; clear H1; rintro e w1 ⟨⟨q, rfl, hq⟩, B1⟩)
    · right; refine ⟨by first | rfl | trivial, Bl.ofR B1, ?_⟩; first | exact ⟨rfl, rfl⟩ | simp
    · have hn : n ≤ 1048576 := by omega
      have G := fun W (hW : Below (re V τ d).heap.size (re V τ d) W) => toS_anyOwn a n cap f W (h'.below hW) hn
      have H2 := G w1 B1
      go_wp2_with (first
        | (go_at_call 7; refine H2.mono ?_; clear H2; rintro e w2 ⟨rfl, r2, o2, b2⟩; have B2 := B1.trans (b2.mono B1.size); have H3 := specBest_row _ 0 n n f shift w2 hn o2.lt r2 h.2.2 p hp)
        | (go_at_call 6; refine H3.mono ?_; clear H3; rintro e w3 ⟨s3, b3⟩; obtain ⟨a6, c6, rfl, i3⟩ := says_ir s3; rw [hr, hℓ] at i3; rw [hr, hℓ, hbr]; have B3 := B2.trans (b3.mono B2.size); have H4 := G w3 B3)
        | (go_at_call 7; refine H4.mono ?_; clear H4; rintro e w4 ⟨rfl, r4, o4, b4⟩; have B4 := B3.trans (b4.mono B3.size)))
      left
      refine ⟨by first | rfl | trivial, hn, Bl.ofR B4, a6, c6, w3.heap.size, B3.size, ?_, o4, r4, ?_⟩
      · rw [hT] at i3
        exact (i3.same fun b _ hb _ => b4.block b hb).wide B2.size (Nat.le_refl _)
      · exact ⟨rfl, rfl⟩
  · rintro a' w1 ⟨hn, hb1, a6, c6, B8, hB8, i6, o8, r8, hfr⟩
    obtain ⟨u, rfl⟩ := hfr.open
    clear hfr
    have hz1 := hb1.size
    have hB8' := o8.lt
    refine WkT.seq E hL (WkT.region E hL ?_)
    rw [range_from]
    refine WkT.opsFrom E hL 0 2 (by simp) (fun a' w' => (∃ τ d, w' = re w1 τ d) ∧ FrIs a' (fun u => #[.slice a n cap, .int .i64 shift, u 2, u 3, u 4, u 5, .slice a6 ℓ c6, .bool br, .slice (some ⟨B8, 0, none⟩) n n, u 9, u 10, u 11, u 12, u 13, u 14, u 15, u 16, u 17, u 18, u 19, u 20, u 21, u 22, u 23, u 24, u 25, u 26, u 27, u 28, u 29, u 30, .slice (some ⟨B8, 0, none⟩) n n, .int .i64 shift, u 33, u 34, u 35, u 36, u 37, u 38, u 39, u 40, u 41, u 42, u 43, u 44, u 45, u 46, u 47, u 48, u 49, u 50, u 51, u 52, u 53, u 54, u 55, u 56, u 57, u 58, u 59, u 60, u 61, u 62, u 63, u 64, u 65, u 66, u 67, u 68, u 69, u 70, u 71, u 72, u 73, u 74, u 75, u 76, u 77, u 78, u 79, u 80, u 81, u 82, u 83, u 84, u 85, u 86, u 87, u 88, u 89, u 90, u 91, u 92, u 93, u 94, u 95, u 96, u 97, u 98, u 99, u 100])) ?_ ?_
    · intro τ d
      clear htop
      simp only [List.drop_zero, List.take_succ_cons, List.take_zero]
      go_wp2
      exact ⟨⟨τ, d, rfl⟩, rfl, rfl⟩
    · rintro a' w' ⟨⟨τ, d, rfl⟩, hfr⟩
      clear u
      obtain ⟨u, rfl⟩ := hfr.open
      clear hfr
      refine WkT.bestOp E hSB hbt hL (i := 2) rfl rfl (B := B8) (off := 0) (n := n) (cap := n) (f := f) (shift := shift) (fun w => by simp [execOp, resolve, invoke, Act.eval, go_sem]) hn hB8' (mv_same r8 rfl) (plain_same (plain_of o8 r8) rfl) hp ?_
      intro v V2 hpost
      obtain ⟨a9, c9, rfl, i9⟩ := post_ir hpost
      rw [hr, hℓ, hT] at i9
      rw [hr, hℓ, hbr]
      have hb2 : Bl w1.heap.size w1 V2 := ⟨hpost.2.size, hpost.2.block⟩
      replace i9 : IR V2 w1.heap.size V2.heap.size (.slice a9 ℓ c9) ℓ T := i9
      clear hpost
      refine WkT.opsFrom E hL 3 5 (by simp) (fun a' w' => (∃ τ d, w' = re V2 τ d) ∧ FrIs a' (fun u => #[.slice a n cap, .int .i64 shift, u 2, u 3, u 4, u 5, .slice a6 ℓ c6, .bool br, .slice (some ⟨B8, 0, none⟩) n n, .slice a9 ℓ c9, .bool br, u 11, u 12, u 13, u 14, u 15, u 16, u 17, u 18, u 19, u 20, u 21, u 22, u 23, u 24, u 25, u 26, u 27, u 28, u 29, u 30, u 31, u 32, u 33, u 34, u 35, u 36, u 37, u 38, u 39, u 40, u 41, u 42, u 43, u 44, u 45, u 46, u 47, u 48, u 49, u 50, u 51, u 52, u 53, u 54, u 55, u 56, u 57, u 58, u 59, u 60, u 61, u 62, u 63, u 64, u 65, u 66, u 67, u 68, u 69, u 70, u 71, u 72, u 73, u 74, u 75, u 76, u 77, u 78, u 79, u 80, u 81, u 82, u 83, u 84, u 85, u 86, u 87, u 88, u 89, u 90, u 91, u 92, u 93, u 94, u 95, u 96, u 97, u 98, u 99, u 100])) ?_ ?_
      · intro τ d
        clear htop
        simp only [List.drop_succ_cons, List.drop_zero, List.take_succ_cons, List.take_zero, Act.put]
        go_wp2
        exact ⟨⟨τ, d, rfl⟩, rfl, rfl⟩
      rintro a' w' ⟨⟨τ2, d2, rfl⟩, hfr⟩
      clear u
      obtain ⟨u, rfl⟩ := hfr.open
      clear hfr
      refine WkT.regionEnd E hL ?_
      have hz2 := hb2.size
      have hb02 : Bl V.heap.size V V2 := hb1.trans hb2 hz1
      have i6' : IR V2 V.heap.size B8 (.slice a6 ℓ c6) ℓ T := i6.same fun b _ h2 _ => hb2.block b (by omega)
      have o8' : OwnMvs V2 B8 n := mvs_same o8 (hb2.block B8 hB8')
      have r8' : MvRow V2 B8 0 n f := mv_same r8 (hb2.block B8 hB8')
      clear i6 o8 r8
      have hℓ6 : ℓ ≤ 1048576 := by omega
      refine WkT.chain E hL [_, _, _, _, _, _, _, _, _, _, _] _ (fun a' w' => Bl V.heap.size V w' ∧ IR w' V.heap.size B8 (.slice a6 ℓ c6) ℓ T ∧ IR w' w1.heap.size V2.heap.size (.slice a9 ℓ c9) ℓ (fun i => 1 + i) ∧ V2.heap.size ≤ w'.heap.size ∧ FrIs a' (fun u => #[.slice a n cap, .int .i64 shift, u 2, u 3, u 4, u 5, .slice a6 ℓ c6, .bool br, u 8, .slice a9 ℓ c9, u 10, u 11, .int .i64 (1 + (ℓ : Int)), u 13, u 14, u 15, u 16, u 17, u 18, u 19, u 20, u 21, u 22, u 23, u 24, u 25, u 26, u 27, u 28, u 29, u 30, u 31, u 32, u 33, u 34, u 35, u 36, u 37, u 38, u 39, u 40, u 41, u 42, u 43, u 44, u 45, u 46, u 47, u 48, u 49, u 50, u 51, u 52, u 53, u 54, u 55, u 56, u 57, u 58, u 59, u 60, u 61, u 62, u 63, u 64, u 65, u 66, u 67, u 68, u 69, u 70, u 71, u 72, u 73, u 74, u 75, u 76, u 77, u 78, u 79, u 80, u 81, u 82, u 83, u 84, u 85, u 86, u 87, u 88, u 89, u 90, u 91, u 92, u 93, u 94, u 95, u 96, u 97, u 98, u 99, u 100])) (fun _ _ => False) ?_ ?_ (fun _ _ _ hh => hh.elim)
      · intro τ d
        have h' : IsMvs (re V2 τ d) a n cap f := h.bl (Nat.le_refl _) ⟨hb02.size, hb02.block⟩
        have i6 : IR (re V2 τ d) V.heap.size B8 (.slice a6 ℓ c6) ℓ T := i6'.same fun _ _ _ _ => rfl
        have j9 : IR (re V2 τ d) w1.heap.size V2.heap.size (.slice a9 ℓ c9) ℓ T := i9.same fun _ _ _ _ => rfl
        have o8 : OwnMvs (re V2 τ d) B8 n := o8'
        have r8 : MvRow (re V2 τ d) B8 0 n f := mv_same r8' rfl
        have G := fun W (hW : Below (re V2 τ d).heap.size (re V2 τ d) W) => toS_anyOwn a n cap f W (h'.below hW) hn
        have H1 := eqR hℓ6 j9 i6
        have hz0 : (re V2 τ d).heap.size = V2.heap.size := rfl
        clear htop i6' o8' r8' i9
        simp only [wpChain]
        go_wp2_with (first
          | (go_at_call 9; refine H1.mono ?_; clear H1; rintro e w2 ⟨rfl, b2⟩; have H2 := G w2 b2)
          | (go_at_call 7; refine H2.mono ?_; clear H2; rintro e w3 ⟨rfl, r3, o3, b3⟩; have B3 := b2.trans (b3.mono b2.size); have H3 := eqS_same _ 0 n _ 0 n n f w3 hn (o8.below B3 o8.lt).lt (r8.below B3 o8.lt) o3.lt r3)
          | (go_at_call 10; refine H3.mono ?_; clear H3; rintro e w4 ⟨rfl, b4⟩; have B4 := B3.trans (b4.mono B3.size); have H4 := markS_own B8 n n 1 w4 B8 (Nat.le_refl _) hn (by omega) (by omega) (o8.below B4 o8.lt))
          | (go_at_call 11; refine H4.mono ?_; clear H4; rintro e w5 ⟨rfl, t5, b5⟩; have z4 := B4.size; have z5 := t5.size; have i65 : IR w5 V.heap.size B8 (.slice a6 ℓ c6) ℓ T := (i6.same (w' := w5) fun b _ h2 h3 => (t5.block b (by omega) (by omega)).trans (B4.block b h3)); have j95 : IR w5 w1.heap.size V2.heap.size (.slice a9 ℓ c9) ℓ T := (j9.same (w' := w5) fun b h1 h2 h3 => (t5.block b (by omega) (by omega)).trans (B4.block b h3)); have H5 := eqR hℓ6 j95 i65)
          | (go_at_call 9; refine H5.mono ?_; clear H5; rintro e w6 ⟨rfl, b6⟩; have z6 := b6.size; have i66 : IR w6 V.heap.size B8 (.slice a6 ℓ c6) ℓ T := (i65.same (w' := w6) fun b _ _ h3 => b6.block b h3); have j96 : IR w6 w1.heap.size V2.heap.size (.slice a9 ℓ c9) ℓ T := (j95.same (w' := w6) fun b _ _ h3 => b6.block b h3); have H6 := markR 1 hℓ6 (by omega) (by omega) hz2 j96)
          | (go_at_call 12; refine H6.mono ?_; clear H6; rintro e w7 ⟨rfl, j97, z7, t7⟩; have i67 : IR w7 V.heap.size B8 (.slice a6 ℓ c6) ℓ T := (i66.same (w' := w7) fun b _ h2 h3 => t7 b h3 (.inl (by omega))); have H7 := heldR 1 hℓ6 (by omega) (by omega) j97)
          | (go_at_call 13; refine H7.mono ?_; clear H7; rintro e w8 ⟨rfl, b8⟩; have z8 := b8.size))
        left
        have z3 := B3.size
        refine ⟨trivial, ⟨by have := hb02.size; omega, fun k hk => ?_⟩, i67.same fun b _ _ h3 => b8.block b h3, j97.same fun b _ _ h3 => b8.block b h3, by omega, rfl, rfl⟩
        exact (b8.block k (by omega)).trans ((t7 k (by omega) (.inl (by omega))).trans ((b6.block k (by omega)).trans ((t5.block k (by omega) (by omega)).trans ((B4.block k (by show k < V2.heap.size; omega)).trans (hb02.block k hk)))))
      clear i6' o8' r8' i9 hb2 hB8'
      rintro a' w3 ⟨hb3, i6, j9, hz3, hfr⟩
      clear u
      obtain ⟨u, rfl⟩ := hfr.open
      clear hfr
      refine WkT.seq E hL (WkT.region E hL ?_)
      rw [range_from]
      refine WkT.opsFrom E hL 0 3 (by simp) (fun a' w' => Bl w3.heap.size w3 w' ∧ ∃ B79, OwnMvs w' B79 n ∧ MvRow w' B79 0 n f ∧ FrIs a' (fun u => #[.slice a n cap, .int .i64 shift, u 2, u 3, u 4, u 5, .slice a6 ℓ c6, .bool br, u 8, .slice a9 ℓ c9, u 10, u 11, .int .i64 (1 + (ℓ : Int)), u 13, u 14, u 15, u 16, u 17, u 18, u 19, u 20, u 21, u 22, u 23, u 24, u 25, u 26, u 27, u 28, u 29, u 30, u 31, u 32, u 33, u 34, u 35, u 36, u 37, u 38, u 39, u 40, u 41, u 42, u 43, u 44, u 45, u 46, u 47, u 48, u 49, u 50, u 51, u 52, u 53, u 54, u 55, u 56, u 57, u 58, u 59, u 60, u 61, u 62, u 63, u 64, u 65, u 66, u 67, u 68, u 69, u 70, u 71, u 72, u 73, u 74, u 75, u 76, u 77, u 78, .slice (some ⟨B79, 0, none⟩) n n, .int .i64 shift, u 81, u 82, u 83, u 84, u 85, u 86, u 87, u 88, u 89, u 90, u 91, u 92, u 93, u 94, u 95, u 96, u 97, u 98, u 99, u 100])) ?_ ?_
      · intro τ d
        have h' : IsMvs (re w3 τ d) a n cap f := h.bl (Nat.le_refl _) ⟨hb3.size, hb3.block⟩
        have H1 := toS_anyOwn a n cap f (re w3 τ d) h' hn
        clear htop
        simp only [List.drop_zero, List.take_succ_cons, List.take_zero]
        go_wp2_with (go_at_call 7; refine H1.mono ?_; clear H1; rintro e w4 ⟨rfl, r4, o4, b4⟩)
        exact ⟨Bl.ofR b4, _, o4, r4, rfl, rfl⟩
      rintro a' w4 ⟨hb4, B79, o79, r79, hfr⟩
      clear u
      obtain ⟨u, rfl⟩ := hfr.open
      clear hfr
      have hz4 := hb4.size
      refine WkT.bestOp E hSB hbt hL (i := 3) rfl rfl (B := B79) (off := 0) (n := n) (cap := n) (f := f) (shift := shift) (fun w => by simp [execOp, resolve, invoke, Act.eval, go_sem]) hn o79.lt r79 (plain_of o79 r79) hp ?_
      intro v V5 hpost
      obtain ⟨a14, c14, rfl, i14⟩ := post_ir hpost
      rw [hr, hℓ, hT] at i14
      rw [hr, hℓ, hbr]
      have hb5 := hpost.2
      clear hpost
      have hz5 := hb5.size
      refine WkT.opsFrom E hL 4 5 (by simp) (fun a' w' => (∃ τ d, w' = re V5 τ d) ∧ FrIs a' (fun u => #[u 0, u 1, u 2, u 3, u 4, u 5, .slice a6 ℓ c6, .bool br, u 8, .slice a9 ℓ c9, u 10, u 11, .int .i64 (1 + (ℓ : Int)), u 13, .slice a14 ℓ c14, .bool br, u 16, u 17, u 18, u 19, u 20, u 21, u 22, u 23, u 24, u 25, u 26, u 27, u 28, u 29, u 30, u 31, u 32, u 33, u 34, u 35, u 36, u 37, u 38, u 39, u 40, u 41, u 42, u 43, u 44, u 45, u 46, u 47, u 48, u 49, u 50, u 51, u 52, u 53, u 54, u 55, u 56, u 57, u 58, u 59, u 60, u 61, u 62, u 63, u 64, u 65, u 66, u 67, u 68, u 69, u 70, u 71, u 72, u 73, u 74, u 75, u 76, u 77, u 78, u 79, u 80, u 81, u 82, u 83, u 84, u 85, u 86, u 87, u 88, u 89, u 90, u 91, u 92, u 93, u 94, u 95, u 96, u 97, u 98, u 99, u 100])) ?_ ?_
      · intro τ d
        clear htop
        simp only [List.drop_succ_cons, List.drop_zero, List.take_succ_cons, List.take_zero, Act.put]
        go_wp2
        exact ⟨⟨τ, d, rfl⟩, rfl, rfl⟩
      rintro a' w' ⟨⟨τ5, d5, rfl⟩, hfr⟩
      clear u
      obtain ⟨u, rfl⟩ := hfr.open
      clear hfr
      refine WkT.regionEnd E hL ?_
      have hb35 : Bl w3.heap.size w3 V5 := hb4.trans hb5 hz4
      refine WkT.last E hL [_, _, _, _, _, _] (fun a' w' => Bl V.heap.size V w' ∧ a'.defers = [] ∧ a'.tmps[4]? = some (.bool true)) ?_ (fun a' w' todo hh => htop a' w' todo hh)
      intro τ d
      have k6 : IR (re V5 τ d) V.heap.size B8 (.slice a6 ℓ c6) ℓ T := i6.same fun b _ _ h3 => hb35.block b h3
      have k9 : IR (re V5 τ d) w1.heap.size V2.heap.size (.slice a9 ℓ c9) ℓ (fun i => 1 + i) := j9.same fun b _ _ h3 => hb35.block b h3
      have k14 : IR (re V5 τ d) w4.heap.size V5.heap.size (.slice a14 ℓ c14) ℓ T := i14.same fun _ _ _ _ => rfl
      have H1 := eqR hℓ6 k14 k6
      clear htop
      simp only [wpChain]
      go_wp2_with (first
        | (go_at_call 9; refine H1.mono ?_; clear H1; rintro e w6 ⟨rfl, b6⟩; have H2 := heldR 1 hℓ6 (by omega) (by omega) (k9.same (w' := w6) fun b _ _ h3 => b6.block b h3))
        | (go_at_call 13; refine H2.mono ?_; clear H2; rintro e w7 ⟨rfl, b7⟩))
      have z6 := b6.size
      have z7 := b7.size
      have hz0 : (re V5 τ d).heap.size = V5.heap.size := rfl
      have hbl : Bl V.heap.size V w7 := ⟨by have := hb3.size; omega, fun k hk => (b7.block k (by have := hb3.size; omega)).trans ((b6.block k (by have := hb3.size; omega)).trans ((hb35.block k (by have := hb3.size; omega)).trans (hb3.block k hk)))⟩
      first
        | exact .inl ⟨rfl, hbl, rfl, rfl⟩
        | (left; refine ⟨by first | rfl | trivial, hbl, ?_⟩; first | exact ⟨rfl, rfl⟩ | simp)
        | (right; refine ⟨by first | rfl | trivial, hbl, ?_⟩; first | exact ⟨rfl, rfl⟩ | simp)
end
end Go.Proofs.YtlmcblcijndipabGreat
