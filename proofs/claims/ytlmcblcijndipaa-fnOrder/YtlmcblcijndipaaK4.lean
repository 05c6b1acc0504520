/- The program's StripFirst, walked. -/
import Derived.Test.YtlmcblcijndipaaK3
namespace Go.Proofs.Ytlmcblcijndipaa
open Go.RowKit Go.Shelf
set_option linter.unusedVariables false

theorem sw_other {k : Nat} (w : World) (blk n : Nat) (d : Array (Fin (k + 1))) (os : Array Obj) (j : Nat) (hj : j < w.heap.size) (hne : j ≠ blk) : (sortWorld (encF k) w blk 0 n d os).heap[j]? = w.heap[j]? := by
  unfold sortWorld
  rw [Go.Sort.heap_grow_old _ _ (by simpa using hj)]
  unfold Go.Sort.putRow Go.Sort.mapBlock
  simp [Array.getElem?_modify]
  intro h; exact absurd h.symm hne
theorem sw_own {k : Nat} (w : World) (blk n : Nat) (d : Array (Fin (k + 1))) (os : Array Obj) (cs : Array Value) (T : TypeId) (h : w.heap[blk]? = some (.cells cs T (0, 0))) :
    (sortWorld (encF k) w blk 0 n d os).heap[blk]? = some (.cells (Go.Sort.putCells (encF k) 0 d cs) T (0, 0)) := by
  have hlt : blk < w.heap.size := (Array.getElem?_eq_some_iff.1 h).1
  unfold sortWorld
  rw [Go.Sort.heap_grow_old _ _ (by simpa using hlt)]
  unfold Go.Sort.putRow Go.Sort.mapBlock
  simp [Array.getElem?_modify, h, Go.Sort.onCells]
theorem sw_size {k : Nat} (w : World) (blk n : Nat) (d : Array (Fin (k + 1))) (os : Array Obj) : w.heap.size ≤ (sortWorld (encF k) w blk 0 n d os).heap.size := by
  unfold sortWorld; simp
theorem sw_ints {k : Nat} (w : World) (blk n : Nat) (d : Array (Fin (k + 1))) (os : Array Obj) (g : Nat → Int) (hd : d.size = k + 1) (h : OwnInts w blk (k + 1) g) :
    OwnInts (sortWorld (encF k) w blk 0 n d os) blk (k + 1) (fun i => ((d[i]! : Nat) : Int)) := by
  obtain ⟨⟨cs, h1, h2⟩, _⟩ := h
  have h1' := sw_own w blk n d os cs _ h1
  refine ⟨⟨_, h1', by simp [Go.Sort.putCells, h2]⟩, fun i hi => ?_⟩
  rw [cell_of_row _ _ _ _ _ _ h1', Nat.zero_add]
  have hi' : i < cs.size := by omega
  simp only [Go.Sort.putCells, Array.getElem?_mapIdx, Array.getElem?_eq_getElem hi', Option.map_some]
  rw [if_pos (by omega)]
  rfl
theorem sw_below {k : Nat} (w : World) (blk n : Nat) (d : Array (Fin (k + 1))) (os : Array Obj) (n₀ : Nat) (h0 : n₀ ≤ blk) (h1 : n₀ ≤ w.heap.size) : Below n₀ w (sortWorld (encF k) w blk 0 n d os) :=
  ⟨rfl, rfl, rfl, sw_size w blk n d os, fun j hj => sw_other w blk n d os j (by omega) (by omega)⟩

theorem first_of {k : Nat} (f : Nat → Mv) (d' : Array (Fin (k + 1))) (hp : Go.Sort.PermIn 0 (k + 1) (Array.ofFn (fun i : Fin (k + 1) => i)) d') (hs : Go.Sort.SortedIn (ltOf (fun a b : Fin (k + 1) => cfN f a b)) 0 (k + 1) d') :
    d'.size = k + 1 ∧ IsFirst f (k + 1) (fun i => (d'[i]! : Nat)) := by
  obtain ⟨hsz, _, hperm⟩ := hp
  have hsz' : d'.size = k + 1 := by rw [hsz]; simp
  refine ⟨hsz', fun i _ => (d'[i]!).2, ?_⟩
  have hn : d'.toList.Nodup := by
    have ex : ∀ (d : Array (Fin (k + 1))) (m : Nat), m = d.size → d.extract 0 m = d := fun d m e => by subst e; simp
    rw [ex d' _ hsz'.symm, ex _ (k + 1) (by simp)] at hperm
    refine hperm.nodup_iff.mpr ?_
    rw [List.Nodup, List.pairwise_iff_getElem]
    intro i j hi hj hij e
    rw [Array.getElem_toList, Array.getElem_toList, Array.getElem_ofFn, Array.getElem_ofFn] at e
    have := congrArg Fin.val e
    simp only at this
    omega
  intro i j hij hj
  have h1 := (ltOf_no f _ _).mp (hs i j (Nat.zero_le _) hij hj)
  have hne : d'[i]! ≠ d'[j]! := by
    rw [getElem!_pos d' i (by omega), getElem!_pos d' j (by omega)]
    intro e
    have := (List.pairwise_iff_getElem.mp hn) i j (by simp; omega) (by simp; omega) hij
    exact this (by simpa using e)
  rcases Bef.tri f (d'[i]! : Nat) (d'[j]! : Nat) with b | b | b
  · exact b
  · exact absurd (Fin.ext b) hne
  · exact absurd b h1

theorem info_turns : Try.prog.underlying 53 = some (.slice 3) := by kernel_rfl
theorem make_turns (n : Nat) (hn : n ≤ 1048576) (w : World) :
    (Instr.makeSlice 53 (.int .i64 (n : Int)) (.int .i64 (n : Int))).run Try.prog w = .ok (.slice (some ⟨w.heap.size, 0, none⟩) n n) (w.alloc (.cells (madeCells #[.int .i64 0] n) 3)) := by
  have hi := info_int
  cases hI : Try.prog.info? 3 with
  | none => rw [hI] at hi; simp at hi
  | some i =>
    rw [hI] at hi
    simp only [Option.map_some, Option.some.injEq, Prod.mk.injEq] at hi
    obtain ⟨h6, h56, hz⟩ := hi
    have := run_make (P := Try.prog) w 53 3 i _ info_turns hI hz .i64 .i64 n n (by omega) (by omega) (by rw [h56]; omega) (by omega)
    rw [h6] at this
    simpa [Value.cells] using this

theorem turns_any (n : Nat) (w : World) (hn : n ≤ 1048576) :
    Calls Try.prog 35 #[.int .i64 (n : Int)] w fun e w' => e = .returned (.slice (some ⟨w.heap.size, 0, none⟩) n n) ∧ OwnInts w' w.heap.size n (fun i => (i : Int)) ∧ Below w.heap.size w w' := by
  have hmk := make_turns n hn
  go_enter Try.func35, Try.ntmps35
  go_wp2
  go_loopw [9] (fun i w' => ∃ k : Nat, k ≤ n ∧ i = .int .i64 k ∧ OwnInts w' w.heap.size n (fun i => if i < k then (i : Int) else 0) ∧ Below w.heap.size w w') (fun i _ => n - (intOf i).toNat)
  case atStart => exact ⟨0, Nat.zero_le _, rfl, (made_ints w n).congr (fun i hi => by simp), (Below.refl _ _).alloc (Nat.le_refl _) _⟩
  case round =>
    obtain ⟨k, hk, rfl, hown, hB⟩ := hrel
    by_cases hlt : k < n
    · have hlt' : (k : Int) < n := by omega
      have hd := hown.cellAt k hlt
      have hfz := hown.frozen k
      go_wp2
      go_roundw
      case rel => exact ⟨k + 1, by omega, by go_num, (hown.set k hlt (k : Int)).congr (fun i hi => by
        by_cases e : i = k
        · subst e; simp
        · simp only [if_neg e]; by_cases h : i < k
          · rw [if_pos h, if_pos (by omega)]
          · rw [if_neg h, if_neg (by omega)]), hB.setCell (by simp) _⟩
      case measure => simp [intOf]; omega
    · go_wp2
      go_ret
      exact ⟨rfl, hown.congr (fun i hi => by rw [if_pos (by omega)]), hB⟩

theorem behindF_any (v : Value) (h1 : v.oneCell' = true) (a : Option Addr) (n cap : Nat) (hv : v = .slice a n cap) (w : World) :
    Calls Try.prog 37 #[v] w fun e w' => e = .returned (.func (.func 59) #[] #[.pointer (some ⟨w.heap.size, 0, none⟩)]) ∧ w' = w.alloc (.cells #[v] 23) := by
  subst hv
  go_enter Try.func37, Try.ntmps37
  go_wp2
  go_ret
  exact ⟨rfl, rfl⟩

/-- what StripFirst answers: the places, in the order in which the moves come by themselves, in memory of its own -/
def FirstSays (f : Nat → Mv) (n : Nat) (w : World) (e : Ending) (w' : World) : Prop :=
  ∃ (g : Nat → Nat) (B cap : Nat), IsFirst f n g ∧ w.heap.size ≤ B ∧ e = .returned (.slice (some ⟨B, 0, none⟩) n cap) ∧ OwnInts w' B n (fun i => ((g i : Nat) : Int))

theorem sort_none (a : Option Addr) (cap : Nat) (fv : Value) (w : World) :
    Calls Try.prog 36 #[.slice a 0 cap, fv] w fun e w' => e = .returned (.tuple #[]) ∧ w' = w := by
  have hp := AnyF.pdqsortCmpFunc_none (P := Try.prog) (ρ := Try.pdqL_ren) { Try.pdqL with } a cap (Lib.bitLen 0 : Nat) fv w
  change Calls Try.prog 57 _ _ _ at hp
  have hl : Calls Try.prog 58 #[.int .u64 0] w fun e w' => e = .returned (.int .i64 (Lib.bitLen 0 : Nat)) ∧ w' = w :=
    Any.bits_Len (SlLaysF0.n15.bits (P := Try.prog) (ρ := Try.pdqL_ren) { Try.pdqL with }) 0 w (by omega) (by omega)
  go_enter Try.func36, Try.ntmps36
  go_wp2_with (first | (go_at_call 58; refine hl.mono ?_; rintro e w' ⟨rfl, rfl⟩) | (go_at_call 57; refine hp.mono ?_; rintro e w' ⟨rfl, rfl⟩))
  go_end0
  exact ⟨rfl, rfl⟩

set_option maxHeartbeats 1000000 in
theorem implFirst_row (b off n cap : Nat) (f : Nat → Mv) (w : World) (hn : n ≤ 1048576) (hbs : b < w.heap.size) (hrow : MvRow w b off n f) :
    Calls Try.prog 11 #[.slice (some ⟨b, off, none⟩) n cap] w fun e w' => FirstSays f n w e w' ∧ Below w.heap.size w w' := by
  have H1 := turns_any n w hn
  have H2 := fun W => behindF_any (.slice (some ⟨b, off, none⟩) n cap) rfl (some ⟨b, off, none⟩) n cap rfl W
  cases n with
  | zero =>
    go_enter Try.func11, Try.ntmps11
    go_wp2_with (first | (go_at_call 35; refine H1.mono ?_; clear H1; rintro e w1 ⟨rfl, o1, b1⟩) | (go_at_call 37; refine (H2 _).mono ?_; clear H2; rintro e w2 ⟨rfl, rfl⟩) | (go_at_call 36; refine (sort_none _ _ _ _).mono ?_; rintro e w3 ⟨rfl, rfl⟩))
    go_ret
    exact ⟨⟨fun i => i, w.heap.size, 0, ⟨fun i hi => absurd hi (Nat.not_lt_zero _), fun i j _ hj => absurd hj (Nat.not_lt_zero _)⟩, Nat.le_refl _, rfl, (o1.below ((Below.refl _ w1).alloc (Nat.le_refl _) _) o1.lt).congr (fun i hi => absurd hi (Nat.not_lt_zero _))⟩, b1.alloc b1.size _⟩
  | succ k =>
    go_enter Try.func11, Try.ntmps11
    go_wp2_with (first | (go_at_call 35; refine H1.mono ?_; clear H1; rintro e w1 ⟨rfl, o1, b1⟩) | (go_at_call 37; refine (H2 _).mono ?_; clear H2; rintro e w2 ⟨rfl, rfl⟩; have bA : Below w1.heap.size w1 (w1.alloc (.cells #[.slice (some ⟨b, off, none⟩) (k + 1) cap] 23)) := (Below.refl _ _).alloc (Nat.le_refl _) _; have o2 := o1.below bA o1.lt; have bb := b1.trans (bA.mono b1.size); have H3 := sort_any k f w1.heap.size b off cap w.heap.size (k + 1) _ hn (by have := o1.lt; omega) (by omega) (Nat.lt_of_lt_of_le hbs bb.size) (by simp) (hrow.below bb hbs) o2) | (go_at_call 36; refine H3.mono ?_; clear H3; rintro e w3 ⟨rfl, d', q, os, hp, hs, rfl⟩))
    go_ret
    obtain ⟨hsz, hfirst⟩ := first_of f d' hp hs
    exact ⟨⟨_, w.heap.size, k + 1, hfirst, Nat.le_refl _, rfl, sw_ints _ _ _ _ _ _ hsz o2⟩, bb.trans (sw_below _ _ _ _ _ _ (Nat.le_refl _) bb.size)⟩
end Go.Proofs.Ytlmcblcijndipaa
