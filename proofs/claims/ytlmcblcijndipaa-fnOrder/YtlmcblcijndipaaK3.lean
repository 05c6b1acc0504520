/- The program's sort of places, by the library's contract. -/
import Derived.Test.YtlmcblcijndipaaK2
import Derived.Test.YtlmcblcijndipaaLay
import Derived.Lib.QuietBelow
import Derived.Shelf.SlSortFunc.HeapSort
namespace Go.Proofs.Ytlmcblcijndipaa
open Go.RowKit Go.Shelf
set_option linter.unusedVariables false

theorem ltOf_iff {k : Nat} (f : Nat → Mv) (x y : Fin (k + 1)) : ltOf (fun a b : Fin (k + 1) => cfN f a b) x y = true ↔ Bef f x y := by
  unfold ltOf; rw [decide_eq_true_eq]; exact cfN_neg f x y
theorem ltOf_no {k : Nat} (f : Nat → Mv) (x y : Fin (k + 1)) : ltOf (fun a b : Fin (k + 1) => cfN f a b) x y = false ↔ ¬ Bef f x y := by
  rw [← ltOf_iff, Bool.not_eq_true]
theorem swo (f : Nat → Mv) (k : Nat) : Go.Sort.SWO (ltOf (fun a b : Fin (k + 1) => cfN f a b)) where
  irrefl x := (ltOf_no f x x).mpr (Bef.irrefl f x)
  trans x y z h1 h2 := (ltOf_iff f x z).mpr (((ltOf_iff f x y).mp h1).trans ((ltOf_iff f y z).mp h2))
  ntrans x y z h1 h2 := (ltOf_no f x z).mpr (fun h => by
    have n1 := (ltOf_no f x y).mp h1
    have n2 := (ltOf_no f y z).mp h2
    rcases Bef.tri f x y with b | b | b
    · exact n1 b
    · rw [b] at h; exact n2 h
    · exact n2 (b.trans h))

/-- what has only grown, the count of draws on -/
theorem grown_of {W w' : World} (h : Below W.heap.size W w') (hd : W.drawn ≤ w'.drawn) : ∃ q os', w' = Go.Sort.grow (W.drewN q) os' := by
  obtain ⟨p, hp⟩ := regrown_of_below h
  refine ⟨p.d - W.drawn, p.os, ?_⟩
  have e : w'.drawn = p.d := by rw [hp]; rfl
  rw [hp]
  unfold redrawn World.drewN
  rw [show W.drawn + (p.d - W.drawn) = p.d by omega]

abbrev encF (k : Nat) (x : Fin (k + 1)) : Value := .int .i64 ((x : Nat) : Int)

theorem cmpLays (k : Nat) (f : Nat → Mv) (bl b off cap blk : Nat) (w : World) (hk : k + 1 ≤ 1048576) (hbl : bl ≠ blk) (hb : b ≠ blk) (hbs : b < w.heap.size)
    (cl : w.cell? ⟨bl, 0, none⟩ = some (.slice (some ⟨b, off, none⟩) (k + 1) cap)) (hrow : MvRow w b off (k + 1) f) :
    CmpLays1 Try.prog 59 #[.pointer (some ⟨bl, 0, none⟩)] (encF k) (fun a b => cfN f a b) blk 0 (k + 1) w := by
  intro m os dk _ x y
  have hc : ∀ (bb o : Nat) (v : Value), bb ≠ blk → w.cell? ⟨bb, o, none⟩ = some v → (sortWorld (encF k) w blk 0 m dk os).cell? ⟨bb, o, none⟩ = some v := fun bb o v hne h =>
    (cell?_sortWorld_other (encF k) w blk 0 m dk os ⟨bb, o, none⟩ hne (block_lt_of_cell h)).trans h
  have hr : MvRow (sortWorld (encF k) w blk 0 m dk os) b off (k + 1) f := fun i hi => by
    obtain ⟨c0, c1, c2, c3, c4, c5⟩ := hrow i hi
    exact ⟨hc _ _ _ hb c0, hc _ _ _ hb c1, hc _ _ _ hb c2, hc _ _ _ hb c3, hc _ _ _ hb c4, hc _ _ _ hb c5⟩
  exact (behind_any x y bl b off (k + 1) cap f _ x.2 y.2 hk (hc _ _ _ hbl cl) hr).mono fun e w' ⟨he, h1, h2⟩ => ⟨he, grown_of h1 h2⟩

set_option maxHeartbeats 1000000 in
/-- the sort of the places 0 to k -/
theorem sort_any (k : Nat) (f : Nat → Mv) (bl b off cap blk cap' : Nat) (w : World) (hk : k + 1 ≤ 1048576) (hbl : bl ≠ blk) (hb : b ≠ blk) (hbs : b < w.heap.size)
    (cl : w.cell? ⟨bl, 0, none⟩ = some (.slice (some ⟨b, off, none⟩) (k + 1) cap)) (hrow : MvRow w b off (k + 1) f) (hown : OwnInts w blk (k + 1) (fun i => (i : Int))) :
    Calls Try.prog 36 #[.slice (some ⟨blk, 0, none⟩) (k + 1 : Nat) cap', .func (.func 59) #[] #[.pointer (some ⟨bl, 0, none⟩)]] w fun e w' =>
      e = .returned (.tuple #[]) ∧ ∃ (d' : Array (Fin (k + 1))) (n : Nat) (os : Array Obj), Go.Sort.PermIn 0 (k + 1) (Array.ofFn (fun i : Fin (k + 1) => i)) d' ∧ Go.Sort.SortedIn (ltOf (fun a b : Fin (k + 1) => cfN f a b)) 0 (k + 1) d' ∧ w' = sortWorld (encF k) w blk 0 n d' os := by
  obtain ⟨d, hd⟩ : ∃ d : Array (Fin (k + 1)), d = Array.ofFn (fun i : Fin (k + 1) => i) := ⟨_, rfl⟩
  have hds : d.size = k + 1 := by rw [hd]; simp
  have hblk := hown.lt
  have hH : Go.Sort.Holds (encF k) w blk 0 d := fun j hj => by
    have hj' : j < k + 1 := by omega
    refine ⟨?_, hown.frozen _⟩
    have e : d[j]! = ⟨j, hj'⟩ := by rw [getElem!_pos d j hj]; simp [hd]
    rw [e, Nat.zero_add]
    exact hown.cellAt j hj'
  have hO := swo f k
  have eg : ∀ args w, (callFunc 59 args).run Try.prog w = .ok (.enter 59 args) w := enters_of Try.func59 (by kernel_rfl) rfl
  have hcmp : CmpLays1 Try.prog 59 #[.pointer (some ⟨bl, 0, none⟩)] (encF k) (fun a b => cfN f a b) blk 0 d.size w := by rw [hds]; exact cmpLays k f bl b off cap blk w hk hbl hb hbs cl hrow
  have hlim : Lib.bitLen d.size < 4611686018427387904 := Nat.lt_of_le_of_lt (Lib.bitLen_le d.size 62 (by omega) (by omega)) (by omega)
  have hp := Any.pdqsortCmpFunc_all Try.pdqL (encF k) (fun a b => cfN f a b) 59 #[.pointer (some ⟨bl, 0, none⟩)] hO blk 0 cap' d w eg hcmp ⟨fun _ => rfl, hH, hblk⟩ (d.size + 1) 0 d.size (Lib.bitLen d.size) d w (by omega) rfl (SW.start hH) (Nat.zero_le _) (Nat.le_refl _) (by omega) hlim (Or.inl rfl)
  have hs := Go.Sort.pdq_sorts (ltOf (fun a b : Fin (k + 1) => cfN f a b)) hO d 0 d.size (Lib.bitLen d.size) true true (Nat.zero_le _) (Nat.le_refl _) (Or.inl rfl)
  change Calls Try.prog 57 _ _ _ at hp
  have hl : Calls Try.prog 58 #[.int .u64 (d.size : Int)] w fun e w' => e = .returned (.int .i64 (Lib.bitLen d.size : Nat)) ∧ w' = w := by
    have h := Any.bits_Len (SlLaysF0.n15.bits (P := Try.prog) (ρ := Try.pdqL_ren) { Try.pdqL with }) (d.size : Int) w (by omega) (by omega)
    rwa [Int.toNat_natCast] at h
  rw [hds] at hp hl hs
  have wr : IntKind.u64.wrap ((k + 1 : Nat) : Int) = ((k + 1 : Nat) : Int) := by simp [IntKind.wrap, IntKind.bits, IntKind.signed]; omega
  rw [← hd]
  clear hH hcmp hd
  go_enter Try.func36, Try.ntmps36
  go_wp2_with (first | (go_at_call 58; refine hl.mono ?_; rintro e w' ⟨rfl, rfl⟩) | (go_at_call 57; refine hp.mono ?_; rintro e w' ⟨rfl, n, os, rfl⟩))
  go_end0
  exact ⟨rfl, _, n, os, hs.1, hs.2, rfl⟩
end Go.Proofs.Ytlmcblcijndipaa
