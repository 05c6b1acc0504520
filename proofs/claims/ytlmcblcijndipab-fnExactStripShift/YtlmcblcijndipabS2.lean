/- How far two orders are shifted: both StripShift, walked. -/
import Derived.Test.YtlmcblcijndipabS1
namespace Go.Proofs.Ytlmcblcijndipab
open Go.RowKit
set_option linter.unusedVariables false

set_option maxHeartbeats 1000000 in
theorem stand_row (b off n cap : Nat) (g : Nat → Int) (w : World) (hn : n ≤ 1048576) (hbs : b < w.heap.size) (hrow : IntRow w b off n g) (hord : OrdTo g n n) :
    Calls Try.prog 67 #[.slice (some ⟨b, off, none⟩) n cap] w fun e w' => e = .returned (.slice (some ⟨w.heap.size, 0, none⟩) n n) ∧ OwnInts w' w.heap.size n (standTo g n) ∧ Below w.heap.size w w' := by
  have hmk := make_ints n hn
  go_enter Try.func67, Try.ntmps67
  go_wp2
  go_loopw [11] (fun i w' => ∃ k : Nat, k ≤ n ∧ i = .int .i64 k ∧ OwnInts w' w.heap.size n (standTo g k) ∧ Below w.heap.size w w') (fun i _ => n - (intOf i).toNat)
  case atStart => exact ⟨0, Nat.zero_le _, rfl, (made_ints w n).congr (fun i hi => rfl), (Below.refl _ _).alloc (Nat.le_refl _) _⟩
  case round =>
    obtain ⟨k, hk, rfl, hown, hB⟩ := hrel
    by_cases hlt : k < n
    · have hc := (hrow.below hB hbs) k hlt
      have hlt' : (k : Int) < n := by omega
      have hin := hord.1 k hlt
      obtain ⟨p, hp⟩ : ∃ p : Nat, g k = (p : Int) := ⟨(g k).toNat, by omega⟩
      have hpn : p < n := by omega
      have hpn' : (p : Int) < n := by omega
      have HP : Hid _ := hp
      rw [hp] at hc
      clear hp hin
      have hd := hown.cellAt p hpn
      have hfz := hown.frozen p
      go_wp2
      go_roundw
      case rel => exact ⟨k + 1, by omega, by go_num, (hown.set p hpn (k : Int)).congr (fun q hq => by
        simp only [standTo]
        rw [HP.out]
        by_cases e : q = p
        · subst e; rw [if_pos rfl, if_pos rfl]
        · rw [if_neg e, if_neg (by omega)]), hB.setCell (by simp) _⟩
      case measure => simp [intOf]; omega
    · go_wp2
      go_ret
      have hkn : k = n := by omega
      subst hkn
      exact ⟨rfl, hown, hB⟩

set_option maxHeartbeats 1000000 in
theorem shiftFrom_row (b off n cap b' off' cap' : Nat) (g h : Nat → Int) (w : World) (hn : n ≤ 1048576) (hbs : b < w.heap.size) (hrow : IntRow w b off n g) (hord : OrdTo g n n) (hbs' : b' < w.heap.size) (hrow' : IntRow w b' off' n h) (hord' : OrdTo h n n) :
    Calls Try.prog 47 #[.slice (some ⟨b, off, none⟩) n cap, .slice (some ⟨b', off', none⟩) n cap'] w fun e w' => (∃ r, e = .returned (.int .i64 r) ∧ IsShift g h n r) ∧ Below w.heap.size w w' := by
  have H1 := stand_row b off n cap g w hn hbs hrow hord
  go_enter Try.func47, Try.ntmps47
  go_wp2_with (first | (go_at_call 67; refine H1.mono ?_; clear H1; rintro e w1 ⟨rfl, hown1, hb1⟩) | (go_at_call 67; refine (stand_row _ _ _ _ h _ hn (Nat.lt_of_lt_of_le hbs' hb1.size) (hrow'.below hb1 hbs') hord').mono ?_; rintro e w2 ⟨rfl, hown2, hb2⟩))
  have hB2 : Below w.heap.size w w2 := hb1.trans (hb2.mono hb1.size)
  have hown12 := hown1.below hb2 hown1.lt
  go_loopw [7, 15] (fun z i w' => ∃ (k : Nat) (r : Int), k ≤ n ∧ i = .int .i64 k ∧ z = .int .i64 r ∧ ShTo g h n (fun i q => g i < k) r ∧ Below w2.heap.size w2 w') (fun _ i _ => n - (intOf i).toNat)
  case atStart => exact ⟨0, 0, Nat.zero_le _, rfl, rfl, ⟨Int.le_refl _, by omega, fun i q hi _ _ h0 => absurd h0 (by have := (hord.1 i hi).1; simp; omega), .inl rfl⟩, Below.refl _ _⟩
  case round =>
    obtain ⟨k, r, hk, rfl, rfl, hsh, hB⟩ := hrel
    by_cases hlt : k < n
    · have hlt' : (k : Int) < n := by omega
      have hc := (hown12.below hB hown12.lt).cellAt k hlt
      have hd := (hown2.below hB hown2.lt).cellAt k hlt
      obtain ⟨i, hi, hik⟩ := hord.surj k hlt
      obtain ⟨q, hq, hqk⟩ := hord'.surj k hlt
      rw [standTo_eq hord hik n (Nat.le_refl _) hi] at hc
      rw [standTo_eq hord' hqk n (Nat.le_refl _) hq] at hd
      have hiq : g i = h q := by rw [hik, hqk]
      have HX : Hid _ := hiq
      have HP0 : ∀ x y : Nat, x < n → y < n → g x = h y → g x < ((k + 1 : Nat) : Int) → g x < k ∨ x = i ∧ y = q := by
        intro x y hx hy hxy hg
        by_cases e : g x < k
        · exact .inl e
        · have e1 : g x = g i := by rw [hik]; omega
          have e2 : h y = h q := by rw [hqk, ← hxy]; omega
          refine .inr ⟨?_, ?_⟩
          · rcases Nat.lt_trichotomy x i with l | l | l
            · exact absurd e1 (hord.2 x i l hi)
            · exact l
            · exact absurd e1.symm (hord.2 i x l hx)
          · rcases Nat.lt_trichotomy y q with l | l | l
            · exact absurd e2 (hord'.2 y q l hq)
            · exact l
            · exact absurd e2.symm (hord'.2 q y l hy)
      have HP : Hid _ := HP0
      have hrl := hsh.low
      have hrh := hsh.high
      clear hiq hik hqk HP0
      have hne := later_some wr
      have c0 := fun x : Later wr => x.cell hc
      have c1 := fun x : Later wr => x.cell hd
      by_cases h1 : r < (i : Int) - q
      · have h2 : ¬ (i : Int) - q < (q : Int) - i := by omega
        go_wp2
        refine wp_region_later (by kernel_rfl) (by kernel_rfl) ?_
        repeat (go_big_quiet_step (fail))
        refine wpQuiet_nil (later_all ?_)
        intro w3 hb3
        go_wp2
        go_roundw
        case rel => exact ⟨k + 1, (i : Int) - q, by omega, by go_num, by first | rfl | go_num, hsh.more hi hq HX.out HP.out (by omega) (by omega) (by omega) (by omega), hB.trans (hb3.mono hB.size)⟩
        case measure => simp [intOf]; omega
      · by_cases h2 : r < (q : Int) - i
        · go_wp2
          refine wp_region_later (by kernel_rfl) (by kernel_rfl) ?_
          repeat (go_big_quiet_step (fail))
          refine wpQuiet_nil (later_all ?_)
          intro w3 hb3
          go_wp2
          go_roundw
          case rel => exact ⟨k + 1, (q : Int) - i, by omega, by go_num, by first | rfl | go_num, hsh.more hi hq HX.out HP.out (by omega) (by omega) (by omega) (by omega), hB.trans (hb3.mono hB.size)⟩
          case measure => simp [intOf]; omega
        · go_wp2
          refine wp_region_later (by kernel_rfl) (by kernel_rfl) ?_
          repeat (go_big_quiet_step (fail))
          refine wpQuiet_nil (later_all ?_)
          intro w3 hb3
          go_wp2
          go_roundw
          case rel => exact ⟨k + 1, r, by omega, by go_num, by first | rfl | go_num, hsh.more hi hq HX.out HP.out (by omega) (by omega) (by omega) (by omega), hB.trans (hb3.mono hB.size)⟩
          case measure => simp [intOf]; omega
    · go_wp2
      go_ret
      exact ⟨⟨r, rfl, hsh.all (fun i q hi _ _ => by have := (hord.1 i hi).2; omega)⟩, hB2.trans (hB.mono hB2.size)⟩
end Go.Proofs.Ytlmcblcijndipab
