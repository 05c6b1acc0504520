/- Texts of the proof, one behind another: K2. -/
import Derived.Test.YtlmcblcijndipabGreatM19
import Derived.Deep.RegionHeld3
/- What comes behind what: the program's closure, walked. -/
namespace Go.Proofs.YtlmcblcijndipabGreat
open Go.RowKit
set_option linter.unusedVariables false

theorem cell_past {W : World} {b o : Nat} {v : Value} (h : W.cell? ⟨b, o, none⟩ = some v) : ∀ o1 o2 o3, (((W.alloc o1).alloc o2).alloc o3).cell? ⟨b, o, none⟩ = some v := fun o1 o2 o3 =>
  (((((Below.refl W.heap.size W).alloc (Nat.le_refl _) o1).alloc (by simp) o2).alloc (by simp; omega) o3).cell (p := ⟨b, o, none⟩) (block_lt_of_cell h)).trans h

set_option maxRecDepth 10000 in
set_option maxHeartbeats 2000000 in
theorem behind_any (x y : Nat) (bl b off n cap : Nat) (f : Nat → Mv) (W : World) (hx : x < n) (hy : y < n) (hn : n ≤ 1048576)
    (cl : W.cell? ⟨bl, 0, none⟩ = some (.slice (some ⟨b, off, none⟩) n cap)) (hrow : MvRow W b off n f) :
    Calls Tryz0.prog 117 #[.int .i64 (x : Int), .int .i64 (y : Int), .pointer (some ⟨bl, 0, none⟩)] W fun e w' => e = .returned (.int .i64 (cfN f x y)) ∧ Below W.heap.size W w' ∧ W.drawn ≤ w'.drawn := by
  have hx' : (x : Int) < n := by omega
  have hy' : (y : Int) < n := by omega
  obtain ⟨a0, a1, a2, a3, a4, a5⟩ := hrow x hx
  obtain ⟨b0, b1, b2, b3, b4, b5⟩ := hrow y hy
  go_enter Tryz0.func117, Tryz.ntmps117
  go_wp2
  go_region_held3 (fun w' => w'.cell? ⟨bl, 0, none⟩ = some (.slice (some ⟨b, off, none⟩) n cap)
    ∧ w'.cell? ⟨b, off + x * 6, none⟩ = some (.string (f x).name) ∧ w'.cell? ⟨b, off + x * 6 + 1, none⟩ = some (.bool (f x).lands) ∧ w'.cell? ⟨b, off + x * 6 + 2, none⟩ = some (.int .i64 (f x).wake) ∧ w'.cell? ⟨b, off + x * 6 + 3, none⟩ = some (.int .i64 (f x).est) ∧ w'.cell? ⟨b, off + x * 6 + 4, none⟩ = some (.int .i64 (f x).late) ∧ w'.cell? ⟨b, off + x * 6 + 5, none⟩ = some (.int .i64 (f x).prom)
    ∧ w'.cell? ⟨b, off + y * 6, none⟩ = some (.string (f y).name) ∧ w'.cell? ⟨b, off + y * 6 + 1, none⟩ = some (.bool (f y).lands) ∧ w'.cell? ⟨b, off + y * 6 + 2, none⟩ = some (.int .i64 (f y).wake) ∧ w'.cell? ⟨b, off + y * 6 + 3, none⟩ = some (.int .i64 (f y).est) ∧ w'.cell? ⟨b, off + y * 6 + 4, none⟩ = some (.int .i64 (f y).late) ∧ w'.cell? ⟨b, off + y * 6 + 5, none⟩ = some (.int .i64 (f y).prom)) (go_keep) (fail)
  · have hB : Below W.heap.size W ((W.alloc (.cells #[.string (f x).name, .bool (f x).lands, .int .i64 (f x).wake, .int .i64 (f x).est, .int .i64 (f x).late, .int .i64 (f x).prom] 48)).alloc (.cells #[.string (f y).name, .bool (f y).lands, .int .i64 (f y).wake, .int .i64 (f y).est, .int .i64 (f y).late, .int .i64 (f y).prom] 48)).drew := (((Below.refl _ W).alloc (Nat.le_refl _) _).alloc (by simp) _).drew
    have hD : W.drawn ≤ ((W.alloc (.cells #[.string (f x).name, .bool (f x).lands, .int .i64 (f x).wake, .int .i64 (f x).est, .int .i64 (f x).late, .int .i64 (f x).prom] 48)).alloc (.cells #[.string (f y).name, .bool (f y).lands, .int .i64 (f y).wake, .int .i64 (f y).est, .int .i64 (f y).late, .int .i64 (f y).prom] 48)).drew.drawn := by show W.drawn ≤ W.drawn + 1; omega
    have hA : MvAt ((W.alloc (.cells #[.string (f x).name, .bool (f x).lands, .int .i64 (f x).wake, .int .i64 (f x).est, .int .i64 (f x).late, .int .i64 (f x).prom] 48)).alloc (.cells #[.string (f y).name, .bool (f y).lands, .int .i64 (f y).wake, .int .i64 (f y).est, .int .i64 (f y).late, .int .i64 (f y).prom] 48)).drew (W.heap.size) 0 (f x) := by constructor <;> simp [go_sem]
    have hE : MvAt ((W.alloc (.cells #[.string (f x).name, .bool (f x).lands, .int .i64 (f x).wake, .int .i64 (f x).est, .int .i64 (f x).late, .int .i64 (f x).prom] 48)).alloc (.cells #[.string (f y).name, .bool (f y).lands, .int .i64 (f y).wake, .int .i64 (f y).est, .int .i64 (f y).late, .int .i64 (f y).prom] 48)).drew (W.heap.size + 1) 0 (f y) := by constructor <;> simp [go_sem]
    go_wp2
    revert hB hD hA hE
    generalize ((W.alloc (.cells #[.string (f x).name, .bool (f x).lands, .int .i64 (f x).wake, .int .i64 (f x).est, .int .i64 (f x).late, .int .i64 (f x).prom] 48)).alloc (.cells #[.string (f y).name, .bool (f y).lands, .int .i64 (f y).wake, .int .i64 (f y).est, .int .i64 (f y).late, .int .i64 (f y).prom] 48)).drew = W1
    intro hB hD hA hE
    obtain ⟨Ba, hBa⟩ : ∃ Ba, Ba = W.heap.size := ⟨_, rfl⟩
    obtain ⟨Bb, hBb⟩ : ∃ Bb, Bb = W.heap.size + 1 := ⟨_, rfl⟩
    rw [← hBa] at hA
    rw [← hBb] at hE
    rw [← hBb, ← hBa]
    clear hBa hBb
    obtain ⟨m0, m1, m2, m3, m4, m5⟩ := hA
    obtain ⟨k0, k1, k2, k3, k4, k5⟩ := hE
    simp only [Nat.zero_add] at m0 m1 m2 m3 m4 m5 k0 k1 k2 k3 k4 k5
    have pm0 := cell_past m0
    have pm1 := cell_past m1
    have pm2 := cell_past m2
    have pm3 := cell_past m3
    have pm4 := cell_past m4
    have pm5 := cell_past m5
    have pk0 := cell_past k0
    have pk1 := cell_past k1
    have pk2 := cell_past k2
    have pk3 := cell_past k3
    have pk4 := cell_past k4
    have pk5 := cell_past k5
    go_region_held3 (fun w' => w'.cell? ⟨Ba, 0, none⟩ = some (.string (f x).name) ∧ w'.cell? ⟨Ba, 1, none⟩ = some (.bool (f x).lands) ∧ w'.cell? ⟨Ba, 2, none⟩ = some (.int .i64 (f x).wake) ∧ w'.cell? ⟨Ba, 3, none⟩ = some (.int .i64 (f x).est) ∧ w'.cell? ⟨Ba, 4, none⟩ = some (.int .i64 (f x).late) ∧ w'.cell? ⟨Ba, 5, none⟩ = some (.int .i64 (f x).prom) ∧ w'.cell? ⟨Bb, 0, none⟩ = some (.string (f y).name) ∧ w'.cell? ⟨Bb, 1, none⟩ = some (.bool (f y).lands) ∧ w'.cell? ⟨Bb, 2, none⟩ = some (.int .i64 (f y).wake) ∧ w'.cell? ⟨Bb, 3, none⟩ = some (.int .i64 (f y).est) ∧ w'.cell? ⟨Bb, 4, none⟩ = some (.int .i64 (f y).late) ∧ w'.cell? ⟨Bb, 5, none⟩ = some (.int .i64 (f y).prom)) (go_keep)
      (first | (go_at_call 118; refine (own_any _ _).mono ?_; rintro e w' ⟨rfl, rfl⟩) | (go_at_call 88; refine (cmpZ_any _ _ _).mono ?_; rintro e w' ⟨rfl, rfl⟩) | (go_at_call 119; refine (cmpS_any _ _ _).mono ?_; rintro e w' ⟨rfl, rfl⟩) | (go_at_call 87; refine (or3 _ (cmpZ (f x).key (f y).key) (cmpS (f x).name (f y).name) (cmpZ (x : Int) (y : Int)) _ (by simp [go_sem]) (by simp [go_sem]) (by simp [go_sem])).mono ?_; rintro e w' ⟨rfl, rfl⟩))
    all_goals
      go_wp2
      go_ret
      refine ⟨ret_i rfl, hB.trans ?_, ?_⟩
      · exact ((((Below.refl W.heap.size W1).alloc hB.size _).alloc (by have := hB.size; simp; omega) _).alloc (by have := hB.size; simp; omega) _).drew
      · show W.drawn ≤ W1.drawn + 1
        omega
  · have hB : Below W.heap.size W ((W.alloc (.cells #[.string (f y).name, .bool (f y).lands, .int .i64 (f y).wake, .int .i64 (f y).est, .int .i64 (f y).late, .int .i64 (f y).prom] 48)).alloc (.cells #[.string (f x).name, .bool (f x).lands, .int .i64 (f x).wake, .int .i64 (f x).est, .int .i64 (f x).late, .int .i64 (f x).prom] 48)).drew := (((Below.refl _ W).alloc (Nat.le_refl _) _).alloc (by simp) _).drew
    have hD : W.drawn ≤ ((W.alloc (.cells #[.string (f y).name, .bool (f y).lands, .int .i64 (f y).wake, .int .i64 (f y).est, .int .i64 (f y).late, .int .i64 (f y).prom] 48)).alloc (.cells #[.string (f x).name, .bool (f x).lands, .int .i64 (f x).wake, .int .i64 (f x).est, .int .i64 (f x).late, .int .i64 (f x).prom] 48)).drew.drawn := by show W.drawn ≤ W.drawn + 1; omega
    have hA : MvAt ((W.alloc (.cells #[.string (f y).name, .bool (f y).lands, .int .i64 (f y).wake, .int .i64 (f y).est, .int .i64 (f y).late, .int .i64 (f y).prom] 48)).alloc (.cells #[.string (f x).name, .bool (f x).lands, .int .i64 (f x).wake, .int .i64 (f x).est, .int .i64 (f x).late, .int .i64 (f x).prom] 48)).drew (W.heap.size + 1) 0 (f x) := by constructor <;> simp [go_sem]
    have hE : MvAt ((W.alloc (.cells #[.string (f y).name, .bool (f y).lands, .int .i64 (f y).wake, .int .i64 (f y).est, .int .i64 (f y).late, .int .i64 (f y).prom] 48)).alloc (.cells #[.string (f x).name, .bool (f x).lands, .int .i64 (f x).wake, .int .i64 (f x).est, .int .i64 (f x).late, .int .i64 (f x).prom] 48)).drew (W.heap.size) 0 (f y) := by constructor <;> simp [go_sem]
    go_wp2
    revert hB hD hA hE
    generalize ((W.alloc (.cells #[.string (f y).name, .bool (f y).lands, .int .i64 (f y).wake, .int .i64 (f y).est, .int .i64 (f y).late, .int .i64 (f y).prom] 48)).alloc (.cells #[.string (f x).name, .bool (f x).lands, .int .i64 (f x).wake, .int .i64 (f x).est, .int .i64 (f x).late, .int .i64 (f x).prom] 48)).drew = W1
    intro hB hD hA hE
    obtain ⟨Ba, hBa⟩ : ∃ Ba, Ba = W.heap.size + 1 := ⟨_, rfl⟩
    obtain ⟨Bb, hBb⟩ : ∃ Bb, Bb = W.heap.size := ⟨_, rfl⟩
    rw [← hBa] at hA
    rw [← hBb] at hE
    rw [← hBa, ← hBb]
    clear hBa hBb
    obtain ⟨m0, m1, m2, m3, m4, m5⟩ := hA
    obtain ⟨k0, k1, k2, k3, k4, k5⟩ := hE
    simp only [Nat.zero_add] at m0 m1 m2 m3 m4 m5 k0 k1 k2 k3 k4 k5
    have pm0 := cell_past m0
    have pm1 := cell_past m1
    have pm2 := cell_past m2
    have pm3 := cell_past m3
    have pm4 := cell_past m4
    have pm5 := cell_past m5
    have pk0 := cell_past k0
    have pk1 := cell_past k1
    have pk2 := cell_past k2
    have pk3 := cell_past k3
    have pk4 := cell_past k4
    have pk5 := cell_past k5
    go_region_held3 (fun w' => w'.cell? ⟨Ba, 0, none⟩ = some (.string (f x).name) ∧ w'.cell? ⟨Ba, 1, none⟩ = some (.bool (f x).lands) ∧ w'.cell? ⟨Ba, 2, none⟩ = some (.int .i64 (f x).wake) ∧ w'.cell? ⟨Ba, 3, none⟩ = some (.int .i64 (f x).est) ∧ w'.cell? ⟨Ba, 4, none⟩ = some (.int .i64 (f x).late) ∧ w'.cell? ⟨Ba, 5, none⟩ = some (.int .i64 (f x).prom) ∧ w'.cell? ⟨Bb, 0, none⟩ = some (.string (f y).name) ∧ w'.cell? ⟨Bb, 1, none⟩ = some (.bool (f y).lands) ∧ w'.cell? ⟨Bb, 2, none⟩ = some (.int .i64 (f y).wake) ∧ w'.cell? ⟨Bb, 3, none⟩ = some (.int .i64 (f y).est) ∧ w'.cell? ⟨Bb, 4, none⟩ = some (.int .i64 (f y).late) ∧ w'.cell? ⟨Bb, 5, none⟩ = some (.int .i64 (f y).prom)) (go_keep)
      (first | (go_at_call 118; refine (own_any _ _).mono ?_; rintro e w' ⟨rfl, rfl⟩) | (go_at_call 88; refine (cmpZ_any _ _ _).mono ?_; rintro e w' ⟨rfl, rfl⟩) | (go_at_call 119; refine (cmpS_any _ _ _).mono ?_; rintro e w' ⟨rfl, rfl⟩) | (go_at_call 87; refine (or3 _ (cmpZ (f x).key (f y).key) (cmpS (f x).name (f y).name) (cmpZ (x : Int) (y : Int)) _ (by simp [go_sem]) (by simp [go_sem]) (by simp [go_sem])).mono ?_; rintro e w' ⟨rfl, rfl⟩))
    all_goals
      go_wp2
      go_ret
      refine ⟨ret_i rfl, hB.trans ?_, ?_⟩
      · exact ((((Below.refl W.heap.size W1).alloc hB.size _).alloc (by have := hB.size; simp; omega) _).alloc (by have := hB.size; simp; omega) _).drew
      · show W.drawn ≤ W1.drawn + 1
        omega
end Go.Proofs.YtlmcblcijndipabGreat
