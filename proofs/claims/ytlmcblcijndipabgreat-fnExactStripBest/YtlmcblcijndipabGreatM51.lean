/- Texts of the proof, one behind another: H4. -/
import Derived.Test.YtlmcblcijndipabGreatM49
import Derived.Test.YtlmcblcijndipabGreatM50
/- The ground on which the law is walked. -/
namespace Go.Proofs.YtlmcblcijndipabGreat
open Go Go.Conc Go.RowKit
set_option linter.unusedVariables false

/-- a frame under all others: whatever comes back to it ends at once -/
def ground : Frame := { fn := 1000000000, tmps := #[], todo := [.call { target := .nil, args := #[] } false "fmt's door: none" #[]], defers := [], mode := .run, kind := .normal }
theorem no_fn : Tryz0.prog.funcs[1000000000]? = none := by kernel_rfl
theorem no_row : (Extern.next "fmt's door: none").isNone = true := by kernel_rfl
theorem floor0 : Floor Tryz0.prog ground where
  ret := fun v w => by
    have h : Extern.next "fmt's door: none" = none := by have := no_row; simpa using this
    exact ⟨_, _, _, by simp [ground, Frame.finish, stepG, stepG.exec, G, h]; exact ⟨rfl, rfl, rfl⟩⟩
  pan := fun ch w => by
    have hc : Frame.catches Tryz0.prog (ground.raise ch) = true := by
      simp [ground, Frame.raise, Frame.catches, no_fn]
    exact ⟨_, _, _, by simp [stepG, G, ground, Frame.raise, unwind] at hc ⊢; simp [hc]; exact ⟨rfl, rfl, rfl⟩⟩
/-- the law's context: bestTry may be called but nobody walks in -/
theorem ctxL : ∃ ok : Ctx, (∀ f, ok.fn f = fnsL.contains f) ∧ (∀ f, ok.inn f = (fnsL.contains f && !(f == 25))) ∧ ∀ c, ok.code c = codeOk Tryz.prog ok.fn c := ⟨⟨fun f => fnsL.contains f, fun f => fnsL.contains f && !(f == 25), fun c => codeOk Tryz.prog (fun f => fnsL.contains f) c⟩, fun _ => rfl, fun _ => rfl, fun _ => rfl⟩
theorem ctxW : ∃ ok : Ctx, (∀ f, ok.fn f = fnsW.contains f) ∧ (∀ f, ok.inn f = fnsW.contains f) ∧ ∀ c, ok.code c = codeOk Tryz.prog ok.fn c := ⟨⟨fun f => fnsW.contains f, fun f => fnsW.contains f, fun c => codeOk Tryz.prog (fun f => fnsW.contains f) c⟩, fun _ => rfl, fun _ => rfl, fun _ => rfl⟩
theorem shutL {ok : Ctx} (h1 : ∀ f, ok.fn f = fnsL.contains f) (h2 : ∀ f, ok.inn f = (fnsL.contains f && !(f == 25))) : @Shut Tryz0.prog ok := by
  intro f xs cs V hf hi
  rw [h1] at hf
  rw [h2, hf] at hi
  have : f = 25 := by simpa using hi
  subst this
  have hb : Tryz0.fn0.body = some Tryz0.body0 := rfl
  exact ⟨_, _, _, by simp [Frame.enter, Tryz0.func25, hb, Tryz0.body0, stepG, stepG.exec, G]; exact ⟨rfl, rfl, rfl⟩⟩
theorem innL {ok : Ctx} (h2 : ∀ f, ok.inn f = (fnsL.contains f && !(f == 25))) {f : FuncId} (h : ok.inn f = true) : fnsL.contains f = true ∧ f ≠ 25 := by
  rw [h2, Bool.and_eq_true] at h
  exact ⟨h.1, by simpa using h.2⟩
/-- ALL THAT THE WALK STANDS ON -/
theorem wenvL {ok : Ctx} (h1 : ∀ f, ok.fn f = fnsL.contains f) (h2 : ∀ f, ok.inn f = (fnsL.contains f && !(f == 25))) (h3 : ∀ c, ok.code c = codeOk Tryz.prog ok.fn c) : @Wenv gl0 Tryz0.prog ok ground (@Dr24) :=
  letI := gl0
  ⟨pairL0 h1 (fun f h => innL h2 h) h3, shutL h1 h2, floor0, dself24⟩
theorem doorL {ok okw : Ctx} (h1 : ∀ f, okw.fn f = fnsW.contains f) (h2 : ∀ f, okw.inn f = fnsW.contains f) (h3 : ∀ c, okw.code c = codeOk Tryz.prog okw.fn c) : @DoorOk gl0 Tryz.prog ok (@Dr24) :=
  letI := gl0
  door_ok24 (okw := okw) (c := ground) (P₀ := Tryz0.prog) rfl (pairW0 h1 (fun f h => by rw [h2] at h; exact h) h3) (pairW h1 (fun f h => by rw [h2] at h; exact h) h3) (fun f h => by rw [h1] at h; rw [h2]; exact h) floor0 ⟨by rw [h2]; kernel_rfl, by rw [h2]; kernel_rfl, by rw [h1]; kernel_rfl⟩
/-- the law's walk, on whatever tape -/
theorem lawL {ok : Ctx} (h1 : ∀ f, ok.fn f = fnsL.contains f) (h2 : ∀ f, ok.inn f = (fnsL.contains f && !(f == 25))) (h3 : ∀ c, ok.code c = codeOk Tryz.prog ok.fn c) {V : World} {a : Option Addr} {n cap : Nat} {f : Nat → Mv} {shift : Int} (h : IsMvs V a n cap f) :
    @WkT gl0 Tryz0.prog ok ground (@Dr24) (fun v V' => v = .bool true ∧ Bl V.heap.size V V') ⟨Frame.enter Tryz0.prog 3 #[.slice a n cap, .int .i64 shift] .normal, [], V⟩ :=
  letI := gl0
  wk_law (wenvL h1 h2 h3) (by rw [h2]; kernel_rfl) (by rw [h2]; kernel_rfl) (by rw [h2]; kernel_rfl) h
end Go.Proofs.YtlmcblcijndipabGreat
