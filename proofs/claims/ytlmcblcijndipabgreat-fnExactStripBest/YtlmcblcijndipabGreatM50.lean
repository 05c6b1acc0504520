/- Texts of the proof, one behind another: H3. -/
import Derived.Test.YtlmcblcijndipabGreatM03
import Derived.Test.YtlmcblcijndipabGreatM12
/- Which functions are followed. -/
namespace Go.Proofs.YtlmcblcijndipabGreat
open Go Go.Conc Go.RowKit
set_option linter.unusedVariables false
/-- no package variables -/
@[reducible] def gl0 : Gl := ⟨0⟩
theorem opOk_fs (P : Program) (fs : Array Func) (fn : FuncId → Bool) (op : Op) : opOk { P with funcs := fs } fn op = opOk P fn op := by cases op <;> rfl
theorem codeOk_fs (P : Program) (fs : Array Func) (fn : FuncId → Bool) : ∀ c, codeOk { P with funcs := fs } fn c = codeOk P fn c := by
  intro c
  induction c with
  | seq a b ha hb => simp only [codeOk, ha, hb]
  | cond x a b ha hb => simp only [codeOk, ha, hb]
  | block i b hb => simp only [codeOk, hb]
  | loop b hb => simp only [codeOk, hb]
  | scope b hb => simp only [codeOk, hb]
  | rangeFunc f ps a b ha hb => simp only [codeOk, ha, hb]
  | region i ops d => simp only [codeOk, opOk_fs]
  | _ => rfl
theorem codeOk0 (fn : FuncId → Bool) (c : Code) : codeOk Tryz0.prog fn c = codeOk Tryz.prog fn c := codeOk_fs Tryz.prog _ fn c
def fnsL : List Nat := [3, 5, 6, 7, 8, 9, 10, 11, 12, 13, 19, 20, 21, 22, 23, 24, 25, 26, 27, 28, 35, 36, 37, 38, 39, 40, 41, 49, 50, 51, 58, 59, 60, 61, 62, 63, 64, 65, 66, 87, 88, 90, 91, 92, 93, 94, 95, 96, 104, 105, 114, 115, 116, 117, 118, 119, 120, 125, 126, 127, 128, 129, 130, 131, 132, 133, 134, 135, 137, 138, 139, 140, 141, 142]
theorem cL_3 : codeOk Tryz.prog (fun f => fnsL.contains f) (Tryz.f3.body.getD .skip) = true := by kernel_rfl
theorem cL_5 : codeOk Tryz.prog (fun f => fnsL.contains f) (Tryz.f5.body.getD .skip) = true := by kernel_rfl
theorem cL_6 : codeOk Tryz.prog (fun f => fnsL.contains f) (Tryz.f6.body.getD .skip) = true := by kernel_rfl
theorem cL_7 : codeOk Tryz.prog (fun f => fnsL.contains f) (Tryz.f7.body.getD .skip) = true := by kernel_rfl
theorem cL_8 : codeOk Tryz.prog (fun f => fnsL.contains f) (Tryz.f8.body.getD .skip) = true := by kernel_rfl
theorem cL_9 : codeOk Tryz.prog (fun f => fnsL.contains f) (Tryz.f9.body.getD .skip) = true := by kernel_rfl
theorem cL_10 : codeOk Tryz.prog (fun f => fnsL.contains f) (Tryz.f10.body.getD .skip) = true := by kernel_rfl
theorem cL_11 : codeOk Tryz.prog (fun f => fnsL.contains f) (Tryz.f11.body.getD .skip) = true := by kernel_rfl
theorem cL_12 : codeOk Tryz.prog (fun f => fnsL.contains f) (Tryz.f12.body.getD .skip) = true := by kernel_rfl
theorem cL_13 : codeOk Tryz.prog (fun f => fnsL.contains f) (Tryz.f13.body.getD .skip) = true := by kernel_rfl
theorem cL_19 : codeOk Tryz.prog (fun f => fnsL.contains f) (Tryz.f19.body.getD .skip) = true := by kernel_rfl
theorem cL_20 : codeOk Tryz.prog (fun f => fnsL.contains f) (Tryz.f20.body.getD .skip) = true := by kernel_rfl
theorem cL_21 : codeOk Tryz.prog (fun f => fnsL.contains f) (Tryz.f21.body.getD .skip) = true := by kernel_rfl
theorem cL_22 : codeOk Tryz.prog (fun f => fnsL.contains f) (Tryz.f22.body.getD .skip) = true := by kernel_rfl
theorem cL_23 : codeOk Tryz.prog (fun f => fnsL.contains f) (Tryz.f23.body.getD .skip) = true := by kernel_rfl
theorem cL_24 : codeOk Tryz.prog (fun f => fnsL.contains f) (Tryz.f24.body.getD .skip) = true := by kernel_rfl
theorem cL_26 : codeOk Tryz.prog (fun f => fnsL.contains f) (Tryz.f26.body.getD .skip) = true := by kernel_rfl
theorem cL_27 : codeOk Tryz.prog (fun f => fnsL.contains f) (Tryz.f27.body.getD .skip) = true := by kernel_rfl
theorem cL_28 : codeOk Tryz.prog (fun f => fnsL.contains f) (Tryz.f28.body.getD .skip) = true := by kernel_rfl
theorem cL_35 : codeOk Tryz.prog (fun f => fnsL.contains f) (Tryz.f35.body.getD .skip) = true := by kernel_rfl
theorem cL_36 : codeOk Tryz.prog (fun f => fnsL.contains f) (Tryz.f36.body.getD .skip) = true := by kernel_rfl
theorem cL_37 : codeOk Tryz.prog (fun f => fnsL.contains f) (Tryz.f37.body.getD .skip) = true := by kernel_rfl
theorem cL_38 : codeOk Tryz.prog (fun f => fnsL.contains f) (Tryz.f38.body.getD .skip) = true := by kernel_rfl
theorem cL_39 : codeOk Tryz.prog (fun f => fnsL.contains f) (Tryz.f39.body.getD .skip) = true := by kernel_rfl
theorem cL_40 : codeOk Tryz.prog (fun f => fnsL.contains f) (Tryz.f40.body.getD .skip) = true := by kernel_rfl
theorem cL_41 : codeOk Tryz.prog (fun f => fnsL.contains f) (Tryz.f41.body.getD .skip) = true := by kernel_rfl
theorem cL_49 : codeOk Tryz.prog (fun f => fnsL.contains f) (Tryz.f49.body.getD .skip) = true := by kernel_rfl
theorem cL_50 : codeOk Tryz.prog (fun f => fnsL.contains f) (Tryz.f50.body.getD .skip) = true := by kernel_rfl
theorem cL_51 : codeOk Tryz.prog (fun f => fnsL.contains f) (Tryz.f51.body.getD .skip) = true := by kernel_rfl
theorem cL_58 : codeOk Tryz.prog (fun f => fnsL.contains f) (Tryz.f58.body.getD .skip) = true := by kernel_rfl
theorem cL_59 : codeOk Tryz.prog (fun f => fnsL.contains f) (Tryz.f59.body.getD .skip) = true := by kernel_rfl
theorem cL_60 : codeOk Tryz.prog (fun f => fnsL.contains f) (Tryz.f60.body.getD .skip) = true := by kernel_rfl
theorem cL_61 : codeOk Tryz.prog (fun f => fnsL.contains f) (Tryz.f61.body.getD .skip) = true := by kernel_rfl
theorem cL_62 : codeOk Tryz.prog (fun f => fnsL.contains f) (Tryz.f62.body.getD .skip) = true := by kernel_rfl
theorem cL_63 : codeOk Tryz.prog (fun f => fnsL.contains f) (Tryz.f63.body.getD .skip) = true := by kernel_rfl
theorem cL_64 : codeOk Tryz.prog (fun f => fnsL.contains f) (Tryz.f64.body.getD .skip) = true := by kernel_rfl
theorem cL_65 : codeOk Tryz.prog (fun f => fnsL.contains f) (Tryz.f65.body.getD .skip) = true := by kernel_rfl
theorem cL_66 : codeOk Tryz.prog (fun f => fnsL.contains f) (Tryz.f66.body.getD .skip) = true := by kernel_rfl
theorem cL_87 : codeOk Tryz.prog (fun f => fnsL.contains f) (Tryz.f87.body.getD .skip) = true := by kernel_rfl
theorem cL_88 : codeOk Tryz.prog (fun f => fnsL.contains f) (Tryz.f88.body.getD .skip) = true := by kernel_rfl
theorem cL_90 : codeOk Tryz.prog (fun f => fnsL.contains f) (Tryz.f90.body.getD .skip) = true := by kernel_rfl
theorem cL_91 : codeOk Tryz.prog (fun f => fnsL.contains f) (Tryz.f91.body.getD .skip) = true := by kernel_rfl
theorem cL_92 : codeOk Tryz.prog (fun f => fnsL.contains f) (Tryz.f92.body.getD .skip) = true := by kernel_rfl
theorem cL_93 : codeOk Tryz.prog (fun f => fnsL.contains f) (Tryz.f93.body.getD .skip) = true := by kernel_rfl
theorem cL_94 : codeOk Tryz.prog (fun f => fnsL.contains f) (Tryz.f94.body.getD .skip) = true := by kernel_rfl
theorem cL_95 : codeOk Tryz.prog (fun f => fnsL.contains f) (Tryz.f95.body.getD .skip) = true := by kernel_rfl
theorem cL_96 : codeOk Tryz.prog (fun f => fnsL.contains f) (Tryz.f96.body.getD .skip) = true := by kernel_rfl
theorem cL_104 : codeOk Tryz.prog (fun f => fnsL.contains f) (Tryz.f104.body.getD .skip) = true := by kernel_rfl
theorem cL_105 : codeOk Tryz.prog (fun f => fnsL.contains f) (Tryz.f105.body.getD .skip) = true := by kernel_rfl
theorem cL_114 : codeOk Tryz.prog (fun f => fnsL.contains f) (Tryz.f114.body.getD .skip) = true := by kernel_rfl
theorem cL_115 : codeOk Tryz.prog (fun f => fnsL.contains f) (Tryz.f115.body.getD .skip) = true := by kernel_rfl
theorem cL_116 : codeOk Tryz.prog (fun f => fnsL.contains f) (Tryz.f116.body.getD .skip) = true := by kernel_rfl
theorem cL_117 : codeOk Tryz.prog (fun f => fnsL.contains f) (Tryz.f117.body.getD .skip) = true := by kernel_rfl
theorem cL_118 : codeOk Tryz.prog (fun f => fnsL.contains f) (Tryz.f118.body.getD .skip) = true := by kernel_rfl
theorem cL_119 : codeOk Tryz.prog (fun f => fnsL.contains f) (Tryz.f119.body.getD .skip) = true := by kernel_rfl
theorem cL_120 : codeOk Tryz.prog (fun f => fnsL.contains f) (Tryz.f120.body.getD .skip) = true := by kernel_rfl
theorem cL_125 : codeOk Tryz.prog (fun f => fnsL.contains f) (Tryz.f125.body.getD .skip) = true := by kernel_rfl
theorem cL_126 : codeOk Tryz.prog (fun f => fnsL.contains f) (Tryz.f126.body.getD .skip) = true := by kernel_rfl
theorem cL_127 : codeOk Tryz.prog (fun f => fnsL.contains f) (Tryz.f127.body.getD .skip) = true := by kernel_rfl
theorem cL_128 : codeOk Tryz.prog (fun f => fnsL.contains f) (Tryz.f128.body.getD .skip) = true := by kernel_rfl
theorem cL_129 : codeOk Tryz.prog (fun f => fnsL.contains f) (Tryz.f129.body.getD .skip) = true := by kernel_rfl
theorem cL_130 : codeOk Tryz.prog (fun f => fnsL.contains f) (Tryz.f130.body.getD .skip) = true := by kernel_rfl
theorem cL_131 : codeOk Tryz.prog (fun f => fnsL.contains f) (Tryz.f131.body.getD .skip) = true := by kernel_rfl
theorem cL_132 : codeOk Tryz.prog (fun f => fnsL.contains f) (Tryz.f132.body.getD .skip) = true := by kernel_rfl
theorem cL_133 : codeOk Tryz.prog (fun f => fnsL.contains f) (Tryz.f133.body.getD .skip) = true := by kernel_rfl
theorem cL_134 : codeOk Tryz.prog (fun f => fnsL.contains f) (Tryz.f134.body.getD .skip) = true := by kernel_rfl
theorem cL_135 : codeOk Tryz.prog (fun f => fnsL.contains f) (Tryz.f135.body.getD .skip) = true := by kernel_rfl
theorem cL_137 : codeOk Tryz.prog (fun f => fnsL.contains f) (Tryz.f137.body.getD .skip) = true := by kernel_rfl
theorem cL_138 : codeOk Tryz.prog (fun f => fnsL.contains f) (Tryz.f138.body.getD .skip) = true := by kernel_rfl
theorem cL_139 : codeOk Tryz.prog (fun f => fnsL.contains f) (Tryz.f139.body.getD .skip) = true := by kernel_rfl
theorem cL_140 : codeOk Tryz.prog (fun f => fnsL.contains f) (Tryz.f140.body.getD .skip) = true := by kernel_rfl
theorem cL_141 : codeOk Tryz.prog (fun f => fnsL.contains f) (Tryz.f141.body.getD .skip) = true := by kernel_rfl
theorem cL_142 : codeOk Tryz.prog (fun f => fnsL.contains f) (Tryz.f142.body.getD .skip) = true := by kernel_rfl
def fnsW : List Nat := [47, 48, 64, 81, 87, 88, 89, 111, 112, 114, 122, 123, 124, 136]
theorem cW_47 : codeOk Tryz.prog (fun f => fnsW.contains f) (Tryz.f47.body.getD .skip) = true := by kernel_rfl
theorem cW_48 : codeOk Tryz.prog (fun f => fnsW.contains f) (Tryz.f48.body.getD .skip) = true := by kernel_rfl
theorem cW_64 : codeOk Tryz.prog (fun f => fnsW.contains f) (Tryz.f64.body.getD .skip) = true := by kernel_rfl
theorem cW_81 : codeOk Tryz.prog (fun f => fnsW.contains f) (Tryz.f81.body.getD .skip) = true := by kernel_rfl
theorem cW_87 : codeOk Tryz.prog (fun f => fnsW.contains f) (Tryz.f87.body.getD .skip) = true := by kernel_rfl
theorem cW_88 : codeOk Tryz.prog (fun f => fnsW.contains f) (Tryz.f88.body.getD .skip) = true := by kernel_rfl
theorem cW_89 : codeOk Tryz.prog (fun f => fnsW.contains f) (Tryz.f89.body.getD .skip) = true := by kernel_rfl
theorem cW_111 : codeOk Tryz.prog (fun f => fnsW.contains f) (Tryz.f111.body.getD .skip) = true := by kernel_rfl
theorem cW_112 : codeOk Tryz.prog (fun f => fnsW.contains f) (Tryz.f112.body.getD .skip) = true := by kernel_rfl
theorem cW_114 : codeOk Tryz.prog (fun f => fnsW.contains f) (Tryz.f114.body.getD .skip) = true := by kernel_rfl
theorem cW_122 : codeOk Tryz.prog (fun f => fnsW.contains f) (Tryz.f122.body.getD .skip) = true := by kernel_rfl
theorem cW_123 : codeOk Tryz.prog (fun f => fnsW.contains f) (Tryz.f123.body.getD .skip) = true := by kernel_rfl
theorem cW_124 : codeOk Tryz.prog (fun f => fnsW.contains f) (Tryz.f124.body.getD .skip) = true := by kernel_rfl
theorem cW_136 : codeOk Tryz.prog (fun f => fnsW.contains f) (Tryz.f136.body.getD .skip) = true := by kernel_rfl
set_option maxHeartbeats 4000000 in
set_option maxRecDepth 100000 in
theorem pairL0 {ok : Ctx} (h1 : ∀ f, ok.fn f = fnsL.contains f) (h2 : ∀ f, ok.inn f = true → fnsL.contains f = true ∧ f ≠ 25) (h3 : ∀ c, ok.code c = codeOk Tryz.prog ok.fn c) : @Pair gl0 Tryz0.prog Tryz0.prog ok := by
  letI := gl0
  have hfn : ok.fn = fun f => fnsL.contains f := funext h1
  have key : ∀ f, fnsL.contains f = true → f = 3 ∨ f = 5 ∨ f = 6 ∨ f = 7 ∨ f = 8 ∨ f = 9 ∨ f = 10 ∨ f = 11 ∨ f = 12 ∨ f = 13 ∨ f = 19 ∨ f = 20 ∨ f = 21 ∨ f = 22 ∨ f = 23 ∨ f = 24 ∨ f = 25 ∨ f = 26 ∨ f = 27 ∨ f = 28 ∨ f = 35 ∨ f = 36 ∨ f = 37 ∨ f = 38 ∨ f = 39 ∨ f = 40 ∨ f = 41 ∨ f = 49 ∨ f = 50 ∨ f = 51 ∨ f = 58 ∨ f = 59 ∨ f = 60 ∨ f = 61 ∨ f = 62 ∨ f = 63 ∨ f = 64 ∨ f = 65 ∨ f = 66 ∨ f = 87 ∨ f = 88 ∨ f = 90 ∨ f = 91 ∨ f = 92 ∨ f = 93 ∨ f = 94 ∨ f = 95 ∨ f = 96 ∨ f = 104 ∨ f = 105 ∨ f = 114 ∨ f = 115 ∨ f = 116 ∨ f = 117 ∨ f = 118 ∨ f = 119 ∨ f = 120 ∨ f = 125 ∨ f = 126 ∨ f = 127 ∨ f = 128 ∨ f = 129 ∨ f = 130 ∨ f = 131 ∨ f = 132 ∨ f = 133 ∨ f = 134 ∨ f = 135 ∨ f = 137 ∨ f = 138 ∨ f = 139 ∨ f = 140 ∨ f = 141 ∨ f = 142 := by
    intro f hf
    simpa [fnsL] using hf
  refine { left := fun f hf => ?_, right := fun f hf => ?_, hole := ?_, same := fun f hf => ?_, code := fun c => (h3 c).trans (codeOk0 ok.fn c).symm, tab := ?_, glob := ?_ }
  · rw [h1] at hf
    rcases key f hf with rfl | rfl | rfl | rfl | rfl | rfl | rfl | rfl | rfl | rfl | rfl | rfl | rfl | rfl | rfl | rfl | rfl | rfl | rfl | rfl | rfl | rfl | rfl | rfl | rfl | rfl | rfl | rfl | rfl | rfl | rfl | rfl | rfl | rfl | rfl | rfl | rfl | rfl | rfl | rfl | rfl | rfl | rfl | rfl | rfl | rfl | rfl | rfl | rfl | rfl | rfl | rfl | rfl | rfl | rfl | rfl | rfl | rfl | rfl | rfl | rfl | rfl | rfl | rfl | rfl | rfl | rfl | rfl | rfl | rfl | rfl | rfl | rfl | rfl
    · exact ⟨Tryz.f3, Tryz0.func3, by kernel_rfl, by kernel_rfl⟩
    · exact ⟨Tryz.f5, Tryz0.func5, by kernel_rfl, by kernel_rfl⟩
    · exact ⟨Tryz.f6, Tryz0.func6, by kernel_rfl, by kernel_rfl⟩
    · exact ⟨Tryz.f7, Tryz0.func7, by kernel_rfl, by kernel_rfl⟩
    · exact ⟨Tryz.f8, Tryz0.func8, by kernel_rfl, by kernel_rfl⟩
    · exact ⟨Tryz.f9, Tryz0.func9, by kernel_rfl, by kernel_rfl⟩
    · exact ⟨Tryz.f10, Tryz0.func10, by kernel_rfl, by kernel_rfl⟩
    · exact ⟨Tryz.f11, Tryz0.func11, by kernel_rfl, by kernel_rfl⟩
    · exact ⟨Tryz.f12, Tryz0.func12, by kernel_rfl, by kernel_rfl⟩
    · exact ⟨Tryz.f13, Tryz0.func13, by kernel_rfl, by kernel_rfl⟩
    · exact ⟨Tryz.f19, Tryz0.func19, by kernel_rfl, by kernel_rfl⟩
    · exact ⟨Tryz.f20, Tryz0.func20, by kernel_rfl, by kernel_rfl⟩
    · exact ⟨Tryz.f21, Tryz0.func21, by kernel_rfl, by kernel_rfl⟩
    · exact ⟨Tryz.f22, Tryz0.func22, by kernel_rfl, by kernel_rfl⟩
    · exact ⟨Tryz.f23, Tryz0.func23, by kernel_rfl, by kernel_rfl⟩
    · exact ⟨Tryz.f24, Tryz0.func24, by kernel_rfl, by kernel_rfl⟩
    · exact ⟨Tryz0.fn0, Tryz0.func25, by kernel_rfl, by kernel_rfl⟩
    · exact ⟨Tryz.f26, Tryz0.func26, by kernel_rfl, by kernel_rfl⟩
    · exact ⟨Tryz.f27, Tryz0.func27, by kernel_rfl, by kernel_rfl⟩
    · exact ⟨Tryz.f28, Tryz0.func28, by kernel_rfl, by kernel_rfl⟩
    · exact ⟨Tryz.f35, Tryz0.func35, by kernel_rfl, by kernel_rfl⟩
    · exact ⟨Tryz.f36, Tryz0.func36, by kernel_rfl, by kernel_rfl⟩
    · exact ⟨Tryz.f37, Tryz0.func37, by kernel_rfl, by kernel_rfl⟩
    · exact ⟨Tryz.f38, Tryz0.func38, by kernel_rfl, by kernel_rfl⟩
    · exact ⟨Tryz.f39, Tryz0.func39, by kernel_rfl, by kernel_rfl⟩
    · exact ⟨Tryz.f40, Tryz0.func40, by kernel_rfl, by kernel_rfl⟩
    · exact ⟨Tryz.f41, Tryz0.func41, by kernel_rfl, by kernel_rfl⟩
    · exact ⟨Tryz.f49, Tryz0.func49, by kernel_rfl, by kernel_rfl⟩
    · exact ⟨Tryz.f50, Tryz0.func50, by kernel_rfl, by kernel_rfl⟩
    · exact ⟨Tryz.f51, Tryz0.func51, by kernel_rfl, by kernel_rfl⟩
    · exact ⟨Tryz.f58, Tryz0.func58, by kernel_rfl, by kernel_rfl⟩
    · exact ⟨Tryz.f59, Tryz0.func59, by kernel_rfl, by kernel_rfl⟩
    · exact ⟨Tryz.f60, Tryz0.func60, by kernel_rfl, by kernel_rfl⟩
    · exact ⟨Tryz.f61, Tryz0.func61, by kernel_rfl, by kernel_rfl⟩
    · exact ⟨Tryz.f62, Tryz0.func62, by kernel_rfl, by kernel_rfl⟩
    · exact ⟨Tryz.f63, Tryz0.func63, by kernel_rfl, by kernel_rfl⟩
    · exact ⟨Tryz.f64, Tryz0.func64, by kernel_rfl, by kernel_rfl⟩
    · exact ⟨Tryz.f65, Tryz0.func65, by kernel_rfl, by kernel_rfl⟩
    · exact ⟨Tryz.f66, Tryz0.func66, by kernel_rfl, by kernel_rfl⟩
    · exact ⟨Tryz.f87, Tryz0.func87, by kernel_rfl, by kernel_rfl⟩
    · exact ⟨Tryz.f88, Tryz0.func88, by kernel_rfl, by kernel_rfl⟩
    · exact ⟨Tryz.f90, Tryz0.func90, by kernel_rfl, by kernel_rfl⟩
    · exact ⟨Tryz.f91, Tryz0.func91, by kernel_rfl, by kernel_rfl⟩
    · exact ⟨Tryz.f92, Tryz0.func92, by kernel_rfl, by kernel_rfl⟩
    · exact ⟨Tryz.f93, Tryz0.func93, by kernel_rfl, by kernel_rfl⟩
    · exact ⟨Tryz.f94, Tryz0.func94, by kernel_rfl, by kernel_rfl⟩
    · exact ⟨Tryz.f95, Tryz0.func95, by kernel_rfl, by kernel_rfl⟩
    · exact ⟨Tryz.f96, Tryz0.func96, by kernel_rfl, by kernel_rfl⟩
    · exact ⟨Tryz.f104, Tryz0.func104, by kernel_rfl, by kernel_rfl⟩
    · exact ⟨Tryz.f105, Tryz0.func105, by kernel_rfl, by kernel_rfl⟩
    · exact ⟨Tryz.f114, Tryz0.func114, by kernel_rfl, by kernel_rfl⟩
    · exact ⟨Tryz.f115, Tryz0.func115, by kernel_rfl, by kernel_rfl⟩
    · exact ⟨Tryz.f116, Tryz0.func116, by kernel_rfl, by kernel_rfl⟩
    · exact ⟨Tryz.f117, Tryz0.func117, by kernel_rfl, by kernel_rfl⟩
    · exact ⟨Tryz.f118, Tryz0.func118, by kernel_rfl, by kernel_rfl⟩
    · exact ⟨Tryz.f119, Tryz0.func119, by kernel_rfl, by kernel_rfl⟩
    · exact ⟨Tryz.f120, Tryz0.func120, by kernel_rfl, by kernel_rfl⟩
    · exact ⟨Tryz.f125, Tryz0.func125, by kernel_rfl, by kernel_rfl⟩
    · exact ⟨Tryz.f126, Tryz0.func126, by kernel_rfl, by kernel_rfl⟩
    · exact ⟨Tryz.f127, Tryz0.func127, by kernel_rfl, by kernel_rfl⟩
    · exact ⟨Tryz.f128, Tryz0.func128, by kernel_rfl, by kernel_rfl⟩
    · exact ⟨Tryz.f129, Tryz0.func129, by kernel_rfl, by kernel_rfl⟩
    · exact ⟨Tryz.f130, Tryz0.func130, by kernel_rfl, by kernel_rfl⟩
    · exact ⟨Tryz.f131, Tryz0.func131, by kernel_rfl, by kernel_rfl⟩
    · exact ⟨Tryz.f132, Tryz0.func132, by kernel_rfl, by kernel_rfl⟩
    · exact ⟨Tryz.f133, Tryz0.func133, by kernel_rfl, by kernel_rfl⟩
    · exact ⟨Tryz.f134, Tryz0.func134, by kernel_rfl, by kernel_rfl⟩
    · exact ⟨Tryz.f135, Tryz0.func135, by kernel_rfl, by kernel_rfl⟩
    · exact ⟨Tryz.f137, Tryz0.func137, by kernel_rfl, by kernel_rfl⟩
    · exact ⟨Tryz.f138, Tryz0.func138, by kernel_rfl, by kernel_rfl⟩
    · exact ⟨Tryz.f139, Tryz0.func139, by kernel_rfl, by kernel_rfl⟩
    · exact ⟨Tryz.f140, Tryz0.func140, by kernel_rfl, by kernel_rfl⟩
    · exact ⟨Tryz.f141, Tryz0.func141, by kernel_rfl, by kernel_rfl⟩
    · exact ⟨Tryz.f142, Tryz0.func142, by kernel_rfl, by kernel_rfl⟩
  · rw [h1] at hf
    rcases key f hf with rfl | rfl | rfl | rfl | rfl | rfl | rfl | rfl | rfl | rfl | rfl | rfl | rfl | rfl | rfl | rfl | rfl | rfl | rfl | rfl | rfl | rfl | rfl | rfl | rfl | rfl | rfl | rfl | rfl | rfl | rfl | rfl | rfl | rfl | rfl | rfl | rfl | rfl | rfl | rfl | rfl | rfl | rfl | rfl | rfl | rfl | rfl | rfl | rfl | rfl | rfl | rfl | rfl | rfl | rfl | rfl | rfl | rfl | rfl | rfl | rfl | rfl | rfl | rfl | rfl | rfl | rfl | rfl | rfl | rfl | rfl | rfl | rfl | rfl
    · exact ⟨Tryz.f3, Tryz0.func3, by kernel_rfl, by kernel_rfl⟩
    · exact ⟨Tryz.f5, Tryz0.func5, by kernel_rfl, by kernel_rfl⟩
    · exact ⟨Tryz.f6, Tryz0.func6, by kernel_rfl, by kernel_rfl⟩
    · exact ⟨Tryz.f7, Tryz0.func7, by kernel_rfl, by kernel_rfl⟩
    · exact ⟨Tryz.f8, Tryz0.func8, by kernel_rfl, by kernel_rfl⟩
    · exact ⟨Tryz.f9, Tryz0.func9, by kernel_rfl, by kernel_rfl⟩
    · exact ⟨Tryz.f10, Tryz0.func10, by kernel_rfl, by kernel_rfl⟩
    · exact ⟨Tryz.f11, Tryz0.func11, by kernel_rfl, by kernel_rfl⟩
    · exact ⟨Tryz.f12, Tryz0.func12, by kernel_rfl, by kernel_rfl⟩
    · exact ⟨Tryz.f13, Tryz0.func13, by kernel_rfl, by kernel_rfl⟩
    · exact ⟨Tryz.f19, Tryz0.func19, by kernel_rfl, by kernel_rfl⟩
    · exact ⟨Tryz.f20, Tryz0.func20, by kernel_rfl, by kernel_rfl⟩
    · exact ⟨Tryz.f21, Tryz0.func21, by kernel_rfl, by kernel_rfl⟩
    · exact ⟨Tryz.f22, Tryz0.func22, by kernel_rfl, by kernel_rfl⟩
    · exact ⟨Tryz.f23, Tryz0.func23, by kernel_rfl, by kernel_rfl⟩
    · exact ⟨Tryz.f24, Tryz0.func24, by kernel_rfl, by kernel_rfl⟩
    · exact ⟨Tryz0.fn0, Tryz0.func25, by kernel_rfl, by kernel_rfl⟩
    · exact ⟨Tryz.f26, Tryz0.func26, by kernel_rfl, by kernel_rfl⟩
    · exact ⟨Tryz.f27, Tryz0.func27, by kernel_rfl, by kernel_rfl⟩
    · exact ⟨Tryz.f28, Tryz0.func28, by kernel_rfl, by kernel_rfl⟩
    · exact ⟨Tryz.f35, Tryz0.func35, by kernel_rfl, by kernel_rfl⟩
    · exact ⟨Tryz.f36, Tryz0.func36, by kernel_rfl, by kernel_rfl⟩
    · exact ⟨Tryz.f37, Tryz0.func37, by kernel_rfl, by kernel_rfl⟩
    · exact ⟨Tryz.f38, Tryz0.func38, by kernel_rfl, by kernel_rfl⟩
    · exact ⟨Tryz.f39, Tryz0.func39, by kernel_rfl, by kernel_rfl⟩
    · exact ⟨Tryz.f40, Tryz0.func40, by kernel_rfl, by kernel_rfl⟩
    · exact ⟨Tryz.f41, Tryz0.func41, by kernel_rfl, by kernel_rfl⟩
    · exact ⟨Tryz.f49, Tryz0.func49, by kernel_rfl, by kernel_rfl⟩
    · exact ⟨Tryz.f50, Tryz0.func50, by kernel_rfl, by kernel_rfl⟩
    · exact ⟨Tryz.f51, Tryz0.func51, by kernel_rfl, by kernel_rfl⟩
    · exact ⟨Tryz.f58, Tryz0.func58, by kernel_rfl, by kernel_rfl⟩
    · exact ⟨Tryz.f59, Tryz0.func59, by kernel_rfl, by kernel_rfl⟩
    · exact ⟨Tryz.f60, Tryz0.func60, by kernel_rfl, by kernel_rfl⟩
    · exact ⟨Tryz.f61, Tryz0.func61, by kernel_rfl, by kernel_rfl⟩
    · exact ⟨Tryz.f62, Tryz0.func62, by kernel_rfl, by kernel_rfl⟩
    · exact ⟨Tryz.f63, Tryz0.func63, by kernel_rfl, by kernel_rfl⟩
    · exact ⟨Tryz.f64, Tryz0.func64, by kernel_rfl, by kernel_rfl⟩
    · exact ⟨Tryz.f65, Tryz0.func65, by kernel_rfl, by kernel_rfl⟩
    · exact ⟨Tryz.f66, Tryz0.func66, by kernel_rfl, by kernel_rfl⟩
    · exact ⟨Tryz.f87, Tryz0.func87, by kernel_rfl, by kernel_rfl⟩
    · exact ⟨Tryz.f88, Tryz0.func88, by kernel_rfl, by kernel_rfl⟩
    · exact ⟨Tryz.f90, Tryz0.func90, by kernel_rfl, by kernel_rfl⟩
    · exact ⟨Tryz.f91, Tryz0.func91, by kernel_rfl, by kernel_rfl⟩
    · exact ⟨Tryz.f92, Tryz0.func92, by kernel_rfl, by kernel_rfl⟩
    · exact ⟨Tryz.f93, Tryz0.func93, by kernel_rfl, by kernel_rfl⟩
    · exact ⟨Tryz.f94, Tryz0.func94, by kernel_rfl, by kernel_rfl⟩
    · exact ⟨Tryz.f95, Tryz0.func95, by kernel_rfl, by kernel_rfl⟩
    · exact ⟨Tryz.f96, Tryz0.func96, by kernel_rfl, by kernel_rfl⟩
    · exact ⟨Tryz.f104, Tryz0.func104, by kernel_rfl, by kernel_rfl⟩
    · exact ⟨Tryz.f105, Tryz0.func105, by kernel_rfl, by kernel_rfl⟩
    · exact ⟨Tryz.f114, Tryz0.func114, by kernel_rfl, by kernel_rfl⟩
    · exact ⟨Tryz.f115, Tryz0.func115, by kernel_rfl, by kernel_rfl⟩
    · exact ⟨Tryz.f116, Tryz0.func116, by kernel_rfl, by kernel_rfl⟩
    · exact ⟨Tryz.f117, Tryz0.func117, by kernel_rfl, by kernel_rfl⟩
    · exact ⟨Tryz.f118, Tryz0.func118, by kernel_rfl, by kernel_rfl⟩
    · exact ⟨Tryz.f119, Tryz0.func119, by kernel_rfl, by kernel_rfl⟩
    · exact ⟨Tryz.f120, Tryz0.func120, by kernel_rfl, by kernel_rfl⟩
    · exact ⟨Tryz.f125, Tryz0.func125, by kernel_rfl, by kernel_rfl⟩
    · exact ⟨Tryz.f126, Tryz0.func126, by kernel_rfl, by kernel_rfl⟩
    · exact ⟨Tryz.f127, Tryz0.func127, by kernel_rfl, by kernel_rfl⟩
    · exact ⟨Tryz.f128, Tryz0.func128, by kernel_rfl, by kernel_rfl⟩
    · exact ⟨Tryz.f129, Tryz0.func129, by kernel_rfl, by kernel_rfl⟩
    · exact ⟨Tryz.f130, Tryz0.func130, by kernel_rfl, by kernel_rfl⟩
    · exact ⟨Tryz.f131, Tryz0.func131, by kernel_rfl, by kernel_rfl⟩
    · exact ⟨Tryz.f132, Tryz0.func132, by kernel_rfl, by kernel_rfl⟩
    · exact ⟨Tryz.f133, Tryz0.func133, by kernel_rfl, by kernel_rfl⟩
    · exact ⟨Tryz.f134, Tryz0.func134, by kernel_rfl, by kernel_rfl⟩
    · exact ⟨Tryz.f135, Tryz0.func135, by kernel_rfl, by kernel_rfl⟩
    · exact ⟨Tryz.f137, Tryz0.func137, by kernel_rfl, by kernel_rfl⟩
    · exact ⟨Tryz.f138, Tryz0.func138, by kernel_rfl, by kernel_rfl⟩
    · exact ⟨Tryz.f139, Tryz0.func139, by kernel_rfl, by kernel_rfl⟩
    · exact ⟨Tryz.f140, Tryz0.func140, by kernel_rfl, by kernel_rfl⟩
    · exact ⟨Tryz.f141, Tryz0.func141, by kernel_rfl, by kernel_rfl⟩
    · exact ⟨Tryz.f142, Tryz0.func142, by kernel_rfl, by kernel_rfl⟩
  · kernel_rfl
  · obtain ⟨hc, hne⟩ := h2 f hf
    rw [hfn]
    rcases key f hc with rfl | rfl | rfl | rfl | rfl | rfl | rfl | rfl | rfl | rfl | rfl | rfl | rfl | rfl | rfl | rfl | rfl | rfl | rfl | rfl | rfl | rfl | rfl | rfl | rfl | rfl | rfl | rfl | rfl | rfl | rfl | rfl | rfl | rfl | rfl | rfl | rfl | rfl | rfl | rfl | rfl | rfl | rfl | rfl | rfl | rfl | rfl | rfl | rfl | rfl | rfl | rfl | rfl | rfl | rfl | rfl | rfl | rfl | rfl | rfl | rfl | rfl | rfl | rfl | rfl | rfl | rfl | rfl | rfl | rfl | rfl | rfl | rfl | rfl
    · exact ⟨Tryz.f3, Tryz.f3.body.getD .skip, Tryz0.func3, Tryz0.func3, by kernel_rfl, (codeOk0 _ _).trans cL_3⟩
    · exact ⟨Tryz.f5, Tryz.f5.body.getD .skip, Tryz0.func5, Tryz0.func5, by kernel_rfl, (codeOk0 _ _).trans cL_5⟩
    · exact ⟨Tryz.f6, Tryz.f6.body.getD .skip, Tryz0.func6, Tryz0.func6, by kernel_rfl, (codeOk0 _ _).trans cL_6⟩
    · exact ⟨Tryz.f7, Tryz.f7.body.getD .skip, Tryz0.func7, Tryz0.func7, by kernel_rfl, (codeOk0 _ _).trans cL_7⟩
    · exact ⟨Tryz.f8, Tryz.f8.body.getD .skip, Tryz0.func8, Tryz0.func8, by kernel_rfl, (codeOk0 _ _).trans cL_8⟩
    · exact ⟨Tryz.f9, Tryz.f9.body.getD .skip, Tryz0.func9, Tryz0.func9, by kernel_rfl, (codeOk0 _ _).trans cL_9⟩
    · exact ⟨Tryz.f10, Tryz.f10.body.getD .skip, Tryz0.func10, Tryz0.func10, by kernel_rfl, (codeOk0 _ _).trans cL_10⟩
    · exact ⟨Tryz.f11, Tryz.f11.body.getD .skip, Tryz0.func11, Tryz0.func11, by kernel_rfl, (codeOk0 _ _).trans cL_11⟩
    · exact ⟨Tryz.f12, Tryz.f12.body.getD .skip, Tryz0.func12, Tryz0.func12, by kernel_rfl, (codeOk0 _ _).trans cL_12⟩
    · exact ⟨Tryz.f13, Tryz.f13.body.getD .skip, Tryz0.func13, Tryz0.func13, by kernel_rfl, (codeOk0 _ _).trans cL_13⟩
    · exact ⟨Tryz.f19, Tryz.f19.body.getD .skip, Tryz0.func19, Tryz0.func19, by kernel_rfl, (codeOk0 _ _).trans cL_19⟩
    · exact ⟨Tryz.f20, Tryz.f20.body.getD .skip, Tryz0.func20, Tryz0.func20, by kernel_rfl, (codeOk0 _ _).trans cL_20⟩
    · exact ⟨Tryz.f21, Tryz.f21.body.getD .skip, Tryz0.func21, Tryz0.func21, by kernel_rfl, (codeOk0 _ _).trans cL_21⟩
    · exact ⟨Tryz.f22, Tryz.f22.body.getD .skip, Tryz0.func22, Tryz0.func22, by kernel_rfl, (codeOk0 _ _).trans cL_22⟩
    · exact ⟨Tryz.f23, Tryz.f23.body.getD .skip, Tryz0.func23, Tryz0.func23, by kernel_rfl, (codeOk0 _ _).trans cL_23⟩
    · exact ⟨Tryz.f24, Tryz.f24.body.getD .skip, Tryz0.func24, Tryz0.func24, by kernel_rfl, (codeOk0 _ _).trans cL_24⟩
    · exact absurd rfl hne
    · exact ⟨Tryz.f26, Tryz.f26.body.getD .skip, Tryz0.func26, Tryz0.func26, by kernel_rfl, (codeOk0 _ _).trans cL_26⟩
    · exact ⟨Tryz.f27, Tryz.f27.body.getD .skip, Tryz0.func27, Tryz0.func27, by kernel_rfl, (codeOk0 _ _).trans cL_27⟩
    · exact ⟨Tryz.f28, Tryz.f28.body.getD .skip, Tryz0.func28, Tryz0.func28, by kernel_rfl, (codeOk0 _ _).trans cL_28⟩
    · exact ⟨Tryz.f35, Tryz.f35.body.getD .skip, Tryz0.func35, Tryz0.func35, by kernel_rfl, (codeOk0 _ _).trans cL_35⟩
    · exact ⟨Tryz.f36, Tryz.f36.body.getD .skip, Tryz0.func36, Tryz0.func36, by kernel_rfl, (codeOk0 _ _).trans cL_36⟩
    · exact ⟨Tryz.f37, Tryz.f37.body.getD .skip, Tryz0.func37, Tryz0.func37, by kernel_rfl, (codeOk0 _ _).trans cL_37⟩
    · exact ⟨Tryz.f38, Tryz.f38.body.getD .skip, Tryz0.func38, Tryz0.func38, by kernel_rfl, (codeOk0 _ _).trans cL_38⟩
    · exact ⟨Tryz.f39, Tryz.f39.body.getD .skip, Tryz0.func39, Tryz0.func39, by kernel_rfl, (codeOk0 _ _).trans cL_39⟩
    · exact ⟨Tryz.f40, Tryz.f40.body.getD .skip, Tryz0.func40, Tryz0.func40, by kernel_rfl, (codeOk0 _ _).trans cL_40⟩
    · exact ⟨Tryz.f41, Tryz.f41.body.getD .skip, Tryz0.func41, Tryz0.func41, by kernel_rfl, (codeOk0 _ _).trans cL_41⟩
    · exact ⟨Tryz.f49, Tryz.f49.body.getD .skip, Tryz0.func49, Tryz0.func49, by kernel_rfl, (codeOk0 _ _).trans cL_49⟩
    · exact ⟨Tryz.f50, Tryz.f50.body.getD .skip, Tryz0.func50, Tryz0.func50, by kernel_rfl, (codeOk0 _ _).trans cL_50⟩
    · exact ⟨Tryz.f51, Tryz.f51.body.getD .skip, Tryz0.func51, Tryz0.func51, by kernel_rfl, (codeOk0 _ _).trans cL_51⟩
    · exact ⟨Tryz.f58, Tryz.f58.body.getD .skip, Tryz0.func58, Tryz0.func58, by kernel_rfl, (codeOk0 _ _).trans cL_58⟩
    · exact ⟨Tryz.f59, Tryz.f59.body.getD .skip, Tryz0.func59, Tryz0.func59, by kernel_rfl, (codeOk0 _ _).trans cL_59⟩
    · exact ⟨Tryz.f60, Tryz.f60.body.getD .skip, Tryz0.func60, Tryz0.func60, by kernel_rfl, (codeOk0 _ _).trans cL_60⟩
    · exact ⟨Tryz.f61, Tryz.f61.body.getD .skip, Tryz0.func61, Tryz0.func61, by kernel_rfl, (codeOk0 _ _).trans cL_61⟩
    · exact ⟨Tryz.f62, Tryz.f62.body.getD .skip, Tryz0.func62, Tryz0.func62, by kernel_rfl, (codeOk0 _ _).trans cL_62⟩
    · exact ⟨Tryz.f63, Tryz.f63.body.getD .skip, Tryz0.func63, Tryz0.func63, by kernel_rfl, (codeOk0 _ _).trans cL_63⟩
    · exact ⟨Tryz.f64, Tryz.f64.body.getD .skip, Tryz0.func64, Tryz0.func64, by kernel_rfl, (codeOk0 _ _).trans cL_64⟩
    · exact ⟨Tryz.f65, Tryz.f65.body.getD .skip, Tryz0.func65, Tryz0.func65, by kernel_rfl, (codeOk0 _ _).trans cL_65⟩
    · exact ⟨Tryz.f66, Tryz.f66.body.getD .skip, Tryz0.func66, Tryz0.func66, by kernel_rfl, (codeOk0 _ _).trans cL_66⟩
    · exact ⟨Tryz.f87, Tryz.f87.body.getD .skip, Tryz0.func87, Tryz0.func87, by kernel_rfl, (codeOk0 _ _).trans cL_87⟩
    · exact ⟨Tryz.f88, Tryz.f88.body.getD .skip, Tryz0.func88, Tryz0.func88, by kernel_rfl, (codeOk0 _ _).trans cL_88⟩
    · exact ⟨Tryz.f90, Tryz.f90.body.getD .skip, Tryz0.func90, Tryz0.func90, by kernel_rfl, (codeOk0 _ _).trans cL_90⟩
    · exact ⟨Tryz.f91, Tryz.f91.body.getD .skip, Tryz0.func91, Tryz0.func91, by kernel_rfl, (codeOk0 _ _).trans cL_91⟩
    · exact ⟨Tryz.f92, Tryz.f92.body.getD .skip, Tryz0.func92, Tryz0.func92, by kernel_rfl, (codeOk0 _ _).trans cL_92⟩
    · exact ⟨Tryz.f93, Tryz.f93.body.getD .skip, Tryz0.func93, Tryz0.func93, by kernel_rfl, (codeOk0 _ _).trans cL_93⟩
    · exact ⟨Tryz.f94, Tryz.f94.body.getD .skip, Tryz0.func94, Tryz0.func94, by kernel_rfl, (codeOk0 _ _).trans cL_94⟩
    · exact ⟨Tryz.f95, Tryz.f95.body.getD .skip, Tryz0.func95, Tryz0.func95, by kernel_rfl, (codeOk0 _ _).trans cL_95⟩
    · exact ⟨Tryz.f96, Tryz.f96.body.getD .skip, Tryz0.func96, Tryz0.func96, by kernel_rfl, (codeOk0 _ _).trans cL_96⟩
    · exact ⟨Tryz.f104, Tryz.f104.body.getD .skip, Tryz0.func104, Tryz0.func104, by kernel_rfl, (codeOk0 _ _).trans cL_104⟩
    · exact ⟨Tryz.f105, Tryz.f105.body.getD .skip, Tryz0.func105, Tryz0.func105, by kernel_rfl, (codeOk0 _ _).trans cL_105⟩
    · exact ⟨Tryz.f114, Tryz.f114.body.getD .skip, Tryz0.func114, Tryz0.func114, by kernel_rfl, (codeOk0 _ _).trans cL_114⟩
    · exact ⟨Tryz.f115, Tryz.f115.body.getD .skip, Tryz0.func115, Tryz0.func115, by kernel_rfl, (codeOk0 _ _).trans cL_115⟩
    · exact ⟨Tryz.f116, Tryz.f116.body.getD .skip, Tryz0.func116, Tryz0.func116, by kernel_rfl, (codeOk0 _ _).trans cL_116⟩
    · exact ⟨Tryz.f117, Tryz.f117.body.getD .skip, Tryz0.func117, Tryz0.func117, by kernel_rfl, (codeOk0 _ _).trans cL_117⟩
    · exact ⟨Tryz.f118, Tryz.f118.body.getD .skip, Tryz0.func118, Tryz0.func118, by kernel_rfl, (codeOk0 _ _).trans cL_118⟩
    · exact ⟨Tryz.f119, Tryz.f119.body.getD .skip, Tryz0.func119, Tryz0.func119, by kernel_rfl, (codeOk0 _ _).trans cL_119⟩
    · exact ⟨Tryz.f120, Tryz.f120.body.getD .skip, Tryz0.func120, Tryz0.func120, by kernel_rfl, (codeOk0 _ _).trans cL_120⟩
    · exact ⟨Tryz.f125, Tryz.f125.body.getD .skip, Tryz0.func125, Tryz0.func125, by kernel_rfl, (codeOk0 _ _).trans cL_125⟩
    · exact ⟨Tryz.f126, Tryz.f126.body.getD .skip, Tryz0.func126, Tryz0.func126, by kernel_rfl, (codeOk0 _ _).trans cL_126⟩
    · exact ⟨Tryz.f127, Tryz.f127.body.getD .skip, Tryz0.func127, Tryz0.func127, by kernel_rfl, (codeOk0 _ _).trans cL_127⟩
    · exact ⟨Tryz.f128, Tryz.f128.body.getD .skip, Tryz0.func128, Tryz0.func128, by kernel_rfl, (codeOk0 _ _).trans cL_128⟩
    · exact ⟨Tryz.f129, Tryz.f129.body.getD .skip, Tryz0.func129, Tryz0.func129, by kernel_rfl, (codeOk0 _ _).trans cL_129⟩
    · exact ⟨Tryz.f130, Tryz.f130.body.getD .skip, Tryz0.func130, Tryz0.func130, by kernel_rfl, (codeOk0 _ _).trans cL_130⟩
    · exact ⟨Tryz.f131, Tryz.f131.body.getD .skip, Tryz0.func131, Tryz0.func131, by kernel_rfl, (codeOk0 _ _).trans cL_131⟩
    · exact ⟨Tryz.f132, Tryz.f132.body.getD .skip, Tryz0.func132, Tryz0.func132, by kernel_rfl, (codeOk0 _ _).trans cL_132⟩
    · exact ⟨Tryz.f133, Tryz.f133.body.getD .skip, Tryz0.func133, Tryz0.func133, by kernel_rfl, (codeOk0 _ _).trans cL_133⟩
    · exact ⟨Tryz.f134, Tryz.f134.body.getD .skip, Tryz0.func134, Tryz0.func134, by kernel_rfl, (codeOk0 _ _).trans cL_134⟩
    · exact ⟨Tryz.f135, Tryz.f135.body.getD .skip, Tryz0.func135, Tryz0.func135, by kernel_rfl, (codeOk0 _ _).trans cL_135⟩
    · exact ⟨Tryz.f137, Tryz.f137.body.getD .skip, Tryz0.func137, Tryz0.func137, by kernel_rfl, (codeOk0 _ _).trans cL_137⟩
    · exact ⟨Tryz.f138, Tryz.f138.body.getD .skip, Tryz0.func138, Tryz0.func138, by kernel_rfl, (codeOk0 _ _).trans cL_138⟩
    · exact ⟨Tryz.f139, Tryz.f139.body.getD .skip, Tryz0.func139, Tryz0.func139, by kernel_rfl, (codeOk0 _ _).trans cL_139⟩
    · exact ⟨Tryz.f140, Tryz.f140.body.getD .skip, Tryz0.func140, Tryz0.func140, by kernel_rfl, (codeOk0 _ _).trans cL_140⟩
    · exact ⟨Tryz.f141, Tryz.f141.body.getD .skip, Tryz0.func141, Tryz0.func141, by kernel_rfl, (codeOk0 _ _).trans cL_141⟩
    · exact ⟨Tryz.f142, Tryz.f142.body.getD .skip, Tryz0.func142, Tryz0.func142, by kernel_rfl, (codeOk0 _ _).trans cL_142⟩
  · first | rfl | kernel_rfl
  · kernel_rfl
set_option maxHeartbeats 4000000 in
set_option maxRecDepth 100000 in
theorem pairL {ok : Ctx} (h1 : ∀ f, ok.fn f = fnsL.contains f) (h2 : ∀ f, ok.inn f = true → fnsL.contains f = true ∧ f ≠ 25) (h3 : ∀ c, ok.code c = codeOk Tryz.prog ok.fn c) : @Pair gl0 Tryz0.prog Tryz.prog ok := by
  letI := gl0
  have hfn : ok.fn = fun f => fnsL.contains f := funext h1
  have key : ∀ f, fnsL.contains f = true → f = 3 ∨ f = 5 ∨ f = 6 ∨ f = 7 ∨ f = 8 ∨ f = 9 ∨ f = 10 ∨ f = 11 ∨ f = 12 ∨ f = 13 ∨ f = 19 ∨ f = 20 ∨ f = 21 ∨ f = 22 ∨ f = 23 ∨ f = 24 ∨ f = 25 ∨ f = 26 ∨ f = 27 ∨ f = 28 ∨ f = 35 ∨ f = 36 ∨ f = 37 ∨ f = 38 ∨ f = 39 ∨ f = 40 ∨ f = 41 ∨ f = 49 ∨ f = 50 ∨ f = 51 ∨ f = 58 ∨ f = 59 ∨ f = 60 ∨ f = 61 ∨ f = 62 ∨ f = 63 ∨ f = 64 ∨ f = 65 ∨ f = 66 ∨ f = 87 ∨ f = 88 ∨ f = 90 ∨ f = 91 ∨ f = 92 ∨ f = 93 ∨ f = 94 ∨ f = 95 ∨ f = 96 ∨ f = 104 ∨ f = 105 ∨ f = 114 ∨ f = 115 ∨ f = 116 ∨ f = 117 ∨ f = 118 ∨ f = 119 ∨ f = 120 ∨ f = 125 ∨ f = 126 ∨ f = 127 ∨ f = 128 ∨ f = 129 ∨ f = 130 ∨ f = 131 ∨ f = 132 ∨ f = 133 ∨ f = 134 ∨ f = 135 ∨ f = 137 ∨ f = 138 ∨ f = 139 ∨ f = 140 ∨ f = 141 ∨ f = 142 := by
    intro f hf
    simpa [fnsL] using hf
  refine { left := fun f hf => ?_, right := fun f hf => ?_, hole := ?_, same := fun f hf => ?_, code := h3, tab := ?_, glob := ?_ }
  · rw [h1] at hf
    rcases key f hf with rfl | rfl | rfl | rfl | rfl | rfl | rfl | rfl | rfl | rfl | rfl | rfl | rfl | rfl | rfl | rfl | rfl | rfl | rfl | rfl | rfl | rfl | rfl | rfl | rfl | rfl | rfl | rfl | rfl | rfl | rfl | rfl | rfl | rfl | rfl | rfl | rfl | rfl | rfl | rfl | rfl | rfl | rfl | rfl | rfl | rfl | rfl | rfl | rfl | rfl | rfl | rfl | rfl | rfl | rfl | rfl | rfl | rfl | rfl | rfl | rfl | rfl | rfl | rfl | rfl | rfl | rfl | rfl | rfl | rfl | rfl | rfl | rfl | rfl
    · exact ⟨Tryz.f3, Tryz0.func3, by kernel_rfl, by kernel_rfl⟩
    · exact ⟨Tryz.f5, Tryz0.func5, by kernel_rfl, by kernel_rfl⟩
    · exact ⟨Tryz.f6, Tryz0.func6, by kernel_rfl, by kernel_rfl⟩
    · exact ⟨Tryz.f7, Tryz0.func7, by kernel_rfl, by kernel_rfl⟩
    · exact ⟨Tryz.f8, Tryz0.func8, by kernel_rfl, by kernel_rfl⟩
    · exact ⟨Tryz.f9, Tryz0.func9, by kernel_rfl, by kernel_rfl⟩
    · exact ⟨Tryz.f10, Tryz0.func10, by kernel_rfl, by kernel_rfl⟩
    · exact ⟨Tryz.f11, Tryz0.func11, by kernel_rfl, by kernel_rfl⟩
    · exact ⟨Tryz.f12, Tryz0.func12, by kernel_rfl, by kernel_rfl⟩
    · exact ⟨Tryz.f13, Tryz0.func13, by kernel_rfl, by kernel_rfl⟩
    · exact ⟨Tryz.f19, Tryz0.func19, by kernel_rfl, by kernel_rfl⟩
    · exact ⟨Tryz.f20, Tryz0.func20, by kernel_rfl, by kernel_rfl⟩
    · exact ⟨Tryz.f21, Tryz0.func21, by kernel_rfl, by kernel_rfl⟩
    · exact ⟨Tryz.f22, Tryz0.func22, by kernel_rfl, by kernel_rfl⟩
    · exact ⟨Tryz.f23, Tryz0.func23, by kernel_rfl, by kernel_rfl⟩
    · exact ⟨Tryz.f24, Tryz0.func24, by kernel_rfl, by kernel_rfl⟩
    · exact ⟨Tryz0.fn0, Tryz0.func25, by kernel_rfl, by kernel_rfl⟩
    · exact ⟨Tryz.f26, Tryz0.func26, by kernel_rfl, by kernel_rfl⟩
    · exact ⟨Tryz.f27, Tryz0.func27, by kernel_rfl, by kernel_rfl⟩
    · exact ⟨Tryz.f28, Tryz0.func28, by kernel_rfl, by kernel_rfl⟩
    · exact ⟨Tryz.f35, Tryz0.func35, by kernel_rfl, by kernel_rfl⟩
    · exact ⟨Tryz.f36, Tryz0.func36, by kernel_rfl, by kernel_rfl⟩
    · exact ⟨Tryz.f37, Tryz0.func37, by kernel_rfl, by kernel_rfl⟩
    · exact ⟨Tryz.f38, Tryz0.func38, by kernel_rfl, by kernel_rfl⟩
    · exact ⟨Tryz.f39, Tryz0.func39, by kernel_rfl, by kernel_rfl⟩
    · exact ⟨Tryz.f40, Tryz0.func40, by kernel_rfl, by kernel_rfl⟩
    · exact ⟨Tryz.f41, Tryz0.func41, by kernel_rfl, by kernel_rfl⟩
    · exact ⟨Tryz.f49, Tryz0.func49, by kernel_rfl, by kernel_rfl⟩
    · exact ⟨Tryz.f50, Tryz0.func50, by kernel_rfl, by kernel_rfl⟩
    · exact ⟨Tryz.f51, Tryz0.func51, by kernel_rfl, by kernel_rfl⟩
    · exact ⟨Tryz.f58, Tryz0.func58, by kernel_rfl, by kernel_rfl⟩
    · exact ⟨Tryz.f59, Tryz0.func59, by kernel_rfl, by kernel_rfl⟩
    · exact ⟨Tryz.f60, Tryz0.func60, by kernel_rfl, by kernel_rfl⟩
    · exact ⟨Tryz.f61, Tryz0.func61, by kernel_rfl, by kernel_rfl⟩
    · exact ⟨Tryz.f62, Tryz0.func62, by kernel_rfl, by kernel_rfl⟩
    · exact ⟨Tryz.f63, Tryz0.func63, by kernel_rfl, by kernel_rfl⟩
    · exact ⟨Tryz.f64, Tryz0.func64, by kernel_rfl, by kernel_rfl⟩
    · exact ⟨Tryz.f65, Tryz0.func65, by kernel_rfl, by kernel_rfl⟩
    · exact ⟨Tryz.f66, Tryz0.func66, by kernel_rfl, by kernel_rfl⟩
    · exact ⟨Tryz.f87, Tryz0.func87, by kernel_rfl, by kernel_rfl⟩
    · exact ⟨Tryz.f88, Tryz0.func88, by kernel_rfl, by kernel_rfl⟩
    · exact ⟨Tryz.f90, Tryz0.func90, by kernel_rfl, by kernel_rfl⟩
    · exact ⟨Tryz.f91, Tryz0.func91, by kernel_rfl, by kernel_rfl⟩
    · exact ⟨Tryz.f92, Tryz0.func92, by kernel_rfl, by kernel_rfl⟩
    · exact ⟨Tryz.f93, Tryz0.func93, by kernel_rfl, by kernel_rfl⟩
    · exact ⟨Tryz.f94, Tryz0.func94, by kernel_rfl, by kernel_rfl⟩
    · exact ⟨Tryz.f95, Tryz0.func95, by kernel_rfl, by kernel_rfl⟩
    · exact ⟨Tryz.f96, Tryz0.func96, by kernel_rfl, by kernel_rfl⟩
    · exact ⟨Tryz.f104, Tryz0.func104, by kernel_rfl, by kernel_rfl⟩
    · exact ⟨Tryz.f105, Tryz0.func105, by kernel_rfl, by kernel_rfl⟩
    · exact ⟨Tryz.f114, Tryz0.func114, by kernel_rfl, by kernel_rfl⟩
    · exact ⟨Tryz.f115, Tryz0.func115, by kernel_rfl, by kernel_rfl⟩
    · exact ⟨Tryz.f116, Tryz0.func116, by kernel_rfl, by kernel_rfl⟩
    · exact ⟨Tryz.f117, Tryz0.func117, by kernel_rfl, by kernel_rfl⟩
    · exact ⟨Tryz.f118, Tryz0.func118, by kernel_rfl, by kernel_rfl⟩
    · exact ⟨Tryz.f119, Tryz0.func119, by kernel_rfl, by kernel_rfl⟩
    · exact ⟨Tryz.f120, Tryz0.func120, by kernel_rfl, by kernel_rfl⟩
    · exact ⟨Tryz.f125, Tryz0.func125, by kernel_rfl, by kernel_rfl⟩
    · exact ⟨Tryz.f126, Tryz0.func126, by kernel_rfl, by kernel_rfl⟩
    · exact ⟨Tryz.f127, Tryz0.func127, by kernel_rfl, by kernel_rfl⟩
    · exact ⟨Tryz.f128, Tryz0.func128, by kernel_rfl, by kernel_rfl⟩
    · exact ⟨Tryz.f129, Tryz0.func129, by kernel_rfl, by kernel_rfl⟩
    · exact ⟨Tryz.f130, Tryz0.func130, by kernel_rfl, by kernel_rfl⟩
    · exact ⟨Tryz.f131, Tryz0.func131, by kernel_rfl, by kernel_rfl⟩
    · exact ⟨Tryz.f132, Tryz0.func132, by kernel_rfl, by kernel_rfl⟩
    · exact ⟨Tryz.f133, Tryz0.func133, by kernel_rfl, by kernel_rfl⟩
    · exact ⟨Tryz.f134, Tryz0.func134, by kernel_rfl, by kernel_rfl⟩
    · exact ⟨Tryz.f135, Tryz0.func135, by kernel_rfl, by kernel_rfl⟩
    · exact ⟨Tryz.f137, Tryz0.func137, by kernel_rfl, by kernel_rfl⟩
    · exact ⟨Tryz.f138, Tryz0.func138, by kernel_rfl, by kernel_rfl⟩
    · exact ⟨Tryz.f139, Tryz0.func139, by kernel_rfl, by kernel_rfl⟩
    · exact ⟨Tryz.f140, Tryz0.func140, by kernel_rfl, by kernel_rfl⟩
    · exact ⟨Tryz.f141, Tryz0.func141, by kernel_rfl, by kernel_rfl⟩
    · exact ⟨Tryz.f142, Tryz0.func142, by kernel_rfl, by kernel_rfl⟩
  · rw [h1] at hf
    rcases key f hf with rfl | rfl | rfl | rfl | rfl | rfl | rfl | rfl | rfl | rfl | rfl | rfl | rfl | rfl | rfl | rfl | rfl | rfl | rfl | rfl | rfl | rfl | rfl | rfl | rfl | rfl | rfl | rfl | rfl | rfl | rfl | rfl | rfl | rfl | rfl | rfl | rfl | rfl | rfl | rfl | rfl | rfl | rfl | rfl | rfl | rfl | rfl | rfl | rfl | rfl | rfl | rfl | rfl | rfl | rfl | rfl | rfl | rfl | rfl | rfl | rfl | rfl | rfl | rfl | rfl | rfl | rfl | rfl | rfl | rfl | rfl | rfl | rfl | rfl
    · exact ⟨Tryz.f3, Tryz.func3, by kernel_rfl, by kernel_rfl⟩
    · exact ⟨Tryz.f5, Tryz.func5, by kernel_rfl, by kernel_rfl⟩
    · exact ⟨Tryz.f6, Tryz.func6, by kernel_rfl, by kernel_rfl⟩
    · exact ⟨Tryz.f7, Tryz.func7, by kernel_rfl, by kernel_rfl⟩
    · exact ⟨Tryz.f8, Tryz.func8, by kernel_rfl, by kernel_rfl⟩
    · exact ⟨Tryz.f9, Tryz.func9, by kernel_rfl, by kernel_rfl⟩
    · exact ⟨Tryz.f10, Tryz.func10, by kernel_rfl, by kernel_rfl⟩
    · exact ⟨Tryz.f11, Tryz.func11, by kernel_rfl, by kernel_rfl⟩
    · exact ⟨Tryz.f12, Tryz.func12, by kernel_rfl, by kernel_rfl⟩
    · exact ⟨Tryz.f13, Tryz.func13, by kernel_rfl, by kernel_rfl⟩
    · exact ⟨Tryz.f19, Tryz.func19, by kernel_rfl, by kernel_rfl⟩
    · exact ⟨Tryz.f20, Tryz.func20, by kernel_rfl, by kernel_rfl⟩
    · exact ⟨Tryz.f21, Tryz.func21, by kernel_rfl, by kernel_rfl⟩
    · exact ⟨Tryz.f22, Tryz.func22, by kernel_rfl, by kernel_rfl⟩
    · exact ⟨Tryz.f23, Tryz.func23, by kernel_rfl, by kernel_rfl⟩
    · exact ⟨Tryz.f24, Tryz.func24, by kernel_rfl, by kernel_rfl⟩
    · exact ⟨Tryz.f25, Tryz.func25, by kernel_rfl, by kernel_rfl⟩
    · exact ⟨Tryz.f26, Tryz.func26, by kernel_rfl, by kernel_rfl⟩
    · exact ⟨Tryz.f27, Tryz.func27, by kernel_rfl, by kernel_rfl⟩
    · exact ⟨Tryz.f28, Tryz.func28, by kernel_rfl, by kernel_rfl⟩
    · exact ⟨Tryz.f35, Tryz.func35, by kernel_rfl, by kernel_rfl⟩
    · exact ⟨Tryz.f36, Tryz.func36, by kernel_rfl, by kernel_rfl⟩
    · exact ⟨Tryz.f37, Tryz.func37, by kernel_rfl, by kernel_rfl⟩
    · exact ⟨Tryz.f38, Tryz.func38, by kernel_rfl, by kernel_rfl⟩
    · exact ⟨Tryz.f39, Tryz.func39, by kernel_rfl, by kernel_rfl⟩
    · exact ⟨Tryz.f40, Tryz.func40, by kernel_rfl, by kernel_rfl⟩
    · exact ⟨Tryz.f41, Tryz.func41, by kernel_rfl, by kernel_rfl⟩
    · exact ⟨Tryz.f49, Tryz.func49, by kernel_rfl, by kernel_rfl⟩
    · exact ⟨Tryz.f50, Tryz.func50, by kernel_rfl, by kernel_rfl⟩
    · exact ⟨Tryz.f51, Tryz.func51, by kernel_rfl, by kernel_rfl⟩
    · exact ⟨Tryz.f58, Tryz.func58, by kernel_rfl, by kernel_rfl⟩
    · exact ⟨Tryz.f59, Tryz.func59, by kernel_rfl, by kernel_rfl⟩
    · exact ⟨Tryz.f60, Tryz.func60, by kernel_rfl, by kernel_rfl⟩
    · exact ⟨Tryz.f61, Tryz.func61, by kernel_rfl, by kernel_rfl⟩
    · exact ⟨Tryz.f62, Tryz.func62, by kernel_rfl, by kernel_rfl⟩
    · exact ⟨Tryz.f63, Tryz.func63, by kernel_rfl, by kernel_rfl⟩
    · exact ⟨Tryz.f64, Tryz.func64, by kernel_rfl, by kernel_rfl⟩
    · exact ⟨Tryz.f65, Tryz.func65, by kernel_rfl, by kernel_rfl⟩
    · exact ⟨Tryz.f66, Tryz.func66, by kernel_rfl, by kernel_rfl⟩
    · exact ⟨Tryz.f87, Tryz.func87, by kernel_rfl, by kernel_rfl⟩
    · exact ⟨Tryz.f88, Tryz.func88, by kernel_rfl, by kernel_rfl⟩
    · exact ⟨Tryz.f90, Tryz.func90, by kernel_rfl, by kernel_rfl⟩
    · exact ⟨Tryz.f91, Tryz.func91, by kernel_rfl, by kernel_rfl⟩
    · exact ⟨Tryz.f92, Tryz.func92, by kernel_rfl, by kernel_rfl⟩
    · exact ⟨Tryz.f93, Tryz.func93, by kernel_rfl, by kernel_rfl⟩
    · exact ⟨Tryz.f94, Tryz.func94, by kernel_rfl, by kernel_rfl⟩
    · exact ⟨Tryz.f95, Tryz.func95, by kernel_rfl, by kernel_rfl⟩
    · exact ⟨Tryz.f96, Tryz.func96, by kernel_rfl, by kernel_rfl⟩
    · exact ⟨Tryz.f104, Tryz.func104, by kernel_rfl, by kernel_rfl⟩
    · exact ⟨Tryz.f105, Tryz.func105, by kernel_rfl, by kernel_rfl⟩
    · exact ⟨Tryz.f114, Tryz.func114, by kernel_rfl, by kernel_rfl⟩
    · exact ⟨Tryz.f115, Tryz.func115, by kernel_rfl, by kernel_rfl⟩
    · exact ⟨Tryz.f116, Tryz.func116, by kernel_rfl, by kernel_rfl⟩
    · exact ⟨Tryz.f117, Tryz.func117, by kernel_rfl, by kernel_rfl⟩
    · exact ⟨Tryz.f118, Tryz.func118, by kernel_rfl, by kernel_rfl⟩
    · exact ⟨Tryz.f119, Tryz.func119, by kernel_rfl, by kernel_rfl⟩
    · exact ⟨Tryz.f120, Tryz.func120, by kernel_rfl, by kernel_rfl⟩
    · exact ⟨Tryz.f125, Tryz.func125, by kernel_rfl, by kernel_rfl⟩
    · exact ⟨Tryz.f126, Tryz.func126, by kernel_rfl, by kernel_rfl⟩
    · exact ⟨Tryz.f127, Tryz.func127, by kernel_rfl, by kernel_rfl⟩
    · exact ⟨Tryz.f128, Tryz.func128, by kernel_rfl, by kernel_rfl⟩
    · exact ⟨Tryz.f129, Tryz.func129, by kernel_rfl, by kernel_rfl⟩
    · exact ⟨Tryz.f130, Tryz.func130, by kernel_rfl, by kernel_rfl⟩
    · exact ⟨Tryz.f131, Tryz.func131, by kernel_rfl, by kernel_rfl⟩
    · exact ⟨Tryz.f132, Tryz.func132, by kernel_rfl, by kernel_rfl⟩
    · exact ⟨Tryz.f133, Tryz.func133, by kernel_rfl, by kernel_rfl⟩
    · exact ⟨Tryz.f134, Tryz.func134, by kernel_rfl, by kernel_rfl⟩
    · exact ⟨Tryz.f135, Tryz.func135, by kernel_rfl, by kernel_rfl⟩
    · exact ⟨Tryz.f137, Tryz.func137, by kernel_rfl, by kernel_rfl⟩
    · exact ⟨Tryz.f138, Tryz.func138, by kernel_rfl, by kernel_rfl⟩
    · exact ⟨Tryz.f139, Tryz.func139, by kernel_rfl, by kernel_rfl⟩
    · exact ⟨Tryz.f140, Tryz.func140, by kernel_rfl, by kernel_rfl⟩
    · exact ⟨Tryz.f141, Tryz.func141, by kernel_rfl, by kernel_rfl⟩
    · exact ⟨Tryz.f142, Tryz.func142, by kernel_rfl, by kernel_rfl⟩
  · kernel_rfl
  · obtain ⟨hc, hne⟩ := h2 f hf
    rw [hfn]
    rcases key f hc with rfl | rfl | rfl | rfl | rfl | rfl | rfl | rfl | rfl | rfl | rfl | rfl | rfl | rfl | rfl | rfl | rfl | rfl | rfl | rfl | rfl | rfl | rfl | rfl | rfl | rfl | rfl | rfl | rfl | rfl | rfl | rfl | rfl | rfl | rfl | rfl | rfl | rfl | rfl | rfl | rfl | rfl | rfl | rfl | rfl | rfl | rfl | rfl | rfl | rfl | rfl | rfl | rfl | rfl | rfl | rfl | rfl | rfl | rfl | rfl | rfl | rfl | rfl | rfl | rfl | rfl | rfl | rfl | rfl | rfl | rfl | rfl | rfl | rfl
    · exact ⟨Tryz.f3, Tryz.f3.body.getD .skip, Tryz0.func3, Tryz.func3, by kernel_rfl, cL_3⟩
    · exact ⟨Tryz.f5, Tryz.f5.body.getD .skip, Tryz0.func5, Tryz.func5, by kernel_rfl, cL_5⟩
    · exact ⟨Tryz.f6, Tryz.f6.body.getD .skip, Tryz0.func6, Tryz.func6, by kernel_rfl, cL_6⟩
    · exact ⟨Tryz.f7, Tryz.f7.body.getD .skip, Tryz0.func7, Tryz.func7, by kernel_rfl, cL_7⟩
    · exact ⟨Tryz.f8, Tryz.f8.body.getD .skip, Tryz0.func8, Tryz.func8, by kernel_rfl, cL_8⟩
    · exact ⟨Tryz.f9, Tryz.f9.body.getD .skip, Tryz0.func9, Tryz.func9, by kernel_rfl, cL_9⟩
    · exact ⟨Tryz.f10, Tryz.f10.body.getD .skip, Tryz0.func10, Tryz.func10, by kernel_rfl, cL_10⟩
    · exact ⟨Tryz.f11, Tryz.f11.body.getD .skip, Tryz0.func11, Tryz.func11, by kernel_rfl, cL_11⟩
    · exact ⟨Tryz.f12, Tryz.f12.body.getD .skip, Tryz0.func12, Tryz.func12, by kernel_rfl, cL_12⟩
    · exact ⟨Tryz.f13, Tryz.f13.body.getD .skip, Tryz0.func13, Tryz.func13, by kernel_rfl, cL_13⟩
    · exact ⟨Tryz.f19, Tryz.f19.body.getD .skip, Tryz0.func19, Tryz.func19, by kernel_rfl, cL_19⟩
    · exact ⟨Tryz.f20, Tryz.f20.body.getD .skip, Tryz0.func20, Tryz.func20, by kernel_rfl, cL_20⟩
    · exact ⟨Tryz.f21, Tryz.f21.body.getD .skip, Tryz0.func21, Tryz.func21, by kernel_rfl, cL_21⟩
    · exact ⟨Tryz.f22, Tryz.f22.body.getD .skip, Tryz0.func22, Tryz.func22, by kernel_rfl, cL_22⟩
    · exact ⟨Tryz.f23, Tryz.f23.body.getD .skip, Tryz0.func23, Tryz.func23, by kernel_rfl, cL_23⟩
    · exact ⟨Tryz.f24, Tryz.f24.body.getD .skip, Tryz0.func24, Tryz.func24, by kernel_rfl, cL_24⟩
    · exact absurd rfl hne
    · exact ⟨Tryz.f26, Tryz.f26.body.getD .skip, Tryz0.func26, Tryz.func26, by kernel_rfl, cL_26⟩
    · exact ⟨Tryz.f27, Tryz.f27.body.getD .skip, Tryz0.func27, Tryz.func27, by kernel_rfl, cL_27⟩
    · exact ⟨Tryz.f28, Tryz.f28.body.getD .skip, Tryz0.func28, Tryz.func28, by kernel_rfl, cL_28⟩
    · exact ⟨Tryz.f35, Tryz.f35.body.getD .skip, Tryz0.func35, Tryz.func35, by kernel_rfl, cL_35⟩
    · exact ⟨Tryz.f36, Tryz.f36.body.getD .skip, Tryz0.func36, Tryz.func36, by kernel_rfl, cL_36⟩
    · exact ⟨Tryz.f37, Tryz.f37.body.getD .skip, Tryz0.func37, Tryz.func37, by kernel_rfl, cL_37⟩
    · exact ⟨Tryz.f38, Tryz.f38.body.getD .skip, Tryz0.func38, Tryz.func38, by kernel_rfl, cL_38⟩
    · exact ⟨Tryz.f39, Tryz.f39.body.getD .skip, Tryz0.func39, Tryz.func39, by kernel_rfl, cL_39⟩
    · exact ⟨Tryz.f40, Tryz.f40.body.getD .skip, Tryz0.func40, Tryz.func40, by kernel_rfl, cL_40⟩
    · exact ⟨Tryz.f41, Tryz.f41.body.getD .skip, Tryz0.func41, Tryz.func41, by kernel_rfl, cL_41⟩
    · exact ⟨Tryz.f49, Tryz.f49.body.getD .skip, Tryz0.func49, Tryz.func49, by kernel_rfl, cL_49⟩
    · exact ⟨Tryz.f50, Tryz.f50.body.getD .skip, Tryz0.func50, Tryz.func50, by kernel_rfl, cL_50⟩
    · exact ⟨Tryz.f51, Tryz.f51.body.getD .skip, Tryz0.func51, Tryz.func51, by kernel_rfl, cL_51⟩
    · exact ⟨Tryz.f58, Tryz.f58.body.getD .skip, Tryz0.func58, Tryz.func58, by kernel_rfl, cL_58⟩
    · exact ⟨Tryz.f59, Tryz.f59.body.getD .skip, Tryz0.func59, Tryz.func59, by kernel_rfl, cL_59⟩
    · exact ⟨Tryz.f60, Tryz.f60.body.getD .skip, Tryz0.func60, Tryz.func60, by kernel_rfl, cL_60⟩
    · exact ⟨Tryz.f61, Tryz.f61.body.getD .skip, Tryz0.func61, Tryz.func61, by kernel_rfl, cL_61⟩
    · exact ⟨Tryz.f62, Tryz.f62.body.getD .skip, Tryz0.func62, Tryz.func62, by kernel_rfl, cL_62⟩
    · exact ⟨Tryz.f63, Tryz.f63.body.getD .skip, Tryz0.func63, Tryz.func63, by kernel_rfl, cL_63⟩
    · exact ⟨Tryz.f64, Tryz.f64.body.getD .skip, Tryz0.func64, Tryz.func64, by kernel_rfl, cL_64⟩
    · exact ⟨Tryz.f65, Tryz.f65.body.getD .skip, Tryz0.func65, Tryz.func65, by kernel_rfl, cL_65⟩
    · exact ⟨Tryz.f66, Tryz.f66.body.getD .skip, Tryz0.func66, Tryz.func66, by kernel_rfl, cL_66⟩
    · exact ⟨Tryz.f87, Tryz.f87.body.getD .skip, Tryz0.func87, Tryz.func87, by kernel_rfl, cL_87⟩
    · exact ⟨Tryz.f88, Tryz.f88.body.getD .skip, Tryz0.func88, Tryz.func88, by kernel_rfl, cL_88⟩
    · exact ⟨Tryz.f90, Tryz.f90.body.getD .skip, Tryz0.func90, Tryz.func90, by kernel_rfl, cL_90⟩
    · exact ⟨Tryz.f91, Tryz.f91.body.getD .skip, Tryz0.func91, Tryz.func91, by kernel_rfl, cL_91⟩
    · exact ⟨Tryz.f92, Tryz.f92.body.getD .skip, Tryz0.func92, Tryz.func92, by kernel_rfl, cL_92⟩
    · exact ⟨Tryz.f93, Tryz.f93.body.getD .skip, Tryz0.func93, Tryz.func93, by kernel_rfl, cL_93⟩
    · exact ⟨Tryz.f94, Tryz.f94.body.getD .skip, Tryz0.func94, Tryz.func94, by kernel_rfl, cL_94⟩
    · exact ⟨Tryz.f95, Tryz.f95.body.getD .skip, Tryz0.func95, Tryz.func95, by kernel_rfl, cL_95⟩
    · exact ⟨Tryz.f96, Tryz.f96.body.getD .skip, Tryz0.func96, Tryz.func96, by kernel_rfl, cL_96⟩
    · exact ⟨Tryz.f104, Tryz.f104.body.getD .skip, Tryz0.func104, Tryz.func104, by kernel_rfl, cL_104⟩
    · exact ⟨Tryz.f105, Tryz.f105.body.getD .skip, Tryz0.func105, Tryz.func105, by kernel_rfl, cL_105⟩
    · exact ⟨Tryz.f114, Tryz.f114.body.getD .skip, Tryz0.func114, Tryz.func114, by kernel_rfl, cL_114⟩
    · exact ⟨Tryz.f115, Tryz.f115.body.getD .skip, Tryz0.func115, Tryz.func115, by kernel_rfl, cL_115⟩
    · exact ⟨Tryz.f116, Tryz.f116.body.getD .skip, Tryz0.func116, Tryz.func116, by kernel_rfl, cL_116⟩
    · exact ⟨Tryz.f117, Tryz.f117.body.getD .skip, Tryz0.func117, Tryz.func117, by kernel_rfl, cL_117⟩
    · exact ⟨Tryz.f118, Tryz.f118.body.getD .skip, Tryz0.func118, Tryz.func118, by kernel_rfl, cL_118⟩
    · exact ⟨Tryz.f119, Tryz.f119.body.getD .skip, Tryz0.func119, Tryz.func119, by kernel_rfl, cL_119⟩
    · exact ⟨Tryz.f120, Tryz.f120.body.getD .skip, Tryz0.func120, Tryz.func120, by kernel_rfl, cL_120⟩
    · exact ⟨Tryz.f125, Tryz.f125.body.getD .skip, Tryz0.func125, Tryz.func125, by kernel_rfl, cL_125⟩
    · exact ⟨Tryz.f126, Tryz.f126.body.getD .skip, Tryz0.func126, Tryz.func126, by kernel_rfl, cL_126⟩
    · exact ⟨Tryz.f127, Tryz.f127.body.getD .skip, Tryz0.func127, Tryz.func127, by kernel_rfl, cL_127⟩
    · exact ⟨Tryz.f128, Tryz.f128.body.getD .skip, Tryz0.func128, Tryz.func128, by kernel_rfl, cL_128⟩
    · exact ⟨Tryz.f129, Tryz.f129.body.getD .skip, Tryz0.func129, Tryz.func129, by kernel_rfl, cL_129⟩
    · exact ⟨Tryz.f130, Tryz.f130.body.getD .skip, Tryz0.func130, Tryz.func130, by kernel_rfl, cL_130⟩
    · exact ⟨Tryz.f131, Tryz.f131.body.getD .skip, Tryz0.func131, Tryz.func131, by kernel_rfl, cL_131⟩
    · exact ⟨Tryz.f132, Tryz.f132.body.getD .skip, Tryz0.func132, Tryz.func132, by kernel_rfl, cL_132⟩
    · exact ⟨Tryz.f133, Tryz.f133.body.getD .skip, Tryz0.func133, Tryz.func133, by kernel_rfl, cL_133⟩
    · exact ⟨Tryz.f134, Tryz.f134.body.getD .skip, Tryz0.func134, Tryz.func134, by kernel_rfl, cL_134⟩
    · exact ⟨Tryz.f135, Tryz.f135.body.getD .skip, Tryz0.func135, Tryz.func135, by kernel_rfl, cL_135⟩
    · exact ⟨Tryz.f137, Tryz.f137.body.getD .skip, Tryz0.func137, Tryz.func137, by kernel_rfl, cL_137⟩
    · exact ⟨Tryz.f138, Tryz.f138.body.getD .skip, Tryz0.func138, Tryz.func138, by kernel_rfl, cL_138⟩
    · exact ⟨Tryz.f139, Tryz.f139.body.getD .skip, Tryz0.func139, Tryz.func139, by kernel_rfl, cL_139⟩
    · exact ⟨Tryz.f140, Tryz.f140.body.getD .skip, Tryz0.func140, Tryz.func140, by kernel_rfl, cL_140⟩
    · exact ⟨Tryz.f141, Tryz.f141.body.getD .skip, Tryz0.func141, Tryz.func141, by kernel_rfl, cL_141⟩
    · exact ⟨Tryz.f142, Tryz.f142.body.getD .skip, Tryz0.func142, Tryz.func142, by kernel_rfl, cL_142⟩
  · first | rfl | kernel_rfl
  · kernel_rfl
set_option maxHeartbeats 4000000 in
set_option maxRecDepth 100000 in
theorem pairW0 {ok : Ctx} (h1 : ∀ f, ok.fn f = fnsW.contains f) (h2 : ∀ f, ok.inn f = true → fnsW.contains f = true) (h3 : ∀ c, ok.code c = codeOk Tryz.prog ok.fn c) : @Pair gl0 Tryz0.prog Tryz0.prog ok := by
  letI := gl0
  have hfn : ok.fn = fun f => fnsW.contains f := funext h1
  have key : ∀ f, fnsW.contains f = true → f = 47 ∨ f = 48 ∨ f = 64 ∨ f = 81 ∨ f = 87 ∨ f = 88 ∨ f = 89 ∨ f = 111 ∨ f = 112 ∨ f = 114 ∨ f = 122 ∨ f = 123 ∨ f = 124 ∨ f = 136 := by
    intro f hf
    simpa [fnsW] using hf
  refine { left := fun f hf => ?_, right := fun f hf => ?_, hole := ?_, same := fun f hf => ?_, code := fun c => (h3 c).trans (codeOk0 ok.fn c).symm, tab := ?_, glob := ?_ }
  · rw [h1] at hf
    rcases key f hf with rfl | rfl | rfl | rfl | rfl | rfl | rfl | rfl | rfl | rfl | rfl | rfl | rfl | rfl
    · exact ⟨Tryz.f47, Tryz0.func47, by kernel_rfl, by kernel_rfl⟩
    · exact ⟨Tryz.f48, Tryz0.func48, by kernel_rfl, by kernel_rfl⟩
    · exact ⟨Tryz.f64, Tryz0.func64, by kernel_rfl, by kernel_rfl⟩
    · exact ⟨Tryz.f81, Tryz0.func81, by kernel_rfl, by kernel_rfl⟩
    · exact ⟨Tryz.f87, Tryz0.func87, by kernel_rfl, by kernel_rfl⟩
    · exact ⟨Tryz.f88, Tryz0.func88, by kernel_rfl, by kernel_rfl⟩
    · exact ⟨Tryz.f89, Tryz0.func89, by kernel_rfl, by kernel_rfl⟩
    · exact ⟨Tryz.f111, Tryz0.func111, by kernel_rfl, by kernel_rfl⟩
    · exact ⟨Tryz.f112, Tryz0.func112, by kernel_rfl, by kernel_rfl⟩
    · exact ⟨Tryz.f114, Tryz0.func114, by kernel_rfl, by kernel_rfl⟩
    · exact ⟨Tryz.f122, Tryz0.func122, by kernel_rfl, by kernel_rfl⟩
    · exact ⟨Tryz.f123, Tryz0.func123, by kernel_rfl, by kernel_rfl⟩
    · exact ⟨Tryz.f124, Tryz0.func124, by kernel_rfl, by kernel_rfl⟩
    · exact ⟨Tryz.f136, Tryz0.func136, by kernel_rfl, by kernel_rfl⟩
  · rw [h1] at hf
    rcases key f hf with rfl | rfl | rfl | rfl | rfl | rfl | rfl | rfl | rfl | rfl | rfl | rfl | rfl | rfl
    · exact ⟨Tryz.f47, Tryz0.func47, by kernel_rfl, by kernel_rfl⟩
    · exact ⟨Tryz.f48, Tryz0.func48, by kernel_rfl, by kernel_rfl⟩
    · exact ⟨Tryz.f64, Tryz0.func64, by kernel_rfl, by kernel_rfl⟩
    · exact ⟨Tryz.f81, Tryz0.func81, by kernel_rfl, by kernel_rfl⟩
    · exact ⟨Tryz.f87, Tryz0.func87, by kernel_rfl, by kernel_rfl⟩
    · exact ⟨Tryz.f88, Tryz0.func88, by kernel_rfl, by kernel_rfl⟩
    · exact ⟨Tryz.f89, Tryz0.func89, by kernel_rfl, by kernel_rfl⟩
    · exact ⟨Tryz.f111, Tryz0.func111, by kernel_rfl, by kernel_rfl⟩
    · exact ⟨Tryz.f112, Tryz0.func112, by kernel_rfl, by kernel_rfl⟩
    · exact ⟨Tryz.f114, Tryz0.func114, by kernel_rfl, by kernel_rfl⟩
    · exact ⟨Tryz.f122, Tryz0.func122, by kernel_rfl, by kernel_rfl⟩
    · exact ⟨Tryz.f123, Tryz0.func123, by kernel_rfl, by kernel_rfl⟩
    · exact ⟨Tryz.f124, Tryz0.func124, by kernel_rfl, by kernel_rfl⟩
    · exact ⟨Tryz.f136, Tryz0.func136, by kernel_rfl, by kernel_rfl⟩
  · kernel_rfl
  · have hc := h2 f hf
    rw [hfn]
    rcases key f hc with rfl | rfl | rfl | rfl | rfl | rfl | rfl | rfl | rfl | rfl | rfl | rfl | rfl | rfl
    · exact ⟨Tryz.f47, Tryz.f47.body.getD .skip, Tryz0.func47, Tryz0.func47, by kernel_rfl, (codeOk0 _ _).trans cW_47⟩
    · exact ⟨Tryz.f48, Tryz.f48.body.getD .skip, Tryz0.func48, Tryz0.func48, by kernel_rfl, (codeOk0 _ _).trans cW_48⟩
    · exact ⟨Tryz.f64, Tryz.f64.body.getD .skip, Tryz0.func64, Tryz0.func64, by kernel_rfl, (codeOk0 _ _).trans cW_64⟩
    · exact ⟨Tryz.f81, Tryz.f81.body.getD .skip, Tryz0.func81, Tryz0.func81, by kernel_rfl, (codeOk0 _ _).trans cW_81⟩
    · exact ⟨Tryz.f87, Tryz.f87.body.getD .skip, Tryz0.func87, Tryz0.func87, by kernel_rfl, (codeOk0 _ _).trans cW_87⟩
    · exact ⟨Tryz.f88, Tryz.f88.body.getD .skip, Tryz0.func88, Tryz0.func88, by kernel_rfl, (codeOk0 _ _).trans cW_88⟩
    · exact ⟨Tryz.f89, Tryz.f89.body.getD .skip, Tryz0.func89, Tryz0.func89, by kernel_rfl, (codeOk0 _ _).trans cW_89⟩
    · exact ⟨Tryz.f111, Tryz.f111.body.getD .skip, Tryz0.func111, Tryz0.func111, by kernel_rfl, (codeOk0 _ _).trans cW_111⟩
    · exact ⟨Tryz.f112, Tryz.f112.body.getD .skip, Tryz0.func112, Tryz0.func112, by kernel_rfl, (codeOk0 _ _).trans cW_112⟩
    · exact ⟨Tryz.f114, Tryz.f114.body.getD .skip, Tryz0.func114, Tryz0.func114, by kernel_rfl, (codeOk0 _ _).trans cW_114⟩
    · exact ⟨Tryz.f122, Tryz.f122.body.getD .skip, Tryz0.func122, Tryz0.func122, by kernel_rfl, (codeOk0 _ _).trans cW_122⟩
    · exact ⟨Tryz.f123, Tryz.f123.body.getD .skip, Tryz0.func123, Tryz0.func123, by kernel_rfl, (codeOk0 _ _).trans cW_123⟩
    · exact ⟨Tryz.f124, Tryz.f124.body.getD .skip, Tryz0.func124, Tryz0.func124, by kernel_rfl, (codeOk0 _ _).trans cW_124⟩
    · exact ⟨Tryz.f136, Tryz.f136.body.getD .skip, Tryz0.func136, Tryz0.func136, by kernel_rfl, (codeOk0 _ _).trans cW_136⟩
  · first | rfl | kernel_rfl
  · kernel_rfl
set_option maxHeartbeats 4000000 in
set_option maxRecDepth 100000 in
theorem pairW {ok : Ctx} (h1 : ∀ f, ok.fn f = fnsW.contains f) (h2 : ∀ f, ok.inn f = true → fnsW.contains f = true) (h3 : ∀ c, ok.code c = codeOk Tryz.prog ok.fn c) : @Pair gl0 Tryz0.prog Tryz.prog ok := by
  letI := gl0
  have hfn : ok.fn = fun f => fnsW.contains f := funext h1
  have key : ∀ f, fnsW.contains f = true → f = 47 ∨ f = 48 ∨ f = 64 ∨ f = 81 ∨ f = 87 ∨ f = 88 ∨ f = 89 ∨ f = 111 ∨ f = 112 ∨ f = 114 ∨ f = 122 ∨ f = 123 ∨ f = 124 ∨ f = 136 := by
    intro f hf
    simpa [fnsW] using hf
  refine { left := fun f hf => ?_, right := fun f hf => ?_, hole := ?_, same := fun f hf => ?_, code := h3, tab := ?_, glob := ?_ }
  · rw [h1] at hf
    rcases key f hf with rfl | rfl | rfl | rfl | rfl | rfl | rfl | rfl | rfl | rfl | rfl | rfl | rfl | rfl
    · exact ⟨Tryz.f47, Tryz0.func47, by kernel_rfl, by kernel_rfl⟩
    · exact ⟨Tryz.f48, Tryz0.func48, by kernel_rfl, by kernel_rfl⟩
    · exact ⟨Tryz.f64, Tryz0.func64, by kernel_rfl, by kernel_rfl⟩
    · exact ⟨Tryz.f81, Tryz0.func81, by kernel_rfl, by kernel_rfl⟩
    · exact ⟨Tryz.f87, Tryz0.func87, by kernel_rfl, by kernel_rfl⟩
    · exact ⟨Tryz.f88, Tryz0.func88, by kernel_rfl, by kernel_rfl⟩
    · exact ⟨Tryz.f89, Tryz0.func89, by kernel_rfl, by kernel_rfl⟩
    · exact ⟨Tryz.f111, Tryz0.func111, by kernel_rfl, by kernel_rfl⟩
    · exact ⟨Tryz.f112, Tryz0.func112, by kernel_rfl, by kernel_rfl⟩
    · exact ⟨Tryz.f114, Tryz0.func114, by kernel_rfl, by kernel_rfl⟩
    · exact ⟨Tryz.f122, Tryz0.func122, by kernel_rfl, by kernel_rfl⟩
    · exact ⟨Tryz.f123, Tryz0.func123, by kernel_rfl, by kernel_rfl⟩
    · exact ⟨Tryz.f124, Tryz0.func124, by kernel_rfl, by kernel_rfl⟩
    · exact ⟨Tryz.f136, Tryz0.func136, by kernel_rfl, by kernel_rfl⟩
  · rw [h1] at hf
    rcases key f hf with rfl | rfl | rfl | rfl | rfl | rfl | rfl | rfl | rfl | rfl | rfl | rfl | rfl | rfl
    · exact ⟨Tryz.f47, Tryz.func47, by kernel_rfl, by kernel_rfl⟩
    · exact ⟨Tryz.f48, Tryz.func48, by kernel_rfl, by kernel_rfl⟩
    · exact ⟨Tryz.f64, Tryz.func64, by kernel_rfl, by kernel_rfl⟩
    · exact ⟨Tryz.f81, Tryz.func81, by kernel_rfl, by kernel_rfl⟩
    · exact ⟨Tryz.f87, Tryz.func87, by kernel_rfl, by kernel_rfl⟩
    · exact ⟨Tryz.f88, Tryz.func88, by kernel_rfl, by kernel_rfl⟩
    · exact ⟨Tryz.f89, Tryz.func89, by kernel_rfl, by kernel_rfl⟩
    · exact ⟨Tryz.f111, Tryz.func111, by kernel_rfl, by kernel_rfl⟩
    · exact ⟨Tryz.f112, Tryz.func112, by kernel_rfl, by kernel_rfl⟩
    · exact ⟨Tryz.f114, Tryz.func114, by kernel_rfl, by kernel_rfl⟩
    · exact ⟨Tryz.f122, Tryz.func122, by kernel_rfl, by kernel_rfl⟩
    · exact ⟨Tryz.f123, Tryz.func123, by kernel_rfl, by kernel_rfl⟩
    · exact ⟨Tryz.f124, Tryz.func124, by kernel_rfl, by kernel_rfl⟩
    · exact ⟨Tryz.f136, Tryz.func136, by kernel_rfl, by kernel_rfl⟩
  · kernel_rfl
  · have hc := h2 f hf
    rw [hfn]
    rcases key f hc with rfl | rfl | rfl | rfl | rfl | rfl | rfl | rfl | rfl | rfl | rfl | rfl | rfl | rfl
    · exact ⟨Tryz.f47, Tryz.f47.body.getD .skip, Tryz0.func47, Tryz.func47, by kernel_rfl, cW_47⟩
    · exact ⟨Tryz.f48, Tryz.f48.body.getD .skip, Tryz0.func48, Tryz.func48, by kernel_rfl, cW_48⟩
    · exact ⟨Tryz.f64, Tryz.f64.body.getD .skip, Tryz0.func64, Tryz.func64, by kernel_rfl, cW_64⟩
    · exact ⟨Tryz.f81, Tryz.f81.body.getD .skip, Tryz0.func81, Tryz.func81, by kernel_rfl, cW_81⟩
    · exact ⟨Tryz.f87, Tryz.f87.body.getD .skip, Tryz0.func87, Tryz.func87, by kernel_rfl, cW_87⟩
    · exact ⟨Tryz.f88, Tryz.f88.body.getD .skip, Tryz0.func88, Tryz.func88, by kernel_rfl, cW_88⟩
    · exact ⟨Tryz.f89, Tryz.f89.body.getD .skip, Tryz0.func89, Tryz.func89, by kernel_rfl, cW_89⟩
    · exact ⟨Tryz.f111, Tryz.f111.body.getD .skip, Tryz0.func111, Tryz.func111, by kernel_rfl, cW_111⟩
    · exact ⟨Tryz.f112, Tryz.f112.body.getD .skip, Tryz0.func112, Tryz.func112, by kernel_rfl, cW_112⟩
    · exact ⟨Tryz.f114, Tryz.f114.body.getD .skip, Tryz0.func114, Tryz.func114, by kernel_rfl, cW_114⟩
    · exact ⟨Tryz.f122, Tryz.f122.body.getD .skip, Tryz0.func122, Tryz.func122, by kernel_rfl, cW_122⟩
    · exact ⟨Tryz.f123, Tryz.f123.body.getD .skip, Tryz0.func123, Tryz.func123, by kernel_rfl, cW_123⟩
    · exact ⟨Tryz.f124, Tryz.f124.body.getD .skip, Tryz0.func124, Tryz.func124, by kernel_rfl, cW_124⟩
    · exact ⟨Tryz.f136, Tryz.f136.body.getD .skip, Tryz0.func136, Tryz.func136, by kernel_rfl, cW_136⟩
  · first | rfl | kernel_rfl
  · kernel_rfl
end Go.Proofs.YtlmcblcijndipabGreat
