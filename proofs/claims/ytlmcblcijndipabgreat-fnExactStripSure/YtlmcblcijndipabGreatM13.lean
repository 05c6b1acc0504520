/- Texts of the proof, one behind another: Z0. -/
import Derived.Test.YtlmcblcijndipabGreatChecked
import Derived.WalkKit
namespace Go.Proofs.Tryz0
open Go
def body0 : Code := .refuse ""
noncomputable def fn0 : Func := { Tryz.f25 with body := some body0 }
noncomputable def prog : Program := { Tryz.prog with funcs := Tryz.prog.funcs.setIfInBounds 25 fn0 }
section
variable (P : Program) (fs : Array Func) (t : TypeId) (w : World)
theorem g_un : Program.underlying { P with funcs := fs } t = P.underlying t := rfl
theorem g_el : Program.elem { P with funcs := fs } t = P.elem t := rfl
theorem g_al : Program.arrayLen { P with funcs := fs } t = P.arrayLen t := rfl
theorem g_ru : Sem.run { P with funcs := fs } (underlying t) w = Sem.run P (underlying t) w := by
  unfold underlying
  show Sem.run _ (match Program.underlying { P with funcs := fs } t with | some d => pure d | none => _) w = Sem.run _ (match P.underlying t with | some d => pure d | none => _) w
  rw [g_un]
  cases P.underlying t <;> rfl
theorem g_ti : Sem.run { P with funcs := fs } (typeInfo t) w = Sem.run P (typeInfo t) w := by
  unfold typeInfo
  show Sem.run _ (match P.toTables.info? t with | some d => pure d | none => _) w = Sem.run _ (match P.toTables.info? t with | some d => pure d | none => _) w
  cases P.toTables.info? t <;> rfl
omit P fs t w in
theorem andThen_congr {α β : Type} (r : Result α) {k k' : α → World → Result β} (h : ∀ a w, k a w = k' a w) : r.andThen k = r.andThen k' := by
  cases r with
  | ok a w => exact h a w
  | halt _ _ => rfl
omit P fs t w in
theorem run_pure2 {α : Type} (P P' : Program) (a : α) (w : World) : Sem.run P (pure a : Sem α) w = Sem.run P' (pure a : Sem α) w := rfl
omit P fs t w in
theorem run_uns {α : Type} (P P' : Program) (u : Unsupported) (w : World) : Sem.run P (unsupported u : Sem α) w = Sem.run P' (unsupported u : Sem α) w := rfl
theorem g_so : Sem.run { P with funcs := fs } (sizeOf t) w = Sem.run P (sizeOf t) w := by
  unfold sizeOf
  rw [Sem.run_bind, Sem.run_bind, g_ti P fs]
  exact andThen_congr _ fun d w' => run_pure2 _ _ _ _
theorem g_ia : Sem.run { P with funcs := fs } (isAgg t) w = Sem.run P (isAgg t) w := by
  unfold isAgg
  rw [Sem.run_bind, Sem.run_bind, g_ru P fs]
  refine andThen_congr _ fun d w' => ?_
  cases d <;> exact run_pure2 _ _ _ _
theorem g_zv : Sem.run { P with funcs := fs } (zeroValue t) w = Sem.run P (zeroValue t) w := by
  unfold zeroValue
  rw [Sem.run_bind, Sem.run_bind, g_ti P fs]
  refine andThen_congr _ fun d w' => ?_
  obtain ⟨z, hz⟩ : ∃ z, d.zero = z := ⟨_, rfl⟩
  rw [hz]
  cases z with
  | some v => exact run_pure2 _ _ _ _
  | none => exact run_uns _ _ _ _
theorem g_call {f : FuncId} {fn : Func} {c : Code} (hf : P.funcs[f]? = some fn) (hn : (fn.name == "runtime.NumGoroutine") = false) (hb : fn.body = some c) (args : Array Value) : Sem.run P (callFunc f args) w = .ok (.enter f args) w := by
  have h1 : fn.name ≠ "runtime.NumGoroutine" := by simpa using hn
  simp [callFunc, hf, h1, hb]
end
@[go_sem] theorem un0 (t : TypeId) : prog.underlying t = Tryz.prog.underlying t := g_un Tryz.prog (Tryz.prog.funcs.setIfInBounds 25 fn0) t
@[go_sem] theorem el0 (t : TypeId) : prog.elem t = Tryz.prog.elem t := g_el Tryz.prog (Tryz.prog.funcs.setIfInBounds 25 fn0) t
@[go_sem] theorem al0 (t : TypeId) : prog.arrayLen t = Tryz.prog.arrayLen t := g_al Tryz.prog (Tryz.prog.funcs.setIfInBounds 25 fn0) t
@[go_sem] theorem ru0 (t : TypeId) (w : World) : Sem.run prog (underlying t) w = Sem.run Tryz.prog (underlying t) w := g_ru Tryz.prog (Tryz.prog.funcs.setIfInBounds 25 fn0) t w
@[go_sem] theorem ti0 (t : TypeId) (w : World) : Sem.run prog (typeInfo t) w = Sem.run Tryz.prog (typeInfo t) w := g_ti Tryz.prog (Tryz.prog.funcs.setIfInBounds 25 fn0) t w
@[go_sem] theorem so0 (t : TypeId) (w : World) : Sem.run prog (sizeOf t) w = Sem.run Tryz.prog (sizeOf t) w := g_so Tryz.prog (Tryz.prog.funcs.setIfInBounds 25 fn0) t w
@[go_sem] theorem ia0 (t : TypeId) (w : World) : Sem.run prog (isAgg t) w = Sem.run Tryz.prog (isAgg t) w := g_ia Tryz.prog (Tryz.prog.funcs.setIfInBounds 25 fn0) t w
@[go_sem] theorem zv0 (t : TypeId) (w : World) : Sem.run prog (zeroValue t) w = Sem.run Tryz.prog (zeroValue t) w := g_zv Tryz.prog (Tryz.prog.funcs.setIfInBounds 25 fn0) t w
theorem tr_underlying {t : TypeId} {d : Option TypeDesc} (h : Tryz.prog.underlying t = d) : prog.underlying t = d := (un0 t).trans h
theorem tr_sizeOf {t : TypeId} {r : World → Result Nat} (h : ∀ w, Sem.run Tryz.prog (sizeOf t) w = r w) : ∀ w, Sem.run prog (sizeOf t) w = r w := fun w => (so0 t w).trans (h w)
theorem tr_isAgg {t : TypeId} {r : World → Result Bool} (h : ∀ w, Sem.run Tryz.prog (isAgg t) w = r w) : ∀ w, Sem.run prog (isAgg t) w = r w := fun w => (ia0 t w).trans (h w)
theorem tr_zeroValue {t : TypeId} {r : World → Result Value} (h : ∀ w, Sem.run Tryz.prog (zeroValue t) w = r w) : ∀ w, Sem.run prog (zeroValue t) w = r w := fun w => (zv0 t w).trans (h w)
theorem g_fn (P : Program) (g : Func) {j n : Nat} {f : Func} (hne : j ≠ n) (h : P.funcs[n]? = some f) : ({ P with funcs := P.funcs.setIfInBounds j g } : Program).funcs[n]? = some f := (Array.getElem?_setIfInBounds_ne hne).trans h
theorem func25 : prog.funcs[25]? = some fn0 := by kernel_rfl
theorem func4 : prog.funcs[4]? = some Tryz.f4 := g_fn Tryz.prog fn0 (j := 25) (by decide) Tryz.func4
theorem func5 : prog.funcs[5]? = some Tryz.f5 := g_fn Tryz.prog fn0 (j := 25) (by decide) Tryz.func5
theorem func7 : prog.funcs[7]? = some Tryz.f7 := g_fn Tryz.prog fn0 (j := 25) (by decide) Tryz.func7
theorem func8 : prog.funcs[8]? = some Tryz.f8 := g_fn Tryz.prog fn0 (j := 25) (by decide) Tryz.func8
theorem func9 : prog.funcs[9]? = some Tryz.f9 := g_fn Tryz.prog fn0 (j := 25) (by decide) Tryz.func9
theorem func10 : prog.funcs[10]? = some Tryz.f10 := g_fn Tryz.prog fn0 (j := 25) (by decide) Tryz.func10
theorem func14 : prog.funcs[14]? = some Tryz.f14 := g_fn Tryz.prog fn0 (j := 25) (by decide) Tryz.func14
theorem func15 : prog.funcs[15]? = some Tryz.f15 := g_fn Tryz.prog fn0 (j := 25) (by decide) Tryz.func15
theorem func16 : prog.funcs[16]? = some Tryz.f16 := g_fn Tryz.prog fn0 (j := 25) (by decide) Tryz.func16
theorem func17 : prog.funcs[17]? = some Tryz.f17 := g_fn Tryz.prog fn0 (j := 25) (by decide) Tryz.func17
theorem func18 : prog.funcs[18]? = some Tryz.f18 := g_fn Tryz.prog fn0 (j := 25) (by decide) Tryz.func18
theorem func19 : prog.funcs[19]? = some Tryz.f19 := g_fn Tryz.prog fn0 (j := 25) (by decide) Tryz.func19
theorem func20 : prog.funcs[20]? = some Tryz.f20 := g_fn Tryz.prog fn0 (j := 25) (by decide) Tryz.func20
theorem func21 : prog.funcs[21]? = some Tryz.f21 := g_fn Tryz.prog fn0 (j := 25) (by decide) Tryz.func21
theorem func22 : prog.funcs[22]? = some Tryz.f22 := g_fn Tryz.prog fn0 (j := 25) (by decide) Tryz.func22
theorem func23 : prog.funcs[23]? = some Tryz.f23 := g_fn Tryz.prog fn0 (j := 25) (by decide) Tryz.func23
theorem func24 : prog.funcs[24]? = some Tryz.f24 := g_fn Tryz.prog fn0 (j := 25) (by decide) Tryz.func24
theorem func26 : prog.funcs[26]? = some Tryz.f26 := g_fn Tryz.prog fn0 (j := 25) (by decide) Tryz.func26
theorem func27 : prog.funcs[27]? = some Tryz.f27 := g_fn Tryz.prog fn0 (j := 25) (by decide) Tryz.func27
theorem func29 : prog.funcs[29]? = some Tryz.f29 := g_fn Tryz.prog fn0 (j := 25) (by decide) Tryz.func29
theorem func30 : prog.funcs[30]? = some Tryz.f30 := g_fn Tryz.prog fn0 (j := 25) (by decide) Tryz.func30
theorem func31 : prog.funcs[31]? = some Tryz.f31 := g_fn Tryz.prog fn0 (j := 25) (by decide) Tryz.func31
theorem func32 : prog.funcs[32]? = some Tryz.f32 := g_fn Tryz.prog fn0 (j := 25) (by decide) Tryz.func32
theorem func33 : prog.funcs[33]? = some Tryz.f33 := g_fn Tryz.prog fn0 (j := 25) (by decide) Tryz.func33
theorem func34 : prog.funcs[34]? = some Tryz.f34 := g_fn Tryz.prog fn0 (j := 25) (by decide) Tryz.func34
theorem func35 : prog.funcs[35]? = some Tryz.f35 := g_fn Tryz.prog fn0 (j := 25) (by decide) Tryz.func35
theorem func36 : prog.funcs[36]? = some Tryz.f36 := g_fn Tryz.prog fn0 (j := 25) (by decide) Tryz.func36
theorem func37 : prog.funcs[37]? = some Tryz.f37 := g_fn Tryz.prog fn0 (j := 25) (by decide) Tryz.func37
theorem func38 : prog.funcs[38]? = some Tryz.f38 := g_fn Tryz.prog fn0 (j := 25) (by decide) Tryz.func38
theorem func39 : prog.funcs[39]? = some Tryz.f39 := g_fn Tryz.prog fn0 (j := 25) (by decide) Tryz.func39
theorem func40 : prog.funcs[40]? = some Tryz.f40 := g_fn Tryz.prog fn0 (j := 25) (by decide) Tryz.func40
theorem func41 : prog.funcs[41]? = some Tryz.f41 := g_fn Tryz.prog fn0 (j := 25) (by decide) Tryz.func41
theorem func43 : prog.funcs[43]? = some Tryz.f43 := g_fn Tryz.prog fn0 (j := 25) (by decide) Tryz.func43
theorem func45 : prog.funcs[45]? = some Tryz.f45 := g_fn Tryz.prog fn0 (j := 25) (by decide) Tryz.func45
theorem func47 : prog.funcs[47]? = some Tryz.f47 := g_fn Tryz.prog fn0 (j := 25) (by decide) Tryz.func47
theorem func48 : prog.funcs[48]? = some Tryz.f48 := g_fn Tryz.prog fn0 (j := 25) (by decide) Tryz.func48
theorem func49 : prog.funcs[49]? = some Tryz.f49 := g_fn Tryz.prog fn0 (j := 25) (by decide) Tryz.func49
theorem func50 : prog.funcs[50]? = some Tryz.f50 := g_fn Tryz.prog fn0 (j := 25) (by decide) Tryz.func50
theorem func51 : prog.funcs[51]? = some Tryz.f51 := g_fn Tryz.prog fn0 (j := 25) (by decide) Tryz.func51
theorem func52 : prog.funcs[52]? = some Tryz.f52 := g_fn Tryz.prog fn0 (j := 25) (by decide) Tryz.func52
theorem func53 : prog.funcs[53]? = some Tryz.f53 := g_fn Tryz.prog fn0 (j := 25) (by decide) Tryz.func53
theorem func54 : prog.funcs[54]? = some Tryz.f54 := g_fn Tryz.prog fn0 (j := 25) (by decide) Tryz.func54
theorem func55 : prog.funcs[55]? = some Tryz.f55 := g_fn Tryz.prog fn0 (j := 25) (by decide) Tryz.func55
theorem func56 : prog.funcs[56]? = some Tryz.f56 := g_fn Tryz.prog fn0 (j := 25) (by decide) Tryz.func56
theorem func57 : prog.funcs[57]? = some Tryz.f57 := g_fn Tryz.prog fn0 (j := 25) (by decide) Tryz.func57
theorem func58 : prog.funcs[58]? = some Tryz.f58 := g_fn Tryz.prog fn0 (j := 25) (by decide) Tryz.func58
theorem func59 : prog.funcs[59]? = some Tryz.f59 := g_fn Tryz.prog fn0 (j := 25) (by decide) Tryz.func59
theorem func60 : prog.funcs[60]? = some Tryz.f60 := g_fn Tryz.prog fn0 (j := 25) (by decide) Tryz.func60
theorem func61 : prog.funcs[61]? = some Tryz.f61 := g_fn Tryz.prog fn0 (j := 25) (by decide) Tryz.func61
theorem func62 : prog.funcs[62]? = some Tryz.f62 := g_fn Tryz.prog fn0 (j := 25) (by decide) Tryz.func62
theorem func63 : prog.funcs[63]? = some Tryz.f63 := g_fn Tryz.prog fn0 (j := 25) (by decide) Tryz.func63
theorem func64 : prog.funcs[64]? = some Tryz.f64 := g_fn Tryz.prog fn0 (j := 25) (by decide) Tryz.func64
theorem func65 : prog.funcs[65]? = some Tryz.f65 := g_fn Tryz.prog fn0 (j := 25) (by decide) Tryz.func65
theorem func66 : prog.funcs[66]? = some Tryz.f66 := g_fn Tryz.prog fn0 (j := 25) (by decide) Tryz.func66
theorem func81 : prog.funcs[81]? = some Tryz.f81 := g_fn Tryz.prog fn0 (j := 25) (by decide) Tryz.func81
theorem func87 : prog.funcs[87]? = some Tryz.f87 := g_fn Tryz.prog fn0 (j := 25) (by decide) Tryz.func87
theorem func88 : prog.funcs[88]? = some Tryz.f88 := g_fn Tryz.prog fn0 (j := 25) (by decide) Tryz.func88
theorem func89 : prog.funcs[89]? = some Tryz.f89 := g_fn Tryz.prog fn0 (j := 25) (by decide) Tryz.func89
theorem func90 : prog.funcs[90]? = some Tryz.f90 := g_fn Tryz.prog fn0 (j := 25) (by decide) Tryz.func90
theorem func91 : prog.funcs[91]? = some Tryz.f91 := g_fn Tryz.prog fn0 (j := 25) (by decide) Tryz.func91
theorem func92 : prog.funcs[92]? = some Tryz.f92 := g_fn Tryz.prog fn0 (j := 25) (by decide) Tryz.func92
theorem func93 : prog.funcs[93]? = some Tryz.f93 := g_fn Tryz.prog fn0 (j := 25) (by decide) Tryz.func93
theorem func94 : prog.funcs[94]? = some Tryz.f94 := g_fn Tryz.prog fn0 (j := 25) (by decide) Tryz.func94
theorem func95 : prog.funcs[95]? = some Tryz.f95 := g_fn Tryz.prog fn0 (j := 25) (by decide) Tryz.func95
theorem func96 : prog.funcs[96]? = some Tryz.f96 := g_fn Tryz.prog fn0 (j := 25) (by decide) Tryz.func96
theorem func97 : prog.funcs[97]? = some Tryz.f97 := g_fn Tryz.prog fn0 (j := 25) (by decide) Tryz.func97
theorem func98 : prog.funcs[98]? = some Tryz.f98 := g_fn Tryz.prog fn0 (j := 25) (by decide) Tryz.func98
theorem func99 : prog.funcs[99]? = some Tryz.f99 := g_fn Tryz.prog fn0 (j := 25) (by decide) Tryz.func99
theorem func100 : prog.funcs[100]? = some Tryz.f100 := g_fn Tryz.prog fn0 (j := 25) (by decide) Tryz.func100
theorem func101 : prog.funcs[101]? = some Tryz.f101 := g_fn Tryz.prog fn0 (j := 25) (by decide) Tryz.func101
theorem func102 : prog.funcs[102]? = some Tryz.f102 := g_fn Tryz.prog fn0 (j := 25) (by decide) Tryz.func102
theorem func103 : prog.funcs[103]? = some Tryz.f103 := g_fn Tryz.prog fn0 (j := 25) (by decide) Tryz.func103
theorem func104 : prog.funcs[104]? = some Tryz.f104 := g_fn Tryz.prog fn0 (j := 25) (by decide) Tryz.func104
theorem func105 : prog.funcs[105]? = some Tryz.f105 := g_fn Tryz.prog fn0 (j := 25) (by decide) Tryz.func105
theorem func111 : prog.funcs[111]? = some Tryz.f111 := g_fn Tryz.prog fn0 (j := 25) (by decide) Tryz.func111
theorem func112 : prog.funcs[112]? = some Tryz.f112 := g_fn Tryz.prog fn0 (j := 25) (by decide) Tryz.func112
theorem func114 : prog.funcs[114]? = some Tryz.f114 := g_fn Tryz.prog fn0 (j := 25) (by decide) Tryz.func114
theorem func115 : prog.funcs[115]? = some Tryz.f115 := g_fn Tryz.prog fn0 (j := 25) (by decide) Tryz.func115
theorem func116 : prog.funcs[116]? = some Tryz.f116 := g_fn Tryz.prog fn0 (j := 25) (by decide) Tryz.func116
theorem func117 : prog.funcs[117]? = some Tryz.f117 := g_fn Tryz.prog fn0 (j := 25) (by decide) Tryz.func117
theorem func118 : prog.funcs[118]? = some Tryz.f118 := g_fn Tryz.prog fn0 (j := 25) (by decide) Tryz.func118
theorem func119 : prog.funcs[119]? = some Tryz.f119 := g_fn Tryz.prog fn0 (j := 25) (by decide) Tryz.func119
theorem func120 : prog.funcs[120]? = some Tryz.f120 := g_fn Tryz.prog fn0 (j := 25) (by decide) Tryz.func120
theorem func121 : prog.funcs[121]? = some Tryz.f121 := g_fn Tryz.prog fn0 (j := 25) (by decide) Tryz.func121
theorem func122 : prog.funcs[122]? = some Tryz.f122 := g_fn Tryz.prog fn0 (j := 25) (by decide) Tryz.func122
theorem func123 : prog.funcs[123]? = some Tryz.f123 := g_fn Tryz.prog fn0 (j := 25) (by decide) Tryz.func123
theorem func124 : prog.funcs[124]? = some Tryz.f124 := g_fn Tryz.prog fn0 (j := 25) (by decide) Tryz.func124
theorem func125 : prog.funcs[125]? = some Tryz.f125 := g_fn Tryz.prog fn0 (j := 25) (by decide) Tryz.func125
theorem func126 : prog.funcs[126]? = some Tryz.f126 := g_fn Tryz.prog fn0 (j := 25) (by decide) Tryz.func126
theorem func127 : prog.funcs[127]? = some Tryz.f127 := g_fn Tryz.prog fn0 (j := 25) (by decide) Tryz.func127
theorem func128 : prog.funcs[128]? = some Tryz.f128 := g_fn Tryz.prog fn0 (j := 25) (by decide) Tryz.func128
theorem func129 : prog.funcs[129]? = some Tryz.f129 := g_fn Tryz.prog fn0 (j := 25) (by decide) Tryz.func129
theorem func130 : prog.funcs[130]? = some Tryz.f130 := g_fn Tryz.prog fn0 (j := 25) (by decide) Tryz.func130
theorem func131 : prog.funcs[131]? = some Tryz.f131 := g_fn Tryz.prog fn0 (j := 25) (by decide) Tryz.func131
theorem func132 : prog.funcs[132]? = some Tryz.f132 := g_fn Tryz.prog fn0 (j := 25) (by decide) Tryz.func132
theorem func133 : prog.funcs[133]? = some Tryz.f133 := g_fn Tryz.prog fn0 (j := 25) (by decide) Tryz.func133
theorem func134 : prog.funcs[134]? = some Tryz.f134 := g_fn Tryz.prog fn0 (j := 25) (by decide) Tryz.func134
theorem func135 : prog.funcs[135]? = some Tryz.f135 := g_fn Tryz.prog fn0 (j := 25) (by decide) Tryz.func135
theorem func136 : prog.funcs[136]? = some Tryz.f136 := g_fn Tryz.prog fn0 (j := 25) (by decide) Tryz.func136
theorem func137 : prog.funcs[137]? = some Tryz.f137 := g_fn Tryz.prog fn0 (j := 25) (by decide) Tryz.func137
theorem func138 : prog.funcs[138]? = some Tryz.f138 := g_fn Tryz.prog fn0 (j := 25) (by decide) Tryz.func138
theorem func139 : prog.funcs[139]? = some Tryz.f139 := g_fn Tryz.prog fn0 (j := 25) (by decide) Tryz.func139
theorem func140 : prog.funcs[140]? = some Tryz.f140 := g_fn Tryz.prog fn0 (j := 25) (by decide) Tryz.func140
theorem func141 : prog.funcs[141]? = some Tryz.f141 := g_fn Tryz.prog fn0 (j := 25) (by decide) Tryz.func141
theorem func142 : prog.funcs[142]? = some Tryz.f142 := g_fn Tryz.prog fn0 (j := 25) (by decide) Tryz.func142
@[go_sem] theorem call5 (args : Array Value) (w : World) : Sem.run prog (callFunc 5 args) w = .ok (.enter 5 args) w := g_call _ w func5 (by kernel_rfl) rfl args
@[go_sem] theorem call7 (args : Array Value) (w : World) : Sem.run prog (callFunc 7 args) w = .ok (.enter 7 args) w := g_call _ w func7 (by kernel_rfl) rfl args
@[go_sem] theorem call8 (args : Array Value) (w : World) : Sem.run prog (callFunc 8 args) w = .ok (.enter 8 args) w := g_call _ w func8 (by kernel_rfl) rfl args
@[go_sem] theorem call9 (args : Array Value) (w : World) : Sem.run prog (callFunc 9 args) w = .ok (.enter 9 args) w := g_call _ w func9 (by kernel_rfl) rfl args
@[go_sem] theorem call10 (args : Array Value) (w : World) : Sem.run prog (callFunc 10 args) w = .ok (.enter 10 args) w := g_call _ w func10 (by kernel_rfl) rfl args
@[go_sem] theorem call14 (args : Array Value) (w : World) : Sem.run prog (callFunc 14 args) w = .ok (.enter 14 args) w := g_call _ w func14 (by kernel_rfl) rfl args
@[go_sem] theorem call15 (args : Array Value) (w : World) : Sem.run prog (callFunc 15 args) w = .ok (.enter 15 args) w := g_call _ w func15 (by kernel_rfl) rfl args
@[go_sem] theorem call16 (args : Array Value) (w : World) : Sem.run prog (callFunc 16 args) w = .ok (.enter 16 args) w := g_call _ w func16 (by kernel_rfl) rfl args
@[go_sem] theorem call17 (args : Array Value) (w : World) : Sem.run prog (callFunc 17 args) w = .ok (.enter 17 args) w := g_call _ w func17 (by kernel_rfl) rfl args
@[go_sem] theorem call18 (args : Array Value) (w : World) : Sem.run prog (callFunc 18 args) w = .ok (.enter 18 args) w := g_call _ w func18 (by kernel_rfl) rfl args
@[go_sem] theorem call19 (args : Array Value) (w : World) : Sem.run prog (callFunc 19 args) w = .ok (.enter 19 args) w := g_call _ w func19 (by kernel_rfl) rfl args
@[go_sem] theorem call20 (args : Array Value) (w : World) : Sem.run prog (callFunc 20 args) w = .ok (.enter 20 args) w := g_call _ w func20 (by kernel_rfl) rfl args
@[go_sem] theorem call21 (args : Array Value) (w : World) : Sem.run prog (callFunc 21 args) w = .ok (.enter 21 args) w := g_call _ w func21 (by kernel_rfl) rfl args
@[go_sem] theorem call22 (args : Array Value) (w : World) : Sem.run prog (callFunc 22 args) w = .ok (.enter 22 args) w := g_call _ w func22 (by kernel_rfl) rfl args
@[go_sem] theorem call23 (args : Array Value) (w : World) : Sem.run prog (callFunc 23 args) w = .ok (.enter 23 args) w := g_call _ w func23 (by kernel_rfl) rfl args
@[go_sem] theorem call24 (args : Array Value) (w : World) : Sem.run prog (callFunc 24 args) w = .ok (.enter 24 args) w := g_call _ w func24 (by kernel_rfl) rfl args
@[go_sem] theorem call25 (args : Array Value) (w : World) : Sem.run prog (callFunc 25 args) w = .ok (.enter 25 args) w := g_call _ w func25 (by kernel_rfl) rfl args
@[go_sem] theorem call26 (args : Array Value) (w : World) : Sem.run prog (callFunc 26 args) w = .ok (.enter 26 args) w := g_call _ w func26 (by kernel_rfl) rfl args
@[go_sem] theorem call27 (args : Array Value) (w : World) : Sem.run prog (callFunc 27 args) w = .ok (.enter 27 args) w := g_call _ w func27 (by kernel_rfl) rfl args
@[go_sem] theorem call29 (args : Array Value) (w : World) : Sem.run prog (callFunc 29 args) w = .ok (.enter 29 args) w := g_call _ w func29 (by kernel_rfl) rfl args
@[go_sem] theorem call30 (args : Array Value) (w : World) : Sem.run prog (callFunc 30 args) w = .ok (.enter 30 args) w := g_call _ w func30 (by kernel_rfl) rfl args
@[go_sem] theorem call31 (args : Array Value) (w : World) : Sem.run prog (callFunc 31 args) w = .ok (.enter 31 args) w := g_call _ w func31 (by kernel_rfl) rfl args
@[go_sem] theorem call32 (args : Array Value) (w : World) : Sem.run prog (callFunc 32 args) w = .ok (.enter 32 args) w := g_call _ w func32 (by kernel_rfl) rfl args
@[go_sem] theorem call33 (args : Array Value) (w : World) : Sem.run prog (callFunc 33 args) w = .ok (.enter 33 args) w := g_call _ w func33 (by kernel_rfl) rfl args
@[go_sem] theorem call34 (args : Array Value) (w : World) : Sem.run prog (callFunc 34 args) w = .ok (.enter 34 args) w := g_call _ w func34 (by kernel_rfl) rfl args
@[go_sem] theorem call35 (args : Array Value) (w : World) : Sem.run prog (callFunc 35 args) w = .ok (.enter 35 args) w := g_call _ w func35 (by kernel_rfl) rfl args
@[go_sem] theorem call36 (args : Array Value) (w : World) : Sem.run prog (callFunc 36 args) w = .ok (.enter 36 args) w := g_call _ w func36 (by kernel_rfl) rfl args
@[go_sem] theorem call37 (args : Array Value) (w : World) : Sem.run prog (callFunc 37 args) w = .ok (.enter 37 args) w := g_call _ w func37 (by kernel_rfl) rfl args
@[go_sem] theorem call38 (args : Array Value) (w : World) : Sem.run prog (callFunc 38 args) w = .ok (.enter 38 args) w := g_call _ w func38 (by kernel_rfl) rfl args
@[go_sem] theorem call39 (args : Array Value) (w : World) : Sem.run prog (callFunc 39 args) w = .ok (.enter 39 args) w := g_call _ w func39 (by kernel_rfl) rfl args
@[go_sem] theorem call40 (args : Array Value) (w : World) : Sem.run prog (callFunc 40 args) w = .ok (.enter 40 args) w := g_call _ w func40 (by kernel_rfl) rfl args
@[go_sem] theorem call41 (args : Array Value) (w : World) : Sem.run prog (callFunc 41 args) w = .ok (.enter 41 args) w := g_call _ w func41 (by kernel_rfl) rfl args
@[go_sem] theorem call47 (args : Array Value) (w : World) : Sem.run prog (callFunc 47 args) w = .ok (.enter 47 args) w := g_call _ w func47 (by kernel_rfl) rfl args
@[go_sem] theorem call48 (args : Array Value) (w : World) : Sem.run prog (callFunc 48 args) w = .ok (.enter 48 args) w := g_call _ w func48 (by kernel_rfl) rfl args
@[go_sem] theorem call49 (args : Array Value) (w : World) : Sem.run prog (callFunc 49 args) w = .ok (.enter 49 args) w := g_call _ w func49 (by kernel_rfl) rfl args
@[go_sem] theorem call50 (args : Array Value) (w : World) : Sem.run prog (callFunc 50 args) w = .ok (.enter 50 args) w := g_call _ w func50 (by kernel_rfl) rfl args
@[go_sem] theorem call51 (args : Array Value) (w : World) : Sem.run prog (callFunc 51 args) w = .ok (.enter 51 args) w := g_call _ w func51 (by kernel_rfl) rfl args
@[go_sem] theorem call52 (args : Array Value) (w : World) : Sem.run prog (callFunc 52 args) w = .ok (.enter 52 args) w := g_call _ w func52 (by kernel_rfl) rfl args
@[go_sem] theorem call53 (args : Array Value) (w : World) : Sem.run prog (callFunc 53 args) w = .ok (.enter 53 args) w := g_call _ w func53 (by kernel_rfl) rfl args
@[go_sem] theorem call54 (args : Array Value) (w : World) : Sem.run prog (callFunc 54 args) w = .ok (.enter 54 args) w := g_call _ w func54 (by kernel_rfl) rfl args
@[go_sem] theorem call55 (args : Array Value) (w : World) : Sem.run prog (callFunc 55 args) w = .ok (.enter 55 args) w := g_call _ w func55 (by kernel_rfl) rfl args
@[go_sem] theorem call56 (args : Array Value) (w : World) : Sem.run prog (callFunc 56 args) w = .ok (.enter 56 args) w := g_call _ w func56 (by kernel_rfl) rfl args
@[go_sem] theorem call57 (args : Array Value) (w : World) : Sem.run prog (callFunc 57 args) w = .ok (.enter 57 args) w := g_call _ w func57 (by kernel_rfl) rfl args
@[go_sem] theorem call58 (args : Array Value) (w : World) : Sem.run prog (callFunc 58 args) w = .ok (.enter 58 args) w := g_call _ w func58 (by kernel_rfl) rfl args
@[go_sem] theorem call59 (args : Array Value) (w : World) : Sem.run prog (callFunc 59 args) w = .ok (.enter 59 args) w := g_call _ w func59 (by kernel_rfl) rfl args
@[go_sem] theorem call60 (args : Array Value) (w : World) : Sem.run prog (callFunc 60 args) w = .ok (.enter 60 args) w := g_call _ w func60 (by kernel_rfl) rfl args
@[go_sem] theorem call61 (args : Array Value) (w : World) : Sem.run prog (callFunc 61 args) w = .ok (.enter 61 args) w := g_call _ w func61 (by kernel_rfl) rfl args
@[go_sem] theorem call62 (args : Array Value) (w : World) : Sem.run prog (callFunc 62 args) w = .ok (.enter 62 args) w := g_call _ w func62 (by kernel_rfl) rfl args
@[go_sem] theorem call63 (args : Array Value) (w : World) : Sem.run prog (callFunc 63 args) w = .ok (.enter 63 args) w := g_call _ w func63 (by kernel_rfl) rfl args
@[go_sem] theorem call64 (args : Array Value) (w : World) : Sem.run prog (callFunc 64 args) w = .ok (.enter 64 args) w := g_call _ w func64 (by kernel_rfl) rfl args
@[go_sem] theorem call65 (args : Array Value) (w : World) : Sem.run prog (callFunc 65 args) w = .ok (.enter 65 args) w := g_call _ w func65 (by kernel_rfl) rfl args
@[go_sem] theorem call66 (args : Array Value) (w : World) : Sem.run prog (callFunc 66 args) w = .ok (.enter 66 args) w := g_call _ w func66 (by kernel_rfl) rfl args
@[go_sem] theorem call87 (args : Array Value) (w : World) : Sem.run prog (callFunc 87 args) w = .ok (.enter 87 args) w := g_call _ w func87 (by kernel_rfl) rfl args
@[go_sem] theorem call88 (args : Array Value) (w : World) : Sem.run prog (callFunc 88 args) w = .ok (.enter 88 args) w := g_call _ w func88 (by kernel_rfl) rfl args
@[go_sem] theorem call89 (args : Array Value) (w : World) : Sem.run prog (callFunc 89 args) w = .ok (.enter 89 args) w := g_call _ w func89 (by kernel_rfl) rfl args
@[go_sem] theorem call90 (args : Array Value) (w : World) : Sem.run prog (callFunc 90 args) w = .ok (.enter 90 args) w := g_call _ w func90 (by kernel_rfl) rfl args
@[go_sem] theorem call91 (args : Array Value) (w : World) : Sem.run prog (callFunc 91 args) w = .ok (.enter 91 args) w := g_call _ w func91 (by kernel_rfl) rfl args
@[go_sem] theorem call92 (args : Array Value) (w : World) : Sem.run prog (callFunc 92 args) w = .ok (.enter 92 args) w := g_call _ w func92 (by kernel_rfl) rfl args
@[go_sem] theorem call93 (args : Array Value) (w : World) : Sem.run prog (callFunc 93 args) w = .ok (.enter 93 args) w := g_call _ w func93 (by kernel_rfl) rfl args
@[go_sem] theorem call94 (args : Array Value) (w : World) : Sem.run prog (callFunc 94 args) w = .ok (.enter 94 args) w := g_call _ w func94 (by kernel_rfl) rfl args
@[go_sem] theorem call95 (args : Array Value) (w : World) : Sem.run prog (callFunc 95 args) w = .ok (.enter 95 args) w := g_call _ w func95 (by kernel_rfl) rfl args
@[go_sem] theorem call96 (args : Array Value) (w : World) : Sem.run prog (callFunc 96 args) w = .ok (.enter 96 args) w := g_call _ w func96 (by kernel_rfl) rfl args
@[go_sem] theorem call97 (args : Array Value) (w : World) : Sem.run prog (callFunc 97 args) w = .ok (.enter 97 args) w := g_call _ w func97 (by kernel_rfl) rfl args
@[go_sem] theorem call98 (args : Array Value) (w : World) : Sem.run prog (callFunc 98 args) w = .ok (.enter 98 args) w := g_call _ w func98 (by kernel_rfl) rfl args
@[go_sem] theorem call99 (args : Array Value) (w : World) : Sem.run prog (callFunc 99 args) w = .ok (.enter 99 args) w := g_call _ w func99 (by kernel_rfl) rfl args
@[go_sem] theorem call100 (args : Array Value) (w : World) : Sem.run prog (callFunc 100 args) w = .ok (.enter 100 args) w := g_call _ w func100 (by kernel_rfl) rfl args
@[go_sem] theorem call101 (args : Array Value) (w : World) : Sem.run prog (callFunc 101 args) w = .ok (.enter 101 args) w := g_call _ w func101 (by kernel_rfl) rfl args
@[go_sem] theorem call102 (args : Array Value) (w : World) : Sem.run prog (callFunc 102 args) w = .ok (.enter 102 args) w := g_call _ w func102 (by kernel_rfl) rfl args
@[go_sem] theorem call103 (args : Array Value) (w : World) : Sem.run prog (callFunc 103 args) w = .ok (.enter 103 args) w := g_call _ w func103 (by kernel_rfl) rfl args
@[go_sem] theorem call104 (args : Array Value) (w : World) : Sem.run prog (callFunc 104 args) w = .ok (.enter 104 args) w := g_call _ w func104 (by kernel_rfl) rfl args
@[go_sem] theorem call105 (args : Array Value) (w : World) : Sem.run prog (callFunc 105 args) w = .ok (.enter 105 args) w := g_call _ w func105 (by kernel_rfl) rfl args
@[go_sem] theorem call111 (args : Array Value) (w : World) : Sem.run prog (callFunc 111 args) w = .ok (.enter 111 args) w := g_call _ w func111 (by kernel_rfl) rfl args
@[go_sem] theorem call112 (args : Array Value) (w : World) : Sem.run prog (callFunc 112 args) w = .ok (.enter 112 args) w := g_call _ w func112 (by kernel_rfl) rfl args
@[go_sem] theorem call114 (args : Array Value) (w : World) : Sem.run prog (callFunc 114 args) w = .ok (.enter 114 args) w := g_call _ w func114 (by kernel_rfl) rfl args
@[go_sem] theorem call115 (args : Array Value) (w : World) : Sem.run prog (callFunc 115 args) w = .ok (.enter 115 args) w := g_call _ w func115 (by kernel_rfl) rfl args
@[go_sem] theorem call116 (args : Array Value) (w : World) : Sem.run prog (callFunc 116 args) w = .ok (.enter 116 args) w := g_call _ w func116 (by kernel_rfl) rfl args
@[go_sem] theorem call118 (args : Array Value) (w : World) : Sem.run prog (callFunc 118 args) w = .ok (.enter 118 args) w := g_call _ w func118 (by kernel_rfl) rfl args
@[go_sem] theorem call119 (args : Array Value) (w : World) : Sem.run prog (callFunc 119 args) w = .ok (.enter 119 args) w := g_call _ w func119 (by kernel_rfl) rfl args
@[go_sem] theorem call120 (args : Array Value) (w : World) : Sem.run prog (callFunc 120 args) w = .ok (.enter 120 args) w := g_call _ w func120 (by kernel_rfl) rfl args
@[go_sem] theorem call122 (args : Array Value) (w : World) : Sem.run prog (callFunc 122 args) w = .ok (.enter 122 args) w := g_call _ w func122 (by kernel_rfl) rfl args
@[go_sem] theorem call123 (args : Array Value) (w : World) : Sem.run prog (callFunc 123 args) w = .ok (.enter 123 args) w := g_call _ w func123 (by kernel_rfl) rfl args
@[go_sem] theorem call124 (args : Array Value) (w : World) : Sem.run prog (callFunc 124 args) w = .ok (.enter 124 args) w := g_call _ w func124 (by kernel_rfl) rfl args
@[go_sem] theorem call135 (args : Array Value) (w : World) : Sem.run prog (callFunc 135 args) w = .ok (.enter 135 args) w := g_call _ w func135 (by kernel_rfl) rfl args
@[go_sem] theorem call136 (args : Array Value) (w : World) : Sem.run prog (callFunc 136 args) w = .ok (.enter 136 args) w := g_call _ w func136 (by kernel_rfl) rfl args
theorem ntmps4 : type_of% Tryz.ntmps4 := Tryz.ntmps4
theorem ntmps5 : type_of% Tryz.ntmps5 := Tryz.ntmps5
theorem ntmps7 : type_of% Tryz.ntmps7 := Tryz.ntmps7
theorem ntmps8 : type_of% Tryz.ntmps8 := Tryz.ntmps8
theorem ntmps9 : type_of% Tryz.ntmps9 := Tryz.ntmps9
theorem ntmps10 : type_of% Tryz.ntmps10 := Tryz.ntmps10
theorem ntmps14 : type_of% Tryz.ntmps14 := Tryz.ntmps14
theorem ntmps15 : type_of% Tryz.ntmps15 := Tryz.ntmps15
theorem ntmps16 : type_of% Tryz.ntmps16 := Tryz.ntmps16
theorem ntmps17 : type_of% Tryz.ntmps17 := Tryz.ntmps17
theorem ntmps18 : type_of% Tryz.ntmps18 := Tryz.ntmps18
theorem ntmps19 : type_of% Tryz.ntmps19 := Tryz.ntmps19
theorem ntmps20 : type_of% Tryz.ntmps20 := Tryz.ntmps20
theorem ntmps21 : type_of% Tryz.ntmps21 := Tryz.ntmps21
theorem ntmps22 : type_of% Tryz.ntmps22 := Tryz.ntmps22
theorem ntmps23 : type_of% Tryz.ntmps23 := Tryz.ntmps23
theorem ntmps24 : type_of% Tryz.ntmps24 := Tryz.ntmps24
theorem ntmps26 : type_of% Tryz.ntmps26 := Tryz.ntmps26
theorem ntmps27 : type_of% Tryz.ntmps27 := Tryz.ntmps27
theorem ntmps29 : type_of% Tryz.ntmps29 := Tryz.ntmps29
theorem ntmps30 : type_of% Tryz.ntmps30 := Tryz.ntmps30
theorem ntmps31 : type_of% Tryz.ntmps31 := Tryz.ntmps31
theorem ntmps32 : type_of% Tryz.ntmps32 := Tryz.ntmps32
theorem ntmps33 : type_of% Tryz.ntmps33 := Tryz.ntmps33
theorem ntmps34 : type_of% Tryz.ntmps34 := Tryz.ntmps34
theorem ntmps35 : type_of% Tryz.ntmps35 := Tryz.ntmps35
theorem ntmps36 : type_of% Tryz.ntmps36 := Tryz.ntmps36
theorem ntmps37 : type_of% Tryz.ntmps37 := Tryz.ntmps37
theorem ntmps38 : type_of% Tryz.ntmps38 := Tryz.ntmps38
theorem ntmps39 : type_of% Tryz.ntmps39 := Tryz.ntmps39
theorem ntmps40 : type_of% Tryz.ntmps40 := Tryz.ntmps40
theorem ntmps41 : type_of% Tryz.ntmps41 := Tryz.ntmps41
theorem ntmps47 : type_of% Tryz.ntmps47 := Tryz.ntmps47
theorem ntmps48 : type_of% Tryz.ntmps48 := Tryz.ntmps48
theorem ntmps49 : type_of% Tryz.ntmps49 := Tryz.ntmps49
theorem ntmps50 : type_of% Tryz.ntmps50 := Tryz.ntmps50
theorem ntmps51 : type_of% Tryz.ntmps51 := Tryz.ntmps51
theorem ntmps52 : type_of% Tryz.ntmps52 := Tryz.ntmps52
theorem ntmps53 : type_of% Tryz.ntmps53 := Tryz.ntmps53
theorem ntmps54 : type_of% Tryz.ntmps54 := Tryz.ntmps54
theorem ntmps55 : type_of% Tryz.ntmps55 := Tryz.ntmps55
theorem ntmps56 : type_of% Tryz.ntmps56 := Tryz.ntmps56
theorem ntmps57 : type_of% Tryz.ntmps57 := Tryz.ntmps57
theorem ntmps58 : type_of% Tryz.ntmps58 := Tryz.ntmps58
theorem ntmps59 : type_of% Tryz.ntmps59 := Tryz.ntmps59
theorem ntmps60 : type_of% Tryz.ntmps60 := Tryz.ntmps60
theorem ntmps61 : type_of% Tryz.ntmps61 := Tryz.ntmps61
theorem ntmps62 : type_of% Tryz.ntmps62 := Tryz.ntmps62
theorem ntmps63 : type_of% Tryz.ntmps63 := Tryz.ntmps63
theorem ntmps64 : type_of% Tryz.ntmps64 := Tryz.ntmps64
theorem ntmps65 : type_of% Tryz.ntmps65 := Tryz.ntmps65
theorem ntmps66 : type_of% Tryz.ntmps66 := Tryz.ntmps66
theorem ntmps81 : type_of% Tryz.ntmps81 := Tryz.ntmps81
theorem ntmps87 : type_of% Tryz.ntmps87 := Tryz.ntmps87
theorem ntmps88 : type_of% Tryz.ntmps88 := Tryz.ntmps88
theorem ntmps89 : type_of% Tryz.ntmps89 := Tryz.ntmps89
theorem ntmps90 : type_of% Tryz.ntmps90 := Tryz.ntmps90
theorem ntmps91 : type_of% Tryz.ntmps91 := Tryz.ntmps91
theorem ntmps92 : type_of% Tryz.ntmps92 := Tryz.ntmps92
theorem ntmps93 : type_of% Tryz.ntmps93 := Tryz.ntmps93
theorem ntmps94 : type_of% Tryz.ntmps94 := Tryz.ntmps94
theorem ntmps95 : type_of% Tryz.ntmps95 := Tryz.ntmps95
theorem ntmps96 : type_of% Tryz.ntmps96 := Tryz.ntmps96
theorem ntmps97 : type_of% Tryz.ntmps97 := Tryz.ntmps97
theorem ntmps98 : type_of% Tryz.ntmps98 := Tryz.ntmps98
theorem ntmps99 : type_of% Tryz.ntmps99 := Tryz.ntmps99
theorem ntmps100 : type_of% Tryz.ntmps100 := Tryz.ntmps100
theorem ntmps101 : type_of% Tryz.ntmps101 := Tryz.ntmps101
theorem ntmps102 : type_of% Tryz.ntmps102 := Tryz.ntmps102
theorem ntmps103 : type_of% Tryz.ntmps103 := Tryz.ntmps103
theorem ntmps104 : type_of% Tryz.ntmps104 := Tryz.ntmps104
theorem ntmps105 : type_of% Tryz.ntmps105 := Tryz.ntmps105
theorem ntmps111 : type_of% Tryz.ntmps111 := Tryz.ntmps111
theorem ntmps112 : type_of% Tryz.ntmps112 := Tryz.ntmps112
theorem ntmps114 : type_of% Tryz.ntmps114 := Tryz.ntmps114
theorem ntmps117 : type_of% Tryz.ntmps117 := Tryz.ntmps117
theorem ntmps118 : type_of% Tryz.ntmps118 := Tryz.ntmps118
theorem ntmps119 : type_of% Tryz.ntmps119 := Tryz.ntmps119
theorem ntmps120 : type_of% Tryz.ntmps120 := Tryz.ntmps120
theorem ntmps121 : type_of% Tryz.ntmps121 := Tryz.ntmps121
theorem ntmps122 : type_of% Tryz.ntmps122 := Tryz.ntmps122
theorem ntmps123 : type_of% Tryz.ntmps123 := Tryz.ntmps123
theorem ntmps124 : type_of% Tryz.ntmps124 := Tryz.ntmps124
theorem ntmps135 : type_of% Tryz.ntmps135 := Tryz.ntmps135
theorem ntmps136 : type_of% Tryz.ntmps136 := Tryz.ntmps136
end Go.Proofs.Tryz0
