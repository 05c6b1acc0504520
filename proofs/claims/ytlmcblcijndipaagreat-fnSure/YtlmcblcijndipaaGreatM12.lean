import Derived.Test.YtlmcblcijndipaaGreatChecked
import Derived.WalkKit
namespace Go.Proofs.Tryz0
open Go
def body0:Code:=.refuse ""
noncomputable def fn0:Func:={Tryz.f24 with body:=some body0}
noncomputable def prog:Program:={Tryz.prog with funcs:=Tryz.prog.funcs.setIfInBounds 24 fn0}
section
variable (P:Program)(fs:Array Func)(t:TypeId)(w:World)
theorem g_un:Program.underlying {P with funcs:=fs} t=P.underlying t:=rfl
theorem g_el:Program.elem {P with funcs:=fs} t=P.elem t:=rfl
theorem g_al:Program.arrayLen {P with funcs:=fs} t=P.arrayLen t:=rfl
theorem g_ru:Sem.run {P with funcs:=fs} (underlying t) w=Sem.run P (underlying t) w:=by
 unfold underlying;show Sem.run _ (match Program.underlying {P with funcs:=fs} t with|some d=>pure d|none=>_) w=Sem.run _ (match P.underlying t with|some d=>pure d|none=>_) w;rw[g_un];cases P.underlying t<;>rfl
theorem g_ti:Sem.run {P with funcs:=fs} (typeInfo t) w=Sem.run P (typeInfo t) w:=by
 unfold typeInfo;show Sem.run _ (match P.toTables.info? t with|some d=>pure d|none=>_) w=Sem.run _ (match P.toTables.info? t with|some d=>pure d|none=>_) w;cases P.toTables.info? t<;>rfl
omit P fs t w in
theorem andThen_congr {α β:Type}(r:Result α){k k':α->World->Result β}(h:∀a w,k a w=k' a w):r.andThen k=r.andThen k':=by
 cases r with
 |ok a w=>exact h a w
 |halt _ _=>rfl
omit P fs t w in
theorem run_pure2 {α:Type}(P P':Program)(a:α)(w:World):Sem.run P (pure a:Sem α) w=Sem.run P' (pure a:Sem α) w:=rfl
omit P fs t w in
theorem run_uns {α:Type}(P P':Program)(u:Unsupported)(w:World):Sem.run P (unsupported u:Sem α) w=Sem.run P' (unsupported u:Sem α) w:=rfl
theorem g_so:Sem.run {P with funcs:=fs} (sizeOf t) w=Sem.run P (sizeOf t) w:=by
 unfold sizeOf;rw[Sem.run_bind,Sem.run_bind,g_ti P fs];exact andThen_congr _ λd w'=>run_pure2 _ _ _ _
theorem g_ia:Sem.run {P with funcs:=fs} (isAgg t) w=Sem.run P (isAgg t) w:=by
 unfold isAgg;rw[Sem.run_bind,Sem.run_bind,g_ru P fs];refine andThen_congr _ λd w'=>?_
 cases d<;>exact run_pure2 _ _ _ _
theorem g_zv:Sem.run {P with funcs:=fs} (zeroValue t) w=Sem.run P (zeroValue t) w:=by
 unfold zeroValue;rw[Sem.run_bind,Sem.run_bind,g_ti P fs];refine andThen_congr _ λd w'=>?_
 obtain⟨z,hz⟩:∃z,d.zero=z:=⟨_,rfl⟩;rw[hz];cases z with
 |some v=>exact run_pure2 _ _ _ _
 |none=>exact run_uns _ _ _ _
theorem g_call {f:FuncId}{fn:Func}{c:Code}(hf:P.funcs[f]?=some fn)(hn:(fn.name== "runtime.NumGoroutine")=false)(hb:fn.body=some c)(args:Array Value):Sem.run P (callFunc f args) w=.ok (.enter f args) w:=by
 have h1:fn.name≠ "runtime.NumGoroutine":=by simpa using hn
 simp[callFunc,hf,h1,hb]
end
@[go_sem] theorem un0 (t:TypeId):prog.underlying t=Tryz.prog.underlying t:=g_un Tryz.prog (Tryz.prog.funcs.setIfInBounds 24 fn0) t
@[go_sem] theorem el0 (t:TypeId):prog.elem t=Tryz.prog.elem t:=g_el Tryz.prog (Tryz.prog.funcs.setIfInBounds 24 fn0) t
@[go_sem] theorem al0 (t:TypeId):prog.arrayLen t=Tryz.prog.arrayLen t:=g_al Tryz.prog (Tryz.prog.funcs.setIfInBounds 24 fn0) t
@[go_sem] theorem ru0 (t:TypeId) (w:World):Sem.run prog (underlying t) w=Sem.run Tryz.prog (underlying t) w:=g_ru Tryz.prog (Tryz.prog.funcs.setIfInBounds 24 fn0) t w
@[go_sem] theorem ti0 (t:TypeId) (w:World):Sem.run prog (typeInfo t) w=Sem.run Tryz.prog (typeInfo t) w:=g_ti Tryz.prog (Tryz.prog.funcs.setIfInBounds 24 fn0) t w
@[go_sem] theorem so0 (t:TypeId) (w:World):Sem.run prog (sizeOf t) w=Sem.run Tryz.prog (sizeOf t) w:=g_so Tryz.prog (Tryz.prog.funcs.setIfInBounds 24 fn0) t w
@[go_sem] theorem ia0 (t:TypeId) (w:World):Sem.run prog (isAgg t) w=Sem.run Tryz.prog (isAgg t) w:=g_ia Tryz.prog (Tryz.prog.funcs.setIfInBounds 24 fn0) t w
@[go_sem] theorem zv0 (t:TypeId) (w:World):Sem.run prog (zeroValue t) w=Sem.run Tryz.prog (zeroValue t) w:=g_zv Tryz.prog (Tryz.prog.funcs.setIfInBounds 24 fn0) t w
theorem tr_underlying {t:TypeId}{d:Option TypeDesc}(h:Tryz.prog.underlying t=d):prog.underlying t=d:=(un0 t).trans h
theorem tr_sizeOf {t:TypeId}{r:World->Result Nat}(h:∀w,Sem.run Tryz.prog (sizeOf t) w=r w):∀w,Sem.run prog (sizeOf t) w=r w:=λw=>(so0 t w).trans (h w)
theorem tr_isAgg {t:TypeId}{r:World->Result Bool}(h:∀w,Sem.run Tryz.prog (isAgg t) w=r w):∀w,Sem.run prog (isAgg t) w=r w:=λw=>(ia0 t w).trans (h w)
theorem tr_zeroValue {t:TypeId}{r:World->Result Value}(h:∀w,Sem.run Tryz.prog (zeroValue t) w=r w):∀w,Sem.run prog (zeroValue t) w=r w:=λw=>(zv0 t w).trans (h w)
theorem g_fn (P:Program)(g:Func){j n:Nat}{f:Func}(hne:j≠n)(h:P.funcs[n]?=some f):({P with funcs:=P.funcs.setIfInBounds j g}:Program).funcs[n]?=some f:=(Array.getElem?_setIfInBounds_ne hne).trans h
theorem func24:prog.funcs[24]?=some fn0:=by kernel_rfl
theorem func4:prog.funcs[4]?=some Tryz.f4:=g_fn Tryz.prog fn0 (j:=24) (by decide) Tryz.func4
theorem func6:prog.funcs[6]?=some Tryz.f6:=g_fn Tryz.prog fn0 (j:=24) (by decide) Tryz.func6
theorem func10:prog.funcs[10]?=some Tryz.f10:=g_fn Tryz.prog fn0 (j:=24) (by decide) Tryz.func10
theorem func11:prog.funcs[11]?=some Tryz.f11:=g_fn Tryz.prog fn0 (j:=24) (by decide) Tryz.func11
theorem func14:prog.funcs[14]?=some Tryz.f14:=g_fn Tryz.prog fn0 (j:=24) (by decide) Tryz.func14
theorem func15:prog.funcs[15]?=some Tryz.f15:=g_fn Tryz.prog fn0 (j:=24) (by decide) Tryz.func15
theorem func16:prog.funcs[16]?=some Tryz.f16:=g_fn Tryz.prog fn0 (j:=24) (by decide) Tryz.func16
theorem func17:prog.funcs[17]?=some Tryz.f17:=g_fn Tryz.prog fn0 (j:=24) (by decide) Tryz.func17
theorem func18:prog.funcs[18]?=some Tryz.f18:=g_fn Tryz.prog fn0 (j:=24) (by decide) Tryz.func18
theorem func19:prog.funcs[19]?=some Tryz.f19:=g_fn Tryz.prog fn0 (j:=24) (by decide) Tryz.func19
theorem func20:prog.funcs[20]?=some Tryz.f20:=g_fn Tryz.prog fn0 (j:=24) (by decide) Tryz.func20
theorem func22:prog.funcs[22]?=some Tryz.f22:=g_fn Tryz.prog fn0 (j:=24) (by decide) Tryz.func22
theorem func23:prog.funcs[23]?=some Tryz.f23:=g_fn Tryz.prog fn0 (j:=24) (by decide) Tryz.func23
theorem func25:prog.funcs[25]?=some Tryz.f25:=g_fn Tryz.prog fn0 (j:=24) (by decide) Tryz.func25
theorem func26:prog.funcs[26]?=some Tryz.f26:=g_fn Tryz.prog fn0 (j:=24) (by decide) Tryz.func26
theorem func27:prog.funcs[27]?=some Tryz.f27:=g_fn Tryz.prog fn0 (j:=24) (by decide) Tryz.func27
theorem func28:prog.funcs[28]?=some Tryz.f28:=g_fn Tryz.prog fn0 (j:=24) (by decide) Tryz.func28
theorem func29:prog.funcs[29]?=some Tryz.f29:=g_fn Tryz.prog fn0 (j:=24) (by decide) Tryz.func29
theorem func30:prog.funcs[30]?=some Tryz.f30:=g_fn Tryz.prog fn0 (j:=24) (by decide) Tryz.func30
theorem func31:prog.funcs[31]?=some Tryz.f31:=g_fn Tryz.prog fn0 (j:=24) (by decide) Tryz.func31
theorem func32:prog.funcs[32]?=some Tryz.f32:=g_fn Tryz.prog fn0 (j:=24) (by decide) Tryz.func32
theorem func33:prog.funcs[33]?=some Tryz.f33:=g_fn Tryz.prog fn0 (j:=24) (by decide) Tryz.func33
theorem func34:prog.funcs[34]?=some Tryz.f34:=g_fn Tryz.prog fn0 (j:=24) (by decide) Tryz.func34
theorem func35:prog.funcs[35]?=some Tryz.f35:=g_fn Tryz.prog fn0 (j:=24) (by decide) Tryz.func35
theorem func37:prog.funcs[37]?=some Tryz.f37:=g_fn Tryz.prog fn0 (j:=24) (by decide) Tryz.func37
theorem func38:prog.funcs[38]?=some Tryz.f38:=g_fn Tryz.prog fn0 (j:=24) (by decide) Tryz.func38
theorem func39:prog.funcs[39]?=some Tryz.f39:=g_fn Tryz.prog fn0 (j:=24) (by decide) Tryz.func39
theorem func40:prog.funcs[40]?=some Tryz.f40:=g_fn Tryz.prog fn0 (j:=24) (by decide) Tryz.func40
theorem func41:prog.funcs[41]?=some Tryz.f41:=g_fn Tryz.prog fn0 (j:=24) (by decide) Tryz.func41
theorem func42:prog.funcs[42]?=some Tryz.f42:=g_fn Tryz.prog fn0 (j:=24) (by decide) Tryz.func42
theorem func44:prog.funcs[44]?=some Tryz.f44:=g_fn Tryz.prog fn0 (j:=24) (by decide) Tryz.func44
theorem func45:prog.funcs[45]?=some Tryz.f45:=g_fn Tryz.prog fn0 (j:=24) (by decide) Tryz.func45
theorem func47:prog.funcs[47]?=some Tryz.f47:=g_fn Tryz.prog fn0 (j:=24) (by decide) Tryz.func47
theorem func49:prog.funcs[49]?=some Tryz.f49:=g_fn Tryz.prog fn0 (j:=24) (by decide) Tryz.func49
theorem func51:prog.funcs[51]?=some Tryz.f51:=g_fn Tryz.prog fn0 (j:=24) (by decide) Tryz.func51
theorem func52:prog.funcs[52]?=some Tryz.f52:=g_fn Tryz.prog fn0 (j:=24) (by decide) Tryz.func52
theorem func53:prog.funcs[53]?=some Tryz.f53:=g_fn Tryz.prog fn0 (j:=24) (by decide) Tryz.func53
theorem func54:prog.funcs[54]?=some Tryz.f54:=g_fn Tryz.prog fn0 (j:=24) (by decide) Tryz.func54
theorem func55:prog.funcs[55]?=some Tryz.f55:=g_fn Tryz.prog fn0 (j:=24) (by decide) Tryz.func55
theorem func56:prog.funcs[56]?=some Tryz.f56:=g_fn Tryz.prog fn0 (j:=24) (by decide) Tryz.func56
theorem func57:prog.funcs[57]?=some Tryz.f57:=g_fn Tryz.prog fn0 (j:=24) (by decide) Tryz.func57
theorem func58:prog.funcs[58]?=some Tryz.f58:=g_fn Tryz.prog fn0 (j:=24) (by decide) Tryz.func58
theorem func59:prog.funcs[59]?=some Tryz.f59:=g_fn Tryz.prog fn0 (j:=24) (by decide) Tryz.func59
theorem func60:prog.funcs[60]?=some Tryz.f60:=g_fn Tryz.prog fn0 (j:=24) (by decide) Tryz.func60
theorem func61:prog.funcs[61]?=some Tryz.f61:=g_fn Tryz.prog fn0 (j:=24) (by decide) Tryz.func61
theorem func62:prog.funcs[62]?=some Tryz.f62:=g_fn Tryz.prog fn0 (j:=24) (by decide) Tryz.func62
theorem func63:prog.funcs[63]?=some Tryz.f63:=g_fn Tryz.prog fn0 (j:=24) (by decide) Tryz.func63
theorem func64:prog.funcs[64]?=some Tryz.f64:=g_fn Tryz.prog fn0 (j:=24) (by decide) Tryz.func64
theorem func65:prog.funcs[65]?=some Tryz.f65:=g_fn Tryz.prog fn0 (j:=24) (by decide) Tryz.func65
theorem func66:prog.funcs[66]?=some Tryz.f66:=g_fn Tryz.prog fn0 (j:=24) (by decide) Tryz.func66
theorem func67:prog.funcs[67]?=some Tryz.f67:=g_fn Tryz.prog fn0 (j:=24) (by decide) Tryz.func67
theorem func68:prog.funcs[68]?=some Tryz.f68:=g_fn Tryz.prog fn0 (j:=24) (by decide) Tryz.func68
theorem func69:prog.funcs[69]?=some Tryz.f69:=g_fn Tryz.prog fn0 (j:=24) (by decide) Tryz.func69
theorem func70:prog.funcs[70]?=some Tryz.f70:=g_fn Tryz.prog fn0 (j:=24) (by decide) Tryz.func70
theorem func71:prog.funcs[71]?=some Tryz.f71:=g_fn Tryz.prog fn0 (j:=24) (by decide) Tryz.func71
theorem func72:prog.funcs[72]?=some Tryz.f72:=g_fn Tryz.prog fn0 (j:=24) (by decide) Tryz.func72
theorem func73:prog.funcs[73]?=some Tryz.f73:=g_fn Tryz.prog fn0 (j:=24) (by decide) Tryz.func73
theorem func74:prog.funcs[74]?=some Tryz.f74:=g_fn Tryz.prog fn0 (j:=24) (by decide) Tryz.func74
theorem func75:prog.funcs[75]?=some Tryz.f75:=g_fn Tryz.prog fn0 (j:=24) (by decide) Tryz.func75
theorem func76:prog.funcs[76]?=some Tryz.f76:=g_fn Tryz.prog fn0 (j:=24) (by decide) Tryz.func76
theorem func77:prog.funcs[77]?=some Tryz.f77:=g_fn Tryz.prog fn0 (j:=24) (by decide) Tryz.func77
theorem func78:prog.funcs[78]?=some Tryz.f78:=g_fn Tryz.prog fn0 (j:=24) (by decide) Tryz.func78
theorem func79:prog.funcs[79]?=some Tryz.f79:=g_fn Tryz.prog fn0 (j:=24) (by decide) Tryz.func79
theorem func80:prog.funcs[80]?=some Tryz.f80:=g_fn Tryz.prog fn0 (j:=24) (by decide) Tryz.func80
theorem func81:prog.funcs[81]?=some Tryz.f81:=g_fn Tryz.prog fn0 (j:=24) (by decide) Tryz.func81
theorem func82:prog.funcs[82]?=some Tryz.f82:=g_fn Tryz.prog fn0 (j:=24) (by decide) Tryz.func82
theorem func83:prog.funcs[83]?=some Tryz.f83:=g_fn Tryz.prog fn0 (j:=24) (by decide) Tryz.func83
theorem func84:prog.funcs[84]?=some Tryz.f84:=g_fn Tryz.prog fn0 (j:=24) (by decide) Tryz.func84
theorem func85:prog.funcs[85]?=some Tryz.f85:=g_fn Tryz.prog fn0 (j:=24) (by decide) Tryz.func85
theorem func86:prog.funcs[86]?=some Tryz.f86:=g_fn Tryz.prog fn0 (j:=24) (by decide) Tryz.func86
theorem func101:prog.funcs[101]?=some Tryz.f101:=g_fn Tryz.prog fn0 (j:=24) (by decide) Tryz.func101
theorem func107:prog.funcs[107]?=some Tryz.f107:=g_fn Tryz.prog fn0 (j:=24) (by decide) Tryz.func107
theorem func108:prog.funcs[108]?=some Tryz.f108:=g_fn Tryz.prog fn0 (j:=24) (by decide) Tryz.func108
theorem func109:prog.funcs[109]?=some Tryz.f109:=g_fn Tryz.prog fn0 (j:=24) (by decide) Tryz.func109
theorem func110:prog.funcs[110]?=some Tryz.f110:=g_fn Tryz.prog fn0 (j:=24) (by decide) Tryz.func110
theorem func111:prog.funcs[111]?=some Tryz.f111:=g_fn Tryz.prog fn0 (j:=24) (by decide) Tryz.func111
theorem func112:prog.funcs[112]?=some Tryz.f112:=g_fn Tryz.prog fn0 (j:=24) (by decide) Tryz.func112
theorem func113:prog.funcs[113]?=some Tryz.f113:=g_fn Tryz.prog fn0 (j:=24) (by decide) Tryz.func113
theorem func114:prog.funcs[114]?=some Tryz.f114:=g_fn Tryz.prog fn0 (j:=24) (by decide) Tryz.func114
theorem func115:prog.funcs[115]?=some Tryz.f115:=g_fn Tryz.prog fn0 (j:=24) (by decide) Tryz.func115
theorem func116:prog.funcs[116]?=some Tryz.f116:=g_fn Tryz.prog fn0 (j:=24) (by decide) Tryz.func116
theorem func117:prog.funcs[117]?=some Tryz.f117:=g_fn Tryz.prog fn0 (j:=24) (by decide) Tryz.func117
theorem func118:prog.funcs[118]?=some Tryz.f118:=g_fn Tryz.prog fn0 (j:=24) (by decide) Tryz.func118
theorem func119:prog.funcs[119]?=some Tryz.f119:=g_fn Tryz.prog fn0 (j:=24) (by decide) Tryz.func119
theorem func120:prog.funcs[120]?=some Tryz.f120:=g_fn Tryz.prog fn0 (j:=24) (by decide) Tryz.func120
theorem func121:prog.funcs[121]?=some Tryz.f121:=g_fn Tryz.prog fn0 (j:=24) (by decide) Tryz.func121
theorem func122:prog.funcs[122]?=some Tryz.f122:=g_fn Tryz.prog fn0 (j:=24) (by decide) Tryz.func122
theorem func123:prog.funcs[123]?=some Tryz.f123:=g_fn Tryz.prog fn0 (j:=24) (by decide) Tryz.func123
theorem func124:prog.funcs[124]?=some Tryz.f124:=g_fn Tryz.prog fn0 (j:=24) (by decide) Tryz.func124
theorem func125:prog.funcs[125]?=some Tryz.f125:=g_fn Tryz.prog fn0 (j:=24) (by decide) Tryz.func125
theorem func126:prog.funcs[126]?=some Tryz.f126:=g_fn Tryz.prog fn0 (j:=24) (by decide) Tryz.func126
theorem func127:prog.funcs[127]?=some Tryz.f127:=g_fn Tryz.prog fn0 (j:=24) (by decide) Tryz.func127
theorem func128:prog.funcs[128]?=some Tryz.f128:=g_fn Tryz.prog fn0 (j:=24) (by decide) Tryz.func128
theorem func129:prog.funcs[129]?=some Tryz.f129:=g_fn Tryz.prog fn0 (j:=24) (by decide) Tryz.func129
theorem func130:prog.funcs[130]?=some Tryz.f130:=g_fn Tryz.prog fn0 (j:=24) (by decide) Tryz.func130
theorem func131:prog.funcs[131]?=some Tryz.f131:=g_fn Tryz.prog fn0 (j:=24) (by decide) Tryz.func131
theorem func132:prog.funcs[132]?=some Tryz.f132:=g_fn Tryz.prog fn0 (j:=24) (by decide) Tryz.func132
theorem func133:prog.funcs[133]?=some Tryz.f133:=g_fn Tryz.prog fn0 (j:=24) (by decide) Tryz.func133
theorem func134:prog.funcs[134]?=some Tryz.f134:=g_fn Tryz.prog fn0 (j:=24) (by decide) Tryz.func134
theorem func135:prog.funcs[135]?=some Tryz.f135:=g_fn Tryz.prog fn0 (j:=24) (by decide) Tryz.func135
theorem func142:prog.funcs[142]?=some Tryz.f142:=g_fn Tryz.prog fn0 (j:=24) (by decide) Tryz.func142
theorem func143:prog.funcs[143]?=some Tryz.f143:=g_fn Tryz.prog fn0 (j:=24) (by decide) Tryz.func143
theorem func144:prog.funcs[144]?=some Tryz.f144:=g_fn Tryz.prog fn0 (j:=24) (by decide) Tryz.func144
theorem func145:prog.funcs[145]?=some Tryz.f145:=g_fn Tryz.prog fn0 (j:=24) (by decide) Tryz.func145
theorem func146:prog.funcs[146]?=some Tryz.f146:=g_fn Tryz.prog fn0 (j:=24) (by decide) Tryz.func146
theorem func147:prog.funcs[147]?=some Tryz.f147:=g_fn Tryz.prog fn0 (j:=24) (by decide) Tryz.func147
theorem func148:prog.funcs[148]?=some Tryz.f148:=g_fn Tryz.prog fn0 (j:=24) (by decide) Tryz.func148
theorem func149:prog.funcs[149]?=some Tryz.f149:=g_fn Tryz.prog fn0 (j:=24) (by decide) Tryz.func149
theorem func150:prog.funcs[150]?=some Tryz.f150:=g_fn Tryz.prog fn0 (j:=24) (by decide) Tryz.func150
theorem func151:prog.funcs[151]?=some Tryz.f151:=g_fn Tryz.prog fn0 (j:=24) (by decide) Tryz.func151
theorem func152:prog.funcs[152]?=some Tryz.f152:=g_fn Tryz.prog fn0 (j:=24) (by decide) Tryz.func152
theorem func153:prog.funcs[153]?=some Tryz.f153:=g_fn Tryz.prog fn0 (j:=24) (by decide) Tryz.func153
theorem func154:prog.funcs[154]?=some Tryz.f154:=g_fn Tryz.prog fn0 (j:=24) (by decide) Tryz.func154
theorem func155:prog.funcs[155]?=some Tryz.f155:=g_fn Tryz.prog fn0 (j:=24) (by decide) Tryz.func155
@[go_sem] theorem call6 (args:Array Value) (w:World):Sem.run prog (callFunc 6 args) w=.ok (.enter 6 args) w:=g_call _ w func6 (by kernel_rfl) rfl args
@[go_sem] theorem call10 (args:Array Value) (w:World):Sem.run prog (callFunc 10 args) w=.ok (.enter 10 args) w:=g_call _ w func10 (by kernel_rfl) rfl args
@[go_sem] theorem call11 (args:Array Value) (w:World):Sem.run prog (callFunc 11 args) w=.ok (.enter 11 args) w:=g_call _ w func11 (by kernel_rfl) rfl args
@[go_sem] theorem call14 (args:Array Value) (w:World):Sem.run prog (callFunc 14 args) w=.ok (.enter 14 args) w:=g_call _ w func14 (by kernel_rfl) rfl args
@[go_sem] theorem call15 (args:Array Value) (w:World):Sem.run prog (callFunc 15 args) w=.ok (.enter 15 args) w:=g_call _ w func15 (by kernel_rfl) rfl args
@[go_sem] theorem call16 (args:Array Value) (w:World):Sem.run prog (callFunc 16 args) w=.ok (.enter 16 args) w:=g_call _ w func16 (by kernel_rfl) rfl args
@[go_sem] theorem call17 (args:Array Value) (w:World):Sem.run prog (callFunc 17 args) w=.ok (.enter 17 args) w:=g_call _ w func17 (by kernel_rfl) rfl args
@[go_sem] theorem call18 (args:Array Value) (w:World):Sem.run prog (callFunc 18 args) w=.ok (.enter 18 args) w:=g_call _ w func18 (by kernel_rfl) rfl args
@[go_sem] theorem call19 (args:Array Value) (w:World):Sem.run prog (callFunc 19 args) w=.ok (.enter 19 args) w:=g_call _ w func19 (by kernel_rfl) rfl args
@[go_sem] theorem call20 (args:Array Value) (w:World):Sem.run prog (callFunc 20 args) w=.ok (.enter 20 args) w:=g_call _ w func20 (by kernel_rfl) rfl args
@[go_sem] theorem call22 (args:Array Value) (w:World):Sem.run prog (callFunc 22 args) w=.ok (.enter 22 args) w:=g_call _ w func22 (by kernel_rfl) rfl args
@[go_sem] theorem call23 (args:Array Value) (w:World):Sem.run prog (callFunc 23 args) w=.ok (.enter 23 args) w:=g_call _ w func23 (by kernel_rfl) rfl args
@[go_sem] theorem call24 (args:Array Value) (w:World):Sem.run prog (callFunc 24 args) w=.ok (.enter 24 args) w:=g_call _ w func24 (by kernel_rfl) rfl args
@[go_sem] theorem call25 (args:Array Value) (w:World):Sem.run prog (callFunc 25 args) w=.ok (.enter 25 args) w:=g_call _ w func25 (by kernel_rfl) rfl args
@[go_sem] theorem call26 (args:Array Value) (w:World):Sem.run prog (callFunc 26 args) w=.ok (.enter 26 args) w:=g_call _ w func26 (by kernel_rfl) rfl args
@[go_sem] theorem call27 (args:Array Value) (w:World):Sem.run prog (callFunc 27 args) w=.ok (.enter 27 args) w:=g_call _ w func27 (by kernel_rfl) rfl args
@[go_sem] theorem call28 (args:Array Value) (w:World):Sem.run prog (callFunc 28 args) w=.ok (.enter 28 args) w:=g_call _ w func28 (by kernel_rfl) rfl args
@[go_sem] theorem call29 (args:Array Value) (w:World):Sem.run prog (callFunc 29 args) w=.ok (.enter 29 args) w:=g_call _ w func29 (by kernel_rfl) rfl args
@[go_sem] theorem call30 (args:Array Value) (w:World):Sem.run prog (callFunc 30 args) w=.ok (.enter 30 args) w:=g_call _ w func30 (by kernel_rfl) rfl args
@[go_sem] theorem call31 (args:Array Value) (w:World):Sem.run prog (callFunc 31 args) w=.ok (.enter 31 args) w:=g_call _ w func31 (by kernel_rfl) rfl args
@[go_sem] theorem call32 (args:Array Value) (w:World):Sem.run prog (callFunc 32 args) w=.ok (.enter 32 args) w:=g_call _ w func32 (by kernel_rfl) rfl args
@[go_sem] theorem call33 (args:Array Value) (w:World):Sem.run prog (callFunc 33 args) w=.ok (.enter 33 args) w:=g_call _ w func33 (by kernel_rfl) rfl args
@[go_sem] theorem call34 (args:Array Value) (w:World):Sem.run prog (callFunc 34 args) w=.ok (.enter 34 args) w:=g_call _ w func34 (by kernel_rfl) rfl args
@[go_sem] theorem call35 (args:Array Value) (w:World):Sem.run prog (callFunc 35 args) w=.ok (.enter 35 args) w:=g_call _ w func35 (by kernel_rfl) rfl args
@[go_sem] theorem call37 (args:Array Value) (w:World):Sem.run prog (callFunc 37 args) w=.ok (.enter 37 args) w:=g_call _ w func37 (by kernel_rfl) rfl args
@[go_sem] theorem call38 (args:Array Value) (w:World):Sem.run prog (callFunc 38 args) w=.ok (.enter 38 args) w:=g_call _ w func38 (by kernel_rfl) rfl args
@[go_sem] theorem call39 (args:Array Value) (w:World):Sem.run prog (callFunc 39 args) w=.ok (.enter 39 args) w:=g_call _ w func39 (by kernel_rfl) rfl args
@[go_sem] theorem call40 (args:Array Value) (w:World):Sem.run prog (callFunc 40 args) w=.ok (.enter 40 args) w:=g_call _ w func40 (by kernel_rfl) rfl args
@[go_sem] theorem call41 (args:Array Value) (w:World):Sem.run prog (callFunc 41 args) w=.ok (.enter 41 args) w:=g_call _ w func41 (by kernel_rfl) rfl args
@[go_sem] theorem call42 (args:Array Value) (w:World):Sem.run prog (callFunc 42 args) w=.ok (.enter 42 args) w:=g_call _ w func42 (by kernel_rfl) rfl args
@[go_sem] theorem call44 (args:Array Value) (w:World):Sem.run prog (callFunc 44 args) w=.ok (.enter 44 args) w:=g_call _ w func44 (by kernel_rfl) rfl args
@[go_sem] theorem call45 (args:Array Value) (w:World):Sem.run prog (callFunc 45 args) w=.ok (.enter 45 args) w:=g_call _ w func45 (by kernel_rfl) rfl args
@[go_sem] theorem call47 (args:Array Value) (w:World):Sem.run prog (callFunc 47 args) w=.ok (.enter 47 args) w:=g_call _ w func47 (by kernel_rfl) rfl args
@[go_sem] theorem call52 (args:Array Value) (w:World):Sem.run prog (callFunc 52 args) w=.ok (.enter 52 args) w:=g_call _ w func52 (by kernel_rfl) rfl args
@[go_sem] theorem call53 (args:Array Value) (w:World):Sem.run prog (callFunc 53 args) w=.ok (.enter 53 args) w:=g_call _ w func53 (by kernel_rfl) rfl args
@[go_sem] theorem call54 (args:Array Value) (w:World):Sem.run prog (callFunc 54 args) w=.ok (.enter 54 args) w:=g_call _ w func54 (by kernel_rfl) rfl args
@[go_sem] theorem call55 (args:Array Value) (w:World):Sem.run prog (callFunc 55 args) w=.ok (.enter 55 args) w:=g_call _ w func55 (by kernel_rfl) rfl args
@[go_sem] theorem call56 (args:Array Value) (w:World):Sem.run prog (callFunc 56 args) w=.ok (.enter 56 args) w:=g_call _ w func56 (by kernel_rfl) rfl args
@[go_sem] theorem call57 (args:Array Value) (w:World):Sem.run prog (callFunc 57 args) w=.ok (.enter 57 args) w:=g_call _ w func57 (by kernel_rfl) rfl args
@[go_sem] theorem call58 (args:Array Value) (w:World):Sem.run prog (callFunc 58 args) w=.ok (.enter 58 args) w:=g_call _ w func58 (by kernel_rfl) rfl args
@[go_sem] theorem call59 (args:Array Value) (w:World):Sem.run prog (callFunc 59 args) w=.ok (.enter 59 args) w:=g_call _ w func59 (by kernel_rfl) rfl args
@[go_sem] theorem call60 (args:Array Value) (w:World):Sem.run prog (callFunc 60 args) w=.ok (.enter 60 args) w:=g_call _ w func60 (by kernel_rfl) rfl args
@[go_sem] theorem call62 (args:Array Value) (w:World):Sem.run prog (callFunc 62 args) w=.ok (.enter 62 args) w:=g_call _ w func62 (by kernel_rfl) rfl args
@[go_sem] theorem call63 (args:Array Value) (w:World):Sem.run prog (callFunc 63 args) w=.ok (.enter 63 args) w:=g_call _ w func63 (by kernel_rfl) rfl args
@[go_sem] theorem call64 (args:Array Value) (w:World):Sem.run prog (callFunc 64 args) w=.ok (.enter 64 args) w:=g_call _ w func64 (by kernel_rfl) rfl args
@[go_sem] theorem call66 (args:Array Value) (w:World):Sem.run prog (callFunc 66 args) w=.ok (.enter 66 args) w:=g_call _ w func66 (by kernel_rfl) rfl args
@[go_sem] theorem call67 (args:Array Value) (w:World):Sem.run prog (callFunc 67 args) w=.ok (.enter 67 args) w:=g_call _ w func67 (by kernel_rfl) rfl args
@[go_sem] theorem call68 (args:Array Value) (w:World):Sem.run prog (callFunc 68 args) w=.ok (.enter 68 args) w:=g_call _ w func68 (by kernel_rfl) rfl args
@[go_sem] theorem call69 (args:Array Value) (w:World):Sem.run prog (callFunc 69 args) w=.ok (.enter 69 args) w:=g_call _ w func69 (by kernel_rfl) rfl args
@[go_sem] theorem call70 (args:Array Value) (w:World):Sem.run prog (callFunc 70 args) w=.ok (.enter 70 args) w:=g_call _ w func70 (by kernel_rfl) rfl args
@[go_sem] theorem call71 (args:Array Value) (w:World):Sem.run prog (callFunc 71 args) w=.ok (.enter 71 args) w:=g_call _ w func71 (by kernel_rfl) rfl args
@[go_sem] theorem call72 (args:Array Value) (w:World):Sem.run prog (callFunc 72 args) w=.ok (.enter 72 args) w:=g_call _ w func72 (by kernel_rfl) rfl args
@[go_sem] theorem call73 (args:Array Value) (w:World):Sem.run prog (callFunc 73 args) w=.ok (.enter 73 args) w:=g_call _ w func73 (by kernel_rfl) rfl args
@[go_sem] theorem call74 (args:Array Value) (w:World):Sem.run prog (callFunc 74 args) w=.ok (.enter 74 args) w:=g_call _ w func74 (by kernel_rfl) rfl args
@[go_sem] theorem call75 (args:Array Value) (w:World):Sem.run prog (callFunc 75 args) w=.ok (.enter 75 args) w:=g_call _ w func75 (by kernel_rfl) rfl args
@[go_sem] theorem call76 (args:Array Value) (w:World):Sem.run prog (callFunc 76 args) w=.ok (.enter 76 args) w:=g_call _ w func76 (by kernel_rfl) rfl args
@[go_sem] theorem call77 (args:Array Value) (w:World):Sem.run prog (callFunc 77 args) w=.ok (.enter 77 args) w:=g_call _ w func77 (by kernel_rfl) rfl args
@[go_sem] theorem call78 (args:Array Value) (w:World):Sem.run prog (callFunc 78 args) w=.ok (.enter 78 args) w:=g_call _ w func78 (by kernel_rfl) rfl args
@[go_sem] theorem call79 (args:Array Value) (w:World):Sem.run prog (callFunc 79 args) w=.ok (.enter 79 args) w:=g_call _ w func79 (by kernel_rfl) rfl args
@[go_sem] theorem call80 (args:Array Value) (w:World):Sem.run prog (callFunc 80 args) w=.ok (.enter 80 args) w:=g_call _ w func80 (by kernel_rfl) rfl args
@[go_sem] theorem call81 (args:Array Value) (w:World):Sem.run prog (callFunc 81 args) w=.ok (.enter 81 args) w:=g_call _ w func81 (by kernel_rfl) rfl args
@[go_sem] theorem call82 (args:Array Value) (w:World):Sem.run prog (callFunc 82 args) w=.ok (.enter 82 args) w:=g_call _ w func82 (by kernel_rfl) rfl args
@[go_sem] theorem call83 (args:Array Value) (w:World):Sem.run prog (callFunc 83 args) w=.ok (.enter 83 args) w:=g_call _ w func83 (by kernel_rfl) rfl args
@[go_sem] theorem call84 (args:Array Value) (w:World):Sem.run prog (callFunc 84 args) w=.ok (.enter 84 args) w:=g_call _ w func84 (by kernel_rfl) rfl args
@[go_sem] theorem call85 (args:Array Value) (w:World):Sem.run prog (callFunc 85 args) w=.ok (.enter 85 args) w:=g_call _ w func85 (by kernel_rfl) rfl args
@[go_sem] theorem call86 (args:Array Value) (w:World):Sem.run prog (callFunc 86 args) w=.ok (.enter 86 args) w:=g_call _ w func86 (by kernel_rfl) rfl args
@[go_sem] theorem call107 (args:Array Value) (w:World):Sem.run prog (callFunc 107 args) w=.ok (.enter 107 args) w:=g_call _ w func107 (by kernel_rfl) rfl args
@[go_sem] theorem call108 (args:Array Value) (w:World):Sem.run prog (callFunc 108 args) w=.ok (.enter 108 args) w:=g_call _ w func108 (by kernel_rfl) rfl args
@[go_sem] theorem call109 (args:Array Value) (w:World):Sem.run prog (callFunc 109 args) w=.ok (.enter 109 args) w:=g_call _ w func109 (by kernel_rfl) rfl args
@[go_sem] theorem call110 (args:Array Value) (w:World):Sem.run prog (callFunc 110 args) w=.ok (.enter 110 args) w:=g_call _ w func110 (by kernel_rfl) rfl args
@[go_sem] theorem call111 (args:Array Value) (w:World):Sem.run prog (callFunc 111 args) w=.ok (.enter 111 args) w:=g_call _ w func111 (by kernel_rfl) rfl args
@[go_sem] theorem call112 (args:Array Value) (w:World):Sem.run prog (callFunc 112 args) w=.ok (.enter 112 args) w:=g_call _ w func112 (by kernel_rfl) rfl args
@[go_sem] theorem call113 (args:Array Value) (w:World):Sem.run prog (callFunc 113 args) w=.ok (.enter 113 args) w:=g_call _ w func113 (by kernel_rfl) rfl args
@[go_sem] theorem call114 (args:Array Value) (w:World):Sem.run prog (callFunc 114 args) w=.ok (.enter 114 args) w:=g_call _ w func114 (by kernel_rfl) rfl args
@[go_sem] theorem call115 (args:Array Value) (w:World):Sem.run prog (callFunc 115 args) w=.ok (.enter 115 args) w:=g_call _ w func115 (by kernel_rfl) rfl args
@[go_sem] theorem call116 (args:Array Value) (w:World):Sem.run prog (callFunc 116 args) w=.ok (.enter 116 args) w:=g_call _ w func116 (by kernel_rfl) rfl args
@[go_sem] theorem call127 (args:Array Value) (w:World):Sem.run prog (callFunc 127 args) w=.ok (.enter 127 args) w:=g_call _ w func127 (by kernel_rfl) rfl args
@[go_sem] theorem call128 (args:Array Value) (w:World):Sem.run prog (callFunc 128 args) w=.ok (.enter 128 args) w:=g_call _ w func128 (by kernel_rfl) rfl args
@[go_sem] theorem call129 (args:Array Value) (w:World):Sem.run prog (callFunc 129 args) w=.ok (.enter 129 args) w:=g_call _ w func129 (by kernel_rfl) rfl args
@[go_sem] theorem call130 (args:Array Value) (w:World):Sem.run prog (callFunc 130 args) w=.ok (.enter 130 args) w:=g_call _ w func130 (by kernel_rfl) rfl args
@[go_sem] theorem call131 (args:Array Value) (w:World):Sem.run prog (callFunc 131 args) w=.ok (.enter 131 args) w:=g_call _ w func131 (by kernel_rfl) rfl args
@[go_sem] theorem call132 (args:Array Value) (w:World):Sem.run prog (callFunc 132 args) w=.ok (.enter 132 args) w:=g_call _ w func132 (by kernel_rfl) rfl args
@[go_sem] theorem call133 (args:Array Value) (w:World):Sem.run prog (callFunc 133 args) w=.ok (.enter 133 args) w:=g_call _ w func133 (by kernel_rfl) rfl args
@[go_sem] theorem call134 (args:Array Value) (w:World):Sem.run prog (callFunc 134 args) w=.ok (.enter 134 args) w:=g_call _ w func134 (by kernel_rfl) rfl args
@[go_sem] theorem call135 (args:Array Value) (w:World):Sem.run prog (callFunc 135 args) w=.ok (.enter 135 args) w:=g_call _ w func135 (by kernel_rfl) rfl args
@[go_sem] theorem call142 (args:Array Value) (w:World):Sem.run prog (callFunc 142 args) w=.ok (.enter 142 args) w:=g_call _ w func142 (by kernel_rfl) rfl args
@[go_sem] theorem call148 (args:Array Value) (w:World):Sem.run prog (callFunc 148 args) w=.ok (.enter 148 args) w:=g_call _ w func148 (by kernel_rfl) rfl args
@[go_sem] theorem call149 (args:Array Value) (w:World):Sem.run prog (callFunc 149 args) w=.ok (.enter 149 args) w:=g_call _ w func149 (by kernel_rfl) rfl args
@[go_sem] theorem call150 (args:Array Value) (w:World):Sem.run prog (callFunc 150 args) w=.ok (.enter 150 args) w:=g_call _ w func150 (by kernel_rfl) rfl args
@[go_sem] theorem call152 (args:Array Value) (w:World):Sem.run prog (callFunc 152 args) w=.ok (.enter 152 args) w:=g_call _ w func152 (by kernel_rfl) rfl args
@[go_sem] theorem call153 (args:Array Value) (w:World):Sem.run prog (callFunc 153 args) w=.ok (.enter 153 args) w:=g_call _ w func153 (by kernel_rfl) rfl args
@[go_sem] theorem call154 (args:Array Value) (w:World):Sem.run prog (callFunc 154 args) w=.ok (.enter 154 args) w:=g_call _ w func154 (by kernel_rfl) rfl args
@[go_sem] theorem call155 (args:Array Value) (w:World):Sem.run prog (callFunc 155 args) w=.ok (.enter 155 args) w:=g_call _ w func155 (by kernel_rfl) rfl args
theorem ntmps4:type_of%Tryz.ntmps4:=Tryz.ntmps4
theorem ntmps6:type_of%Tryz.ntmps6:=Tryz.ntmps6
theorem ntmps10:type_of%Tryz.ntmps10:=Tryz.ntmps10
theorem ntmps11:type_of%Tryz.ntmps11:=Tryz.ntmps11
theorem ntmps14:type_of%Tryz.ntmps14:=Tryz.ntmps14
theorem ntmps15:type_of%Tryz.ntmps15:=Tryz.ntmps15
theorem ntmps16:type_of%Tryz.ntmps16:=Tryz.ntmps16
theorem ntmps17:type_of%Tryz.ntmps17:=Tryz.ntmps17
theorem ntmps18:type_of%Tryz.ntmps18:=Tryz.ntmps18
theorem ntmps19:type_of%Tryz.ntmps19:=Tryz.ntmps19
theorem ntmps20:type_of%Tryz.ntmps20:=Tryz.ntmps20
theorem ntmps22:type_of%Tryz.ntmps22:=Tryz.ntmps22
theorem ntmps23:type_of%Tryz.ntmps23:=Tryz.ntmps23
theorem ntmps25:type_of%Tryz.ntmps25:=Tryz.ntmps25
theorem ntmps26:type_of%Tryz.ntmps26:=Tryz.ntmps26
theorem ntmps27:type_of%Tryz.ntmps27:=Tryz.ntmps27
theorem ntmps28:type_of%Tryz.ntmps28:=Tryz.ntmps28
theorem ntmps29:type_of%Tryz.ntmps29:=Tryz.ntmps29
theorem ntmps30:type_of%Tryz.ntmps30:=Tryz.ntmps30
theorem ntmps31:type_of%Tryz.ntmps31:=Tryz.ntmps31
theorem ntmps32:type_of%Tryz.ntmps32:=Tryz.ntmps32
theorem ntmps33:type_of%Tryz.ntmps33:=Tryz.ntmps33
theorem ntmps34:type_of%Tryz.ntmps34:=Tryz.ntmps34
theorem ntmps35:type_of%Tryz.ntmps35:=Tryz.ntmps35
theorem ntmps37:type_of%Tryz.ntmps37:=Tryz.ntmps37
theorem ntmps38:type_of%Tryz.ntmps38:=Tryz.ntmps38
theorem ntmps39:type_of%Tryz.ntmps39:=Tryz.ntmps39
theorem ntmps40:type_of%Tryz.ntmps40:=Tryz.ntmps40
theorem ntmps41:type_of%Tryz.ntmps41:=Tryz.ntmps41
theorem ntmps42:type_of%Tryz.ntmps42:=Tryz.ntmps42
theorem ntmps44:type_of%Tryz.ntmps44:=Tryz.ntmps44
theorem ntmps45:type_of%Tryz.ntmps45:=Tryz.ntmps45
theorem ntmps51:type_of%Tryz.ntmps51:=Tryz.ntmps51
theorem ntmps52:type_of%Tryz.ntmps52:=Tryz.ntmps52
theorem ntmps53:type_of%Tryz.ntmps53:=Tryz.ntmps53
theorem ntmps54:type_of%Tryz.ntmps54:=Tryz.ntmps54
theorem ntmps55:type_of%Tryz.ntmps55:=Tryz.ntmps55
theorem ntmps56:type_of%Tryz.ntmps56:=Tryz.ntmps56
theorem ntmps57:type_of%Tryz.ntmps57:=Tryz.ntmps57
theorem ntmps58:type_of%Tryz.ntmps58:=Tryz.ntmps58
theorem ntmps59:type_of%Tryz.ntmps59:=Tryz.ntmps59
theorem ntmps60:type_of%Tryz.ntmps60:=Tryz.ntmps60
theorem ntmps61:type_of%Tryz.ntmps61:=Tryz.ntmps61
theorem ntmps62:type_of%Tryz.ntmps62:=Tryz.ntmps62
theorem ntmps65:type_of%Tryz.ntmps65:=Tryz.ntmps65
theorem ntmps66:type_of%Tryz.ntmps66:=Tryz.ntmps66
theorem ntmps67:type_of%Tryz.ntmps67:=Tryz.ntmps67
theorem ntmps68:type_of%Tryz.ntmps68:=Tryz.ntmps68
theorem ntmps69:type_of%Tryz.ntmps69:=Tryz.ntmps69
theorem ntmps70:type_of%Tryz.ntmps70:=Tryz.ntmps70
theorem ntmps71:type_of%Tryz.ntmps71:=Tryz.ntmps71
theorem ntmps72:type_of%Tryz.ntmps72:=Tryz.ntmps72
theorem ntmps73:type_of%Tryz.ntmps73:=Tryz.ntmps73
theorem ntmps74:type_of%Tryz.ntmps74:=Tryz.ntmps74
theorem ntmps75:type_of%Tryz.ntmps75:=Tryz.ntmps75
theorem ntmps76:type_of%Tryz.ntmps76:=Tryz.ntmps76
theorem ntmps77:type_of%Tryz.ntmps77:=Tryz.ntmps77
theorem ntmps78:type_of%Tryz.ntmps78:=Tryz.ntmps78
theorem ntmps79:type_of%Tryz.ntmps79:=Tryz.ntmps79
theorem ntmps80:type_of%Tryz.ntmps80:=Tryz.ntmps80
theorem ntmps81:type_of%Tryz.ntmps81:=Tryz.ntmps81
theorem ntmps82:type_of%Tryz.ntmps82:=Tryz.ntmps82
theorem ntmps83:type_of%Tryz.ntmps83:=Tryz.ntmps83
theorem ntmps84:type_of%Tryz.ntmps84:=Tryz.ntmps84
theorem ntmps85:type_of%Tryz.ntmps85:=Tryz.ntmps85
theorem ntmps86:type_of%Tryz.ntmps86:=Tryz.ntmps86
theorem ntmps101:type_of%Tryz.ntmps101:=Tryz.ntmps101
theorem ntmps107:type_of%Tryz.ntmps107:=Tryz.ntmps107
theorem ntmps108:type_of%Tryz.ntmps108:=Tryz.ntmps108
theorem ntmps109:type_of%Tryz.ntmps109:=Tryz.ntmps109
theorem ntmps110:type_of%Tryz.ntmps110:=Tryz.ntmps110
theorem ntmps111:type_of%Tryz.ntmps111:=Tryz.ntmps111
theorem ntmps112:type_of%Tryz.ntmps112:=Tryz.ntmps112
theorem ntmps113:type_of%Tryz.ntmps113:=Tryz.ntmps113
theorem ntmps114:type_of%Tryz.ntmps114:=Tryz.ntmps114
theorem ntmps115:type_of%Tryz.ntmps115:=Tryz.ntmps115
theorem ntmps116:type_of%Tryz.ntmps116:=Tryz.ntmps116
theorem ntmps127:type_of%Tryz.ntmps127:=Tryz.ntmps127
theorem ntmps128:type_of%Tryz.ntmps128:=Tryz.ntmps128
theorem ntmps129:type_of%Tryz.ntmps129:=Tryz.ntmps129
theorem ntmps130:type_of%Tryz.ntmps130:=Tryz.ntmps130
theorem ntmps131:type_of%Tryz.ntmps131:=Tryz.ntmps131
theorem ntmps132:type_of%Tryz.ntmps132:=Tryz.ntmps132
theorem ntmps133:type_of%Tryz.ntmps133:=Tryz.ntmps133
theorem ntmps134:type_of%Tryz.ntmps134:=Tryz.ntmps134
theorem ntmps135:type_of%Tryz.ntmps135:=Tryz.ntmps135
theorem ntmps142:type_of%Tryz.ntmps142:=Tryz.ntmps142
theorem ntmps148:type_of%Tryz.ntmps148:=Tryz.ntmps148
theorem ntmps149:type_of%Tryz.ntmps149:=Tryz.ntmps149
theorem ntmps150:type_of%Tryz.ntmps150:=Tryz.ntmps150
theorem ntmps152:type_of%Tryz.ntmps152:=Tryz.ntmps152
theorem ntmps153:type_of%Tryz.ntmps153:=Tryz.ntmps153
theorem ntmps154:type_of%Tryz.ntmps154:=Tryz.ntmps154
theorem ntmps155:type_of%Tryz.ntmps155:=Tryz.ntmps155
end Go.Proofs.Tryz0
