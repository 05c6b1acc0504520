import Derived.Test.YtlmcblcijndipabGreatDoorChecked
import Derived.WalkKit
namespace Go.Proofs.Tryz0
open Go
def body0:Code:=.refuse ""
def shutL:List Nat:=[181,65,271,287,272]
def shutF (i:Nat)(f:Func):Func:=if shutL.contains i then{f with body:=some body0}else f
noncomputable def prog:Program:={Tryz.prog with funcs:=Tryz.prog.funcs.mapIdx shutF}
section
variable (P:Program)(fs:Array Func)(t:TypeId)(w:World)
theorem g_un:Program.underlying {P with funcs:=fs} t=P.underlying t:=rfl
theorem g_el:Program.elem {P with funcs:=fs} t=P.elem t:=rfl
theorem g_al:Program.arrayLen {P with funcs:=fs} t=P.arrayLen t:=rfl
theorem g_ru:Sem.run {P with funcs:=fs} (underlying t) w=Sem.run P (underlying t) w:=by
 unfold underlying;show Sem.run _ (match Program.underlying {P with funcs:=fs} t with|some d=>pure d|none=>_) w=Sem.run _ (match P.underlying t with|some d=>pure d|none=>_) w;rw[g_un];cases P.underlying t<;>rfl
theorem g_ti:Sem.run {P with funcs:=fs} (typeInfo t) w=Sem.run P (typeInfo t) w:=by
 unfold typeInfo;show Sem.run _ (match P.toTables.info? t with|some d=>pure d|none=>_) w=Sem.run _ (match P.toTables.info? t with|some d=>pure d|none=>_) w;cases P.toTables.info? t<;>rfl
omit P fs t w in
theorem andThen_congr {α β:Type}(r:Result α){k k':α->World->Result β}(h:∀a w,k a w=k' a w):r.andThen k=r.andThen k':=by
 cases r with
 |ok a w=>exact h a w
 |halt _ _=>rfl
omit P fs t w in
theorem run_pure2 {α:Type}(P P':Program)(a:α)(w:World):Sem.run P (pure a:Sem α) w=Sem.run P' (pure a:Sem α) w:=rfl
omit P fs t w in
theorem run_uns {α:Type}(P P':Program)(u:Unsupported)(w:World):Sem.run P (unsupported u:Sem α) w=Sem.run P' (unsupported u:Sem α) w:=rfl
theorem g_so:Sem.run {P with funcs:=fs} (sizeOf t) w=Sem.run P (sizeOf t) w:=by
 unfold sizeOf;rw[Sem.run_bind,Sem.run_bind,g_ti P fs];exact andThen_congr _ λd w'=>run_pure2 _ _ _ _
theorem g_ia:Sem.run {P with funcs:=fs} (isAgg t) w=Sem.run P (isAgg t) w:=by
 unfold isAgg;rw[Sem.run_bind,Sem.run_bind,g_ru P fs];refine andThen_congr _ λd w'=>?_
 cases d<;>exact run_pure2 _ _ _ _
theorem g_zv:Sem.run {P with funcs:=fs} (zeroValue t) w=Sem.run P (zeroValue t) w:=by
 unfold zeroValue;rw[Sem.run_bind,Sem.run_bind,g_ti P fs];refine andThen_congr _ λd w'=>?_
 obtain⟨z,hz⟩:∃z,d.zero=z:=⟨_,rfl⟩;rw[hz];cases z with
 |some v=>exact run_pure2 _ _ _ _
 |none=>exact run_uns _ _ _ _
theorem g_call {f:FuncId}{fn:Func}{c:Code}(hf:P.funcs[f]?=some fn)(hn:(fn.name== "runtime.NumGoroutine")=false)(hb:fn.body=some c)(args:Array Value):Sem.run P (callFunc f args) w=.ok (.enter f args) w:=by
 have h1:fn.name≠ "runtime.NumGoroutine":=by simpa using hn
 simp[callFunc,hf,h1,hb]
end
@[go_sem] theorem un0 (t:TypeId):prog.underlying t=Tryz.prog.underlying t:=g_un Tryz.prog (Tryz.prog.funcs.mapIdx shutF) t
@[go_sem] theorem el0 (t:TypeId):prog.elem t=Tryz.prog.elem t:=g_el Tryz.prog (Tryz.prog.funcs.mapIdx shutF) t
@[go_sem] theorem al0 (t:TypeId):prog.arrayLen t=Tryz.prog.arrayLen t:=g_al Tryz.prog (Tryz.prog.funcs.mapIdx shutF) t
@[go_sem] theorem ru0 (t:TypeId) (w:World):Sem.run prog (underlying t) w=Sem.run Tryz.prog (underlying t) w:=g_ru Tryz.prog (Tryz.prog.funcs.mapIdx shutF) t w
@[go_sem] theorem ti0 (t:TypeId) (w:World):Sem.run prog (typeInfo t) w=Sem.run Tryz.prog (typeInfo t) w:=g_ti Tryz.prog (Tryz.prog.funcs.mapIdx shutF) t w
@[go_sem] theorem so0 (t:TypeId) (w:World):Sem.run prog (sizeOf t) w=Sem.run Tryz.prog (sizeOf t) w:=g_so Tryz.prog (Tryz.prog.funcs.mapIdx shutF) t w
@[go_sem] theorem ia0 (t:TypeId) (w:World):Sem.run prog (isAgg t) w=Sem.run Tryz.prog (isAgg t) w:=g_ia Tryz.prog (Tryz.prog.funcs.mapIdx shutF) t w
@[go_sem] theorem zv0 (t:TypeId) (w:World):Sem.run prog (zeroValue t) w=Sem.run Tryz.prog (zeroValue t) w:=g_zv Tryz.prog (Tryz.prog.funcs.mapIdx shutF) t w
theorem tr_underlying {t:TypeId}{d:Option TypeDesc}(h:Tryz.prog.underlying t=d):prog.underlying t=d:=(un0 t).trans h
theorem tr_sizeOf {t:TypeId}{r:World->Result Nat}(h:∀w,Sem.run Tryz.prog (sizeOf t) w=r w):∀w,Sem.run prog (sizeOf t) w=r w:=λw=>(so0 t w).trans (h w)
theorem tr_isAgg {t:TypeId}{r:World->Result Bool}(h:∀w,Sem.run Tryz.prog (isAgg t) w=r w):∀w,Sem.run prog (isAgg t) w=r w:=λw=>(ia0 t w).trans (h w)
theorem tr_zeroValue {t:TypeId}{r:World->Result Value}(h:∀w,Sem.run Tryz.prog (zeroValue t) w=r w):∀w,Sem.run prog (zeroValue t) w=r w:=λw=>(zv0 t w).trans (h w)
theorem g_fn (P:Program){n:Nat}{f:Func}(hne:shutL.contains n=false)(h:P.funcs[n]?=some f):({P with funcs:=P.funcs.mapIdx shutF}:Program).funcs[n]?=some f:=by
 show(P.funcs.mapIdx shutF)[n]?=_;rw[Array.getElem?_mapIdx,h];simp only[Option.map_some,shutF,hne,Bool.false_eq_true,if_false]
theorem g_shut (P:Program){n:Nat}{f:Func}(hs:shutL.contains n=true)(h:P.funcs[n]?=some f):({P with funcs:=P.funcs.mapIdx shutF}:Program).funcs[n]?=some {f with body:=some body0}:=by
 show(P.funcs.mapIdx shutF)[n]?=_;rw[Array.getElem?_mapIdx,h];simp only[Option.map_some,shutF,hs,if_true]
theorem g_nt (P:Program)(n:Nat):((({P with funcs:=P.funcs.mapIdx shutF}:Program).funcs[n]?).map (·.ntmps)).getD 0=((P.funcs[n]?).map (·.ntmps)).getD 0:=by
 show(((P.funcs.mapIdx shutF)[n]?).map (·.ntmps)).getD 0=_;rw[Array.getElem?_mapIdx];cases P.funcs[n]? with
 |none=>rfl
 |some f=>simp only[Option.map_some,shutF];split<;>rfl
theorem func181:prog.funcs[181]?=some {Tryz.f181 with body:=some body0}:=g_shut Tryz.prog (by decide) Tryz.func181
theorem func65:prog.funcs[65]?=some {Tryz.f65 with body:=some body0}:=g_shut Tryz.prog (by decide) Tryz.func65
theorem func5:prog.funcs[5]?=some Tryz.f5:=g_fn Tryz.prog (by decide) Tryz.func5
theorem func8:prog.funcs[8]?=some Tryz.f8:=g_fn Tryz.prog (by decide) Tryz.func8
theorem func9:prog.funcs[9]?=some Tryz.f9:=g_fn Tryz.prog (by decide) Tryz.func9
theorem func11:prog.funcs[11]?=some Tryz.f11:=g_fn Tryz.prog (by decide) Tryz.func11
theorem func12:prog.funcs[12]?=some Tryz.f12:=g_fn Tryz.prog (by decide) Tryz.func12
theorem func14:prog.funcs[14]?=some Tryz.f14:=g_fn Tryz.prog (by decide) Tryz.func14
theorem func15:prog.funcs[15]?=some Tryz.f15:=g_fn Tryz.prog (by decide) Tryz.func15
theorem func16:prog.funcs[16]?=some Tryz.f16:=g_fn Tryz.prog (by decide) Tryz.func16
theorem func19:prog.funcs[19]?=some Tryz.f19:=g_fn Tryz.prog (by decide) Tryz.func19
theorem func20:prog.funcs[20]?=some Tryz.f20:=g_fn Tryz.prog (by decide) Tryz.func20
theorem func28:prog.funcs[28]?=some Tryz.f28:=g_fn Tryz.prog (by decide) Tryz.func28
theorem func29:prog.funcs[29]?=some Tryz.f29:=g_fn Tryz.prog (by decide) Tryz.func29
theorem func30:prog.funcs[30]?=some Tryz.f30:=g_fn Tryz.prog (by decide) Tryz.func30
theorem func31:prog.funcs[31]?=some Tryz.f31:=g_fn Tryz.prog (by decide) Tryz.func31
theorem func32:prog.funcs[32]?=some Tryz.f32:=g_fn Tryz.prog (by decide) Tryz.func32
theorem func33:prog.funcs[33]?=some Tryz.f33:=g_fn Tryz.prog (by decide) Tryz.func33
theorem func35:prog.funcs[35]?=some Tryz.f35:=g_fn Tryz.prog (by decide) Tryz.func35
theorem func37:prog.funcs[37]?=some Tryz.f37:=g_fn Tryz.prog (by decide) Tryz.func37
theorem func38:prog.funcs[38]?=some Tryz.f38:=g_fn Tryz.prog (by decide) Tryz.func38
theorem func39:prog.funcs[39]?=some Tryz.f39:=g_fn Tryz.prog (by decide) Tryz.func39
theorem func40:prog.funcs[40]?=some Tryz.f40:=g_fn Tryz.prog (by decide) Tryz.func40
theorem func41:prog.funcs[41]?=some Tryz.f41:=g_fn Tryz.prog (by decide) Tryz.func41
theorem func42:prog.funcs[42]?=some Tryz.f42:=g_fn Tryz.prog (by decide) Tryz.func42
theorem func43:prog.funcs[43]?=some Tryz.f43:=g_fn Tryz.prog (by decide) Tryz.func43
theorem func44:prog.funcs[44]?=some Tryz.f44:=g_fn Tryz.prog (by decide) Tryz.func44
theorem func45:prog.funcs[45]?=some Tryz.f45:=g_fn Tryz.prog (by decide) Tryz.func45
theorem func47:prog.funcs[47]?=some Tryz.f47:=g_fn Tryz.prog (by decide) Tryz.func47
theorem func48:prog.funcs[48]?=some Tryz.f48:=g_fn Tryz.prog (by decide) Tryz.func48
theorem func50:prog.funcs[50]?=some Tryz.f50:=g_fn Tryz.prog (by decide) Tryz.func50
theorem func59:prog.funcs[59]?=some Tryz.f59:=g_fn Tryz.prog (by decide) Tryz.func59
theorem func60:prog.funcs[60]?=some Tryz.f60:=g_fn Tryz.prog (by decide) Tryz.func60
theorem func61:prog.funcs[61]?=some Tryz.f61:=g_fn Tryz.prog (by decide) Tryz.func61
theorem func62:prog.funcs[62]?=some Tryz.f62:=g_fn Tryz.prog (by decide) Tryz.func62
theorem func63:prog.funcs[63]?=some Tryz.f63:=g_fn Tryz.prog (by decide) Tryz.func63
theorem func64:prog.funcs[64]?=some Tryz.f64:=g_fn Tryz.prog (by decide) Tryz.func64
theorem func66:prog.funcs[66]?=some Tryz.f66:=g_fn Tryz.prog (by decide) Tryz.func66
theorem func67:prog.funcs[67]?=some Tryz.f67:=g_fn Tryz.prog (by decide) Tryz.func67
theorem func68:prog.funcs[68]?=some Tryz.f68:=g_fn Tryz.prog (by decide) Tryz.func68
theorem func83:prog.funcs[83]?=some Tryz.f83:=g_fn Tryz.prog (by decide) Tryz.func83
theorem func84:prog.funcs[84]?=some Tryz.f84:=g_fn Tryz.prog (by decide) Tryz.func84
theorem func85:prog.funcs[85]?=some Tryz.f85:=g_fn Tryz.prog (by decide) Tryz.func85
theorem func86:prog.funcs[86]?=some Tryz.f86:=g_fn Tryz.prog (by decide) Tryz.func86
theorem func87:prog.funcs[87]?=some Tryz.f87:=g_fn Tryz.prog (by decide) Tryz.func87
theorem func88:prog.funcs[88]?=some Tryz.f88:=g_fn Tryz.prog (by decide) Tryz.func88
theorem func89:prog.funcs[89]?=some Tryz.f89:=g_fn Tryz.prog (by decide) Tryz.func89
theorem func90:prog.funcs[90]?=some Tryz.f90:=g_fn Tryz.prog (by decide) Tryz.func90
theorem func92:prog.funcs[92]?=some Tryz.f92:=g_fn Tryz.prog (by decide) Tryz.func92
theorem func93:prog.funcs[93]?=some Tryz.f93:=g_fn Tryz.prog (by decide) Tryz.func93
theorem func107:prog.funcs[107]?=some Tryz.f107:=g_fn Tryz.prog (by decide) Tryz.func107
theorem func108:prog.funcs[108]?=some Tryz.f108:=g_fn Tryz.prog (by decide) Tryz.func108
theorem func109:prog.funcs[109]?=some Tryz.f109:=g_fn Tryz.prog (by decide) Tryz.func109
theorem func110:prog.funcs[110]?=some Tryz.f110:=g_fn Tryz.prog (by decide) Tryz.func110
theorem func111:prog.funcs[111]?=some Tryz.f111:=g_fn Tryz.prog (by decide) Tryz.func111
theorem func112:prog.funcs[112]?=some Tryz.f112:=g_fn Tryz.prog (by decide) Tryz.func112
theorem func116:prog.funcs[116]?=some Tryz.f116:=g_fn Tryz.prog (by decide) Tryz.func116
theorem func122:prog.funcs[122]?=some Tryz.f122:=g_fn Tryz.prog (by decide) Tryz.func122
theorem func123:prog.funcs[123]?=some Tryz.f123:=g_fn Tryz.prog (by decide) Tryz.func123
theorem func125:prog.funcs[125]?=some Tryz.f125:=g_fn Tryz.prog (by decide) Tryz.func125
theorem func126:prog.funcs[126]?=some Tryz.f126:=g_fn Tryz.prog (by decide) Tryz.func126
theorem func127:prog.funcs[127]?=some Tryz.f127:=g_fn Tryz.prog (by decide) Tryz.func127
theorem func128:prog.funcs[128]?=some Tryz.f128:=g_fn Tryz.prog (by decide) Tryz.func128
theorem func129:prog.funcs[129]?=some Tryz.f129:=g_fn Tryz.prog (by decide) Tryz.func129
theorem func130:prog.funcs[130]?=some Tryz.f130:=g_fn Tryz.prog (by decide) Tryz.func130
theorem func131:prog.funcs[131]?=some Tryz.f131:=g_fn Tryz.prog (by decide) Tryz.func131
theorem func132:prog.funcs[132]?=some Tryz.f132:=g_fn Tryz.prog (by decide) Tryz.func132
theorem func143:prog.funcs[143]?=some Tryz.f143:=g_fn Tryz.prog (by decide) Tryz.func143
theorem func144:prog.funcs[144]?=some Tryz.f144:=g_fn Tryz.prog (by decide) Tryz.func144
theorem func145:prog.funcs[145]?=some Tryz.f145:=g_fn Tryz.prog (by decide) Tryz.func145
theorem func146:prog.funcs[146]?=some Tryz.f146:=g_fn Tryz.prog (by decide) Tryz.func146
theorem func147:prog.funcs[147]?=some Tryz.f147:=g_fn Tryz.prog (by decide) Tryz.func147
theorem func148:prog.funcs[148]?=some Tryz.f148:=g_fn Tryz.prog (by decide) Tryz.func148
theorem func149:prog.funcs[149]?=some Tryz.f149:=g_fn Tryz.prog (by decide) Tryz.func149
theorem func150:prog.funcs[150]?=some Tryz.f150:=g_fn Tryz.prog (by decide) Tryz.func150
theorem func151:prog.funcs[151]?=some Tryz.f151:=g_fn Tryz.prog (by decide) Tryz.func151
theorem func166:prog.funcs[166]?=some Tryz.f166:=g_fn Tryz.prog (by decide) Tryz.func166
theorem func167:prog.funcs[167]?=some Tryz.f167:=g_fn Tryz.prog (by decide) Tryz.func167
theorem func168:prog.funcs[168]?=some Tryz.f168:=g_fn Tryz.prog (by decide) Tryz.func168
theorem func169:prog.funcs[169]?=some Tryz.f169:=g_fn Tryz.prog (by decide) Tryz.func169
theorem func170:prog.funcs[170]?=some Tryz.f170:=g_fn Tryz.prog (by decide) Tryz.func170
theorem func171:prog.funcs[171]?=some Tryz.f171:=g_fn Tryz.prog (by decide) Tryz.func171
theorem func172:prog.funcs[172]?=some Tryz.f172:=g_fn Tryz.prog (by decide) Tryz.func172
theorem func173:prog.funcs[173]?=some Tryz.f173:=g_fn Tryz.prog (by decide) Tryz.func173
theorem func174:prog.funcs[174]?=some Tryz.f174:=g_fn Tryz.prog (by decide) Tryz.func174
theorem func175:prog.funcs[175]?=some Tryz.f175:=g_fn Tryz.prog (by decide) Tryz.func175
theorem func176:prog.funcs[176]?=some Tryz.f176:=g_fn Tryz.prog (by decide) Tryz.func176
theorem func177:prog.funcs[177]?=some Tryz.f177:=g_fn Tryz.prog (by decide) Tryz.func177
theorem func178:prog.funcs[178]?=some Tryz.f178:=g_fn Tryz.prog (by decide) Tryz.func178
theorem func179:prog.funcs[179]?=some Tryz.f179:=g_fn Tryz.prog (by decide) Tryz.func179
theorem func180:prog.funcs[180]?=some Tryz.f180:=g_fn Tryz.prog (by decide) Tryz.func180
theorem func182:prog.funcs[182]?=some Tryz.f182:=g_fn Tryz.prog (by decide) Tryz.func182
theorem func192:prog.funcs[192]?=some Tryz.f192:=g_fn Tryz.prog (by decide) Tryz.func192
theorem func193:prog.funcs[193]?=some Tryz.f193:=g_fn Tryz.prog (by decide) Tryz.func193
theorem func194:prog.funcs[194]?=some Tryz.f194:=g_fn Tryz.prog (by decide) Tryz.func194
theorem func195:prog.funcs[195]?=some Tryz.f195:=g_fn Tryz.prog (by decide) Tryz.func195
theorem func196:prog.funcs[196]?=some Tryz.f196:=g_fn Tryz.prog (by decide) Tryz.func196
theorem func197:prog.funcs[197]?=some Tryz.f197:=g_fn Tryz.prog (by decide) Tryz.func197
theorem func199:prog.funcs[199]?=some Tryz.f199:=g_fn Tryz.prog (by decide) Tryz.func199
theorem func201:prog.funcs[201]?=some Tryz.f201:=g_fn Tryz.prog (by decide) Tryz.func201
theorem func203:prog.funcs[203]?=some Tryz.f203:=g_fn Tryz.prog (by decide) Tryz.func203
theorem func204:prog.funcs[204]?=some Tryz.f204:=g_fn Tryz.prog (by decide) Tryz.func204
theorem func205:prog.funcs[205]?=some Tryz.f205:=g_fn Tryz.prog (by decide) Tryz.func205
theorem func206:prog.funcs[206]?=some Tryz.f206:=g_fn Tryz.prog (by decide) Tryz.func206
theorem func207:prog.funcs[207]?=some Tryz.f207:=g_fn Tryz.prog (by decide) Tryz.func207
theorem func212:prog.funcs[212]?=some Tryz.f212:=g_fn Tryz.prog (by decide) Tryz.func212
theorem func227:prog.funcs[227]?=some Tryz.f227:=g_fn Tryz.prog (by decide) Tryz.func227
theorem func233:prog.funcs[233]?=some Tryz.f233:=g_fn Tryz.prog (by decide) Tryz.func233
theorem func234:prog.funcs[234]?=some Tryz.f234:=g_fn Tryz.prog (by decide) Tryz.func234
theorem func235:prog.funcs[235]?=some Tryz.f235:=g_fn Tryz.prog (by decide) Tryz.func235
theorem func236:prog.funcs[236]?=some Tryz.f236:=g_fn Tryz.prog (by decide) Tryz.func236
theorem func237:prog.funcs[237]?=some Tryz.f237:=g_fn Tryz.prog (by decide) Tryz.func237
theorem func238:prog.funcs[238]?=some Tryz.f238:=g_fn Tryz.prog (by decide) Tryz.func238
theorem func239:prog.funcs[239]?=some Tryz.f239:=g_fn Tryz.prog (by decide) Tryz.func239
theorem func245:prog.funcs[245]?=some Tryz.f245:=g_fn Tryz.prog (by decide) Tryz.func245
theorem func247:prog.funcs[247]?=some Tryz.f247:=g_fn Tryz.prog (by decide) Tryz.func247
theorem func248:prog.funcs[248]?=some Tryz.f248:=g_fn Tryz.prog (by decide) Tryz.func248
theorem func249:prog.funcs[249]?=some Tryz.f249:=g_fn Tryz.prog (by decide) Tryz.func249
theorem func250:prog.funcs[250]?=some Tryz.f250:=g_fn Tryz.prog (by decide) Tryz.func250
theorem func251:prog.funcs[251]?=some Tryz.f251:=g_fn Tryz.prog (by decide) Tryz.func251
theorem func252:prog.funcs[252]?=some Tryz.f252:=g_fn Tryz.prog (by decide) Tryz.func252
theorem func253:prog.funcs[253]?=some Tryz.f253:=g_fn Tryz.prog (by decide) Tryz.func253
theorem func273:prog.funcs[273]?=some Tryz.f273:=g_fn Tryz.prog (by decide) Tryz.func273
theorem func275:prog.funcs[275]?=some Tryz.f275:=g_fn Tryz.prog (by decide) Tryz.func275
theorem func276:prog.funcs[276]?=some Tryz.f276:=g_fn Tryz.prog (by decide) Tryz.func276
theorem func286:prog.funcs[286]?=some Tryz.f286:=g_fn Tryz.prog (by decide) Tryz.func286
@[go_sem] theorem call8 (args:Array Value) (w:World):Sem.run prog (callFunc 8 args) w=.ok (.enter 8 args) w:=g_call _ w func8 (by kernel_rfl) rfl args
@[go_sem] theorem call9 (args:Array Value) (w:World):Sem.run prog (callFunc 9 args) w=.ok (.enter 9 args) w:=g_call _ w func9 (by kernel_rfl) rfl args
@[go_sem] theorem call11 (args:Array Value) (w:World):Sem.run prog (callFunc 11 args) w=.ok (.enter 11 args) w:=g_call _ w func11 (by kernel_rfl) rfl args
@[go_sem] theorem call12 (args:Array Value) (w:World):Sem.run prog (callFunc 12 args) w=.ok (.enter 12 args) w:=g_call _ w func12 (by kernel_rfl) rfl args
@[go_sem] theorem call14 (args:Array Value) (w:World):Sem.run prog (callFunc 14 args) w=.ok (.enter 14 args) w:=g_call _ w func14 (by kernel_rfl) rfl args
@[go_sem] theorem call15 (args:Array Value) (w:World):Sem.run prog (callFunc 15 args) w=.ok (.enter 15 args) w:=g_call _ w func15 (by kernel_rfl) rfl args
@[go_sem] theorem call16 (args:Array Value) (w:World):Sem.run prog (callFunc 16 args) w=.ok (.enter 16 args) w:=g_call _ w func16 (by kernel_rfl) rfl args
@[go_sem] theorem call19 (args:Array Value) (w:World):Sem.run prog (callFunc 19 args) w=.ok (.enter 19 args) w:=g_call _ w func19 (by kernel_rfl) rfl args
@[go_sem] theorem call20 (args:Array Value) (w:World):Sem.run prog (callFunc 20 args) w=.ok (.enter 20 args) w:=g_call _ w func20 (by kernel_rfl) rfl args
@[go_sem] theorem call28 (args:Array Value) (w:World):Sem.run prog (callFunc 28 args) w=.ok (.enter 28 args) w:=g_call _ w func28 (by kernel_rfl) rfl args
@[go_sem] theorem call29 (args:Array Value) (w:World):Sem.run prog (callFunc 29 args) w=.ok (.enter 29 args) w:=g_call _ w func29 (by kernel_rfl) rfl args
@[go_sem] theorem call30 (args:Array Value) (w:World):Sem.run prog (callFunc 30 args) w=.ok (.enter 30 args) w:=g_call _ w func30 (by kernel_rfl) rfl args
@[go_sem] theorem call31 (args:Array Value) (w:World):Sem.run prog (callFunc 31 args) w=.ok (.enter 31 args) w:=g_call _ w func31 (by kernel_rfl) rfl args
@[go_sem] theorem call32 (args:Array Value) (w:World):Sem.run prog (callFunc 32 args) w=.ok (.enter 32 args) w:=g_call _ w func32 (by kernel_rfl) rfl args
@[go_sem] theorem call33 (args:Array Value) (w:World):Sem.run prog (callFunc 33 args) w=.ok (.enter 33 args) w:=g_call _ w func33 (by kernel_rfl) rfl args
@[go_sem] theorem call35 (args:Array Value) (w:World):Sem.run prog (callFunc 35 args) w=.ok (.enter 35 args) w:=g_call _ w func35 (by kernel_rfl) rfl args
@[go_sem] theorem call37 (args:Array Value) (w:World):Sem.run prog (callFunc 37 args) w=.ok (.enter 37 args) w:=g_call _ w func37 (by kernel_rfl) rfl args
@[go_sem] theorem call38 (args:Array Value) (w:World):Sem.run prog (callFunc 38 args) w=.ok (.enter 38 args) w:=g_call _ w func38 (by kernel_rfl) rfl args
@[go_sem] theorem call39 (args:Array Value) (w:World):Sem.run prog (callFunc 39 args) w=.ok (.enter 39 args) w:=g_call _ w func39 (by kernel_rfl) rfl args
@[go_sem] theorem call40 (args:Array Value) (w:World):Sem.run prog (callFunc 40 args) w=.ok (.enter 40 args) w:=g_call _ w func40 (by kernel_rfl) rfl args
@[go_sem] theorem call41 (args:Array Value) (w:World):Sem.run prog (callFunc 41 args) w=.ok (.enter 41 args) w:=g_call _ w func41 (by kernel_rfl) rfl args
@[go_sem] theorem call42 (args:Array Value) (w:World):Sem.run prog (callFunc 42 args) w=.ok (.enter 42 args) w:=g_call _ w func42 (by kernel_rfl) rfl args
@[go_sem] theorem call43 (args:Array Value) (w:World):Sem.run prog (callFunc 43 args) w=.ok (.enter 43 args) w:=g_call _ w func43 (by kernel_rfl) rfl args
@[go_sem] theorem call44 (args:Array Value) (w:World):Sem.run prog (callFunc 44 args) w=.ok (.enter 44 args) w:=g_call _ w func44 (by kernel_rfl) rfl args
@[go_sem] theorem call45 (args:Array Value) (w:World):Sem.run prog (callFunc 45 args) w=.ok (.enter 45 args) w:=g_call _ w func45 (by kernel_rfl) rfl args
@[go_sem] theorem call47 (args:Array Value) (w:World):Sem.run prog (callFunc 47 args) w=.ok (.enter 47 args) w:=g_call _ w func47 (by kernel_rfl) rfl args
@[go_sem] theorem call48 (args:Array Value) (w:World):Sem.run prog (callFunc 48 args) w=.ok (.enter 48 args) w:=g_call _ w func48 (by kernel_rfl) rfl args
@[go_sem] theorem call50 (args:Array Value) (w:World):Sem.run prog (callFunc 50 args) w=.ok (.enter 50 args) w:=g_call _ w func50 (by kernel_rfl) rfl args
@[go_sem] theorem call59 (args:Array Value) (w:World):Sem.run prog (callFunc 59 args) w=.ok (.enter 59 args) w:=g_call _ w func59 (by kernel_rfl) rfl args
@[go_sem] theorem call60 (args:Array Value) (w:World):Sem.run prog (callFunc 60 args) w=.ok (.enter 60 args) w:=g_call _ w func60 (by kernel_rfl) rfl args
@[go_sem] theorem call61 (args:Array Value) (w:World):Sem.run prog (callFunc 61 args) w=.ok (.enter 61 args) w:=g_call _ w func61 (by kernel_rfl) rfl args
@[go_sem] theorem call62 (args:Array Value) (w:World):Sem.run prog (callFunc 62 args) w=.ok (.enter 62 args) w:=g_call _ w func62 (by kernel_rfl) rfl args
@[go_sem] theorem call63 (args:Array Value) (w:World):Sem.run prog (callFunc 63 args) w=.ok (.enter 63 args) w:=g_call _ w func63 (by kernel_rfl) rfl args
@[go_sem] theorem call64 (args:Array Value) (w:World):Sem.run prog (callFunc 64 args) w=.ok (.enter 64 args) w:=g_call _ w func64 (by kernel_rfl) rfl args
@[go_sem] theorem call65 (args:Array Value) (w:World):Sem.run prog (callFunc 65 args) w=.ok (.enter 65 args) w:=g_call _ w func65 (by kernel_rfl) rfl args
@[go_sem] theorem call66 (args:Array Value) (w:World):Sem.run prog (callFunc 66 args) w=.ok (.enter 66 args) w:=g_call _ w func66 (by kernel_rfl) rfl args
@[go_sem] theorem call67 (args:Array Value) (w:World):Sem.run prog (callFunc 67 args) w=.ok (.enter 67 args) w:=g_call _ w func67 (by kernel_rfl) rfl args
@[go_sem] theorem call68 (args:Array Value) (w:World):Sem.run prog (callFunc 68 args) w=.ok (.enter 68 args) w:=g_call _ w func68 (by kernel_rfl) rfl args
@[go_sem] theorem call83 (args:Array Value) (w:World):Sem.run prog (callFunc 83 args) w=.ok (.enter 83 args) w:=g_call _ w func83 (by kernel_rfl) rfl args
@[go_sem] theorem call84 (args:Array Value) (w:World):Sem.run prog (callFunc 84 args) w=.ok (.enter 84 args) w:=g_call _ w func84 (by kernel_rfl) rfl args
@[go_sem] theorem call85 (args:Array Value) (w:World):Sem.run prog (callFunc 85 args) w=.ok (.enter 85 args) w:=g_call _ w func85 (by kernel_rfl) rfl args
@[go_sem] theorem call86 (args:Array Value) (w:World):Sem.run prog (callFunc 86 args) w=.ok (.enter 86 args) w:=g_call _ w func86 (by kernel_rfl) rfl args
@[go_sem] theorem call87 (args:Array Value) (w:World):Sem.run prog (callFunc 87 args) w=.ok (.enter 87 args) w:=g_call _ w func87 (by kernel_rfl) rfl args
@[go_sem] theorem call88 (args:Array Value) (w:World):Sem.run prog (callFunc 88 args) w=.ok (.enter 88 args) w:=g_call _ w func88 (by kernel_rfl) rfl args
@[go_sem] theorem call89 (args:Array Value) (w:World):Sem.run prog (callFunc 89 args) w=.ok (.enter 89 args) w:=g_call _ w func89 (by kernel_rfl) rfl args
@[go_sem] theorem call90 (args:Array Value) (w:World):Sem.run prog (callFunc 90 args) w=.ok (.enter 90 args) w:=g_call _ w func90 (by kernel_rfl) rfl args
@[go_sem] theorem call93 (args:Array Value) (w:World):Sem.run prog (callFunc 93 args) w=.ok (.enter 93 args) w:=g_call _ w func93 (by kernel_rfl) rfl args
@[go_sem] theorem call107 (args:Array Value) (w:World):Sem.run prog (callFunc 107 args) w=.ok (.enter 107 args) w:=g_call _ w func107 (by kernel_rfl) rfl args
@[go_sem] theorem call108 (args:Array Value) (w:World):Sem.run prog (callFunc 108 args) w=.ok (.enter 108 args) w:=g_call _ w func108 (by kernel_rfl) rfl args
@[go_sem] theorem call109 (args:Array Value) (w:World):Sem.run prog (callFunc 109 args) w=.ok (.enter 109 args) w:=g_call _ w func109 (by kernel_rfl) rfl args
@[go_sem] theorem call110 (args:Array Value) (w:World):Sem.run prog (callFunc 110 args) w=.ok (.enter 110 args) w:=g_call _ w func110 (by kernel_rfl) rfl args
@[go_sem] theorem call111 (args:Array Value) (w:World):Sem.run prog (callFunc 111 args) w=.ok (.enter 111 args) w:=g_call _ w func111 (by kernel_rfl) rfl args
@[go_sem] theorem call112 (args:Array Value) (w:World):Sem.run prog (callFunc 112 args) w=.ok (.enter 112 args) w:=g_call _ w func112 (by kernel_rfl) rfl args
@[go_sem] theorem call122 (args:Array Value) (w:World):Sem.run prog (callFunc 122 args) w=.ok (.enter 122 args) w:=g_call _ w func122 (by kernel_rfl) rfl args
@[go_sem] theorem call123 (args:Array Value) (w:World):Sem.run prog (callFunc 123 args) w=.ok (.enter 123 args) w:=g_call _ w func123 (by kernel_rfl) rfl args
@[go_sem] theorem call125 (args:Array Value) (w:World):Sem.run prog (callFunc 125 args) w=.ok (.enter 125 args) w:=g_call _ w func125 (by kernel_rfl) rfl args
@[go_sem] theorem call126 (args:Array Value) (w:World):Sem.run prog (callFunc 126 args) w=.ok (.enter 126 args) w:=g_call _ w func126 (by kernel_rfl) rfl args
@[go_sem] theorem call127 (args:Array Value) (w:World):Sem.run prog (callFunc 127 args) w=.ok (.enter 127 args) w:=g_call _ w func127 (by kernel_rfl) rfl args
@[go_sem] theorem call128 (args:Array Value) (w:World):Sem.run prog (callFunc 128 args) w=.ok (.enter 128 args) w:=g_call _ w func128 (by kernel_rfl) rfl args
@[go_sem] theorem call129 (args:Array Value) (w:World):Sem.run prog (callFunc 129 args) w=.ok (.enter 129 args) w:=g_call _ w func129 (by kernel_rfl) rfl args
@[go_sem] theorem call130 (args:Array Value) (w:World):Sem.run prog (callFunc 130 args) w=.ok (.enter 130 args) w:=g_call _ w func130 (by kernel_rfl) rfl args
@[go_sem] theorem call131 (args:Array Value) (w:World):Sem.run prog (callFunc 131 args) w=.ok (.enter 131 args) w:=g_call _ w func131 (by kernel_rfl) rfl args
@[go_sem] theorem call132 (args:Array Value) (w:World):Sem.run prog (callFunc 132 args) w=.ok (.enter 132 args) w:=g_call _ w func132 (by kernel_rfl) rfl args
@[go_sem] theorem call143 (args:Array Value) (w:World):Sem.run prog (callFunc 143 args) w=.ok (.enter 143 args) w:=g_call _ w func143 (by kernel_rfl) rfl args
@[go_sem] theorem call144 (args:Array Value) (w:World):Sem.run prog (callFunc 144 args) w=.ok (.enter 144 args) w:=g_call _ w func144 (by kernel_rfl) rfl args
@[go_sem] theorem call145 (args:Array Value) (w:World):Sem.run prog (callFunc 145 args) w=.ok (.enter 145 args) w:=g_call _ w func145 (by kernel_rfl) rfl args
@[go_sem] theorem call146 (args:Array Value) (w:World):Sem.run prog (callFunc 146 args) w=.ok (.enter 146 args) w:=g_call _ w func146 (by kernel_rfl) rfl args
@[go_sem] theorem call147 (args:Array Value) (w:World):Sem.run prog (callFunc 147 args) w=.ok (.enter 147 args) w:=g_call _ w func147 (by kernel_rfl) rfl args
@[go_sem] theorem call149 (args:Array Value) (w:World):Sem.run prog (callFunc 149 args) w=.ok (.enter 149 args) w:=g_call _ w func149 (by kernel_rfl) rfl args
@[go_sem] theorem call150 (args:Array Value) (w:World):Sem.run prog (callFunc 150 args) w=.ok (.enter 150 args) w:=g_call _ w func150 (by kernel_rfl) rfl args
@[go_sem] theorem call151 (args:Array Value) (w:World):Sem.run prog (callFunc 151 args) w=.ok (.enter 151 args) w:=g_call _ w func151 (by kernel_rfl) rfl args
@[go_sem] theorem call176 (args:Array Value) (w:World):Sem.run prog (callFunc 176 args) w=.ok (.enter 176 args) w:=g_call _ w func176 (by kernel_rfl) rfl args
@[go_sem] theorem call177 (args:Array Value) (w:World):Sem.run prog (callFunc 177 args) w=.ok (.enter 177 args) w:=g_call _ w func177 (by kernel_rfl) rfl args
@[go_sem] theorem call178 (args:Array Value) (w:World):Sem.run prog (callFunc 178 args) w=.ok (.enter 178 args) w:=g_call _ w func178 (by kernel_rfl) rfl args
@[go_sem] theorem call179 (args:Array Value) (w:World):Sem.run prog (callFunc 179 args) w=.ok (.enter 179 args) w:=g_call _ w func179 (by kernel_rfl) rfl args
@[go_sem] theorem call180 (args:Array Value) (w:World):Sem.run prog (callFunc 180 args) w=.ok (.enter 180 args) w:=g_call _ w func180 (by kernel_rfl) rfl args
@[go_sem] theorem call181 (args:Array Value) (w:World):Sem.run prog (callFunc 181 args) w=.ok (.enter 181 args) w:=g_call _ w func181 (by kernel_rfl) rfl args
@[go_sem] theorem call182 (args:Array Value) (w:World):Sem.run prog (callFunc 182 args) w=.ok (.enter 182 args) w:=g_call _ w func182 (by kernel_rfl) rfl args
@[go_sem] theorem call197 (args:Array Value) (w:World):Sem.run prog (callFunc 197 args) w=.ok (.enter 197 args) w:=g_call _ w func197 (by kernel_rfl) rfl args
@[go_sem] theorem call204 (args:Array Value) (w:World):Sem.run prog (callFunc 204 args) w=.ok (.enter 204 args) w:=g_call _ w func204 (by kernel_rfl) rfl args
@[go_sem] theorem call205 (args:Array Value) (w:World):Sem.run prog (callFunc 205 args) w=.ok (.enter 205 args) w:=g_call _ w func205 (by kernel_rfl) rfl args
@[go_sem] theorem call206 (args:Array Value) (w:World):Sem.run prog (callFunc 206 args) w=.ok (.enter 206 args) w:=g_call _ w func206 (by kernel_rfl) rfl args
@[go_sem] theorem call207 (args:Array Value) (w:World):Sem.run prog (callFunc 207 args) w=.ok (.enter 207 args) w:=g_call _ w func207 (by kernel_rfl) rfl args
@[go_sem] theorem call233 (args:Array Value) (w:World):Sem.run prog (callFunc 233 args) w=.ok (.enter 233 args) w:=g_call _ w func233 (by kernel_rfl) rfl args
@[go_sem] theorem call234 (args:Array Value) (w:World):Sem.run prog (callFunc 234 args) w=.ok (.enter 234 args) w:=g_call _ w func234 (by kernel_rfl) rfl args
@[go_sem] theorem call235 (args:Array Value) (w:World):Sem.run prog (callFunc 235 args) w=.ok (.enter 235 args) w:=g_call _ w func235 (by kernel_rfl) rfl args
@[go_sem] theorem call236 (args:Array Value) (w:World):Sem.run prog (callFunc 236 args) w=.ok (.enter 236 args) w:=g_call _ w func236 (by kernel_rfl) rfl args
@[go_sem] theorem call237 (args:Array Value) (w:World):Sem.run prog (callFunc 237 args) w=.ok (.enter 237 args) w:=g_call _ w func237 (by kernel_rfl) rfl args
@[go_sem] theorem call238 (args:Array Value) (w:World):Sem.run prog (callFunc 238 args) w=.ok (.enter 238 args) w:=g_call _ w func238 (by kernel_rfl) rfl args
@[go_sem] theorem call239 (args:Array Value) (w:World):Sem.run prog (callFunc 239 args) w=.ok (.enter 239 args) w:=g_call _ w func239 (by kernel_rfl) rfl args
@[go_sem] theorem call245 (args:Array Value) (w:World):Sem.run prog (callFunc 245 args) w=.ok (.enter 245 args) w:=g_call _ w func245 (by kernel_rfl) rfl args
@[go_sem] theorem call248 (args:Array Value) (w:World):Sem.run prog (callFunc 248 args) w=.ok (.enter 248 args) w:=g_call _ w func248 (by kernel_rfl) rfl args
@[go_sem] theorem call249 (args:Array Value) (w:World):Sem.run prog (callFunc 249 args) w=.ok (.enter 249 args) w:=g_call _ w func249 (by kernel_rfl) rfl args
@[go_sem] theorem call250 (args:Array Value) (w:World):Sem.run prog (callFunc 250 args) w=.ok (.enter 250 args) w:=g_call _ w func250 (by kernel_rfl) rfl args
@[go_sem] theorem call251 (args:Array Value) (w:World):Sem.run prog (callFunc 251 args) w=.ok (.enter 251 args) w:=g_call _ w func251 (by kernel_rfl) rfl args
@[go_sem] theorem call252 (args:Array Value) (w:World):Sem.run prog (callFunc 252 args) w=.ok (.enter 252 args) w:=g_call _ w func252 (by kernel_rfl) rfl args
@[go_sem] theorem call253 (args:Array Value) (w:World):Sem.run prog (callFunc 253 args) w=.ok (.enter 253 args) w:=g_call _ w func253 (by kernel_rfl) rfl args
@[go_sem] theorem call273 (args:Array Value) (w:World):Sem.run prog (callFunc 273 args) w=.ok (.enter 273 args) w:=g_call _ w func273 (by kernel_rfl) rfl args
@[go_sem] theorem call275 (args:Array Value) (w:World):Sem.run prog (callFunc 275 args) w=.ok (.enter 275 args) w:=g_call _ w func275 (by kernel_rfl) rfl args
@[go_sem] theorem call276 (args:Array Value) (w:World):Sem.run prog (callFunc 276 args) w=.ok (.enter 276 args) w:=g_call _ w func276 (by kernel_rfl) rfl args
theorem ntmps5:type_of%Tryz.ntmps5:=Tryz.ntmps5
theorem ntmps8:type_of%Tryz.ntmps8:=Tryz.ntmps8
theorem ntmps9:type_of%Tryz.ntmps9:=Tryz.ntmps9
theorem ntmps11:type_of%Tryz.ntmps11:=Tryz.ntmps11
theorem ntmps12:type_of%Tryz.ntmps12:=Tryz.ntmps12
theorem ntmps14:type_of%Tryz.ntmps14:=Tryz.ntmps14
theorem ntmps15:type_of%Tryz.ntmps15:=Tryz.ntmps15
theorem ntmps16:type_of%Tryz.ntmps16:=Tryz.ntmps16
theorem ntmps19:type_of%Tryz.ntmps19:=Tryz.ntmps19
theorem ntmps20:type_of%Tryz.ntmps20:=Tryz.ntmps20
theorem ntmps28:type_of%Tryz.ntmps28:=Tryz.ntmps28
theorem ntmps29:type_of%Tryz.ntmps29:=Tryz.ntmps29
theorem ntmps30:type_of%Tryz.ntmps30:=Tryz.ntmps30
theorem ntmps31:type_of%Tryz.ntmps31:=Tryz.ntmps31
theorem ntmps32:type_of%Tryz.ntmps32:=Tryz.ntmps32
theorem ntmps33:type_of%Tryz.ntmps33:=Tryz.ntmps33
theorem ntmps35:type_of%Tryz.ntmps35:=Tryz.ntmps35
theorem ntmps37:type_of%Tryz.ntmps37:=Tryz.ntmps37
theorem ntmps38:type_of%Tryz.ntmps38:=Tryz.ntmps38
theorem ntmps39:type_of%Tryz.ntmps39:=Tryz.ntmps39
theorem ntmps40:type_of%Tryz.ntmps40:=Tryz.ntmps40
theorem ntmps41:type_of%Tryz.ntmps41:=Tryz.ntmps41
theorem ntmps42:type_of%Tryz.ntmps42:=Tryz.ntmps42
theorem ntmps43:type_of%Tryz.ntmps43:=Tryz.ntmps43
theorem ntmps44:type_of%Tryz.ntmps44:=Tryz.ntmps44
theorem ntmps45:type_of%Tryz.ntmps45:=Tryz.ntmps45
theorem ntmps48:type_of%Tryz.ntmps48:=Tryz.ntmps48
theorem ntmps50:type_of%Tryz.ntmps50:=Tryz.ntmps50
theorem ntmps59:type_of%Tryz.ntmps59:=Tryz.ntmps59
theorem ntmps60:type_of%Tryz.ntmps60:=Tryz.ntmps60
theorem ntmps61:type_of%Tryz.ntmps61:=Tryz.ntmps61
theorem ntmps62:type_of%Tryz.ntmps62:=Tryz.ntmps62
theorem ntmps63:type_of%Tryz.ntmps63:=Tryz.ntmps63
theorem ntmps64:type_of%Tryz.ntmps64:=Tryz.ntmps64
theorem ntmps66:type_of%Tryz.ntmps66:=Tryz.ntmps66
theorem ntmps67:type_of%Tryz.ntmps67:=Tryz.ntmps67
theorem ntmps68:type_of%Tryz.ntmps68:=Tryz.ntmps68
theorem ntmps83:type_of%Tryz.ntmps83:=Tryz.ntmps83
theorem ntmps84:type_of%Tryz.ntmps84:=Tryz.ntmps84
theorem ntmps85:type_of%Tryz.ntmps85:=Tryz.ntmps85
theorem ntmps86:type_of%Tryz.ntmps86:=Tryz.ntmps86
theorem ntmps87:type_of%Tryz.ntmps87:=Tryz.ntmps87
theorem ntmps88:type_of%Tryz.ntmps88:=Tryz.ntmps88
theorem ntmps89:type_of%Tryz.ntmps89:=Tryz.ntmps89
theorem ntmps90:type_of%Tryz.ntmps90:=Tryz.ntmps90
theorem ntmps93:type_of%Tryz.ntmps93:=Tryz.ntmps93
theorem ntmps107:type_of%Tryz.ntmps107:=Tryz.ntmps107
theorem ntmps108:type_of%Tryz.ntmps108:=Tryz.ntmps108
theorem ntmps109:type_of%Tryz.ntmps109:=Tryz.ntmps109
theorem ntmps110:type_of%Tryz.ntmps110:=Tryz.ntmps110
theorem ntmps111:type_of%Tryz.ntmps111:=Tryz.ntmps111
theorem ntmps112:type_of%Tryz.ntmps112:=Tryz.ntmps112
theorem ntmps122:type_of%Tryz.ntmps122:=Tryz.ntmps122
theorem ntmps123:type_of%Tryz.ntmps123:=Tryz.ntmps123
theorem ntmps125:type_of%Tryz.ntmps125:=Tryz.ntmps125
theorem ntmps126:type_of%Tryz.ntmps126:=Tryz.ntmps126
theorem ntmps127:type_of%Tryz.ntmps127:=Tryz.ntmps127
theorem ntmps128:type_of%Tryz.ntmps128:=Tryz.ntmps128
theorem ntmps129:type_of%Tryz.ntmps129:=Tryz.ntmps129
theorem ntmps130:type_of%Tryz.ntmps130:=Tryz.ntmps130
theorem ntmps131:type_of%Tryz.ntmps131:=Tryz.ntmps131
theorem ntmps132:type_of%Tryz.ntmps132:=Tryz.ntmps132
theorem ntmps145:type_of%Tryz.ntmps145:=Tryz.ntmps145
theorem ntmps146:type_of%Tryz.ntmps146:=Tryz.ntmps146
theorem ntmps147:type_of%Tryz.ntmps147:=Tryz.ntmps147
theorem ntmps148:type_of%Tryz.ntmps148:=Tryz.ntmps148
theorem ntmps149:type_of%Tryz.ntmps149:=Tryz.ntmps149
theorem ntmps150:type_of%Tryz.ntmps150:=Tryz.ntmps150
theorem ntmps151:type_of%Tryz.ntmps151:=Tryz.ntmps151
theorem ntmps176:type_of%Tryz.ntmps176:=Tryz.ntmps176
theorem ntmps177:type_of%Tryz.ntmps177:=Tryz.ntmps177
theorem ntmps178:type_of%Tryz.ntmps178:=Tryz.ntmps178
theorem ntmps179:type_of%Tryz.ntmps179:=Tryz.ntmps179
theorem ntmps180:type_of%Tryz.ntmps180:=Tryz.ntmps180
theorem ntmps181:type_of%Tryz.ntmps181:=Tryz.ntmps181
theorem ntmps182:type_of%Tryz.ntmps182:=Tryz.ntmps182
theorem ntmps197:type_of%Tryz.ntmps197:=Tryz.ntmps197
theorem ntmps203:type_of%Tryz.ntmps203:=Tryz.ntmps203
theorem ntmps204:type_of%Tryz.ntmps204:=Tryz.ntmps204
theorem ntmps205:type_of%Tryz.ntmps205:=Tryz.ntmps205
theorem ntmps206:type_of%Tryz.ntmps206:=Tryz.ntmps206
theorem ntmps207:type_of%Tryz.ntmps207:=Tryz.ntmps207
theorem ntmps227:type_of%Tryz.ntmps227:=Tryz.ntmps227
theorem ntmps233:type_of%Tryz.ntmps233:=Tryz.ntmps233
theorem ntmps234:type_of%Tryz.ntmps234:=Tryz.ntmps234
theorem ntmps235:type_of%Tryz.ntmps235:=Tryz.ntmps235
theorem ntmps236:type_of%Tryz.ntmps236:=Tryz.ntmps236
theorem ntmps237:type_of%Tryz.ntmps237:=Tryz.ntmps237
theorem ntmps238:type_of%Tryz.ntmps238:=Tryz.ntmps238
theorem ntmps239:type_of%Tryz.ntmps239:=Tryz.ntmps239
theorem ntmps245:type_of%Tryz.ntmps245:=Tryz.ntmps245
theorem ntmps247:type_of%Tryz.ntmps247:=Tryz.ntmps247
theorem ntmps248:type_of%Tryz.ntmps248:=Tryz.ntmps248
theorem ntmps249:type_of%Tryz.ntmps249:=Tryz.ntmps249
theorem ntmps250:type_of%Tryz.ntmps250:=Tryz.ntmps250
theorem ntmps251:type_of%Tryz.ntmps251:=Tryz.ntmps251
theorem ntmps252:type_of%Tryz.ntmps252:=Tryz.ntmps252
theorem ntmps253:type_of%Tryz.ntmps253:=Tryz.ntmps253
theorem ntmps273:type_of%Tryz.ntmps273:=Tryz.ntmps273
theorem ntmps275:type_of%Tryz.ntmps275:=Tryz.ntmps275
theorem ntmps276:type_of%Tryz.ntmps276:=Tryz.ntmps276
theorem ntmps286:type_of%Tryz.ntmps286:=Tryz.ntmps286
end Go.Proofs.Tryz0
