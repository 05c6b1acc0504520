import Derived.Test.YtlmcblcijndipabGreatDoorChecked
import Derived.WalkKit
namespace Go.Proofs.Tryz0
open Go
def body0:Code:=.refuse ""
def shutL:List Nat:=[181,65,271,287,272]
def shutF (i:Nat)(f:Func):Func:=if shutL.contains i then{f with body:=some body0}else f
noncomputable def prog:Program:={Tryz.prog with funcs:=Tryz.prog.funcs.mapIdx shutF}
section
variable (P:Program)(fs:Array Func)(t:TypeId)(w:World)
theorem g_un:Program.underlying {P with funcs:=fs} t=P.underlying t:=rfl
theorem g_el:Program.elem {P with funcs:=fs} t=P.elem t:=rfl
theorem g_al:Program.arrayLen {P with funcs:=fs} t=P.arrayLen t:=rfl
theorem g_ru:Sem.run {P with funcs:=fs} (underlying t) w=Sem.run P (underlying t) w:=by
 unfold underlying;show Sem.run _ (match Program.underlying {P with funcs:=fs} t with|some d=>pure d|none=>_) w=Sem.run _ (match P.underlying t with|some d=>pure d|none=>_) w;rw[g_un];cases P.underlying t<;>rfl
theorem g_ti:Sem.run {P with funcs:=fs} (typeInfo t) w=Sem.run P (typeInfo t) w:=by
 unfold typeInfo;show Sem.run _ (match P.toTables.info? t with|some d=>pure d|none=>_) w=Sem.run _ (match P.toTables.info? t with|some d=>pure d|none=>_) w;cases P.toTables.info? t<;>rfl
omit P fs t w in
theorem andThen_congr {α β:Type}(r:Result α){k k':α->World->Result β}(h:∀a w,k a w=k' a w):r.andThen k=r.andThen k':=by
 cases r with
 |ok a w=>exact h a w
 |halt _ _=>rfl
omit P fs t w in
theorem run_pure2 {α:Type}(P P':Program)(a:α)(w:World):Sem.run P (pure a:Sem α) w=Sem.run P' (pure a:Sem α) w:=rfl
omit P fs t w in
theorem run_uns {α:Type}(P P':Program)(u:Unsupported)(w:World):Sem.run P (unsupported u:Sem α) w=Sem.run P' (unsupported u:Sem α) w:=rfl
theorem g_so:Sem.run {P with funcs:=fs} (sizeOf t) w=Sem.run P (sizeOf t) w:=by
 unfold sizeOf;rw[Sem.run_bind,Sem.run_bind,g_ti P fs];exact andThen_congr _ λd w'=>run_pure2 _ _ _ _
theorem g_ia:Sem.run {P with funcs:=fs} (isAgg t) w=Sem.run P (isAgg t) w:=by
 unfold isAgg;rw[Sem.run_bind,Sem.run_bind,g_ru P fs];refine andThen_congr _ λd w'=>?_
 cases d<;>exact run_pure2 _ _ _ _
theorem g_zv:Sem.run {P with funcs:=fs} (zeroValue t) w=Sem.run P (zeroValue t) w:=by
 unfold zeroValue;rw[Sem.run_bind,Sem.run_bind,g_ti P fs];refine andThen_congr _ λd w'=>?_
 obtain⟨z,hz⟩:∃z,d.zero=z:=⟨_,rfl⟩;rw[hz];cases z with
 |some v=>exact run_pure2 _ _ _ _
 |none=>exact run_uns _ _ _ _
theorem g_call {f:FuncId}{fn:Func}{c:Code}(hf:P.funcs[f]?=some fn)(hn:(fn.name== "runtime.NumGoroutine")=false)(hb:fn.body=some c)(args:Array Value):Sem.run P (callFunc f args) w=.ok (.enter f args) w:=by
 have h1:fn.name≠ "runtime.NumGoroutine":=by simpa using hn
 simp[callFunc,hf,h1,hb]
end
@[go_sem] theorem un0 (t:TypeId):prog.underlying t=Tryz.prog.underlying t:=g_un Tryz.prog (Tryz.prog.funcs.mapIdx shutF) t
@[go_sem] theorem el0 (t:TypeId):prog.elem t=Tryz.prog.elem t:=g_el Tryz.prog (Tryz.prog.funcs.mapIdx shutF) t
@[go_sem] theorem al0 (t:TypeId):prog.arrayLen t=Tryz.prog.arrayLen t:=g_al Tryz.prog (Tryz.prog.funcs.mapIdx shutF) t
@[go_sem] theorem ru0 (t:TypeId) (w:World):Sem.run prog (underlying t) w=Sem.run Tryz.prog (underlying t) w:=g_ru Tryz.prog (Tryz.prog.funcs.mapIdx shutF) t w
@[go_sem] theorem ti0 (t:TypeId) (w:World):Sem.run prog (typeInfo t) w=Sem.run Tryz.prog (typeInfo t) w:=g_ti Tryz.prog (Tryz.prog.funcs.mapIdx shutF) t w
@[go_sem] theorem so0 (t:TypeId) (w:World):Sem.run prog (sizeOf t) w=Sem.run Tryz.prog (sizeOf t) w:=g_so Tryz.prog (Tryz.prog.funcs.mapIdx shutF) t w
@[go_sem] theorem ia0 (t:TypeId) (w:World):Sem.run prog (isAgg t) w=Sem.run Tryz.prog (isAgg t) w:=g_ia Tryz.prog (Tryz.prog.funcs.mapIdx shutF) t w
@[go_sem] theorem zv0 (t:TypeId) (w:World):Sem.run prog (zeroValue t) w=Sem.run Tryz.prog (zeroValue t) w:=g_zv Tryz.prog (Tryz.prog.funcs.mapIdx shutF) t w
theorem tr_underlying {t:TypeId}{d:Option TypeDesc}(h:Tryz.prog.underlying t=d):prog.underlying t=d:=(un0 t).trans h
theorem tr_sizeOf {t:TypeId}{r:World->Result Nat}(h:∀w,Sem.run Tryz.prog (sizeOf t) w=r w):∀w,Sem.run prog (sizeOf t) w=r w:=λw=>(so0 t w).trans (h w)
theorem tr_isAgg {t:TypeId}{r:World->Result Bool}(h:∀w,Sem.run Tryz.prog (isAgg t) w=r w):∀w,Sem.run prog (isAgg t) w=r w:=λw=>(ia0 t w).trans (h w)
theorem tr_zeroValue {t:TypeId}{r:World->Result Value}(h:∀w,Sem.run Tryz.prog (zeroValue t) w=r w):∀w,Sem.run prog (zeroValue t) w=r w:=λw=>(zv0 t w).trans (h w)
theorem g_fn (P:Program){n:Nat}{f:Func}(hne:shutL.contains n=false)(h:P.funcs[n]?=some f):({P with funcs:=P.funcs.mapIdx shutF}:Program).funcs[n]?=some f:=by
 show(P.funcs.mapIdx shutF)[n]?=_;rw[Array.getElem?_mapIdx,h];simp only[Option.map_some,shutF,hne,Bool.false_eq_true,if_false]
theorem g_shut (P:Program){n:Nat}{f:Func}(hs:shutL.contains n=true)(h:P.funcs[n]?=some f):({P with funcs:=P.funcs.mapIdx shutF}:Program).funcs[n]?=some {f with body:=some body0}:=by
 show(P.funcs.mapIdx shutF)[n]?=_;rw[Array.getElem?_mapIdx,h];simp only[Option.map_some,shutF,hs,if_true]
theorem g_nt (P:Program)(n:Nat):((({P with funcs:=P.funcs.mapIdx shutF}:Program).funcs[n]?).map (·.ntmps)).getD 0=((P.funcs[n]?).map (·.ntmps)).getD 0:=by
 show(((P.funcs.mapIdx shutF)[n]?).map (·.ntmps)).getD 0=_;rw[Array.getElem?_mapIdx];cases P.funcs[n]? with
 |none=>rfl
 |some f=>simp only[Option.map_some,shutF];split<;>rfl
theorem func181:prog.funcs[181]?=some {Tryz.f181 with body:=some body0}:=g_shut Tryz.prog (by decide) Tryz.func181
theorem func65:prog.funcs[65]?=some {Tryz.f65 with body:=some body0}:=g_shut Tryz.prog (by decide) Tryz.func65
theorem func4:prog.funcs[4]?=some Tryz.f4:=g_fn Tryz.prog (by decide) Tryz.func4
theorem func8:prog.funcs[8]?=some Tryz.f8:=g_fn Tryz.prog (by decide) Tryz.func8
theorem func9:prog.funcs[9]?=some Tryz.f9:=g_fn Tryz.prog (by decide) Tryz.func9
theorem func11:prog.funcs[11]?=some Tryz.f11:=g_fn Tryz.prog (by decide) Tryz.func11
theorem func12:prog.funcs[12]?=some Tryz.f12:=g_fn Tryz.prog (by decide) Tryz.func12
theorem func14:prog.funcs[14]?=some Tryz.f14:=g_fn Tryz.prog (by decide) Tryz.func14
theorem func15:prog.funcs[15]?=some Tryz.f15:=g_fn Tryz.prog (by decide) Tryz.func15
theorem func16:prog.funcs[16]?=some Tryz.f16:=g_fn Tryz.prog (by decide) Tryz.func16
theorem func17:prog.funcs[17]?=some Tryz.f17:=g_fn Tryz.prog (by decide) Tryz.func17
theorem func18:prog.funcs[18]?=some Tryz.f18:=g_fn Tryz.prog (by decide) Tryz.func18
theorem func28:prog.funcs[28]?=some Tryz.f28:=g_fn Tryz.prog (by decide) Tryz.func28
theorem func29:prog.funcs[29]?=some Tryz.f29:=g_fn Tryz.prog (by decide) Tryz.func29
theorem func30:prog.funcs[30]?=some Tryz.f30:=g_fn Tryz.prog (by decide) Tryz.func30
theorem func31:prog.funcs[31]?=some Tryz.f31:=g_fn Tryz.prog (by decide) Tryz.func31
theorem func32:prog.funcs[32]?=some Tryz.f32:=g_fn Tryz.prog (by decide) Tryz.func32
theorem func33:prog.funcs[33]?=some Tryz.f33:=g_fn Tryz.prog (by decide) Tryz.func33
theorem func35:prog.funcs[35]?=some Tryz.f35:=g_fn Tryz.prog (by decide) Tryz.func35
theorem func36:prog.funcs[36]?=some Tryz.f36:=g_fn Tryz.prog (by decide) Tryz.func36
theorem func37:prog.funcs[37]?=some Tryz.f37:=g_fn Tryz.prog (by decide) Tryz.func37
theorem func38:prog.funcs[38]?=some Tryz.f38:=g_fn Tryz.prog (by decide) Tryz.func38
theorem func39:prog.funcs[39]?=some Tryz.f39:=g_fn Tryz.prog (by decide) Tryz.func39
theorem func40:prog.funcs[40]?=some Tryz.f40:=g_fn Tryz.prog (by decide) Tryz.func40
theorem func41:prog.funcs[41]?=some Tryz.f41:=g_fn Tryz.prog (by decide) Tryz.func41
theorem func42:prog.funcs[42]?=some Tryz.f42:=g_fn Tryz.prog (by decide) Tryz.func42
theorem func43:prog.funcs[43]?=some Tryz.f43:=g_fn Tryz.prog (by decide) Tryz.func43
theorem func44:prog.funcs[44]?=some Tryz.f44:=g_fn Tryz.prog (by decide) Tryz.func44
theorem func45:prog.funcs[45]?=some Tryz.f45:=g_fn Tryz.prog (by decide) Tryz.func45
theorem func46:prog.funcs[46]?=some Tryz.f46:=g_fn Tryz.prog (by decide) Tryz.func46
theorem func47:prog.funcs[47]?=some Tryz.f47:=g_fn Tryz.prog (by decide) Tryz.func47
theorem func48:prog.funcs[48]?=some Tryz.f48:=g_fn Tryz.prog (by decide) Tryz.func48
theorem func50:prog.funcs[50]?=some Tryz.f50:=g_fn Tryz.prog (by decide) Tryz.func50
theorem func59:prog.funcs[59]?=some Tryz.f59:=g_fn Tryz.prog (by decide) Tryz.func59
theorem func60:prog.funcs[60]?=some Tryz.f60:=g_fn Tryz.prog (by decide) Tryz.func60
theorem func61:prog.funcs[61]?=some Tryz.f61:=g_fn Tryz.prog (by decide) Tryz.func61
theorem func62:prog.funcs[62]?=some Tryz.f62:=g_fn Tryz.prog (by decide) Tryz.func62
theorem func63:prog.funcs[63]?=some Tryz.f63:=g_fn Tryz.prog (by decide) Tryz.func63
theorem func64:prog.funcs[64]?=some Tryz.f64:=g_fn Tryz.prog (by decide) Tryz.func64
theorem func66:prog.funcs[66]?=some Tryz.f66:=g_fn Tryz.prog (by decide) Tryz.func66
theorem func67:prog.funcs[67]?=some Tryz.f67:=g_fn Tryz.prog (by decide) Tryz.func67
theorem func68:prog.funcs[68]?=some Tryz.f68:=g_fn Tryz.prog (by decide) Tryz.func68
theorem func83:prog.funcs[83]?=some Tryz.f83:=g_fn Tryz.prog (by decide) Tryz.func83
theorem func84:prog.funcs[84]?=some Tryz.f84:=g_fn Tryz.prog (by decide) Tryz.func84
theorem func85:prog.funcs[85]?=some Tryz.f85:=g_fn Tryz.prog (by decide) Tryz.func85
theorem func86:prog.funcs[86]?=some Tryz.f86:=g_fn Tryz.prog (by decide) Tryz.func86
theorem func87:prog.funcs[87]?=some Tryz.f87:=g_fn Tryz.prog (by decide) Tryz.func87
theorem func88:prog.funcs[88]?=some Tryz.f88:=g_fn Tryz.prog (by decide) Tryz.func88
theorem func89:prog.funcs[89]?=some Tryz.f89:=g_fn Tryz.prog (by decide) Tryz.func89
theorem func90:prog.funcs[90]?=some Tryz.f90:=g_fn Tryz.prog (by decide) Tryz.func90
theorem func91:prog.funcs[91]?=some Tryz.f91:=g_fn Tryz.prog (by decide) Tryz.func91
theorem func92:prog.funcs[92]?=some Tryz.f92:=g_fn Tryz.prog (by decide) Tryz.func92
theorem func93:prog.funcs[93]?=some Tryz.f93:=g_fn Tryz.prog (by decide) Tryz.func93
theorem func107:prog.funcs[107]?=some Tryz.f107:=g_fn Tryz.prog (by decide) Tryz.func107
theorem func108:prog.funcs[108]?=some Tryz.f108:=g_fn Tryz.prog (by decide) Tryz.func108
theorem func109:prog.funcs[109]?=some Tryz.f109:=g_fn Tryz.prog (by decide) Tryz.func109
theorem func110:prog.funcs[110]?=some Tryz.f110:=g_fn Tryz.prog (by decide) Tryz.func110
theorem func111:prog.funcs[111]?=some Tryz.f111:=g_fn Tryz.prog (by decide) Tryz.func111
theorem func112:prog.funcs[112]?=some Tryz.f112:=g_fn Tryz.prog (by decide) Tryz.func112
theorem func116:prog.funcs[116]?=some Tryz.f116:=g_fn Tryz.prog (by decide) Tryz.func116
theorem func122:prog.funcs[122]?=some Tryz.f122:=g_fn Tryz.prog (by decide) Tryz.func122
theorem func123:prog.funcs[123]?=some Tryz.f123:=g_fn Tryz.prog (by decide) Tryz.func123
theorem func125:prog.funcs[125]?=some Tryz.f125:=g_fn Tryz.prog (by decide) Tryz.func125
theorem func126:prog.funcs[126]?=some Tryz.f126:=g_fn Tryz.prog (by decide) Tryz.func126
theorem func127:prog.funcs[127]?=some Tryz.f127:=g_fn Tryz.prog (by decide) Tryz.func127
theorem func128:prog.funcs[128]?=some Tryz.f128:=g_fn Tryz.prog (by decide) Tryz.func128
theorem func129:prog.funcs[129]?=some Tryz.f129:=g_fn Tryz.prog (by decide) Tryz.func129
theorem func130:prog.funcs[130]?=some Tryz.f130:=g_fn Tryz.prog (by decide) Tryz.func130
theorem func131:prog.funcs[131]?=some Tryz.f131:=g_fn Tryz.prog (by decide) Tryz.func131
theorem func132:prog.funcs[132]?=some Tryz.f132:=g_fn Tryz.prog (by decide) Tryz.func132
theorem func143:prog.funcs[143]?=some Tryz.f143:=g_fn Tryz.prog (by decide) Tryz.func143
theorem func144:prog.funcs[144]?=some Tryz.f144:=g_fn Tryz.prog (by decide) Tryz.func144
theorem func145:prog.funcs[145]?=some Tryz.f145:=g_fn Tryz.prog (by decide) Tryz.func145
theorem func146:prog.funcs[146]?=some Tryz.f146:=g_fn Tryz.prog (by decide) Tryz.func146
theorem func147:prog.funcs[147]?=some Tryz.f147:=g_fn Tryz.prog (by decide) Tryz.func147
theorem func148:prog.funcs[148]?=some Tryz.f148:=g_fn Tryz.prog (by decide) Tryz.func148
theorem func149:prog.funcs[149]?=some Tryz.f149:=g_fn Tryz.prog (by decide) Tryz.func149
theorem func150:prog.funcs[150]?=some Tryz.f150:=g_fn Tryz.prog (by decide) Tryz.func150
theorem func151:prog.funcs[151]?=some Tryz.f151:=g_fn Tryz.prog (by decide) Tryz.func151
theorem func166:prog.funcs[166]?=some Tryz.f166:=g_fn Tryz.prog (by decide) Tryz.func166
theorem func167:prog.funcs[167]?=some Tryz.f167:=g_fn Tryz.prog (by decide) Tryz.func167
theorem func168:prog.funcs[168]?=some Tryz.f168:=g_fn Tryz.prog (by decide) Tryz.func168
theorem func169:prog.funcs[169]?=some Tryz.f169:=g_fn Tryz.prog (by decide) Tryz.func169
theorem func170:prog.funcs[170]?=some Tryz.f170:=g_fn Tryz.prog (by decide) Tryz.func170
theorem func171:prog.funcs[171]?=some Tryz.f171:=g_fn Tryz.prog (by decide) Tryz.func171
theorem func172:prog.funcs[172]?=some Tryz.f172:=g_fn Tryz.prog (by decide) Tryz.func172
theorem func173:prog.funcs[173]?=some Tryz.f173:=g_fn Tryz.prog (by decide) Tryz.func173
theorem func174:prog.funcs[174]?=some Tryz.f174:=g_fn Tryz.prog (by decide) Tryz.func174
theorem func175:prog.funcs[175]?=some Tryz.f175:=g_fn Tryz.prog (by decide) Tryz.func175
theorem func176:prog.funcs[176]?=some Tryz.f176:=g_fn Tryz.prog (by decide) Tryz.func176
theorem func177:prog.funcs[177]?=some Tryz.f177:=g_fn Tryz.prog (by decide) Tryz.func177
theorem func178:prog.funcs[178]?=some Tryz.f178:=g_fn Tryz.prog (by decide) Tryz.func178
theorem func179:prog.funcs[179]?=some Tryz.f179:=g_fn Tryz.prog (by decide) Tryz.func179
theorem func180:prog.funcs[180]?=some Tryz.f180:=g_fn Tryz.prog (by decide) Tryz.func180
theorem func182:prog.funcs[182]?=some Tryz.f182:=g_fn Tryz.prog (by decide) Tryz.func182
theorem func192:prog.funcs[192]?=some Tryz.f192:=g_fn Tryz.prog (by decide) Tryz.func192
theorem func193:prog.funcs[193]?=some Tryz.f193:=g_fn Tryz.prog (by decide) Tryz.func193
theorem func194:prog.funcs[194]?=some Tryz.f194:=g_fn Tryz.prog (by decide) Tryz.func194
theorem func195:prog.funcs[195]?=some Tryz.f195:=g_fn Tryz.prog (by decide) Tryz.func195
theorem func196:prog.funcs[196]?=some Tryz.f196:=g_fn Tryz.prog (by decide) Tryz.func196
theorem func197:prog.funcs[197]?=some Tryz.f197:=g_fn Tryz.prog (by decide) Tryz.func197
theorem func199:prog.funcs[199]?=some Tryz.f199:=g_fn Tryz.prog (by decide) Tryz.func199
theorem func201:prog.funcs[201]?=some Tryz.f201:=g_fn Tryz.prog (by decide) Tryz.func201
theorem func203:prog.funcs[203]?=some Tryz.f203:=g_fn Tryz.prog (by decide) Tryz.func203
theorem func204:prog.funcs[204]?=some Tryz.f204:=g_fn Tryz.prog (by decide) Tryz.func204
theorem func205:prog.funcs[205]?=some Tryz.f205:=g_fn Tryz.prog (by decide) Tryz.func205
theorem func206:prog.funcs[206]?=some Tryz.f206:=g_fn Tryz.prog (by decide) Tryz.func206
theorem func207:prog.funcs[207]?=some Tryz.f207:=g_fn Tryz.prog (by decide) Tryz.func207
theorem func212:prog.funcs[212]?=some Tryz.f212:=g_fn Tryz.prog (by decide) Tryz.func212
theorem func227:prog.funcs[227]?=some Tryz.f227:=g_fn Tryz.prog (by decide) Tryz.func227
theorem func233:prog.funcs[233]?=some Tryz.f233:=g_fn Tryz.prog (by decide) Tryz.func233
theorem func234:prog.funcs[234]?=some Tryz.f234:=g_fn Tryz.prog (by decide) Tryz.func234
theorem func235:prog.funcs[235]?=some Tryz.f235:=g_fn Tryz.prog (by decide) Tryz.func235
theorem func236:prog.funcs[236]?=some Tryz.f236:=g_fn Tryz.prog (by decide) Tryz.func236
theorem func237:prog.funcs[237]?=some Tryz.f237:=g_fn Tryz.prog (by decide) Tryz.func237
theorem func238:prog.funcs[238]?=some Tryz.f238:=g_fn Tryz.prog (by decide) Tryz.func238
theorem func239:prog.funcs[239]?=some Tryz.f239:=g_fn Tryz.prog (by decide) Tryz.func239
theorem func245:prog.funcs[245]?=some Tryz.f245:=g_fn Tryz.prog (by decide) Tryz.func245
theorem func247:prog.funcs[247]?=some Tryz.f247:=g_fn Tryz.prog (by decide) Tryz.func247
theorem func248:prog.funcs[248]?=some Tryz.f248:=g_fn Tryz.prog (by decide) Tryz.func248
theorem func249:prog.funcs[249]?=some Tryz.f249:=g_fn Tryz.prog (by decide) Tryz.func249
theorem func250:prog.funcs[250]?=some Tryz.f250:=g_fn Tryz.prog (by decide) Tryz.func250
theorem func251:prog.funcs[251]?=some Tryz.f251:=g_fn Tryz.prog (by decide) Tryz.func251
theorem func252:prog.funcs[252]?=some Tryz.f252:=g_fn Tryz.prog (by decide) Tryz.func252
theorem func253:prog.funcs[253]?=some Tryz.f253:=g_fn Tryz.prog (by decide) Tryz.func253
theorem func273:prog.funcs[273]?=some Tryz.f273:=g_fn Tryz.prog (by decide) Tryz.func273
theorem func275:prog.funcs[275]?=some Tryz.f275:=g_fn Tryz.prog (by decide) Tryz.func275
theorem func276:prog.funcs[276]?=some Tryz.f276:=g_fn Tryz.prog (by decide) Tryz.func276
theorem func282:prog.funcs[282]?=some Tryz.f282:=g_fn Tryz.prog (by decide) Tryz.func282
theorem func283:prog.funcs[283]?=some Tryz.f283:=g_fn Tryz.prog (by decide) Tryz.func283
theorem func284:prog.funcs[284]?=some Tryz.f284:=g_fn Tryz.prog (by decide) Tryz.func284
theorem func285:prog.funcs[285]?=some Tryz.f285:=g_fn Tryz.prog (by decide) Tryz.func285
theorem gc {n:Nat}{fn:Func}{c:Code}(hf:prog.funcs[n]?=some fn)(hn:(fn.name== "runtime.NumGoroutine")=false)(hb:fn.body=some c)(a:Array Value)(w:World):Sem.run prog (callFunc n a) w=.ok (.enter n a) w:=g_call _ w hf hn hb a
variable (a:Array Value)(w:World)
@[go_sem] theorem call8:Sem.run prog (callFunc 8 a) w=.ok (.enter 8 a) w:=gc func8 (by kernel_rfl) rfl a w
@[go_sem] theorem call9:Sem.run prog (callFunc 9 a) w=.ok (.enter 9 a) w:=gc func9 (by kernel_rfl) rfl a w
@[go_sem] theorem call11:Sem.run prog (callFunc 11 a) w=.ok (.enter 11 a) w:=gc func11 (by kernel_rfl) rfl a w
@[go_sem] theorem call12:Sem.run prog (callFunc 12 a) w=.ok (.enter 12 a) w:=gc func12 (by kernel_rfl) rfl a w
@[go_sem] theorem call14:Sem.run prog (callFunc 14 a) w=.ok (.enter 14 a) w:=gc func14 (by kernel_rfl) rfl a w
@[go_sem] theorem call15:Sem.run prog (callFunc 15 a) w=.ok (.enter 15 a) w:=gc func15 (by kernel_rfl) rfl a w
@[go_sem] theorem call16:Sem.run prog (callFunc 16 a) w=.ok (.enter 16 a) w:=gc func16 (by kernel_rfl) rfl a w
@[go_sem] theorem call17:Sem.run prog (callFunc 17 a) w=.ok (.enter 17 a) w:=gc func17 (by kernel_rfl) rfl a w
@[go_sem] theorem call18:Sem.run prog (callFunc 18 a) w=.ok (.enter 18 a) w:=gc func18 (by kernel_rfl) rfl a w
@[go_sem] theorem call28:Sem.run prog (callFunc 28 a) w=.ok (.enter 28 a) w:=gc func28 (by kernel_rfl) rfl a w
@[go_sem] theorem call29:Sem.run prog (callFunc 29 a) w=.ok (.enter 29 a) w:=gc func29 (by kernel_rfl) rfl a w
@[go_sem] theorem call30:Sem.run prog (callFunc 30 a) w=.ok (.enter 30 a) w:=gc func30 (by kernel_rfl) rfl a w
@[go_sem] theorem call31:Sem.run prog (callFunc 31 a) w=.ok (.enter 31 a) w:=gc func31 (by kernel_rfl) rfl a w
@[go_sem] theorem call32:Sem.run prog (callFunc 32 a) w=.ok (.enter 32 a) w:=gc func32 (by kernel_rfl) rfl a w
@[go_sem] theorem call33:Sem.run prog (callFunc 33 a) w=.ok (.enter 33 a) w:=gc func33 (by kernel_rfl) rfl a w
@[go_sem] theorem call35:Sem.run prog (callFunc 35 a) w=.ok (.enter 35 a) w:=gc func35 (by kernel_rfl) rfl a w
@[go_sem] theorem call36:Sem.run prog (callFunc 36 a) w=.ok (.enter 36 a) w:=gc func36 (by kernel_rfl) rfl a w
@[go_sem] theorem call37:Sem.run prog (callFunc 37 a) w=.ok (.enter 37 a) w:=gc func37 (by kernel_rfl) rfl a w
@[go_sem] theorem call38:Sem.run prog (callFunc 38 a) w=.ok (.enter 38 a) w:=gc func38 (by kernel_rfl) rfl a w
@[go_sem] theorem call39:Sem.run prog (callFunc 39 a) w=.ok (.enter 39 a) w:=gc func39 (by kernel_rfl) rfl a w
@[go_sem] theorem call40:Sem.run prog (callFunc 40 a) w=.ok (.enter 40 a) w:=gc func40 (by kernel_rfl) rfl a w
@[go_sem] theorem call41:Sem.run prog (callFunc 41 a) w=.ok (.enter 41 a) w:=gc func41 (by kernel_rfl) rfl a w
@[go_sem] theorem call42:Sem.run prog (callFunc 42 a) w=.ok (.enter 42 a) w:=gc func42 (by kernel_rfl) rfl a w
@[go_sem] theorem call43:Sem.run prog (callFunc 43 a) w=.ok (.enter 43 a) w:=gc func43 (by kernel_rfl) rfl a w
@[go_sem] theorem call44:Sem.run prog (callFunc 44 a) w=.ok (.enter 44 a) w:=gc func44 (by kernel_rfl) rfl a w
@[go_sem] theorem call45:Sem.run prog (callFunc 45 a) w=.ok (.enter 45 a) w:=gc func45 (by kernel_rfl) rfl a w
@[go_sem] theorem call46:Sem.run prog (callFunc 46 a) w=.ok (.enter 46 a) w:=gc func46 (by kernel_rfl) rfl a w
@[go_sem] theorem call47:Sem.run prog (callFunc 47 a) w=.ok (.enter 47 a) w:=gc func47 (by kernel_rfl) rfl a w
@[go_sem] theorem call48:Sem.run prog (callFunc 48 a) w=.ok (.enter 48 a) w:=gc func48 (by kernel_rfl) rfl a w
@[go_sem] theorem call50:Sem.run prog (callFunc 50 a) w=.ok (.enter 50 a) w:=gc func50 (by kernel_rfl) rfl a w
@[go_sem] theorem call59:Sem.run prog (callFunc 59 a) w=.ok (.enter 59 a) w:=gc func59 (by kernel_rfl) rfl a w
@[go_sem] theorem call60:Sem.run prog (callFunc 60 a) w=.ok (.enter 60 a) w:=gc func60 (by kernel_rfl) rfl a w
@[go_sem] theorem call61:Sem.run prog (callFunc 61 a) w=.ok (.enter 61 a) w:=gc func61 (by kernel_rfl) rfl a w
@[go_sem] theorem call62:Sem.run prog (callFunc 62 a) w=.ok (.enter 62 a) w:=gc func62 (by kernel_rfl) rfl a w
@[go_sem] theorem call63:Sem.run prog (callFunc 63 a) w=.ok (.enter 63 a) w:=gc func63 (by kernel_rfl) rfl a w
@[go_sem] theorem call64:Sem.run prog (callFunc 64 a) w=.ok (.enter 64 a) w:=gc func64 (by kernel_rfl) rfl a w
@[go_sem] theorem call65:Sem.run prog (callFunc 65 a) w=.ok (.enter 65 a) w:=gc func65 (by kernel_rfl) rfl a w
@[go_sem] theorem call66:Sem.run prog (callFunc 66 a) w=.ok (.enter 66 a) w:=gc func66 (by kernel_rfl) rfl a w
@[go_sem] theorem call67:Sem.run prog (callFunc 67 a) w=.ok (.enter 67 a) w:=gc func67 (by kernel_rfl) rfl a w
@[go_sem] theorem call68:Sem.run prog (callFunc 68 a) w=.ok (.enter 68 a) w:=gc func68 (by kernel_rfl) rfl a w
@[go_sem] theorem call83:Sem.run prog (callFunc 83 a) w=.ok (.enter 83 a) w:=gc func83 (by kernel_rfl) rfl a w
@[go_sem] theorem call84:Sem.run prog (callFunc 84 a) w=.ok (.enter 84 a) w:=gc func84 (by kernel_rfl) rfl a w
@[go_sem] theorem call85:Sem.run prog (callFunc 85 a) w=.ok (.enter 85 a) w:=gc func85 (by kernel_rfl) rfl a w
@[go_sem] theorem call86:Sem.run prog (callFunc 86 a) w=.ok (.enter 86 a) w:=gc func86 (by kernel_rfl) rfl a w
@[go_sem] theorem call87:Sem.run prog (callFunc 87 a) w=.ok (.enter 87 a) w:=gc func87 (by kernel_rfl) rfl a w
@[go_sem] theorem call88:Sem.run prog (callFunc 88 a) w=.ok (.enter 88 a) w:=gc func88 (by kernel_rfl) rfl a w
@[go_sem] theorem call89:Sem.run prog (callFunc 89 a) w=.ok (.enter 89 a) w:=gc func89 (by kernel_rfl) rfl a w
@[go_sem] theorem call90:Sem.run prog (callFunc 90 a) w=.ok (.enter 90 a) w:=gc func90 (by kernel_rfl) rfl a w
@[go_sem] theorem call91:Sem.run prog (callFunc 91 a) w=.ok (.enter 91 a) w:=gc func91 (by kernel_rfl) rfl a w
@[go_sem] theorem call93:Sem.run prog (callFunc 93 a) w=.ok (.enter 93 a) w:=gc func93 (by kernel_rfl) rfl a w
@[go_sem] theorem call107:Sem.run prog (callFunc 107 a) w=.ok (.enter 107 a) w:=gc func107 (by kernel_rfl) rfl a w
@[go_sem] theorem call108:Sem.run prog (callFunc 108 a) w=.ok (.enter 108 a) w:=gc func108 (by kernel_rfl) rfl a w
@[go_sem] theorem call109:Sem.run prog (callFunc 109 a) w=.ok (.enter 109 a) w:=gc func109 (by kernel_rfl) rfl a w
@[go_sem] theorem call110:Sem.run prog (callFunc 110 a) w=.ok (.enter 110 a) w:=gc func110 (by kernel_rfl) rfl a w
@[go_sem] theorem call111:Sem.run prog (callFunc 111 a) w=.ok (.enter 111 a) w:=gc func111 (by kernel_rfl) rfl a w
@[go_sem] theorem call112:Sem.run prog (callFunc 112 a) w=.ok (.enter 112 a) w:=gc func112 (by kernel_rfl) rfl a w
@[go_sem] theorem call122:Sem.run prog (callFunc 122 a) w=.ok (.enter 122 a) w:=gc func122 (by kernel_rfl) rfl a w
@[go_sem] theorem call123:Sem.run prog (callFunc 123 a) w=.ok (.enter 123 a) w:=gc func123 (by kernel_rfl) rfl a w
@[go_sem] theorem call125:Sem.run prog (callFunc 125 a) w=.ok (.enter 125 a) w:=gc func125 (by kernel_rfl) rfl a w
@[go_sem] theorem call126:Sem.run prog (callFunc 126 a) w=.ok (.enter 126 a) w:=gc func126 (by kernel_rfl) rfl a w
@[go_sem] theorem call127:Sem.run prog (callFunc 127 a) w=.ok (.enter 127 a) w:=gc func127 (by kernel_rfl) rfl a w
@[go_sem] theorem call128:Sem.run prog (callFunc 128 a) w=.ok (.enter 128 a) w:=gc func128 (by kernel_rfl) rfl a w
@[go_sem] theorem call129:Sem.run prog (callFunc 129 a) w=.ok (.enter 129 a) w:=gc func129 (by kernel_rfl) rfl a w
@[go_sem] theorem call130:Sem.run prog (callFunc 130 a) w=.ok (.enter 130 a) w:=gc func130 (by kernel_rfl) rfl a w
@[go_sem] theorem call131:Sem.run prog (callFunc 131 a) w=.ok (.enter 131 a) w:=gc func131 (by kernel_rfl) rfl a w
@[go_sem] theorem call132:Sem.run prog (callFunc 132 a) w=.ok (.enter 132 a) w:=gc func132 (by kernel_rfl) rfl a w
@[go_sem] theorem call143:Sem.run prog (callFunc 143 a) w=.ok (.enter 143 a) w:=gc func143 (by kernel_rfl) rfl a w
@[go_sem] theorem call144:Sem.run prog (callFunc 144 a) w=.ok (.enter 144 a) w:=gc func144 (by kernel_rfl) rfl a w
@[go_sem] theorem call145:Sem.run prog (callFunc 145 a) w=.ok (.enter 145 a) w:=gc func145 (by kernel_rfl) rfl a w
@[go_sem] theorem call146:Sem.run prog (callFunc 146 a) w=.ok (.enter 146 a) w:=gc func146 (by kernel_rfl) rfl a w
@[go_sem] theorem call147:Sem.run prog (callFunc 147 a) w=.ok (.enter 147 a) w:=gc func147 (by kernel_rfl) rfl a w
@[go_sem] theorem call149:Sem.run prog (callFunc 149 a) w=.ok (.enter 149 a) w:=gc func149 (by kernel_rfl) rfl a w
@[go_sem] theorem call150:Sem.run prog (callFunc 150 a) w=.ok (.enter 150 a) w:=gc func150 (by kernel_rfl) rfl a w
@[go_sem] theorem call151:Sem.run prog (callFunc 151 a) w=.ok (.enter 151 a) w:=gc func151 (by kernel_rfl) rfl a w
@[go_sem] theorem call176:Sem.run prog (callFunc 176 a) w=.ok (.enter 176 a) w:=gc func176 (by kernel_rfl) rfl a w
@[go_sem] theorem call177:Sem.run prog (callFunc 177 a) w=.ok (.enter 177 a) w:=gc func177 (by kernel_rfl) rfl a w
@[go_sem] theorem call178:Sem.run prog (callFunc 178 a) w=.ok (.enter 178 a) w:=gc func178 (by kernel_rfl) rfl a w
@[go_sem] theorem call179:Sem.run prog (callFunc 179 a) w=.ok (.enter 179 a) w:=gc func179 (by kernel_rfl) rfl a w
@[go_sem] theorem call180:Sem.run prog (callFunc 180 a) w=.ok (.enter 180 a) w:=gc func180 (by kernel_rfl) rfl a w
@[go_sem] theorem call181:Sem.run prog (callFunc 181 a) w=.ok (.enter 181 a) w:=gc func181 (by kernel_rfl) rfl a w
@[go_sem] theorem call182:Sem.run prog (callFunc 182 a) w=.ok (.enter 182 a) w:=gc func182 (by kernel_rfl) rfl a w
@[go_sem] theorem call197:Sem.run prog (callFunc 197 a) w=.ok (.enter 197 a) w:=gc func197 (by kernel_rfl) rfl a w
@[go_sem] theorem call204:Sem.run prog (callFunc 204 a) w=.ok (.enter 204 a) w:=gc func204 (by kernel_rfl) rfl a w
@[go_sem] theorem call205:Sem.run prog (callFunc 205 a) w=.ok (.enter 205 a) w:=gc func205 (by kernel_rfl) rfl a w
@[go_sem] theorem call206:Sem.run prog (callFunc 206 a) w=.ok (.enter 206 a) w:=gc func206 (by kernel_rfl) rfl a w
@[go_sem] theorem call207:Sem.run prog (callFunc 207 a) w=.ok (.enter 207 a) w:=gc func207 (by kernel_rfl) rfl a w
@[go_sem] theorem call233:Sem.run prog (callFunc 233 a) w=.ok (.enter 233 a) w:=gc func233 (by kernel_rfl) rfl a w
@[go_sem] theorem call234:Sem.run prog (callFunc 234 a) w=.ok (.enter 234 a) w:=gc func234 (by kernel_rfl) rfl a w
@[go_sem] theorem call235:Sem.run prog (callFunc 235 a) w=.ok (.enter 235 a) w:=gc func235 (by kernel_rfl) rfl a w
@[go_sem] theorem call236:Sem.run prog (callFunc 236 a) w=.ok (.enter 236 a) w:=gc func236 (by kernel_rfl) rfl a w
@[go_sem] theorem call237:Sem.run prog (callFunc 237 a) w=.ok (.enter 237 a) w:=gc func237 (by kernel_rfl) rfl a w
@[go_sem] theorem call238:Sem.run prog (callFunc 238 a) w=.ok (.enter 238 a) w:=gc func238 (by kernel_rfl) rfl a w
@[go_sem] theorem call239:Sem.run prog (callFunc 239 a) w=.ok (.enter 239 a) w:=gc func239 (by kernel_rfl) rfl a w
@[go_sem] theorem call245:Sem.run prog (callFunc 245 a) w=.ok (.enter 245 a) w:=gc func245 (by kernel_rfl) rfl a w
@[go_sem] theorem call248:Sem.run prog (callFunc 248 a) w=.ok (.enter 248 a) w:=gc func248 (by kernel_rfl) rfl a w
@[go_sem] theorem call249:Sem.run prog (callFunc 249 a) w=.ok (.enter 249 a) w:=gc func249 (by kernel_rfl) rfl a w
@[go_sem] theorem call250:Sem.run prog (callFunc 250 a) w=.ok (.enter 250 a) w:=gc func250 (by kernel_rfl) rfl a w
@[go_sem] theorem call251:Sem.run prog (callFunc 251 a) w=.ok (.enter 251 a) w:=gc func251 (by kernel_rfl) rfl a w
@[go_sem] theorem call252:Sem.run prog (callFunc 252 a) w=.ok (.enter 252 a) w:=gc func252 (by kernel_rfl) rfl a w
@[go_sem] theorem call253:Sem.run prog (callFunc 253 a) w=.ok (.enter 253 a) w:=gc func253 (by kernel_rfl) rfl a w
@[go_sem] theorem call273:Sem.run prog (callFunc 273 a) w=.ok (.enter 273 a) w:=gc func273 (by kernel_rfl) rfl a w
@[go_sem] theorem call275:Sem.run prog (callFunc 275 a) w=.ok (.enter 275 a) w:=gc func275 (by kernel_rfl) rfl a w
@[go_sem] theorem call276:Sem.run prog (callFunc 276 a) w=.ok (.enter 276 a) w:=gc func276 (by kernel_rfl) rfl a w
@[go_sem] theorem call283:Sem.run prog (callFunc 283 a) w=.ok (.enter 283 a) w:=gc func283 (by kernel_rfl) rfl a w
@[go_sem] theorem call284:Sem.run prog (callFunc 284 a) w=.ok (.enter 284 a) w:=gc func284 (by kernel_rfl) rfl a w
@[go_sem] theorem call285:Sem.run prog (callFunc 285 a) w=.ok (.enter 285 a) w:=gc func285 (by kernel_rfl) rfl a w
theorem ntmps145:type_of%Tryz.ntmps145:=Tryz.ntmps145
theorem ntmps253:type_of%Tryz.ntmps253:=Tryz.ntmps253
end Go.Proofs.Tryz0
