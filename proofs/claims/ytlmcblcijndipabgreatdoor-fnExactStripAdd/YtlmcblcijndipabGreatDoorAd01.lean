import Derived.Test.YtlmcblcijndipabGreatDoorAd00
import Derived.Test.YtlmcblcijndipabGreatDoorChecked
import Derived.WalkKit
namespace Go.Proofs.Tz
open Go
def body0:Code:=.refuse ""
def shutL:List Nat:=[181,65,287,279]
def deadN:Nat:=278
def shutF (i:Nat)(f:Func):Func:=if shutL.contains i then{f with body:=some body0}else if i==deadN then{f with name:= "-",origin:= "-"}else f
noncomputable def prog:Program:={Tryz.prog with funcs:=Tryz.prog.funcs.mapIdx shutF}
section
variable (P:Program)(fs:Array Func)(t:TypeId)(w:World)
theorem g_un:Program.underlying {P with funcs:=fs} t=P.underlying t:=rfl
theorem g_el:Program.elem {P with funcs:=fs} t=P.elem t:=rfl
theorem g_al:Program.arrayLen {P with funcs:=fs} t=P.arrayLen t:=rfl
theorem g_ru:Sem.run {P with funcs:=fs} (underlying t) w=Sem.run P (underlying t) w:=by
 unfold underlying;show Sem.run _ (match Program.underlying {P with funcs:=fs} t with|some d=>pure d|none=>_) w=Sem.run _ (match P.underlying t with|some d=>pure d|none=>_) w;rw[g_un];cases P.underlying t<;>rfl
theorem g_ti:Sem.run {P with funcs:=fs} (typeInfo t) w=Sem.run P (typeInfo t) w:=by
 unfold typeInfo;show Sem.run _ (match P.toTables.info? t with|some d=>pure d|none=>_) w=Sem.run _ (match P.toTables.info? t with|some d=>pure d|none=>_) w;cases P.toTables.info? t<;>rfl
omit P fs t w in
theorem andThen_congr {α β:Type}(r:Result α){k k':α->World->Result β}(h:∀a w,k a w=k' a w):r.andThen k=r.andThen k':=by
 cases r with
 |ok a w=>exact h a w
 |halt _ _=>rfl
omit P fs t w in
theorem run_pure2 {α:Type}(P P':Program)(a:α)(w:World):Sem.run P (pure a:Sem α) w=Sem.run P' (pure a:Sem α) w:=rfl
omit P fs t w in
theorem run_uns {α:Type}(P P':Program)(u:Unsupported)(w:World):Sem.run P (unsupported u:Sem α) w=Sem.run P' (unsupported u:Sem α) w:=rfl
theorem g_so:Sem.run {P with funcs:=fs} (sizeOf t) w=Sem.run P (sizeOf t) w:=by
 unfold sizeOf;rw[Sem.run_bind,Sem.run_bind,g_ti P fs];exact andThen_congr _ λd w'=>run_pure2 _ _ _ _
theorem g_ia:Sem.run {P with funcs:=fs} (isAgg t) w=Sem.run P (isAgg t) w:=by
 unfold isAgg;rw[Sem.run_bind,Sem.run_bind,g_ru P fs];refine andThen_congr _ λd w'=>?_
 cases d<;>exact run_pure2 _ _ _ _
theorem g_zv:Sem.run {P with funcs:=fs} (zeroValue t) w=Sem.run P (zeroValue t) w:=by
 unfold zeroValue;rw[Sem.run_bind,Sem.run_bind,g_ti P fs];refine andThen_congr _ λd w'=>?_
 obtain⟨z,hz⟩:∃z,d.zero=z:=⟨_,rfl⟩;rw[hz];cases z with
 |some v=>exact run_pure2 _ _ _ _
 |none=>exact run_uns _ _ _ _
theorem g_call {f:FuncId}{fn:Func}{c:Code}(hf:P.funcs[f]?=some fn)(hn:(fn.name== "runtime.NumGoroutine")=false)(hb:fn.body=some c)(args:Array Value):Sem.run P (callFunc f args) w=.ok (.enter f args) w:=by
 have h1:fn.name≠ "runtime.NumGoroutine":=by simpa using hn
 simp[callFunc,hf,h1,hb]
end
@[go_sem] theorem un0 (t:TypeId):prog.underlying t=Tryz.prog.underlying t:=g_un Tryz.prog (Tryz.prog.funcs.mapIdx shutF) t
@[go_sem] theorem el0 (t:TypeId):prog.elem t=Tryz.prog.elem t:=g_el Tryz.prog (Tryz.prog.funcs.mapIdx shutF) t
@[go_sem] theorem al0 (t:TypeId):prog.arrayLen t=Tryz.prog.arrayLen t:=g_al Tryz.prog (Tryz.prog.funcs.mapIdx shutF) t
@[go_sem] theorem ru0 (t:TypeId) (w:World):Sem.run prog (underlying t) w=Sem.run Tryz.prog (underlying t) w:=g_ru Tryz.prog (Tryz.prog.funcs.mapIdx shutF) t w
@[go_sem] theorem ti0 (t:TypeId) (w:World):Sem.run prog (typeInfo t) w=Sem.run Tryz.prog (typeInfo t) w:=g_ti Tryz.prog (Tryz.prog.funcs.mapIdx shutF) t w
@[go_sem] theorem so0 (t:TypeId) (w:World):Sem.run prog (sizeOf t) w=Sem.run Tryz.prog (sizeOf t) w:=g_so Tryz.prog (Tryz.prog.funcs.mapIdx shutF) t w
@[go_sem] theorem ia0 (t:TypeId) (w:World):Sem.run prog (isAgg t) w=Sem.run Tryz.prog (isAgg t) w:=g_ia Tryz.prog (Tryz.prog.funcs.mapIdx shutF) t w
@[go_sem] theorem zv0 (t:TypeId) (w:World):Sem.run prog (zeroValue t) w=Sem.run Tryz.prog (zeroValue t) w:=g_zv Tryz.prog (Tryz.prog.funcs.mapIdx shutF) t w
theorem tr_underlying {t:TypeId}{d:Option TypeDesc}(h:Tryz.prog.underlying t=d):prog.underlying t=d:=(un0 t).trans h
theorem tr_sizeOf {t:TypeId}{r:World->Result Nat}(h:∀w,Sem.run Tryz.prog (sizeOf t) w=r w):∀w,Sem.run prog (sizeOf t) w=r w:=λw=>(so0 t w).trans (h w)
theorem tr_isAgg {t:TypeId}{r:World->Result Bool}(h:∀w,Sem.run Tryz.prog (isAgg t) w=r w):∀w,Sem.run prog (isAgg t) w=r w:=λw=>(ia0 t w).trans (h w)
theorem tr_zeroValue {t:TypeId}{r:World->Result Value}(h:∀w,Sem.run Tryz.prog (zeroValue t) w=r w):∀w,Sem.run prog (zeroValue t) w=r w:=λw=>(zv0 t w).trans (h w)
abbrev Fn (n:Nat)(f:Func):Prop:=prog.funcs[n]?=some f
abbrev Cl (n:Nat):Prop:=∀(a:Array Value) (w:World),Sem.run prog (callFunc n a) w=.ok (.enter n a) w
theorem k_fn (P:Program){n:Nat}{f:Func}(hne:(shutL.contains n||n==deadN)=false)(h:P.funcs[n]?=some f):({P with funcs:=P.funcs.mapIdx shutF}:Program).funcs[n]?=some f:=by
 show(P.funcs.mapIdx shutF)[n]?=_;rw[Array.getElem?_mapIdx,h];rw[Bool.or_eq_false_iff]at hne;simp only[Option.map_some,shutF,hne.1,hne.2,Bool.false_eq_true,if_false]
theorem k_shut (P:Program){n:Nat}{f:Func}(hs:shutL.contains n=true)(h:P.funcs[n]?=some f):({P with funcs:=P.funcs.mapIdx shutF}:Program).funcs[n]?=some {f with body:=some body0}:=by
 show(P.funcs.mapIdx shutF)[n]?=_;rw[Array.getElem?_mapIdx,h];simp only[Option.map_some,shutF,hs,if_true]
theorem g_fn {n:Nat}{f:Func}(h:Tryz.prog.funcs[n]?=some f)(hne:(shutL.contains n||n==deadN)=false:=by decide):Fn n f:=k_fn Tryz.prog hne h
theorem g_shut {n:Nat}{f:Func}(h:Tryz.prog.funcs[n]?=some f)(hs:shutL.contains n=true:=by decide):Fn n {f with body:=some body0}:=k_shut Tryz.prog hs h
theorem gc {n:Nat}{fn:Func}(hf:Fn n fn)(hn:(fn.name== "runtime.NumGoroutine")=false:=by kernel_rfl)(hb:fn.body.isSome=true:=by rfl):Cl n:=λa w=>by
 obtain⟨c,hc⟩:=Option.isSome_iff_exists.1 hb;exact g_call _ w hf hn hc a
theorem g_nt (P:Program)(n:Nat):((({P with funcs:=P.funcs.mapIdx shutF}:Program).funcs[n]?).map (·.ntmps)).getD 0=((P.funcs[n]?).map (·.ntmps)).getD 0:=by
 show(((P.funcs.mapIdx shutF)[n]?).map (·.ntmps)).getD 0=_;rw[Array.getElem?_mapIdx];cases P.funcs[n]? with
 |none=>rfl
 |some f=>simp only[Option.map_some,shutF];split<;>first|rfl|(split<;>rfl)
theorem func181:Fn 181 {Tryz.f181 with body:=some body0}:=g_shut Tryz.func181
theorem func65:Fn 65 {Tryz.f65 with body:=some body0}:=g_shut Tryz.func65
theorem func3:Fn 3 Tryz.f3:=g_fn Tryz.func3
theorem func8:Fn 8 Tryz.f8:=g_fn Tryz.func8
theorem func9:Fn 9 Tryz.f9:=g_fn Tryz.func9
theorem func10:Fn 10 Tryz.f10:=g_fn Tryz.func10
theorem func11:Fn 11 Tryz.f11:=g_fn Tryz.func11
theorem func12:Fn 12 Tryz.f12:=g_fn Tryz.func12
theorem func13:Fn 13 Tryz.f13:=g_fn Tryz.func13
theorem func14:Fn 14 Tryz.f14:=g_fn Tryz.func14
theorem func15:Fn 15 Tryz.f15:=g_fn Tryz.func15
theorem func16:Fn 16 Tryz.f16:=g_fn Tryz.func16
theorem func28:Fn 28 Tryz.f28:=g_fn Tryz.func28
theorem func29:Fn 29 Tryz.f29:=g_fn Tryz.func29
theorem func30:Fn 30 Tryz.f30:=g_fn Tryz.func30
theorem func31:Fn 31 Tryz.f31:=g_fn Tryz.func31
theorem func32:Fn 32 Tryz.f32:=g_fn Tryz.func32
theorem func33:Fn 33 Tryz.f33:=g_fn Tryz.func33
theorem func34:Fn 34 Tryz.f34:=g_fn Tryz.func34
theorem func35:Fn 35 Tryz.f35:=g_fn Tryz.func35
theorem func36:Fn 36 Tryz.f36:=g_fn Tryz.func36
theorem func37:Fn 37 Tryz.f37:=g_fn Tryz.func37
theorem func38:Fn 38 Tryz.f38:=g_fn Tryz.func38
theorem func39:Fn 39 Tryz.f39:=g_fn Tryz.func39
theorem func40:Fn 40 Tryz.f40:=g_fn Tryz.func40
theorem func41:Fn 41 Tryz.f41:=g_fn Tryz.func41
theorem func42:Fn 42 Tryz.f42:=g_fn Tryz.func42
theorem func43:Fn 43 Tryz.f43:=g_fn Tryz.func43
theorem func44:Fn 44 Tryz.f44:=g_fn Tryz.func44
theorem func45:Fn 45 Tryz.f45:=g_fn Tryz.func45
theorem func47:Fn 47 Tryz.f47:=g_fn Tryz.func47
theorem func48:Fn 48 Tryz.f48:=g_fn Tryz.func48
theorem func50:Fn 50 Tryz.f50:=g_fn Tryz.func50
theorem func59:Fn 59 Tryz.f59:=g_fn Tryz.func59
theorem func60:Fn 60 Tryz.f60:=g_fn Tryz.func60
theorem func61:Fn 61 Tryz.f61:=g_fn Tryz.func61
theorem func62:Fn 62 Tryz.f62:=g_fn Tryz.func62
theorem func63:Fn 63 Tryz.f63:=g_fn Tryz.func63
theorem func64:Fn 64 Tryz.f64:=g_fn Tryz.func64
theorem func66:Fn 66 Tryz.f66:=g_fn Tryz.func66
theorem func67:Fn 67 Tryz.f67:=g_fn Tryz.func67
theorem func68:Fn 68 Tryz.f68:=g_fn Tryz.func68
theorem func83:Fn 83 Tryz.f83:=g_fn Tryz.func83
theorem func84:Fn 84 Tryz.f84:=g_fn Tryz.func84
theorem func85:Fn 85 Tryz.f85:=g_fn Tryz.func85
theorem func86:Fn 86 Tryz.f86:=g_fn Tryz.func86
theorem func87:Fn 87 Tryz.f87:=g_fn Tryz.func87
theorem func88:Fn 88 Tryz.f88:=g_fn Tryz.func88
theorem func89:Fn 89 Tryz.f89:=g_fn Tryz.func89
theorem func90:Fn 90 Tryz.f90:=g_fn Tryz.func90
theorem func91:Fn 91 Tryz.f91:=g_fn Tryz.func91
theorem func92:Fn 92 Tryz.f92:=g_fn Tryz.func92
theorem func93:Fn 93 Tryz.f93:=g_fn Tryz.func93
theorem func107:Fn 107 Tryz.f107:=g_fn Tryz.func107
theorem func108:Fn 108 Tryz.f108:=g_fn Tryz.func108
theorem func109:Fn 109 Tryz.f109:=g_fn Tryz.func109
theorem func110:Fn 110 Tryz.f110:=g_fn Tryz.func110
theorem func111:Fn 111 Tryz.f111:=g_fn Tryz.func111
theorem func112:Fn 112 Tryz.f112:=g_fn Tryz.func112
theorem func116:Fn 116 Tryz.f116:=g_fn Tryz.func116
theorem func122:Fn 122 Tryz.f122:=g_fn Tryz.func122
theorem func123:Fn 123 Tryz.f123:=g_fn Tryz.func123
theorem func125:Fn 125 Tryz.f125:=g_fn Tryz.func125
theorem func126:Fn 126 Tryz.f126:=g_fn Tryz.func126
theorem func127:Fn 127 Tryz.f127:=g_fn Tryz.func127
theorem func128:Fn 128 Tryz.f128:=g_fn Tryz.func128
theorem func129:Fn 129 Tryz.f129:=g_fn Tryz.func129
theorem func130:Fn 130 Tryz.f130:=g_fn Tryz.func130
theorem func131:Fn 131 Tryz.f131:=g_fn Tryz.func131
theorem func132:Fn 132 Tryz.f132:=g_fn Tryz.func132
theorem func143:Fn 143 Tryz.f143:=g_fn Tryz.func143
theorem func144:Fn 144 Tryz.f144:=g_fn Tryz.func144
theorem func145:Fn 145 Tryz.f145:=g_fn Tryz.func145
theorem func146:Fn 146 Tryz.f146:=g_fn Tryz.func146
theorem func147:Fn 147 Tryz.f147:=g_fn Tryz.func147
theorem func148:Fn 148 Tryz.f148:=g_fn Tryz.func148
theorem func149:Fn 149 Tryz.f149:=g_fn Tryz.func149
theorem func150:Fn 150 Tryz.f150:=g_fn Tryz.func150
theorem func151:Fn 151 Tryz.f151:=g_fn Tryz.func151
theorem func166:Fn 166 Tryz.f166:=g_fn Tryz.func166
theorem func167:Fn 167 Tryz.f167:=g_fn Tryz.func167
theorem func168:Fn 168 Tryz.f168:=g_fn Tryz.func168
theorem func169:Fn 169 Tryz.f169:=g_fn Tryz.func169
theorem func170:Fn 170 Tryz.f170:=g_fn Tryz.func170
theorem func171:Fn 171 Tryz.f171:=g_fn Tryz.func171
theorem func172:Fn 172 Tryz.f172:=g_fn Tryz.func172
theorem func173:Fn 173 Tryz.f173:=g_fn Tryz.func173
theorem func174:Fn 174 Tryz.f174:=g_fn Tryz.func174
theorem func175:Fn 175 Tryz.f175:=g_fn Tryz.func175
theorem func176:Fn 176 Tryz.f176:=g_fn Tryz.func176
theorem func177:Fn 177 Tryz.f177:=g_fn Tryz.func177
theorem func178:Fn 178 Tryz.f178:=g_fn Tryz.func178
theorem func179:Fn 179 Tryz.f179:=g_fn Tryz.func179
theorem func180:Fn 180 Tryz.f180:=g_fn Tryz.func180
theorem func182:Fn 182 Tryz.f182:=g_fn Tryz.func182
theorem func192:Fn 192 Tryz.f192:=g_fn Tryz.func192
theorem func193:Fn 193 Tryz.f193:=g_fn Tryz.func193
theorem func194:Fn 194 Tryz.f194:=g_fn Tryz.func194
theorem func195:Fn 195 Tryz.f195:=g_fn Tryz.func195
theorem func196:Fn 196 Tryz.f196:=g_fn Tryz.func196
theorem func197:Fn 197 Tryz.f197:=g_fn Tryz.func197
theorem func199:Fn 199 Tryz.f199:=g_fn Tryz.func199
theorem func201:Fn 201 Tryz.f201:=g_fn Tryz.func201
theorem func203:Fn 203 Tryz.f203:=g_fn Tryz.func203
theorem func204:Fn 204 Tryz.f204:=g_fn Tryz.func204
theorem func205:Fn 205 Tryz.f205:=g_fn Tryz.func205
theorem func206:Fn 206 Tryz.f206:=g_fn Tryz.func206
theorem func207:Fn 207 Tryz.f207:=g_fn Tryz.func207
theorem func212:Fn 212 Tryz.f212:=g_fn Tryz.func212
theorem func227:Fn 227 Tryz.f227:=g_fn Tryz.func227
theorem func233:Fn 233 Tryz.f233:=g_fn Tryz.func233
theorem func234:Fn 234 Tryz.f234:=g_fn Tryz.func234
theorem func235:Fn 235 Tryz.f235:=g_fn Tryz.func235
theorem func236:Fn 236 Tryz.f236:=g_fn Tryz.func236
theorem func237:Fn 237 Tryz.f237:=g_fn Tryz.func237
theorem func238:Fn 238 Tryz.f238:=g_fn Tryz.func238
theorem func239:Fn 239 Tryz.f239:=g_fn Tryz.func239
theorem func245:Fn 245 Tryz.f245:=g_fn Tryz.func245
theorem func247:Fn 247 Tryz.f247:=g_fn Tryz.func247
theorem func248:Fn 248 Tryz.f248:=g_fn Tryz.func248
theorem func249:Fn 249 Tryz.f249:=g_fn Tryz.func249
theorem func250:Fn 250 Tryz.f250:=g_fn Tryz.func250
theorem func251:Fn 251 Tryz.f251:=g_fn Tryz.func251
theorem func252:Fn 252 Tryz.f252:=g_fn Tryz.func252
theorem func253:Fn 253 Tryz.f253:=g_fn Tryz.func253
theorem func271:Fn 271 Tryz.f271:=g_fn Tryz.func271
theorem func272:Fn 272 Tryz.f272:=g_fn Tryz.func272
theorem func273:Fn 273 Tryz.f273:=g_fn Tryz.func273
theorem func274:Fn 274 Tryz.f274:=g_fn Tryz.func274
theorem func275:Fn 275 Tryz.f275:=g_fn Tryz.func275
theorem func276:Fn 276 Tryz.f276:=g_fn Tryz.func276
theorem func277:Fn 277 Tryz.f277:=g_fn Tryz.func277
@[go_sem] theorem call8:Cl 8:=gc func8
@[go_sem] theorem call9:Cl 9:=gc func9
@[go_sem] theorem call10:Cl 10:=gc func10
@[go_sem] theorem call11:Cl 11:=gc func11
@[go_sem] theorem call12:Cl 12:=gc func12
@[go_sem] theorem call13:Cl 13:=gc func13
@[go_sem] theorem call14:Cl 14:=gc func14
@[go_sem] theorem call15:Cl 15:=gc func15
@[go_sem] theorem call16:Cl 16:=gc func16
@[go_sem] theorem call28:Cl 28:=gc func28
@[go_sem] theorem call29:Cl 29:=gc func29
@[go_sem] theorem call30:Cl 30:=gc func30
@[go_sem] theorem call31:Cl 31:=gc func31
@[go_sem] theorem call32:Cl 32:=gc func32
@[go_sem] theorem call33:Cl 33:=gc func33
@[go_sem] theorem call34:Cl 34:=gc func34
@[go_sem] theorem call35:Cl 35:=gc func35
@[go_sem] theorem call36:Cl 36:=gc func36
@[go_sem] theorem call37:Cl 37:=gc func37
@[go_sem] theorem call38:Cl 38:=gc func38
@[go_sem] theorem call39:Cl 39:=gc func39
@[go_sem] theorem call40:Cl 40:=gc func40
@[go_sem] theorem call41:Cl 41:=gc func41
@[go_sem] theorem call42:Cl 42:=gc func42
@[go_sem] theorem call43:Cl 43:=gc func43
@[go_sem] theorem call44:Cl 44:=gc func44
@[go_sem] theorem call45:Cl 45:=gc func45
@[go_sem] theorem call47:Cl 47:=gc func47
@[go_sem] theorem call48:Cl 48:=gc func48
@[go_sem] theorem call50:Cl 50:=gc func50
@[go_sem] theorem call59:Cl 59:=gc func59
@[go_sem] theorem call60:Cl 60:=gc func60
@[go_sem] theorem call61:Cl 61:=gc func61
@[go_sem] theorem call62:Cl 62:=gc func62
@[go_sem] theorem call63:Cl 63:=gc func63
@[go_sem] theorem call64:Cl 64:=gc func64
@[go_sem] theorem call65:Cl 65:=gc func65
@[go_sem] theorem call66:Cl 66:=gc func66
@[go_sem] theorem call67:Cl 67:=gc func67
@[go_sem] theorem call68:Cl 68:=gc func68
@[go_sem] theorem call83:Cl 83:=gc func83
@[go_sem] theorem call84:Cl 84:=gc func84
@[go_sem] theorem call85:Cl 85:=gc func85
@[go_sem] theorem call86:Cl 86:=gc func86
@[go_sem] theorem call87:Cl 87:=gc func87
@[go_sem] theorem call88:Cl 88:=gc func88
@[go_sem] theorem call89:Cl 89:=gc func89
@[go_sem] theorem call90:Cl 90:=gc func90
@[go_sem] theorem call91:Cl 91:=gc func91
@[go_sem] theorem call93:Cl 93:=gc func93
@[go_sem] theorem call107:Cl 107:=gc func107
@[go_sem] theorem call108:Cl 108:=gc func108
@[go_sem] theorem call109:Cl 109:=gc func109
@[go_sem] theorem call110:Cl 110:=gc func110
@[go_sem] theorem call111:Cl 111:=gc func111
@[go_sem] theorem call112:Cl 112:=gc func112
@[go_sem] theorem call122:Cl 122:=gc func122
@[go_sem] theorem call123:Cl 123:=gc func123
@[go_sem] theorem call125:Cl 125:=gc func125
@[go_sem] theorem call126:Cl 126:=gc func126
@[go_sem] theorem call127:Cl 127:=gc func127
@[go_sem] theorem call128:Cl 128:=gc func128
@[go_sem] theorem call129:Cl 129:=gc func129
@[go_sem] theorem call130:Cl 130:=gc func130
@[go_sem] theorem call131:Cl 131:=gc func131
@[go_sem] theorem call132:Cl 132:=gc func132
@[go_sem] theorem call143:Cl 143:=gc func143
@[go_sem] theorem call144:Cl 144:=gc func144
@[go_sem] theorem call145:Cl 145:=gc func145
@[go_sem] theorem call146:Cl 146:=gc func146
@[go_sem] theorem call147:Cl 147:=gc func147
@[go_sem] theorem call149:Cl 149:=gc func149
@[go_sem] theorem call150:Cl 150:=gc func150
@[go_sem] theorem call151:Cl 151:=gc func151
@[go_sem] theorem call176:Cl 176:=gc func176
@[go_sem] theorem call177:Cl 177:=gc func177
@[go_sem] theorem call178:Cl 178:=gc func178
@[go_sem] theorem call179:Cl 179:=gc func179
@[go_sem] theorem call180:Cl 180:=gc func180
@[go_sem] theorem call181:Cl 181:=gc func181
@[go_sem] theorem call182:Cl 182:=gc func182
@[go_sem] theorem call197:Cl 197:=gc func197
@[go_sem] theorem call204:Cl 204:=gc func204
@[go_sem] theorem call205:Cl 205:=gc func205
@[go_sem] theorem call206:Cl 206:=gc func206
@[go_sem] theorem call207:Cl 207:=gc func207
@[go_sem] theorem call233:Cl 233:=gc func233
@[go_sem] theorem call234:Cl 234:=gc func234
@[go_sem] theorem call235:Cl 235:=gc func235
@[go_sem] theorem call236:Cl 236:=gc func236
@[go_sem] theorem call237:Cl 237:=gc func237
@[go_sem] theorem call238:Cl 238:=gc func238
@[go_sem] theorem call239:Cl 239:=gc func239
@[go_sem] theorem call245:Cl 245:=gc func245
@[go_sem] theorem call248:Cl 248:=gc func248
@[go_sem] theorem call249:Cl 249:=gc func249
@[go_sem] theorem call250:Cl 250:=gc func250
@[go_sem] theorem call251:Cl 251:=gc func251
@[go_sem] theorem call252:Cl 252:=gc func252
@[go_sem] theorem call253:Cl 253:=gc func253
@[go_sem] theorem call273:Cl 273:=gc func273
@[go_sem] theorem call274:Cl 274:=gc func274
@[go_sem] theorem call275:Cl 275:=gc func275
@[go_sem] theorem call276:Cl 276:=gc func276
@[go_sem] theorem call277:Cl 277:=gc func277
theorem ntmps145:type_of%Tryz.ntmps145:=Tryz.ntmps145
theorem ntmps253:type_of%Tryz.ntmps253:=Tryz.ntmps253
end Go.Proofs.Tz
