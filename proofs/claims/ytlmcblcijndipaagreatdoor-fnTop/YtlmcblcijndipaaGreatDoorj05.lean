import Derived.Test.YtlmcblcijndipaaGreatDoorj00
import Derived.Test.YtlmcblcijndipaaGreatDoorChecked
import Derived.WalkKit
set_option linter.unusedVariables false
set_option linter.defProp false
namespace Go.Proofs.Tz
variable {f fn:Func}{n:Nat}{α:Type}{t:TypeId}
open Go
def wS:Code:=.refuse ""
def iv:List Nat:=[139,68,284]
def As:Nat:=283
def ji (i:Nat)(f:Func):Func:=if iv.contains i then{f with body:=some wS}else if i==As then{f with name:= "-",origin:= "-"}else f
noncomputable def prog:Program:={Tryz.prog with funcs:=Tryz.prog.funcs.mapIdx ji}
section
variable (P:Program)(fs:Array Func)(t:TypeId)(w:World)
def YI:Program.underlying {P with funcs:=fs} t=P.underlying t:=rfl
def aaC:Program.elem {P with funcs:=fs} t=P.elem t:=rfl
def aaB:Program.arrayLen {P with funcs:=fs} t=P.arrayLen t:=rfl
def YH:Sem.run {P with funcs:=fs} (underlying t) w=Sem.run P (underlying t) w:=by
 unfold underlying;show Sem.run _ (match Program.underlying {P with funcs:=fs} t with|some d=>pure d|none=>_) w=Sem.run _ (match P.underlying t with|some d=>pure d|none=>_) w;rw[YI];cases P.underlying t<;>rfl
def U4:Sem.run {P with funcs:=fs} (typeInfo t) w=Sem.run P (typeInfo t) w:=by
 unfold typeInfo;show Sem.run _ (match P.toTables.info? t with|some d=>pure d|none=>_) w=Sem.run _ (match P.toTables.info? t with|some d=>pure d|none=>_) w;cases P.toTables.info? t<;>rfl
omit P fs t w in
def mn {β:Type}(r:Result α){k k':α->World->Result β}(h:∀a w,k a w=k' a w):r.andThen k=r.andThen k':=by
 cases r with
 |ok a w=>exact h a w
 |halt _ _=>rfl
omit P fs t w in
def ux (P P':Program)(a:α)(w:World):Sem.run P (pure a:Sem α) w=Sem.run P' (pure a:Sem α) w:=rfl
omit P fs t w in
def Sa (P P':Program)(u:Unsupported)(w:World):Sem.run P (unsupported u:Sem α) w=Sem.run P' (unsupported u:Sem α) w:=rfl
def aaF:Sem.run {P with funcs:=fs} (sizeOf t) w=Sem.run P (sizeOf t) w:=by
 unfold sizeOf;rw[Sem.run_bind,Sem.run_bind,U4 P fs];exact mn _ λd w'=>ux _ _ _ _
def aaD:Sem.run {P with funcs:=fs} (isAgg t) w=Sem.run P (isAgg t) w:=by
 unfold isAgg;rw[Sem.run_bind,Sem.run_bind,YH P fs];refine mn _ λd w'=>?_
 cases d<;>exact ux _ _ _ _
def aaG:Sem.run {P with funcs:=fs} (zeroValue t) w=Sem.run P (zeroValue t) w:=by
 unfold zeroValue;rw[Sem.run_bind,Sem.run_bind,U4 P fs];refine mn _ λd w'=>?_
 obtain⟨z,hz⟩:∃z,d.zero=z:=⟨_,rfl⟩;rw[hz];cases z with
 |some v=>exact ux _ _ _ _
 |none=>exact Sa _ _ _ _
def g_call {f:FuncId}{c:Code}(hf:P.funcs[f]?=some fn)(hn:(fn.name== "runtime.NumGoroutine")=false)(hb:fn.body=some c)(args:Array Value):Sem.run P (callFunc f args) w=.ok (.enter f args) w:=by
 have h1:fn.name≠ "runtime.NumGoroutine":=by simpa using hn
 simp[callFunc,hf,h1,hb]
end
@[go_sem] def un0 (t:TypeId):prog.underlying t=Tryz.prog.underlying t:=YI Tryz.prog (Tryz.prog.funcs.mapIdx ji) t
@[go_sem] def el0 (t:TypeId):prog.elem t=Tryz.prog.elem t:=aaC Tryz.prog (Tryz.prog.funcs.mapIdx ji) t
@[go_sem] def al0 (t:TypeId):prog.arrayLen t=Tryz.prog.arrayLen t:=aaB Tryz.prog (Tryz.prog.funcs.mapIdx ji) t
@[go_sem] def ru0 (t:TypeId) (w:World):Sem.run prog (underlying t) w=Sem.run Tryz.prog (underlying t) w:=YH Tryz.prog (Tryz.prog.funcs.mapIdx ji) t w
@[go_sem] def ti0 (t:TypeId) (w:World):Sem.run prog (typeInfo t) w=Sem.run Tryz.prog (typeInfo t) w:=U4 Tryz.prog (Tryz.prog.funcs.mapIdx ji) t w
@[go_sem] def so0 (t:TypeId) (w:World):Sem.run prog (sizeOf t) w=Sem.run Tryz.prog (sizeOf t) w:=aaF Tryz.prog (Tryz.prog.funcs.mapIdx ji) t w
@[go_sem] def ia0 (t:TypeId) (w:World):Sem.run prog (isAgg t) w=Sem.run Tryz.prog (isAgg t) w:=aaD Tryz.prog (Tryz.prog.funcs.mapIdx ji) t w
@[go_sem] def zv0 (t:TypeId) (w:World):Sem.run prog (zeroValue t) w=Sem.run Tryz.prog (zeroValue t) w:=aaG Tryz.prog (Tryz.prog.funcs.mapIdx ji) t w
def aE {d:Option TypeDesc}(h:Tryz.prog.underlying t=d):prog.underlying t=d:=(un0 t).trans h
def tP {r:World->Result Value}(h:∀w,Sem.run Tryz.prog (zeroValue t) w=r w):∀w,Sem.run prog (zeroValue t) w=r w:=λw=>(zv0 t w).trans<|h w
abbrev Fn (n:Nat)(f:Func):Prop:=prog.funcs[n]?=some f
abbrev Cl (n:Nat):Prop:=∀(a:Array Value) (w:World),Sem.run prog (callFunc n a) w=.ok (.enter n a) w
def abq (P:Program)(hne:(iv.contains n||n==As)=false)(h:P.funcs[n]?=some f):({P with funcs:=P.funcs.mapIdx ji}:Program).funcs[n]?=some f:=by
 show(P.funcs.mapIdx ji)[n]?=_;rw[Array.getElem?_mapIdx,h];rw[Bool.or_eq_false_iff]at hne;simp only[Option.map_some,ji,hne.1,hne.2,Bool.false_eq_true,if_false]
def VX (P:Program)(hs:iv.contains n=true)(h:P.funcs[n]?=some f):({P with funcs:=P.funcs.mapIdx ji}:Program).funcs[n]?=some {f with body:=some wS}:=by
 show(P.funcs.mapIdx ji)[n]?=_;rw[Array.getElem?_mapIdx,h];simp only[Option.map_some,ji,hs,if_true]
def aQ (h:Tryz.prog.funcs[n]?=some f)(hne:(iv.contains n||n==As)=false:=by decide):Fn n f:=abq Tryz.prog hne h
def Ca (h:Tryz.prog.funcs[n]?=some f)(hs:iv.contains n=true:=by decide):Fn n {f with body:=some wS}:=VX Tryz.prog hs h
def gc (hf:Fn n fn)(hn:(fn.name== "runtime.NumGoroutine")=false:=by kernel_rfl)(hb:fn.body.isSome=true:=by rfl):Cl n:=λa w=>by
 let⟨c,hc⟩:=Option.isSome_iff_exists.1 hb;exact g_call _ w hf hn hc a
def aaE (P:Program)(n:Nat):((({P with funcs:=P.funcs.mapIdx ji}:Program).funcs[n]?).map (·.ntmps)).getD 0=((P.funcs[n]?).map (·.ntmps)).getD 0:=by
 show(((P.funcs.mapIdx ji)[n]?).map (·.ntmps)).getD 0=_;rw[Array.getElem?_mapIdx];cases P.funcs[n]? with
 |none=>rfl
 |some f=>simp only[Option.map_some,ji];split<;>first|rfl|(split<;>rfl)
def func139:Fn 139 {Tryz.f139 with body:=some wS}:=Ca Tryz.func139
def func68:Fn 68 {Tryz.f68 with body:=some wS}:=Ca Tryz.func68
def func3:=aQ Tryz.func3
def func7:=aQ Tryz.func7
def func8:=aQ Tryz.func8
def func9:=aQ Tryz.func9
def func10:=aQ Tryz.func10
def func11:=aQ Tryz.func11
def func12:=aQ Tryz.func12
def func13:=aQ Tryz.func13
def func14:=aQ Tryz.func14
def func15:=aQ Tryz.func15
def func16:=aQ Tryz.func16
def func17:=aQ Tryz.func17
def func18:=aQ Tryz.func18
def func19:=aQ Tryz.func19
def func20:=aQ Tryz.func20
def func21:=aQ Tryz.func21
def func26:=aQ Tryz.func26
def func27:=aQ Tryz.func27
def func33:=aQ Tryz.func33
def func34:=aQ Tryz.func34
def func35:=aQ Tryz.func35
def func36:=aQ Tryz.func36
def func37:=aQ Tryz.func37
def func38:=aQ Tryz.func38
def func39:=aQ Tryz.func39
def func40:=aQ Tryz.func40
def func41:=aQ Tryz.func41
def func42:=aQ Tryz.func42
def func43:=aQ Tryz.func43
def func44:=aQ Tryz.func44
def func45:=aQ Tryz.func45
def func46:=aQ Tryz.func46
def func47:=aQ Tryz.func47
def func48:=aQ Tryz.func48
def func49:=aQ Tryz.func49
def func50:=aQ Tryz.func50
def func51:=aQ Tryz.func51
def func52:=aQ Tryz.func52
def func56:=aQ Tryz.func56
def func67:=aQ Tryz.func67
def func69:=aQ Tryz.func69
def func70:=aQ Tryz.func70
def func71:=aQ Tryz.func71
def func72:=aQ Tryz.func72
def func73:=aQ Tryz.func73
def func74:=aQ Tryz.func74
def func75:=aQ Tryz.func75
def func76:=aQ Tryz.func76
def func77:=aQ Tryz.func77
def func78:=aQ Tryz.func78
def func79:=aQ Tryz.func79
def func80:=aQ Tryz.func80
def func83:=aQ Tryz.func83
def func98:=aQ Tryz.func98
def func99:=aQ Tryz.func99
def func100:=aQ Tryz.func100
def func101:=aQ Tryz.func101
def func102:=aQ Tryz.func102
def func103:=aQ Tryz.func103
def func104:=aQ Tryz.func104
def func105:=aQ Tryz.func105
def func106:=aQ Tryz.func106
def func107:=aQ Tryz.func107
def func108:=aQ Tryz.func108
def func109:=aQ Tryz.func109
def func110:=aQ Tryz.func110
def func111:=aQ Tryz.func111
def func113:=aQ Tryz.func113
def func129:=aQ Tryz.func129
def func130:=aQ Tryz.func130
def func131:=aQ Tryz.func131
def func132:=aQ Tryz.func132
def func133:=aQ Tryz.func133
def func134:=aQ Tryz.func134
def func135:=aQ Tryz.func135
def func136:=aQ Tryz.func136
def func137:=aQ Tryz.func137
def func138:=aQ Tryz.func138
def func140:=aQ Tryz.func140
def func146:=aQ Tryz.func146
def func147:=aQ Tryz.func147
def func149:=aQ Tryz.func149
def func150:=aQ Tryz.func150
def func154:=aQ Tryz.func154
def func156:=aQ Tryz.func156
def func158:=aQ Tryz.func158
def func160:=aQ Tryz.func160
def func161:=aQ Tryz.func161
def func162:=aQ Tryz.func162
def func163:=aQ Tryz.func163
def func164:=aQ Tryz.func164
def func172:=aQ Tryz.func172
def func173:=aQ Tryz.func173
def func174:=aQ Tryz.func174
def func189:=aQ Tryz.func189
def func195:=aQ Tryz.func195
def func196:=aQ Tryz.func196
def func197:=aQ Tryz.func197
def func198:=aQ Tryz.func198
def func199:=aQ Tryz.func199
def func200:=aQ Tryz.func200
def func201:=aQ Tryz.func201
def func216:=aQ Tryz.func216
def func217:=aQ Tryz.func217
def func218:=aQ Tryz.func218
def func219:=aQ Tryz.func219
def func220:=aQ Tryz.func220
def func221:=aQ Tryz.func221
def func222:=aQ Tryz.func222
def func223:=aQ Tryz.func223
def func224:=aQ Tryz.func224
def func225:=aQ Tryz.func225
def func231:=aQ Tryz.func231
def func233:=aQ Tryz.func233
def func234:=aQ Tryz.func234
def func235:=aQ Tryz.func235
def func236:=aQ Tryz.func236
def func246:=aQ Tryz.func246
def func247:=aQ Tryz.func247
def func248:=aQ Tryz.func248
def func249:=aQ Tryz.func249
def func250:=aQ Tryz.func250
def func251:=aQ Tryz.func251
def func252:=aQ Tryz.func252
def func253:=aQ Tryz.func253
def func258:=aQ Tryz.func258
def func276:=aQ Tryz.func276
def func277:=aQ Tryz.func277
def func278:=aQ Tryz.func278
def func279:=aQ Tryz.func279
def func280:=aQ Tryz.func280
def func281:=aQ Tryz.func281
def func282:=aQ Tryz.func282
def func287:=aQ Tryz.func287
def func288:=aQ Tryz.func288
def func289:=aQ Tryz.func289
def func290:=aQ Tryz.func290
def func291:=aQ Tryz.func291
def func292:=aQ Tryz.func292
@[go_sem] def call7:=gc func7
@[go_sem] def call8:=gc func8
@[go_sem] def call9:=gc func9
@[go_sem] def call10:=gc func10
@[go_sem] def call11:=gc func11
@[go_sem] def call12:=gc func12
@[go_sem] def call13:=gc func13
@[go_sem] def call14:=gc func14
@[go_sem] def call15:=gc func15
@[go_sem] def call16:=gc func16
@[go_sem] def call17:=gc func17
@[go_sem] def call18:=gc func18
@[go_sem] def call19:=gc func19
@[go_sem] def call20:=gc func20
@[go_sem] def call21:=gc func21
@[go_sem] def call26:=gc func26
@[go_sem] def call27:=gc func27
@[go_sem] def call33:=gc func33
@[go_sem] def call34:=gc func34
@[go_sem] def call35:=gc func35
@[go_sem] def call36:=gc func36
@[go_sem] def call37:=gc func37
@[go_sem] def call38:=gc func38
@[go_sem] def call39:=gc func39
@[go_sem] def call40:=gc func40
@[go_sem] def call41:=gc func41
@[go_sem] def call42:=gc func42
@[go_sem] def call43:=gc func43
@[go_sem] def call44:=gc func44
@[go_sem] def call45:=gc func45
@[go_sem] def call46:=gc func46
@[go_sem] def call47:=gc func47
@[go_sem] def call48:=gc func48
@[go_sem] def call49:=gc func49
@[go_sem] def call50:=gc func50
@[go_sem] def call51:=gc func51
@[go_sem] def call52:=gc func52
@[go_sem] def call56:=gc func56
@[go_sem] def call67:=gc func67
@[go_sem] def call68:=gc func68
@[go_sem] def call69:=gc func69
@[go_sem] def call70:=gc func70
@[go_sem] def call71:=gc func71
@[go_sem] def call72:=gc func72
@[go_sem] def call73:=gc func73
@[go_sem] def call74:=gc func74
@[go_sem] def call75:=gc func75
@[go_sem] def call76:=gc func76
@[go_sem] def call77:=gc func77
@[go_sem] def call78:=gc func78
@[go_sem] def call79:=gc func79
@[go_sem] def call80:=gc func80
@[go_sem] def call83:=gc func83
@[go_sem] def call99:=gc func99
@[go_sem] def call100:=gc func100
@[go_sem] def call101:=gc func101
@[go_sem] def call102:=gc func102
@[go_sem] def call103:=gc func103
@[go_sem] def call104:=gc func104
@[go_sem] def call105:=gc func105
@[go_sem] def call106:=gc func106
@[go_sem] def call107:=gc func107
@[go_sem] def call109:=gc func109
@[go_sem] def call110:=gc func110
@[go_sem] def call111:=gc func111
@[go_sem] def call113:=gc func113
@[go_sem] def call130:=gc func130
@[go_sem] def call131:=gc func131
@[go_sem] def call132:=gc func132
@[go_sem] def call133:=gc func133
@[go_sem] def call134:=gc func134
@[go_sem] def call135:=gc func135
@[go_sem] def call136:=gc func136
@[go_sem] def call137:=gc func137
@[go_sem] def call138:=gc func138
@[go_sem] def call139:=gc func139
@[go_sem] def call140:=gc func140
@[go_sem] def call146:=gc func146
@[go_sem] def call147:=gc func147
@[go_sem] def call149:=gc func149
@[go_sem] def call150:=gc func150
@[go_sem] def call154:=gc func154
@[go_sem] def call161:=gc func161
@[go_sem] def call162:=gc func162
@[go_sem] def call163:=gc func163
@[go_sem] def call164:=gc func164
@[go_sem] def call172:=gc func172
@[go_sem] def call173:=gc func173
@[go_sem] def call174:=gc func174
@[go_sem] def call195:=gc func195
@[go_sem] def call196:=gc func196
@[go_sem] def call197:=gc func197
@[go_sem] def call198:=gc func198
@[go_sem] def call199:=gc func199
@[go_sem] def call200:=gc func200
@[go_sem] def call201:=gc func201
@[go_sem] def call231:=gc func231
@[go_sem] def call234:=gc func234
@[go_sem] def call235:=gc func235
@[go_sem] def call236:=gc func236
@[go_sem] def call251:=gc func251
@[go_sem] def call252:=gc func252
@[go_sem] def call253:=gc func253
@[go_sem] def call278:=gc func278
@[go_sem] def call279:=gc func279
@[go_sem] def call280:=gc func280
@[go_sem] def call281:=gc func281
@[go_sem] def call282:=gc func282
@[go_sem] def call288:=gc func288
@[go_sem] def call289:=gc func289
@[go_sem] def call290:=gc func290
def ntmps174:type_of%Tryz.ntmps174:=Tryz.ntmps174
def ntmps253:type_of%Tryz.ntmps253:=Tryz.ntmps253
end Go.Proofs.Tz
