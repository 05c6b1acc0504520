import Derived.Test.YtlmcblcijndipaaGreatDoora00
import Derived.Test.YtlmcblcijndipaaGreatDoorChecked
import Derived.WalkKit
set_option linter.unusedVariables false
set_option linter.defProp false
namespace Go.Proofs.Tz
variable {f fn:Func}{n:Nat}{α:Type}{t:TypeId}
open Go
def wy:Code:=.refuse ""
def iq:List Nat:=[139,68,284]
def Aj:Nat:=283
def jk (i:Nat)(f:Func):Func:=if iq.contains i then{f with body:=some wy}else if i==Aj then{f with name:= "-",origin:= "-"}else f
noncomputable def prog:Program:={Tryz.prog with funcs:=Tryz.prog.funcs.mapIdx jk}
section
variable (P:Program)(fs:Array Func)(t:TypeId)(w:World)
def XQ:Program.underlying {P with funcs:=fs} t=P.underlying t:=rfl
def aar:Program.elem {P with funcs:=fs} t=P.elem t:=rfl
def aaq:Program.arrayLen {P with funcs:=fs} t=P.arrayLen t:=rfl
def XP:Sem.run {P with funcs:=fs} (underlying t) w=Sem.run P (underlying t) w:=by
 unfold underlying;show Sem.run _ (match Program.underlying {P with funcs:=fs} t with|some d=>pure d|none=>_) w=Sem.run _ (match P.underlying t with|some d=>pure d|none=>_) w;rw[XQ];cases P.underlying t<;>rfl
def T6:Sem.run {P with funcs:=fs} (typeInfo t) w=Sem.run P (typeInfo t) w:=by
 unfold typeInfo;show Sem.run _ (match P.toTables.info? t with|some d=>pure d|none=>_) w=Sem.run _ (match P.toTables.info? t with|some d=>pure d|none=>_) w;cases P.toTables.info? t<;>rfl
omit P fs t w in
def mg {β:Type}(r:Result α){k k':α->World->Result β}(h:∀a w,k a w=k' a w):r.andThen k=r.andThen k':=by
 cases r with
 |ok a w=>exact h a w
 |halt _ _=>rfl
omit P fs t w in
def ug (P P':Program)(a:α)(w:World):Sem.run P (pure a:Sem α) w=Sem.run P' (pure a:Sem α) w:=rfl
omit P fs t w in
def Q7 (P P':Program)(u:Unsupported)(w:World):Sem.run P (unsupported u:Sem α) w=Sem.run P' (unsupported u:Sem α) w:=rfl
def aau:Sem.run {P with funcs:=fs} (sizeOf t) w=Sem.run P (sizeOf t) w:=by
 unfold sizeOf;rw[Sem.run_bind,Sem.run_bind,T6 P fs];exact mg _ λd w'=>ug _ _ _ _
def aas:Sem.run {P with funcs:=fs} (isAgg t) w=Sem.run P (isAgg t) w:=by
 unfold isAgg;rw[Sem.run_bind,Sem.run_bind,XP P fs];refine mg _ λd w'=>?_
 cases d<;>exact ug _ _ _ _
def aav:Sem.run {P with funcs:=fs} (zeroValue t) w=Sem.run P (zeroValue t) w:=by
 unfold zeroValue;rw[Sem.run_bind,Sem.run_bind,T6 P fs];refine mg _ λd w'=>?_
 obtain⟨z,hz⟩:∃z,d.zero=z:=⟨_,rfl⟩;rw[hz];cases z with
 |some v=>exact ug _ _ _ _
 |none=>exact Q7 _ _ _ _
def g_call {f:FuncId}{c:Code}(hf:P.funcs[f]?=some fn)(hn:(fn.name== "runtime.NumGoroutine")=false)(hb:fn.body=some c)(args:Array Value):Sem.run P (callFunc f args) w=.ok (.enter f args) w:=by
 have h1:fn.name≠ "runtime.NumGoroutine":=by simpa using hn
 simp[callFunc,hf,h1,hb]
end
@[go_sem] def un0 (t:TypeId):prog.underlying t=Tryz.prog.underlying t:=XQ Tryz.prog (Tryz.prog.funcs.mapIdx jk) t
@[go_sem] def el0 (t:TypeId):prog.elem t=Tryz.prog.elem t:=aar Tryz.prog (Tryz.prog.funcs.mapIdx jk) t
@[go_sem] def al0 (t:TypeId):prog.arrayLen t=Tryz.prog.arrayLen t:=aaq Tryz.prog (Tryz.prog.funcs.mapIdx jk) t
@[go_sem] def ru0 (t:TypeId) (w:World):Sem.run prog (underlying t) w=Sem.run Tryz.prog (underlying t) w:=XP Tryz.prog (Tryz.prog.funcs.mapIdx jk) t w
@[go_sem] def ti0 (t:TypeId) (w:World):Sem.run prog (typeInfo t) w=Sem.run Tryz.prog (typeInfo t) w:=T6 Tryz.prog (Tryz.prog.funcs.mapIdx jk) t w
@[go_sem] def so0 (t:TypeId) (w:World):Sem.run prog (sizeOf t) w=Sem.run Tryz.prog (sizeOf t) w:=aau Tryz.prog (Tryz.prog.funcs.mapIdx jk) t w
@[go_sem] def ia0 (t:TypeId) (w:World):Sem.run prog (isAgg t) w=Sem.run Tryz.prog (isAgg t) w:=aas Tryz.prog (Tryz.prog.funcs.mapIdx jk) t w
@[go_sem] def zv0 (t:TypeId) (w:World):Sem.run prog (zeroValue t) w=Sem.run Tryz.prog (zeroValue t) w:=aav Tryz.prog (Tryz.prog.funcs.mapIdx jk) t w
def aR {d:Option TypeDesc}(h:Tryz.prog.underlying t=d):prog.underlying t=d:=(un0 t).trans h
def tz {r:World->Result Value}(h:∀w,Sem.run Tryz.prog (zeroValue t) w=r w):∀w,Sem.run prog (zeroValue t) w=r w:=λw=>(zv0 t w).trans<|h w
abbrev Fn (n:Nat)(f:Func):Prop:=prog.funcs[n]?=some f
abbrev Cl (n:Nat):Prop:=∀(a:Array Value) (w:World),Sem.run prog (callFunc n a) w=.ok (.enter n a) w
def abj (P:Program)(hne:(iq.contains n||n==Aj)=false)(h:P.funcs[n]?=some f):({P with funcs:=P.funcs.mapIdx jk}:Program).funcs[n]?=some f:=by
 show(P.funcs.mapIdx jk)[n]?=_;rw[Array.getElem?_mapIdx,h];rw[Bool.or_eq_false_iff]at hne;simp only[Option.map_some,jk,hne.1,hne.2,Bool.false_eq_true,if_false]
def U2 (P:Program)(hs:iq.contains n=true)(h:P.funcs[n]?=some f):({P with funcs:=P.funcs.mapIdx jk}:Program).funcs[n]?=some {f with body:=some wy}:=by
 show(P.funcs.mapIdx jk)[n]?=_;rw[Array.getElem?_mapIdx,h];simp only[Option.map_some,jk,hs,if_true]
def aM (h:Tryz.prog.funcs[n]?=some f)(hne:(iq.contains n||n==Aj)=false:=by decide):Fn n f:=abj Tryz.prog hne h
def BO (h:Tryz.prog.funcs[n]?=some f)(hs:iq.contains n=true:=by decide):Fn n {f with body:=some wy}:=U2 Tryz.prog hs h
def gc (hf:Fn n fn)(hn:(fn.name== "runtime.NumGoroutine")=false:=by kernel_rfl)(hb:fn.body.isSome=true:=by rfl):Cl n:=λa w=>by
 let⟨c,hc⟩:=Option.isSome_iff_exists.1 hb;exact g_call _ w hf hn hc a
def aat (P:Program)(n:Nat):((({P with funcs:=P.funcs.mapIdx jk}:Program).funcs[n]?).map (·.ntmps)).getD 0=((P.funcs[n]?).map (·.ntmps)).getD 0:=by
 show(((P.funcs.mapIdx jk)[n]?).map (·.ntmps)).getD 0=_;rw[Array.getElem?_mapIdx];cases P.funcs[n]? with
 |none=>rfl
 |some f=>simp only[Option.map_some,jk];split<;>first|rfl|(split<;>rfl)
def func139:Fn 139 {Tryz.f139 with body:=some wy}:=BO Tryz.func139
def func68:Fn 68 {Tryz.f68 with body:=some wy}:=BO Tryz.func68
def func4:=aM Tryz.func4
def func8:=aM Tryz.func8
def func9:=aM Tryz.func9
def func10:=aM Tryz.func10
def func11:=aM Tryz.func11
def func12:=aM Tryz.func12
def func14:=aM Tryz.func14
def func15:=aM Tryz.func15
def func16:=aM Tryz.func16
def func18:=aM Tryz.func18
def func19:=aM Tryz.func19
def func21:=aM Tryz.func21
def func22:=aM Tryz.func22
def func23:=aM Tryz.func23
def func25:=aM Tryz.func25
def func26:=aM Tryz.func26
def func27:=aM Tryz.func27
def func33:=aM Tryz.func33
def func34:=aM Tryz.func34
def func35:=aM Tryz.func35
def func36:=aM Tryz.func36
def func37:=aM Tryz.func37
def func38:=aM Tryz.func38
def func39:=aM Tryz.func39
def func40:=aM Tryz.func40
def func41:=aM Tryz.func41
def func42:=aM Tryz.func42
def func43:=aM Tryz.func43
def func44:=aM Tryz.func44
def func45:=aM Tryz.func45
def func46:=aM Tryz.func46
def func47:=aM Tryz.func47
def func48:=aM Tryz.func48
def func49:=aM Tryz.func49
def func50:=aM Tryz.func50
def func52:=aM Tryz.func52
def func53:=aM Tryz.func53
def func54:=aM Tryz.func54
def func55:=aM Tryz.func55
def func56:=aM Tryz.func56
def func67:=aM Tryz.func67
def func69:=aM Tryz.func69
def func70:=aM Tryz.func70
def func71:=aM Tryz.func71
def func72:=aM Tryz.func72
def func73:=aM Tryz.func73
def func74:=aM Tryz.func74
def func75:=aM Tryz.func75
def func76:=aM Tryz.func76
def func77:=aM Tryz.func77
def func78:=aM Tryz.func78
def func79:=aM Tryz.func79
def func80:=aM Tryz.func80
def func81:=aM Tryz.func81
def func82:=aM Tryz.func82
def func83:=aM Tryz.func83
def func98:=aM Tryz.func98
def func99:=aM Tryz.func99
def func100:=aM Tryz.func100
def func101:=aM Tryz.func101
def func102:=aM Tryz.func102
def func103:=aM Tryz.func103
def func104:=aM Tryz.func104
def func105:=aM Tryz.func105
def func106:=aM Tryz.func106
def func107:=aM Tryz.func107
def func108:=aM Tryz.func108
def func109:=aM Tryz.func109
def func110:=aM Tryz.func110
def func111:=aM Tryz.func111
def func112:=aM Tryz.func112
def func113:=aM Tryz.func113
def func129:=aM Tryz.func129
def func130:=aM Tryz.func130
def func131:=aM Tryz.func131
def func132:=aM Tryz.func132
def func133:=aM Tryz.func133
def func134:=aM Tryz.func134
def func135:=aM Tryz.func135
def func136:=aM Tryz.func136
def func137:=aM Tryz.func137
def func138:=aM Tryz.func138
def func140:=aM Tryz.func140
def func146:=aM Tryz.func146
def func147:=aM Tryz.func147
def func149:=aM Tryz.func149
def func150:=aM Tryz.func150
def func154:=aM Tryz.func154
def func156:=aM Tryz.func156
def func158:=aM Tryz.func158
def func160:=aM Tryz.func160
def func161:=aM Tryz.func161
def func162:=aM Tryz.func162
def func163:=aM Tryz.func163
def func164:=aM Tryz.func164
def func172:=aM Tryz.func172
def func173:=aM Tryz.func173
def func174:=aM Tryz.func174
def func189:=aM Tryz.func189
def func195:=aM Tryz.func195
def func196:=aM Tryz.func196
def func197:=aM Tryz.func197
def func198:=aM Tryz.func198
def func199:=aM Tryz.func199
def func200:=aM Tryz.func200
def func201:=aM Tryz.func201
def func216:=aM Tryz.func216
def func217:=aM Tryz.func217
def func218:=aM Tryz.func218
def func219:=aM Tryz.func219
def func220:=aM Tryz.func220
def func221:=aM Tryz.func221
def func222:=aM Tryz.func222
def func223:=aM Tryz.func223
def func224:=aM Tryz.func224
def func225:=aM Tryz.func225
def func231:=aM Tryz.func231
def func233:=aM Tryz.func233
def func234:=aM Tryz.func234
def func235:=aM Tryz.func235
def func236:=aM Tryz.func236
def func246:=aM Tryz.func246
def func247:=aM Tryz.func247
def func248:=aM Tryz.func248
def func249:=aM Tryz.func249
def func250:=aM Tryz.func250
def func251:=aM Tryz.func251
def func252:=aM Tryz.func252
def func253:=aM Tryz.func253
def func258:=aM Tryz.func258
def func276:=aM Tryz.func276
def func277:=aM Tryz.func277
def func278:=aM Tryz.func278
def func279:=aM Tryz.func279
def func280:=aM Tryz.func280
def func281:=aM Tryz.func281
def func282:=aM Tryz.func282
def func287:=aM Tryz.func287
def func288:=aM Tryz.func288
def func289:=aM Tryz.func289
def func290:=aM Tryz.func290
@[go_sem] def call8:=gc func8
@[go_sem] def call9:=gc func9
@[go_sem] def call10:=gc func10
@[go_sem] def call11:=gc func11
@[go_sem] def call12:=gc func12
@[go_sem] def call14:=gc func14
@[go_sem] def call15:=gc func15
@[go_sem] def call16:=gc func16
@[go_sem] def call18:=gc func18
@[go_sem] def call19:=gc func19
@[go_sem] def call21:=gc func21
@[go_sem] def call22:=gc func22
@[go_sem] def call23:=gc func23
@[go_sem] def call25:=gc func25
@[go_sem] def call26:=gc func26
@[go_sem] def call27:=gc func27
@[go_sem] def call33:=gc func33
@[go_sem] def call34:=gc func34
@[go_sem] def call35:=gc func35
@[go_sem] def call36:=gc func36
@[go_sem] def call37:=gc func37
@[go_sem] def call38:=gc func38
@[go_sem] def call39:=gc func39
@[go_sem] def call40:=gc func40
@[go_sem] def call41:=gc func41
@[go_sem] def call42:=gc func42
@[go_sem] def call43:=gc func43
@[go_sem] def call44:=gc func44
@[go_sem] def call45:=gc func45
@[go_sem] def call46:=gc func46
@[go_sem] def call47:=gc func47
@[go_sem] def call48:=gc func48
@[go_sem] def call49:=gc func49
@[go_sem] def call50:=gc func50
@[go_sem] def call52:=gc func52
@[go_sem] def call53:=gc func53
@[go_sem] def call54:=gc func54
@[go_sem] def call55:=gc func55
@[go_sem] def call56:=gc func56
@[go_sem] def call67:=gc func67
@[go_sem] def call68:=gc func68
@[go_sem] def call69:=gc func69
@[go_sem] def call70:=gc func70
@[go_sem] def call71:=gc func71
@[go_sem] def call72:=gc func72
@[go_sem] def call73:=gc func73
@[go_sem] def call74:=gc func74
@[go_sem] def call75:=gc func75
@[go_sem] def call76:=gc func76
@[go_sem] def call77:=gc func77
@[go_sem] def call78:=gc func78
@[go_sem] def call79:=gc func79
@[go_sem] def call80:=gc func80
@[go_sem] def call81:=gc func81
@[go_sem] def call82:=gc func82
@[go_sem] def call83:=gc func83
@[go_sem] def call99:=gc func99
@[go_sem] def call100:=gc func100
@[go_sem] def call101:=gc func101
@[go_sem] def call102:=gc func102
@[go_sem] def call103:=gc func103
@[go_sem] def call104:=gc func104
@[go_sem] def call105:=gc func105
@[go_sem] def call106:=gc func106
@[go_sem] def call107:=gc func107
@[go_sem] def call109:=gc func109
@[go_sem] def call110:=gc func110
@[go_sem] def call111:=gc func111
@[go_sem] def call112:=gc func112
@[go_sem] def call113:=gc func113
@[go_sem] def call130:=gc func130
@[go_sem] def call131:=gc func131
@[go_sem] def call132:=gc func132
@[go_sem] def call133:=gc func133
@[go_sem] def call134:=gc func134
@[go_sem] def call135:=gc func135
@[go_sem] def call136:=gc func136
@[go_sem] def call137:=gc func137
@[go_sem] def call138:=gc func138
@[go_sem] def call139:=gc func139
@[go_sem] def call140:=gc func140
@[go_sem] def call146:=gc func146
@[go_sem] def call147:=gc func147
@[go_sem] def call149:=gc func149
@[go_sem] def call150:=gc func150
@[go_sem] def call154:=gc func154
@[go_sem] def call161:=gc func161
@[go_sem] def call162:=gc func162
@[go_sem] def call163:=gc func163
@[go_sem] def call164:=gc func164
@[go_sem] def call172:=gc func172
@[go_sem] def call173:=gc func173
@[go_sem] def call174:=gc func174
@[go_sem] def call195:=gc func195
@[go_sem] def call196:=gc func196
@[go_sem] def call197:=gc func197
@[go_sem] def call198:=gc func198
@[go_sem] def call199:=gc func199
@[go_sem] def call200:=gc func200
@[go_sem] def call201:=gc func201
@[go_sem] def call231:=gc func231
@[go_sem] def call234:=gc func234
@[go_sem] def call235:=gc func235
@[go_sem] def call236:=gc func236
@[go_sem] def call251:=gc func251
@[go_sem] def call252:=gc func252
@[go_sem] def call253:=gc func253
@[go_sem] def call278:=gc func278
@[go_sem] def call279:=gc func279
@[go_sem] def call280:=gc func280
@[go_sem] def call281:=gc func281
@[go_sem] def call282:=gc func282
@[go_sem] def call288:=gc func288
@[go_sem] def call289:=gc func289
@[go_sem] def call290:=gc func290
def ntmps174:type_of%Tryz.ntmps174:=Tryz.ntmps174
def ntmps253:type_of%Tryz.ntmps253:=Tryz.ntmps253
end Go.Proofs.Tz
