import Derived.Test.YtlmcblcijndipaaGreatDoorj00
import Derived.Test.YtlmcblcijndipaaGreatDoorChecked
import Derived.WalkKit
namespace Go.Proofs.Tz
open Go
def vA:Code:=.refuse ""
def gS:List Nat:=[139,68,276,287,277]
def yH:Nat:=1000000001
def iU (i:Nat)(f:Func):Func:=if gS.contains i then{f with body:=some vA}else if i==yH then{f with name:= "-",origin:= "-"}else f
noncomputable def prog:Program:={Tryz.prog with funcs:=Tryz.prog.funcs.mapIdx iU}
section
variable (P:Program)(fs:Array Func)(t:TypeId)(w:World)
theorem VE:Program.underlying {P with funcs:=fs} t=P.underlying t:=rfl
theorem p_:Program.elem {P with funcs:=fs} t=P.elem t:=rfl
theorem o_:Program.arrayLen {P with funcs:=fs} t=P.arrayLen t:=rfl
theorem VD:Sem.run {P with funcs:=fs} (underlying t) w=Sem.run P (underlying t) w:=by
 unfold underlying;show Sem.run _ (match Program.underlying {P with funcs:=fs} t with|some d=>pure d|none=>_) w=Sem.run _ (match P.underlying t with|some d=>pure d|none=>_) w;rw[VE];cases P.underlying t<;>rfl
theorem Se:Sem.run {P with funcs:=fs} (typeInfo t) w=Sem.run P (typeInfo t) w:=by
 unfold typeInfo;show Sem.run _ (match P.toTables.info? t with|some d=>pure d|none=>_) w=Sem.run _ (match P.toTables.info? t with|some d=>pure d|none=>_) w;cases P.toTables.info? t<;>rfl
omit P fs t w in
theorem lF {α β:Type}(r:Result α){k k':α->World->Result β}(h:∀a w,k a w=k' a w):r.andThen k=r.andThen k':=by
 cases r with
 |ok a w=>exact h a w
 |halt _ _=>rfl
omit P fs t w in
theorem tH {α:Type}(P P':Program)(a:α)(w:World):Sem.run P (pure a:Sem α) w=Sem.run P' (pure a:Sem α) w:=rfl
omit P fs t w in
theorem Pw {α:Type}(P P':Program)(u:Unsupported)(w:World):Sem.run P (unsupported u:Sem α) w=Sem.run P' (unsupported u:Sem α) w:=rfl
theorem s_:Sem.run {P with funcs:=fs} (sizeOf t) w=Sem.run P (sizeOf t) w:=by
 unfold sizeOf;rw[Sem.run_bind,Sem.run_bind,Se P fs];exact lF _ λd w'=>tH _ _ _ _
theorem q_:Sem.run {P with funcs:=fs} (isAgg t) w=Sem.run P (isAgg t) w:=by
 unfold isAgg;rw[Sem.run_bind,Sem.run_bind,VD P fs];refine lF _ λd w'=>?_
 cases d<;>exact tH _ _ _ _
theorem t_:Sem.run {P with funcs:=fs} (zeroValue t) w=Sem.run P (zeroValue t) w:=by
 unfold zeroValue;rw[Sem.run_bind,Sem.run_bind,Se P fs];refine lF _ λd w'=>?_
 obtain⟨z,hz⟩:∃z,d.zero=z:=⟨_,rfl⟩;rw[hz];cases z with
 |some v=>exact tH _ _ _ _
 |none=>exact Pw _ _ _ _
theorem g_call {f:FuncId}{fn:Func}{c:Code}(hf:P.funcs[f]?=some fn)(hn:(fn.name== "runtime.NumGoroutine")=false)(hb:fn.body=some c)(args:Array Value):Sem.run P (callFunc f args) w=.ok (.enter f args) w:=by
 have h1:fn.name≠ "runtime.NumGoroutine":=by simpa using hn
 simp[callFunc,hf,h1,hb]
end
@[go_sem] theorem un0 (t:TypeId):prog.underlying t=Tryz.prog.underlying t:=VE Tryz.prog (Tryz.prog.funcs.mapIdx iU) t
@[go_sem] theorem el0 (t:TypeId):prog.elem t=Tryz.prog.elem t:=p_ Tryz.prog (Tryz.prog.funcs.mapIdx iU) t
@[go_sem] theorem al0 (t:TypeId):prog.arrayLen t=Tryz.prog.arrayLen t:=o_ Tryz.prog (Tryz.prog.funcs.mapIdx iU) t
@[go_sem] theorem ru0 (t:TypeId) (w:World):Sem.run prog (underlying t) w=Sem.run Tryz.prog (underlying t) w:=VD Tryz.prog (Tryz.prog.funcs.mapIdx iU) t w
@[go_sem] theorem ti0 (t:TypeId) (w:World):Sem.run prog (typeInfo t) w=Sem.run Tryz.prog (typeInfo t) w:=Se Tryz.prog (Tryz.prog.funcs.mapIdx iU) t w
@[go_sem] theorem so0 (t:TypeId) (w:World):Sem.run prog (sizeOf t) w=Sem.run Tryz.prog (sizeOf t) w:=s_ Tryz.prog (Tryz.prog.funcs.mapIdx iU) t w
@[go_sem] theorem ia0 (t:TypeId) (w:World):Sem.run prog (isAgg t) w=Sem.run Tryz.prog (isAgg t) w:=q_ Tryz.prog (Tryz.prog.funcs.mapIdx iU) t w
@[go_sem] theorem zv0 (t:TypeId) (w:World):Sem.run prog (zeroValue t) w=Sem.run Tryz.prog (zeroValue t) w:=t_ Tryz.prog (Tryz.prog.funcs.mapIdx iU) t w
theorem az {t:TypeId}{d:Option TypeDesc}(h:Tryz.prog.underlying t=d):prog.underlying t=d:=(un0 t).trans h
theorem dr {t:TypeId}{r:World->Result Nat}(h:∀w,Sem.run Tryz.prog (sizeOf t) w=r w):∀w,Sem.run prog (sizeOf t) w=r w:=λw=>(so0 t w).trans (h w)
theorem dN {t:TypeId}{r:World->Result Bool}(h:∀w,Sem.run Tryz.prog (isAgg t) w=r w):∀w,Sem.run prog (isAgg t) w=r w:=λw=>(ia0 t w).trans (h w)
theorem bY {t:TypeId}{r:World->Result Value}(h:∀w,Sem.run Tryz.prog (zeroValue t) w=r w):∀w,Sem.run prog (zeroValue t) w=r w:=λw=>(zv0 t w).trans (h w)
abbrev Fn (n:Nat)(f:Func):Prop:=prog.funcs[n]?=some f
abbrev Cl (n:Nat):Prop:=∀(a:Array Value) (w:World),Sem.run prog (callFunc n a) w=.ok (.enter n a) w
theorem aaF (P:Program){n:Nat}{f:Func}(hne:(gS.contains n||n==yH)=false)(h:P.funcs[n]?=some f):({P with funcs:=P.funcs.mapIdx iU}:Program).funcs[n]?=some f:=by
 show(P.funcs.mapIdx iU)[n]?=_;rw[Array.getElem?_mapIdx,h];rw[Bool.or_eq_false_iff]at hne;simp only[Option.map_some,iU,hne.1,hne.2,Bool.false_eq_true,if_false]
theorem Tn (P:Program){n:Nat}{f:Func}(hs:gS.contains n=true)(h:P.funcs[n]?=some f):({P with funcs:=P.funcs.mapIdx iU}:Program).funcs[n]?=some {f with body:=some vA}:=by
 show(P.funcs.mapIdx iU)[n]?=_;rw[Array.getElem?_mapIdx,h];simp only[Option.map_some,iU,hs,if_true]
theorem aQ {n:Nat}{f:Func}(h:Tryz.prog.funcs[n]?=some f)(hne:(gS.contains n||n==yH)=false:=by decide):Fn n f:=aaF Tryz.prog hne h
theorem Ab {n:Nat}{f:Func}(h:Tryz.prog.funcs[n]?=some f)(hs:gS.contains n=true:=by decide):Fn n {f with body:=some vA}:=Tn Tryz.prog hs h
theorem gc {n:Nat}{fn:Func}(hf:Fn n fn)(hn:(fn.name== "runtime.NumGoroutine")=false:=by kernel_rfl)(hb:fn.body.isSome=true:=by rfl):Cl n:=λa w=>by
 obtain⟨c,hc⟩:=Option.isSome_iff_exists.1 hb;exact g_call _ w hf hn hc a
theorem r_ (P:Program)(n:Nat):((({P with funcs:=P.funcs.mapIdx iU}:Program).funcs[n]?).map (·.ntmps)).getD 0=((P.funcs[n]?).map (·.ntmps)).getD 0:=by
 show(((P.funcs.mapIdx iU)[n]?).map (·.ntmps)).getD 0=_;rw[Array.getElem?_mapIdx];cases P.funcs[n]? with
 |none=>rfl
 |some f=>simp only[Option.map_some,iU];split<;>first|rfl|(split<;>rfl)
theorem func139:Fn 139 {Tryz.f139 with body:=some vA}:=Ab Tryz.func139
theorem func68:Fn 68 {Tryz.f68 with body:=some vA}:=Ab Tryz.func68
theorem func5:Fn 5 Tryz.f5:=aQ Tryz.func5
theorem func9:Fn 9 Tryz.f9:=aQ Tryz.func9
theorem func11:Fn 11 Tryz.f11:=aQ Tryz.func11
theorem func13:Fn 13 Tryz.f13:=aQ Tryz.func13
theorem func14:Fn 14 Tryz.f14:=aQ Tryz.func14
theorem func15:Fn 15 Tryz.f15:=aQ Tryz.func15
theorem func16:Fn 16 Tryz.f16:=aQ Tryz.func16
theorem func18:Fn 18 Tryz.f18:=aQ Tryz.func18
theorem func19:Fn 19 Tryz.f19:=aQ Tryz.func19
theorem func20:Fn 20 Tryz.f20:=aQ Tryz.func20
theorem func21:Fn 21 Tryz.f21:=aQ Tryz.func21
theorem func24:Fn 24 Tryz.f24:=aQ Tryz.func24
theorem func25:Fn 25 Tryz.f25:=aQ Tryz.func25
theorem func26:Fn 26 Tryz.f26:=aQ Tryz.func26
theorem func27:Fn 27 Tryz.f27:=aQ Tryz.func27
theorem func28:Fn 28 Tryz.f28:=aQ Tryz.func28
theorem func29:Fn 29 Tryz.f29:=aQ Tryz.func29
theorem func33:Fn 33 Tryz.f33:=aQ Tryz.func33
theorem func34:Fn 34 Tryz.f34:=aQ Tryz.func34
theorem func35:Fn 35 Tryz.f35:=aQ Tryz.func35
theorem func36:Fn 36 Tryz.f36:=aQ Tryz.func36
theorem func37:Fn 37 Tryz.f37:=aQ Tryz.func37
theorem func38:Fn 38 Tryz.f38:=aQ Tryz.func38
theorem func39:Fn 39 Tryz.f39:=aQ Tryz.func39
theorem func40:Fn 40 Tryz.f40:=aQ Tryz.func40
theorem func41:Fn 41 Tryz.f41:=aQ Tryz.func41
theorem func42:Fn 42 Tryz.f42:=aQ Tryz.func42
theorem func43:Fn 43 Tryz.f43:=aQ Tryz.func43
theorem func44:Fn 44 Tryz.f44:=aQ Tryz.func44
theorem func45:Fn 45 Tryz.f45:=aQ Tryz.func45
theorem func46:Fn 46 Tryz.f46:=aQ Tryz.func46
theorem func47:Fn 47 Tryz.f47:=aQ Tryz.func47
theorem func48:Fn 48 Tryz.f48:=aQ Tryz.func48
theorem func49:Fn 49 Tryz.f49:=aQ Tryz.func49
theorem func50:Fn 50 Tryz.f50:=aQ Tryz.func50
theorem func52:Fn 52 Tryz.f52:=aQ Tryz.func52
theorem func53:Fn 53 Tryz.f53:=aQ Tryz.func53
theorem func54:Fn 54 Tryz.f54:=aQ Tryz.func54
theorem func55:Fn 55 Tryz.f55:=aQ Tryz.func55
theorem func56:Fn 56 Tryz.f56:=aQ Tryz.func56
theorem func67:Fn 67 Tryz.f67:=aQ Tryz.func67
theorem func69:Fn 69 Tryz.f69:=aQ Tryz.func69
theorem func70:Fn 70 Tryz.f70:=aQ Tryz.func70
theorem func71:Fn 71 Tryz.f71:=aQ Tryz.func71
theorem func72:Fn 72 Tryz.f72:=aQ Tryz.func72
theorem func73:Fn 73 Tryz.f73:=aQ Tryz.func73
theorem func74:Fn 74 Tryz.f74:=aQ Tryz.func74
theorem func75:Fn 75 Tryz.f75:=aQ Tryz.func75
theorem func76:Fn 76 Tryz.f76:=aQ Tryz.func76
theorem func77:Fn 77 Tryz.f77:=aQ Tryz.func77
theorem func78:Fn 78 Tryz.f78:=aQ Tryz.func78
theorem func79:Fn 79 Tryz.f79:=aQ Tryz.func79
theorem func80:Fn 80 Tryz.f80:=aQ Tryz.func80
theorem func81:Fn 81 Tryz.f81:=aQ Tryz.func81
theorem func82:Fn 82 Tryz.f82:=aQ Tryz.func82
theorem func83:Fn 83 Tryz.f83:=aQ Tryz.func83
theorem func98:Fn 98 Tryz.f98:=aQ Tryz.func98
theorem func99:Fn 99 Tryz.f99:=aQ Tryz.func99
theorem func100:Fn 100 Tryz.f100:=aQ Tryz.func100
theorem func101:Fn 101 Tryz.f101:=aQ Tryz.func101
theorem func102:Fn 102 Tryz.f102:=aQ Tryz.func102
theorem func103:Fn 103 Tryz.f103:=aQ Tryz.func103
theorem func104:Fn 104 Tryz.f104:=aQ Tryz.func104
theorem func105:Fn 105 Tryz.f105:=aQ Tryz.func105
theorem func106:Fn 106 Tryz.f106:=aQ Tryz.func106
theorem func107:Fn 107 Tryz.f107:=aQ Tryz.func107
theorem func108:Fn 108 Tryz.f108:=aQ Tryz.func108
theorem func109:Fn 109 Tryz.f109:=aQ Tryz.func109
theorem func110:Fn 110 Tryz.f110:=aQ Tryz.func110
theorem func111:Fn 111 Tryz.f111:=aQ Tryz.func111
theorem func112:Fn 112 Tryz.f112:=aQ Tryz.func112
theorem func113:Fn 113 Tryz.f113:=aQ Tryz.func113
theorem func129:Fn 129 Tryz.f129:=aQ Tryz.func129
theorem func130:Fn 130 Tryz.f130:=aQ Tryz.func130
theorem func131:Fn 131 Tryz.f131:=aQ Tryz.func131
theorem func132:Fn 132 Tryz.f132:=aQ Tryz.func132
theorem func133:Fn 133 Tryz.f133:=aQ Tryz.func133
theorem func134:Fn 134 Tryz.f134:=aQ Tryz.func134
theorem func135:Fn 135 Tryz.f135:=aQ Tryz.func135
theorem func136:Fn 136 Tryz.f136:=aQ Tryz.func136
theorem func137:Fn 137 Tryz.f137:=aQ Tryz.func137
theorem func138:Fn 138 Tryz.f138:=aQ Tryz.func138
theorem func140:Fn 140 Tryz.f140:=aQ Tryz.func140
theorem func146:Fn 146 Tryz.f146:=aQ Tryz.func146
theorem func147:Fn 147 Tryz.f147:=aQ Tryz.func147
theorem func149:Fn 149 Tryz.f149:=aQ Tryz.func149
theorem func150:Fn 150 Tryz.f150:=aQ Tryz.func150
theorem func154:Fn 154 Tryz.f154:=aQ Tryz.func154
theorem func156:Fn 156 Tryz.f156:=aQ Tryz.func156
theorem func158:Fn 158 Tryz.f158:=aQ Tryz.func158
theorem func160:Fn 160 Tryz.f160:=aQ Tryz.func160
theorem func161:Fn 161 Tryz.f161:=aQ Tryz.func161
theorem func162:Fn 162 Tryz.f162:=aQ Tryz.func162
theorem func163:Fn 163 Tryz.f163:=aQ Tryz.func163
theorem func164:Fn 164 Tryz.f164:=aQ Tryz.func164
theorem func172:Fn 172 Tryz.f172:=aQ Tryz.func172
theorem func173:Fn 173 Tryz.f173:=aQ Tryz.func173
theorem func174:Fn 174 Tryz.f174:=aQ Tryz.func174
theorem func189:Fn 189 Tryz.f189:=aQ Tryz.func189
theorem func195:Fn 195 Tryz.f195:=aQ Tryz.func195
theorem func196:Fn 196 Tryz.f196:=aQ Tryz.func196
theorem func197:Fn 197 Tryz.f197:=aQ Tryz.func197
theorem func198:Fn 198 Tryz.f198:=aQ Tryz.func198
theorem func199:Fn 199 Tryz.f199:=aQ Tryz.func199
theorem func200:Fn 200 Tryz.f200:=aQ Tryz.func200
theorem func201:Fn 201 Tryz.f201:=aQ Tryz.func201
theorem func216:Fn 216 Tryz.f216:=aQ Tryz.func216
theorem func217:Fn 217 Tryz.f217:=aQ Tryz.func217
theorem func218:Fn 218 Tryz.f218:=aQ Tryz.func218
theorem func219:Fn 219 Tryz.f219:=aQ Tryz.func219
theorem func220:Fn 220 Tryz.f220:=aQ Tryz.func220
theorem func221:Fn 221 Tryz.f221:=aQ Tryz.func221
theorem func222:Fn 222 Tryz.f222:=aQ Tryz.func222
theorem func223:Fn 223 Tryz.f223:=aQ Tryz.func223
theorem func224:Fn 224 Tryz.f224:=aQ Tryz.func224
theorem func225:Fn 225 Tryz.f225:=aQ Tryz.func225
theorem func231:Fn 231 Tryz.f231:=aQ Tryz.func231
theorem func233:Fn 233 Tryz.f233:=aQ Tryz.func233
theorem func234:Fn 234 Tryz.f234:=aQ Tryz.func234
theorem func235:Fn 235 Tryz.f235:=aQ Tryz.func235
theorem func236:Fn 236 Tryz.f236:=aQ Tryz.func236
theorem func246:Fn 246 Tryz.f246:=aQ Tryz.func246
theorem func247:Fn 247 Tryz.f247:=aQ Tryz.func247
theorem func248:Fn 248 Tryz.f248:=aQ Tryz.func248
theorem func249:Fn 249 Tryz.f249:=aQ Tryz.func249
theorem func250:Fn 250 Tryz.f250:=aQ Tryz.func250
theorem func251:Fn 251 Tryz.f251:=aQ Tryz.func251
theorem func252:Fn 252 Tryz.f252:=aQ Tryz.func252
theorem func253:Fn 253 Tryz.f253:=aQ Tryz.func253
theorem func258:Fn 258 Tryz.f258:=aQ Tryz.func258
theorem func278:Fn 278 Tryz.f278:=aQ Tryz.func278
theorem func280:Fn 280 Tryz.f280:=aQ Tryz.func280
theorem func281:Fn 281 Tryz.f281:=aQ Tryz.func281
theorem func291:Fn 291 Tryz.f291:=aQ Tryz.func291
theorem func292:Fn 292 Tryz.f292:=aQ Tryz.func292
@[go_sem] theorem call9:Cl 9:=gc func9
@[go_sem] theorem call11:Cl 11:=gc func11
@[go_sem] theorem call13:Cl 13:=gc func13
@[go_sem] theorem call14:Cl 14:=gc func14
@[go_sem] theorem call15:Cl 15:=gc func15
@[go_sem] theorem call16:Cl 16:=gc func16
@[go_sem] theorem call18:Cl 18:=gc func18
@[go_sem] theorem call19:Cl 19:=gc func19
@[go_sem] theorem call20:Cl 20:=gc func20
@[go_sem] theorem call21:Cl 21:=gc func21
@[go_sem] theorem call24:Cl 24:=gc func24
@[go_sem] theorem call25:Cl 25:=gc func25
@[go_sem] theorem call26:Cl 26:=gc func26
@[go_sem] theorem call27:Cl 27:=gc func27
@[go_sem] theorem call28:Cl 28:=gc func28
@[go_sem] theorem call29:Cl 29:=gc func29
@[go_sem] theorem call33:Cl 33:=gc func33
@[go_sem] theorem call34:Cl 34:=gc func34
@[go_sem] theorem call35:Cl 35:=gc func35
@[go_sem] theorem call36:Cl 36:=gc func36
@[go_sem] theorem call37:Cl 37:=gc func37
@[go_sem] theorem call38:Cl 38:=gc func38
@[go_sem] theorem call39:Cl 39:=gc func39
@[go_sem] theorem call40:Cl 40:=gc func40
@[go_sem] theorem call41:Cl 41:=gc func41
@[go_sem] theorem call42:Cl 42:=gc func42
@[go_sem] theorem call43:Cl 43:=gc func43
@[go_sem] theorem call44:Cl 44:=gc func44
@[go_sem] theorem call45:Cl 45:=gc func45
@[go_sem] theorem call46:Cl 46:=gc func46
@[go_sem] theorem call47:Cl 47:=gc func47
@[go_sem] theorem call48:Cl 48:=gc func48
@[go_sem] theorem call49:Cl 49:=gc func49
@[go_sem] theorem call50:Cl 50:=gc func50
@[go_sem] theorem call52:Cl 52:=gc func52
@[go_sem] theorem call53:Cl 53:=gc func53
@[go_sem] theorem call54:Cl 54:=gc func54
@[go_sem] theorem call55:Cl 55:=gc func55
@[go_sem] theorem call56:Cl 56:=gc func56
@[go_sem] theorem call67:Cl 67:=gc func67
@[go_sem] theorem call68:Cl 68:=gc func68
@[go_sem] theorem call69:Cl 69:=gc func69
@[go_sem] theorem call70:Cl 70:=gc func70
@[go_sem] theorem call71:Cl 71:=gc func71
@[go_sem] theorem call72:Cl 72:=gc func72
@[go_sem] theorem call73:Cl 73:=gc func73
@[go_sem] theorem call74:Cl 74:=gc func74
@[go_sem] theorem call75:Cl 75:=gc func75
@[go_sem] theorem call76:Cl 76:=gc func76
@[go_sem] theorem call77:Cl 77:=gc func77
@[go_sem] theorem call78:Cl 78:=gc func78
@[go_sem] theorem call79:Cl 79:=gc func79
@[go_sem] theorem call80:Cl 80:=gc func80
@[go_sem] theorem call81:Cl 81:=gc func81
@[go_sem] theorem call82:Cl 82:=gc func82
@[go_sem] theorem call83:Cl 83:=gc func83
@[go_sem] theorem call99:Cl 99:=gc func99
@[go_sem] theorem call100:Cl 100:=gc func100
@[go_sem] theorem call101:Cl 101:=gc func101
@[go_sem] theorem call102:Cl 102:=gc func102
@[go_sem] theorem call103:Cl 103:=gc func103
@[go_sem] theorem call104:Cl 104:=gc func104
@[go_sem] theorem call105:Cl 105:=gc func105
@[go_sem] theorem call106:Cl 106:=gc func106
@[go_sem] theorem call107:Cl 107:=gc func107
@[go_sem] theorem call109:Cl 109:=gc func109
@[go_sem] theorem call110:Cl 110:=gc func110
@[go_sem] theorem call111:Cl 111:=gc func111
@[go_sem] theorem call112:Cl 112:=gc func112
@[go_sem] theorem call113:Cl 113:=gc func113
@[go_sem] theorem call130:Cl 130:=gc func130
@[go_sem] theorem call131:Cl 131:=gc func131
@[go_sem] theorem call132:Cl 132:=gc func132
@[go_sem] theorem call133:Cl 133:=gc func133
@[go_sem] theorem call134:Cl 134:=gc func134
@[go_sem] theorem call135:Cl 135:=gc func135
@[go_sem] theorem call136:Cl 136:=gc func136
@[go_sem] theorem call137:Cl 137:=gc func137
@[go_sem] theorem call138:Cl 138:=gc func138
@[go_sem] theorem call139:Cl 139:=gc func139
@[go_sem] theorem call140:Cl 140:=gc func140
@[go_sem] theorem call146:Cl 146:=gc func146
@[go_sem] theorem call147:Cl 147:=gc func147
@[go_sem] theorem call149:Cl 149:=gc func149
@[go_sem] theorem call150:Cl 150:=gc func150
@[go_sem] theorem call154:Cl 154:=gc func154
@[go_sem] theorem call161:Cl 161:=gc func161
@[go_sem] theorem call162:Cl 162:=gc func162
@[go_sem] theorem call163:Cl 163:=gc func163
@[go_sem] theorem call164:Cl 164:=gc func164
@[go_sem] theorem call172:Cl 172:=gc func172
@[go_sem] theorem call173:Cl 173:=gc func173
@[go_sem] theorem call174:Cl 174:=gc func174
@[go_sem] theorem call195:Cl 195:=gc func195
@[go_sem] theorem call196:Cl 196:=gc func196
@[go_sem] theorem call197:Cl 197:=gc func197
@[go_sem] theorem call198:Cl 198:=gc func198
@[go_sem] theorem call199:Cl 199:=gc func199
@[go_sem] theorem call200:Cl 200:=gc func200
@[go_sem] theorem call201:Cl 201:=gc func201
@[go_sem] theorem call231:Cl 231:=gc func231
@[go_sem] theorem call234:Cl 234:=gc func234
@[go_sem] theorem call235:Cl 235:=gc func235
@[go_sem] theorem call236:Cl 236:=gc func236
@[go_sem] theorem call251:Cl 251:=gc func251
@[go_sem] theorem call252:Cl 252:=gc func252
@[go_sem] theorem call253:Cl 253:=gc func253
@[go_sem] theorem call278:Cl 278:=gc func278
@[go_sem] theorem call280:Cl 280:=gc func280
@[go_sem] theorem call281:Cl 281:=gc func281
theorem ntmps174:type_of%Tryz.ntmps174:=Tryz.ntmps174
theorem ntmps253:type_of%Tryz.ntmps253:=Tryz.ntmps253
end Go.Proofs.Tz
