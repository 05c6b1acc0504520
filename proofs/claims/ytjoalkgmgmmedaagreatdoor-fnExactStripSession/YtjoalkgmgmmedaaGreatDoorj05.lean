import Derived.Test.YtjoalkgmgmmedaaGreatDoorj00
import Derived.Test.YtjoalkgmgmmedaaGreatDoorChecked
import Derived.WalkKit
set_option linter.unusedVariables false
set_option linter.defProp false
open Array renaming getElem?_mapIdx->ac
open Bool renaming or_eq_false_iff->aF,false_eq_true->aI
open Go renaming Program->ai,zeroValue->au,TypeId->av,World->ax,underlying->ay,typeInfo->aB,sizeOf->aE,isAgg->aL,callFunc->aN,unsupported->aV
open Go.Sem renaming run->aa,run_bind->ad
open Option renaming map_some->ao
namespace Go.Proofs.Tz
variable {f fn:Func}{n:Nat}{α:Type}{t:av}
open Go
def yK:Code:=.refuse ""
def je:List Nat:=[166,95,260]
def xG:List Nat:=[92,143,58,1999999,2000004,2000006]
def sv:List Nat:=je++xG
def wq:Nat:=259
def qA:List Nat:=[118,30,13,98,47,51,27,9,11,31,93,45,99]
def Xj:List Nat:=[66,114,116,115,126,120,121,122]
def K3:Operand->Bool
 |.global _=>true
 |.func f=>Xj.contains f
 |_=>false
def isT:Operand->Bool
 |.tmp _=>true
 |_=>false
def mU (o:Oper):Oper:=
 if o.op.operands.toList.any K3 then{o with op:=.binOp .mul 0 (.const<|.bool true) (.const<|.bool true) 0}else
 match o.op with
 |.panic y=>{o with op:=.binOp .add 0 (.const<|.bool true) y 0}
 |.defer {callee:=.value y,..}=>{o with op:=.binOp .sub 0 (.const<|.bool true) y 0}
 |.convert a b y=>if a==38&&b==87 then{o with op:=.pick (.const<|.int .i64 0) y y}else if a==87&&b==38 then{o with op:=.pick (.const<|.int .i64 1) y y}else o
 |.binOp .neq t x y u=>if t==38&&u==38 then{o with op:=.pick (.const<|.int .i64 2) x y}else if t==43&&u==43&&isT y then{o with op:=.binOp .mul 0 (.const<|.bool true) (.const<|.bool true) 0}else o
 |.binOp .eql t x y u=>if t==38&&u==38 then{o with op:=.pick (.const<|.int .i64 3) x y}else if t==43&&u==43 then{o with op:=.pick (.const<|.int .i64 4) x y}else o
 |.call {callee:=.builtin .unsafeSliceData,..}=>{o with type:=1000000000}
 |.assign (.const<|.map none)=>{o with op:=.assign<|.const<|.func (.method "") #[.iface 1000000000<|.chan none] #[]}
 |_=>o
def mQ:Code->Code
 |.seq a b=>.seq (mQ a) (mQ b)
 |.cond x a b=>.cond x (mQ a) (mQ b)
 |.block i a=>.block i (mQ a)
 |.loop a=>.loop (mQ a)
 |.region i ops d=>.region i (ops.map mU) d
 |c=>c
def ix (i:Nat)(f:Func):Func:=if je.contains i then{f with body:=some yK}else if i==wq then{f with name:= "-",origin:= "-"}else if qA.contains i then{f with body:=f.body.map mQ}else f
noncomputable def prog:Program:={Tryz.prog with funcs:=Tryz.prog.funcs.mapIdx ix}
section
variable (P:ai)(c:Array Func)(t:av)(w:ax)
def aay:Program.underlying {P with funcs:=c} t=P.underlying t:=rfl
def acW:Program.elem {P with funcs:=c} t=P.elem t:=rfl
def acV:Program.arrayLen {P with funcs:=c} t=P.arrayLen t:=rfl
def aax:aa {P with funcs:=c} (ay t) w=aa P (ay t) w:=by
 unfold ay;show aa _ (match Program.underlying {P with funcs:=c} t with|some d=>pure d|none=>_) w=aa _ (match P.underlying t with|some d=>pure d|none=>_) w;rw[aay];cases P.underlying t<;>rfl
def YV:aa {P with funcs:=c} (aB t) w=aa P (aB t) w:=by
 unfold aB;show aa _ (match P.toTables.info? t with|some d=>pure d|none=>_) w=aa _ (match P.toTables.info? t with|some d=>pure d|none=>_) w;cases P.toTables.info? t<;>rfl
omit P c t w in
def m8 {β:Type}(r:Result α){k k':α->ax->Result β}(h:∀a w,k a w=k' a w):r.andThen k=r.andThen k':=by
 cases r with
 |ok a w=>exact h a w
 |halt _ _=>rfl
omit P c t w in
def vK (P d:ai)(a:α)(w:ax):aa P (pure a:Sem α) w=aa d (pure a:Sem α) w:=rfl
omit P c t w in
def U9 (P a:ai)(u:Unsupported)(w:ax):aa P (aV u:Sem α) w=aa a (aV u:Sem α) w:=rfl
def acZ:aa {P with funcs:=c} (aE t) w=aa P (aE t) w:=by
 unfold aE;rw[ad,ad,YV P c];exact m8 _ λd w'=>vK _ _ _ _
def acX:aa {P with funcs:=c} (aL t) w=aa P (aL t) w:=by
 unfold aL;rw[ad,ad,aax P c];refine m8 _ λd w'=>?_
 cases d<;>exact vK _ _ _ _
def ac0:aa {P with funcs:=c} (au t) w=aa P (au t) w:=by
 unfold au;rw[ad,ad,YV P c];refine m8 _ λd w'=>?_
 obtain⟨z,e⟩:∃z,d.zero=z:=⟨_,rfl⟩;rw[e];cases z with
 |some v=>exact vK _ _ _ _
 |none=>exact U9 _ _ _ _
def g_call {f c}(r:P.funcs[f]?=some fn)(s:(fn.name== "runtime.NumGoroutine")=false)(hb:fn.body=some c)(args):aa P (aN f args) w=.ok (.enter f args) w:=by
 have u:fn.name≠ "runtime.NumGoroutine":=by simpa using s
 simp[aN,r,u,hb]
end
@[go_sem] def un0 (t):prog.underlying t=Tryz.prog.underlying t:=aay Tryz.prog (Tryz.prog.funcs.mapIdx ix) t
@[go_sem] def el0 (t):prog.elem t=Tryz.prog.elem t:=acW Tryz.prog (Tryz.prog.funcs.mapIdx ix) t
@[go_sem] def al0 (t):prog.arrayLen t=Tryz.prog.arrayLen t:=acV Tryz.prog (Tryz.prog.funcs.mapIdx ix) t
@[go_sem] def ru0 (t) (w):aa prog (ay t) w=aa Tryz.prog (ay t) w:=aax Tryz.prog (Tryz.prog.funcs.mapIdx ix) t w
@[go_sem] def ti0 (t) (w):aa prog (aB t) w=aa Tryz.prog (aB t) w:=YV Tryz.prog (Tryz.prog.funcs.mapIdx ix) t w
@[go_sem] def so0 (t) (w):aa prog (aE t) w=aa Tryz.prog (aE t) w:=acZ Tryz.prog (Tryz.prog.funcs.mapIdx ix) t w
@[go_sem] def ia0 (t) (w):aa prog (aL t) w=aa Tryz.prog (aL t) w:=acX Tryz.prog (Tryz.prog.funcs.mapIdx ix) t w
@[go_sem] def zv0 (t) (w):aa prog (au t) w=aa Tryz.prog (au t) w:=ac0 Tryz.prog (Tryz.prog.funcs.mapIdx ix) t w
def al {d}(h:Tryz.prog.underlying t=d):prog.underlying t=d:=(un0 t).trans h
def bZ {r:ax->Result Nat}(h:∀w,aa Tryz.prog (aE t) w=r w):∀w,aa prog (aE t) w=r w:=λw=>(so0 t w).trans<|h w
def cQ {r:ax->Result Bool}(h:∀w,aa Tryz.prog (aL t) w=r w):∀w,aa prog (aL t) w=r w:=λw=>(ia0 t w).trans<|h w
def aQ {r:ax->Result Value}(h:∀w,aa Tryz.prog (au t) w=r w):∀w,aa prog (au t) w=r w:=λw=>(zv0 t w).trans<|h w
abbrev Fn (n:Nat)(f:Func):Prop:=prog.funcs[n]?=some f
abbrev Cl (n:Nat):Prop:=∀(a:Array Value) (w:ax),aa prog (aN n a) w=.ok (.enter n a) w
def adQ (P:ai)(r:(je.contains n||n==wq)=false)(s:qA.contains n=false)(h:P.funcs[n]?=some f):({P with funcs:=P.funcs.mapIdx ix}:ai).funcs[n]?=some f:=by
 show(P.funcs.mapIdx ix)[n]?=_;rw[ac,h];rw[aF]at r;simp only[ao,ix,r.1,r.2,s,aI,if_false]
def ZK (P:ai)(r:(je.contains n||n==wq)=false)(s:qA.contains n=true)(h:P.funcs[n]?=some f):({P with funcs:=P.funcs.mapIdx ix}:ai).funcs[n]?=some {f with body:=f.body.map mQ}:=by
 show(P.funcs.mapIdx ix)[n]?=_;rw[ac,h];rw[aF]at r;simp only[ao,ix,r.1,r.2,s,aI,if_false,if_true]
def ZL (P:ai)(hs:je.contains n=true)(h:P.funcs[n]?=some f):({P with funcs:=P.funcs.mapIdx ix}:ai).funcs[n]?=some {f with body:=some yK}:=by
 show(P.funcs.mapIdx ix)[n]?=_;rw[ac,h];simp only[ao,ix,hs,if_true]
def aH (h:Tryz.prog.funcs[n]?=some f)(hne:(je.contains n||n==wq)=false:=by decide)(hl:qA.contains n=false:=by decide):Fn n f:=adQ Tryz.prog hne hl h
def jh (h:Tryz.prog.funcs[n]?=some f)(hne:(je.contains n||n==wq)=false:=by decide)(hl:qA.contains n=true:=by decide):Fn n {f with body:=f.body.map mQ}:=ZK Tryz.prog hne hl h
def DS (h:Tryz.prog.funcs[n]?=some f)(hs:je.contains n=true:=by decide):Fn n {f with body:=some yK}:=ZL Tryz.prog hs h
def gc (hf:Fn n fn)(hn:(fn.name== "runtime.NumGoroutine")=false:=by kernel_rfl)(hb:fn.body.isSome=true:=by rfl):Cl n:=λa w=>by
 let⟨c,hc⟩:=Option.isSome_iff_exists.1 hb;exact g_call _ w hf hn hc a
def acY (P:ai)(n:Nat):((({P with funcs:=P.funcs.mapIdx ix}:ai).funcs[n]?).map (·.ntmps)).getD 0=((P.funcs[n]?).map (·.ntmps)).getD 0:=by
 show(((P.funcs.mapIdx ix)[n]?).map (·.ntmps)).getD 0=_;rw[ac];cases P.funcs[n]? with
 |none=>rfl
 |some f=>simp only[ao,ix];split<;>first|rfl|(split<;>first|rfl|(split<;>rfl))
def func166:Fn 166 {Tryz.f166 with body:=some yK}:=DS Tryz.func166
def func95:Fn 95 {Tryz.f95 with body:=some yK}:=DS Tryz.func95
def func118:=jh Tryz.func118
def func30:=jh Tryz.func30
def func13:=jh Tryz.func13
def func98:=jh Tryz.func98
def func47:=jh Tryz.func47
def func51:=jh Tryz.func51
def func27:=jh Tryz.func27
def func9:=jh Tryz.func9
def func11:=jh Tryz.func11
def func31:=jh Tryz.func31
def func93:=jh Tryz.func93
def func45:=jh Tryz.func45
def func99:=jh Tryz.func99
def func3:=aH Tryz.func3
def func4:=aH Tryz.func4
def func5:=aH Tryz.func5
def func6:=aH Tryz.func6
def func7:=aH Tryz.func7
def func8:=aH Tryz.func8
def func10:=aH Tryz.func10
def func12:=aH Tryz.func12
def func14:=aH Tryz.func14
def func15:=aH Tryz.func15
def func16:=aH Tryz.func16
def func17:=aH Tryz.func17
def func18:=aH Tryz.func18
def func19:=aH Tryz.func19
def func20:=aH Tryz.func20
def func21:=aH Tryz.func21
def func22:=aH Tryz.func22
def func23:=aH Tryz.func23
def func24:=aH Tryz.func24
def func25:=aH Tryz.func25
def func26:=aH Tryz.func26
def func28:=aH Tryz.func28
def func29:=aH Tryz.func29
def func32:=aH Tryz.func32
def func33:=aH Tryz.func33
def func34:=aH Tryz.func34
def func35:=aH Tryz.func35
def func36:=aH Tryz.func36
def func37:=aH Tryz.func37
def func38:=aH Tryz.func38
def func39:=aH Tryz.func39
def func40:=aH Tryz.func40
def func41:=aH Tryz.func41
def func42:=aH Tryz.func42
def func43:=aH Tryz.func43
def func44:=aH Tryz.func44
def func46:=aH Tryz.func46
def func48:=aH Tryz.func48
def func49:=aH Tryz.func49
def func50:=aH Tryz.func50
def func52:=aH Tryz.func52
def func53:=aH Tryz.func53
def func54:=aH Tryz.func54
def func55:=aH Tryz.func55
def func56:=aH Tryz.func56
def func57:=aH Tryz.func57
def func59:=aH Tryz.func59
def func60:=aH Tryz.func60
def func61:=aH Tryz.func61
def func62:=aH Tryz.func62
def func63:=aH Tryz.func63
def func64:=aH Tryz.func64
def func65:=aH Tryz.func65
def func67:=aH Tryz.func67
def func68:=aH Tryz.func68
def func69:=aH Tryz.func69
def func70:=aH Tryz.func70
def func71:=aH Tryz.func71
def func72:=aH Tryz.func72
def func73:=aH Tryz.func73
def func74:=aH Tryz.func74
def func75:=aH Tryz.func75
def func76:=aH Tryz.func76
def func77:=aH Tryz.func77
def func78:=aH Tryz.func78
def func79:=aH Tryz.func79
def func80:=aH Tryz.func80
def func81:=aH Tryz.func81
def func82:=aH Tryz.func82
def func83:=aH Tryz.func83
def func84:=aH Tryz.func84
def func85:=aH Tryz.func85
def func86:=aH Tryz.func86
def func87:=aH Tryz.func87
def func88:=aH Tryz.func88
def func89:=aH Tryz.func89
def func94:=aH Tryz.func94
def func96:=aH Tryz.func96
def func97:=aH Tryz.func97
def func100:=aH Tryz.func100
def func101:=aH Tryz.func101
def func102:=aH Tryz.func102
def func103:=aH Tryz.func103
def func104:=aH Tryz.func104
def func105:=aH Tryz.func105
def func106:=aH Tryz.func106
def func107:=aH Tryz.func107
def func108:=aH Tryz.func108
def func109:=aH Tryz.func109
def func110:=aH Tryz.func110
def func111:=aH Tryz.func111
def func113:=aH Tryz.func113
def func117:=aH Tryz.func117
def func119:=aH Tryz.func119
def func123:=aH Tryz.func123
def func124:=aH Tryz.func124
def func125:=aH Tryz.func125
def func127:=aH Tryz.func127
def func128:=aH Tryz.func128
def func129:=aH Tryz.func129
def func130:=aH Tryz.func130
def func131:=aH Tryz.func131
def func132:=aH Tryz.func132
def func133:=aH Tryz.func133
def func134:=aH Tryz.func134
def func135:=aH Tryz.func135
def func136:=aH Tryz.func136
def func137:=aH Tryz.func137
def func138:=aH Tryz.func138
def func139:=aH Tryz.func139
def func140:=aH Tryz.func140
def func141:=aH Tryz.func141
def func142:=aH Tryz.func142
def func148:=aH Tryz.func148
def func150:=aH Tryz.func150
def func152:=aH Tryz.func152
def func153:=aH Tryz.func153
def func156:=aH Tryz.func156
def func157:=aH Tryz.func157
def func158:=aH Tryz.func158
def func159:=aH Tryz.func159
def func160:=aH Tryz.func160
def func161:=aH Tryz.func161
def func162:=aH Tryz.func162
def func163:=aH Tryz.func163
def func164:=aH Tryz.func164
def func165:=aH Tryz.func165
def func167:=aH Tryz.func167
def func175:=aH Tryz.func175
def func176:=aH Tryz.func176
def func178:=aH Tryz.func178
def func180:=aH Tryz.func180
def func182:=aH Tryz.func182
def func183:=aH Tryz.func183
def func184:=aH Tryz.func184
def func185:=aH Tryz.func185
def func186:=aH Tryz.func186
def func201:=aH Tryz.func201
def func207:=aH Tryz.func207
def func208:=aH Tryz.func208
def func209:=aH Tryz.func209
def func210:=aH Tryz.func210
def func211:=aH Tryz.func211
def func212:=aH Tryz.func212
def func213:=aH Tryz.func213
def func219:=aH Tryz.func219
def func221:=aH Tryz.func221
def func222:=aH Tryz.func222
def func223:=aH Tryz.func223
def func224:=aH Tryz.func224
def func225:=aH Tryz.func225
def func226:=aH Tryz.func226
def func227:=aH Tryz.func227
def func246:=aH Tryz.func246
def func247:=aH Tryz.func247
def func248:=aH Tryz.func248
def func249:=aH Tryz.func249
def func250:=aH Tryz.func250
def func251:=aH Tryz.func251
def func252:=aH Tryz.func252
def func253:=aH Tryz.func253
def func254:=aH Tryz.func254
def func255:=aH Tryz.func255
def func256:=aH Tryz.func256
def func257:=aH Tryz.func257
def func258:=aH Tryz.func258
@[go_sem] def call4:=gc func4
@[go_sem] def call5:=gc func5
@[go_sem] def call6:=gc func6
@[go_sem] def call7:=gc func7
@[go_sem] def call8:=gc func8
@[go_sem] def call9:=gc func9
@[go_sem] def call10:=gc func10
@[go_sem] def call11:=gc func11
@[go_sem] def call12:=gc func12
@[go_sem] def call13:=gc func13
@[go_sem] def call14:=gc func14
@[go_sem] def call15:=gc func15
@[go_sem] def call16:=gc func16
@[go_sem] def call17:=gc func17
@[go_sem] def call18:=gc func18
@[go_sem] def call19:=gc func19
@[go_sem] def call20:=gc func20
@[go_sem] def call21:=gc func21
@[go_sem] def call22:=gc func22
@[go_sem] def call23:=gc func23
@[go_sem] def call24:=gc func24
@[go_sem] def call25:=gc func25
@[go_sem] def call26:=gc func26
@[go_sem] def call27:=gc func27
@[go_sem] def call28:=gc func28
@[go_sem] def call29:=gc func29
@[go_sem] def call30:=gc func30
@[go_sem] def call32:=gc func32
@[go_sem] def call33:=gc func33
@[go_sem] def call34:=gc func34
@[go_sem] def call35:=gc func35
@[go_sem] def call36:=gc func36
@[go_sem] def call37:=gc func37
@[go_sem] def call38:=gc func38
@[go_sem] def call39:=gc func39
@[go_sem] def call40:=gc func40
@[go_sem] def call41:=gc func41
@[go_sem] def call42:=gc func42
@[go_sem] def call43:=gc func43
@[go_sem] def call44:=gc func44
@[go_sem] def call45:=gc func45
@[go_sem] def call46:=gc func46
@[go_sem] def call47:=gc func47
@[go_sem] def call48:=gc func48
@[go_sem] def call49:=gc func49
@[go_sem] def call50:=gc func50
@[go_sem] def call51:=gc func51
@[go_sem] def call52:=gc func52
@[go_sem] def call53:=gc func53
@[go_sem] def call54:=gc func54
@[go_sem] def call55:=gc func55
@[go_sem] def call56:=gc func56
@[go_sem] def call57:=gc func57
@[go_sem] def call59:=gc func59
@[go_sem] def call60:=gc func60
@[go_sem] def call61:=gc func61
@[go_sem] def call62:=gc func62
@[go_sem] def call63:=gc func63
@[go_sem] def call64:=gc func64
@[go_sem] def call65:=gc func65
@[go_sem] def call67:=gc func67
@[go_sem] def call68:=gc func68
@[go_sem] def call69:=gc func69
@[go_sem] def call70:=gc func70
@[go_sem] def call71:=gc func71
@[go_sem] def call72:=gc func72
@[go_sem] def call73:=gc func73
@[go_sem] def call74:=gc func74
@[go_sem] def call75:=gc func75
@[go_sem] def call77:=gc func77
@[go_sem] def call78:=gc func78
@[go_sem] def call79:=gc func79
@[go_sem] def call80:=gc func80
@[go_sem] def call81:=gc func81
@[go_sem] def call82:=gc func82
@[go_sem] def call83:=gc func83
@[go_sem] def call84:=gc func84
@[go_sem] def call85:=gc func85
@[go_sem] def call86:=gc func86
@[go_sem] def call87:=gc func87
@[go_sem] def call88:=gc func88
@[go_sem] def call89:=gc func89
@[go_sem] def call93:=gc func93
@[go_sem] def call94:=gc func94
@[go_sem] def call95:=gc func95
@[go_sem] def call96:=gc func96
@[go_sem] def call97:=gc func97
@[go_sem] def call98:=gc func98
@[go_sem] def call99:=gc func99
@[go_sem] def call100:=gc func100
@[go_sem] def call101:=gc func101
@[go_sem] def call102:=gc func102
@[go_sem] def call103:=gc func103
@[go_sem] def call104:=gc func104
@[go_sem] def call105:=gc func105
@[go_sem] def call106:=gc func106
@[go_sem] def call107:=gc func107
@[go_sem] def call108:=gc func108
@[go_sem] def call109:=gc func109
@[go_sem] def call110:=gc func110
@[go_sem] def call111:=gc func111
@[go_sem] def call113:=gc func113
@[go_sem] def call118:=gc func118
@[go_sem] def call119:=gc func119
@[go_sem] def call123:=gc func123
@[go_sem] def call124:=gc func124
@[go_sem] def call125:=gc func125
@[go_sem] def call137:=gc func137
@[go_sem] def call138:=gc func138
@[go_sem] def call140:=gc func140
@[go_sem] def call141:=gc func141
@[go_sem] def call142:=gc func142
@[go_sem] def call150:=gc func150
@[go_sem] def call161:=gc func161
@[go_sem] def call162:=gc func162
@[go_sem] def call163:=gc func163
@[go_sem] def call164:=gc func164
@[go_sem] def call165:=gc func165
@[go_sem] def call166:=gc func166
@[go_sem] def call167:=gc func167
@[go_sem] def call176:=gc func176
@[go_sem] def call183:=gc func183
@[go_sem] def call184:=gc func184
@[go_sem] def call185:=gc func185
@[go_sem] def call186:=gc func186
@[go_sem] def call207:=gc func207
@[go_sem] def call208:=gc func208
@[go_sem] def call209:=gc func209
@[go_sem] def call210:=gc func210
@[go_sem] def call211:=gc func211
@[go_sem] def call212:=gc func212
@[go_sem] def call213:=gc func213
@[go_sem] def call219:=gc func219
@[go_sem] def call222:=gc func222
@[go_sem] def call223:=gc func223
@[go_sem] def call224:=gc func224
@[go_sem] def call225:=gc func225
@[go_sem] def call226:=gc func226
@[go_sem] def call227:=gc func227
@[go_sem] def call247:=gc func247
@[go_sem] def call248:=gc func248
@[go_sem] def call249:=gc func249
@[go_sem] def call250:=gc func250
@[go_sem] def call251:=gc func251
@[go_sem] def call252:=gc func252
@[go_sem] def call257:=gc func257
@[go_sem] def call258:=gc func258
def ntmps79:type_of%Tryz.ntmps79:=Tryz.ntmps79
def ntmps102:type_of%Tryz.ntmps102:=Tryz.ntmps102
def ntmps141:type_of%Tryz.ntmps141:=Tryz.ntmps141
def ntmps227:type_of%Tryz.ntmps227:=Tryz.ntmps227
end Go.Proofs.Tz
