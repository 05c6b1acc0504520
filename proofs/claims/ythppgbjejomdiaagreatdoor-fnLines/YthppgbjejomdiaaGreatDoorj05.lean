import Derived.Test.YthppgbjejomdiaaGreatDoorj00
import Derived.Test.YthppgbjejomdiaaGreatDoorChecked
import Derived.WalkKit
set_option linter.all false
open Array renaming getElem?_mapIdx->aE
open Bool renaming or_eq_false_iff->aL,false_eq_true->aP
open Go renaming World->ac,Program->ad,TypeId->aj,zeroValue->ao,sizeOf->au,isAgg->av,underlying->ay,typeInfo->az,callFunc->aI,unsupported->aV
open Go.Sem renaming run->aa,run_bind->ax
open Option renaming map_some->aG
namespace Go.Proofs.Tz
variable {f fn:Func}{n:Nat}{α:Type}{t:aj}
open Go
def yY:Code:=.refuse ""
def jk:List Nat:=[173,94,267]
def xX:List Nat:=[91,150,53,1999999,2000004,2000006]
def sG:List Nat:=jk++xX
def wR:Nat:=266
def qH:List Nat:=[122,30,19,97,42,46,27,15,17,31,92,40,98]
def Ya:List Nat:=[66,118,120,119,130,124,125,126]
def LI:Operand->Bool
 |.global _=>true
 |.func f=>Ya.contains f
 |_=>false
def isT:Operand->Bool
 |.tmp _=>true
 |_=>false
def nk (o:Oper):Oper:=
 if o.op.operands.toList.any LI then{o with op:=.binOp .mul 0 (.const<|.bool true) (.const<|.bool true) 0}else
 match o.op with
 |.panic y=>{o with op:=.binOp .add 0 (.const<|.bool true) y 0}
 |.defer {callee:=.value y,..}=>{o with op:=.binOp .sub 0 (.const<|.bool true) y 0}
 |.convert a b y=>if a==47&&b==87 then{o with op:=.pick (.const<|.int .i64 0) y y}else if a==87&&b==47 then{o with op:=.pick (.const<|.int .i64 1) y y}else o
 |.binOp .neq t x y u=>if t==47&&u==47 then{o with op:=.pick (.const<|.int .i64 2) x y}else if t==51&&u==51&&isT y then{o with op:=.binOp .mul 0 (.const<|.bool true) (.const<|.bool true) 0}else o
 |.binOp .eql t x y u=>if t==47&&u==47 then{o with op:=.pick (.const<|.int .i64 3) x y}else if t==51&&u==51 then{o with op:=.pick (.const<|.int .i64 4) x y}else o
 |.call {callee:=.builtin .unsafeSliceData,..}=>{o with type:=1000000000}
 |.assign (.const<|.map none)=>{o with op:=.assign<|.const<|.func (.method "") #[.iface 1000000000<|.chan none] #[]}
 |_=>o
def nj:Code->Code
 |.seq a b=>.seq (nj a) (nj b)
 |.cond x a b=>.cond x (nj a) (nj b)
 |.block i a=>.block i (nj a)
 |.loop a=>.loop (nj a)
 |.region i ops d=>.region i (ops.map nk) d
 |c=>c
def iB (i:Nat)(f:Func):Func:=if jk.contains i then{f with body:=some yY}else if i==wR then{f with name:= "-",origin:= "-"}else if qH.contains i then{f with body:=f.body.map nj}else f
noncomputable def prog:Program:={Tryz.prog with funcs:=Tryz.prog.funcs.mapIdx iB}
section
variable (P:ad)(c:Array Func)(t:aj)(w:ac)
def abh:Program.underlying {P with funcs:=c} t=P.underlying t:=rfl
def adN:Program.elem {P with funcs:=c} t=P.elem t:=rfl
def adM:Program.arrayLen {P with funcs:=c} t=P.arrayLen t:=rfl
def abg:aa {P with funcs:=c} (ay t) w=aa P (ay t) w:=by unfold ay;show aa _ (match Program.underlying {P with funcs:=c} t with|some d=>pure d|none=>_) w=aa _ (match P.underlying t with|some d=>pure d|none=>_) w;rw[abh];cases P.underlying t<;>rfl
def ZQ:aa {P with funcs:=c} (az t) w=aa P (az t) w:=by unfold az;show aa _ (match P.toTables.info? t with|some d=>pure d|none=>_) w=aa _ (match P.toTables.info? t with|some d=>pure d|none=>_) w;cases P.toTables.info? t<;>rfl
omit P c t w in
def nv {β:Type}(r:Result α){k k':α->ac->Result β}(h:∀a w,k a w=k' a w):r.andThen k=r.andThen k':=by cases r with|ok a w=>exact h a w|halt _ _=>rfl
omit P c t w in
def wo (P d:ad)(a:α)(w:ac):aa P (pure a:Sem α) w=aa d (pure a:Sem α) w:=rfl
omit P c t w in
def VP (P a:ad)(u:Unsupported)(w:ac):aa P (aV u:Sem α) w=aa a (aV u:Sem α) w:=rfl
def adQ:aa {P with funcs:=c} (au t) w=aa P (au t) w:=by unfold au;rw[ax,ax,ZQ P c];exact nv _ λd w'=>wo _ _ _ _
def adO:aa {P with funcs:=c} (av t) w=aa P (av t) w:=by unfold av;rw[ax,ax,abg P c];refine nv _ λd w'=>?_;cases d<;>exact wo _ _ _ _
def adR:aa {P with funcs:=c} (ao t) w=aa P (ao t) w:=by unfold ao;rw[ax,ax,ZQ P c];refine nv _ λd w'=>?_;obtain⟨z,e⟩:∃z,d.zero=z:=⟨_,rfl⟩;rw[e];rcases z with _|v;exact VP _ _ _ _;exact wo _ _ _ _
def g_call {f c}(r:P.funcs[f]?=some fn)(s:(fn.name== "runtime.NumGoroutine")=false)(hb:fn.body=some c)(args):aa P (aI f args) w=.ok (.enter f args) w:=by
 have u:fn.name≠ "runtime.NumGoroutine":=by simpa using s
 simp[aI,r,u,hb]
end
@[go_sem] def un0 (t):prog.underlying t=Tryz.prog.underlying t:=abh Tryz.prog (Tryz.prog.funcs.mapIdx iB) t
@[go_sem] def el0 (t):prog.elem t=Tryz.prog.elem t:=adN Tryz.prog (Tryz.prog.funcs.mapIdx iB) t
@[go_sem] def al0 (t):prog.arrayLen t=Tryz.prog.arrayLen t:=adM Tryz.prog (Tryz.prog.funcs.mapIdx iB) t
@[go_sem] def ru0 (t) (w):aa prog (ay t) w=aa Tryz.prog (ay t) w:=abg Tryz.prog (Tryz.prog.funcs.mapIdx iB) t w
@[go_sem] def ti0 (t) (w):aa prog (az t) w=aa Tryz.prog (az t) w:=ZQ Tryz.prog (Tryz.prog.funcs.mapIdx iB) t w
@[go_sem] def so0 (t) (w):aa prog (au t) w=aa Tryz.prog (au t) w:=adQ Tryz.prog (Tryz.prog.funcs.mapIdx iB) t w
@[go_sem] def ia0 (t) (w):aa prog (av t) w=aa Tryz.prog (av t) w:=adO Tryz.prog (Tryz.prog.funcs.mapIdx iB) t w
@[go_sem] def zv0 (t) (w):aa prog (ao t) w=aa Tryz.prog (ao t) w:=adR Tryz.prog (Tryz.prog.funcs.mapIdx iB) t w
def al {d}(h:Tryz.prog.underlying t=d):prog.underlying t=d:=(un0 t).trans h
def cg {r:ac->Result Nat}(h:∀w,aa Tryz.prog (au t) w=r w):∀w,aa prog (au t) w=r w:=λw=>(so0 t w).trans<|h w
def cR {r:ac->Result Bool}(h:∀w,aa Tryz.prog (av t) w=r w):∀w,aa prog (av t) w=r w:=λw=>(ia0 t w).trans<|h w
def aQ {r:ac->Result Value}(h:∀w,aa Tryz.prog (ao t) w=r w):∀w,aa prog (ao t) w=r w:=λw=>(zv0 t w).trans<|h w
abbrev Fn (n:Nat)(f:Func):Prop:=prog.funcs[n]?=some f
abbrev Cl (n:Nat):Prop:=∀(a:Array Value) (w:ac),aa prog (aI n a) w=.ok (.enter n a) w
def aeC (P:ad)(r:(jk.contains n||n==wR)=false)(s:qH.contains n=false)(h:P.funcs[n]?=some f):({P with funcs:=P.funcs.mapIdx iB}:ad).funcs[n]?=some f:=by show(P.funcs.mapIdx iB)[n]?=_;rw[aE,h];rw[aL]at r;simp only[aG,iB,r.1,r.2,s,aP,if_false]
def E' (P:ad)(r:(jk.contains n||n==wR)=false)(s:qH.contains n=true)(h:P.funcs[n]?=some f):({P with funcs:=P.funcs.mapIdx iB}:ad).funcs[n]?=some {f with body:=f.body.map nj}:=by show(P.funcs.mapIdx iB)[n]?=_;rw[aE,h];rw[aL]at r;simp only[aG,iB,r.1,r.2,s,aP,if_false,if_true]
def E_ (P:ad)(hs:jk.contains n=true)(h:P.funcs[n]?=some f):({P with funcs:=P.funcs.mapIdx iB}:ad).funcs[n]?=some {f with body:=some yY}:=by show(P.funcs.mapIdx iB)[n]?=_;rw[aE,h];simp only[aG,iB,hs,if_true]
def aF (h:Tryz.prog.funcs[n]?=some f)(hne:(jk.contains n||n==wR)=false:=by decide)(hl:qH.contains n=false:=by decide):Fn n f:=aeC Tryz.prog hne hl h
def jm (h:Tryz.prog.funcs[n]?=some f)(hne:(jk.contains n||n==wR)=false:=by decide)(hl:qH.contains n=true:=by decide):Fn n {f with body:=f.body.map nj}:=E' Tryz.prog hne hl h
def Ek (h:Tryz.prog.funcs[n]?=some f)(hs:jk.contains n=true:=by decide):Fn n {f with body:=some yY}:=E_ Tryz.prog hs h
def gc (hf:Fn n fn)(hn:(fn.name== "runtime.NumGoroutine")=false:=by kernel_rfl)(hb:fn.body.isSome=true:=by rfl):Cl n:=λa w=>by
 let⟨c,hc⟩:=Option.isSome_iff_exists.1 hb;exact g_call _ w hf hn hc a
def adP (P:ad)(n:Nat):((({P with funcs:=P.funcs.mapIdx iB}:ad).funcs[n]?).map (·.ntmps)).getD 0=((P.funcs[n]?).map (·.ntmps)).getD 0:=by show(((P.funcs.mapIdx iB)[n]?).map (·.ntmps)).getD 0=_;rw[aE];rcases P.funcs[n]? with _|f;rfl;simp only[aG,iB];split<;>first|rfl|(split<;>first|rfl|(split<;>rfl))
def func173:Fn 173 {Tryz.f173 with body:=some yY}:=Ek Tryz.func173
def func94:Fn 94 {Tryz.f94 with body:=some yY}:=Ek Tryz.func94
def func122:=jm Tryz.func122
def func30:=jm Tryz.func30
def func19:=jm Tryz.func19
def func97:=jm Tryz.func97
def func42:=jm Tryz.func42
def func46:=jm Tryz.func46
def func27:=jm Tryz.func27
def func15:=jm Tryz.func15
def func17:=jm Tryz.func17
def func31:=jm Tryz.func31
def func92:=jm Tryz.func92
def func40:=jm Tryz.func40
def func98:=jm Tryz.func98
def func3:=aF Tryz.func3
def func4:=aF Tryz.func4
def func5:=aF Tryz.func5
def func6:=aF Tryz.func6
def func7:=aF Tryz.func7
def func8:=aF Tryz.func8
def func9:=aF Tryz.func9
def func10:=aF Tryz.func10
def func11:=aF Tryz.func11
def func12:=aF Tryz.func12
def func13:=aF Tryz.func13
def func14:=aF Tryz.func14
def func16:=aF Tryz.func16
def func18:=aF Tryz.func18
def func20:=aF Tryz.func20
def func21:=aF Tryz.func21
def func22:=aF Tryz.func22
def func23:=aF Tryz.func23
def func24:=aF Tryz.func24
def func25:=aF Tryz.func25
def func26:=aF Tryz.func26
def func28:=aF Tryz.func28
def func29:=aF Tryz.func29
def func32:=aF Tryz.func32
def func33:=aF Tryz.func33
def func34:=aF Tryz.func34
def func35:=aF Tryz.func35
def func36:=aF Tryz.func36
def func37:=aF Tryz.func37
def func38:=aF Tryz.func38
def func39:=aF Tryz.func39
def func41:=aF Tryz.func41
def func43:=aF Tryz.func43
def func44:=aF Tryz.func44
def func45:=aF Tryz.func45
def func47:=aF Tryz.func47
def func48:=aF Tryz.func48
def func49:=aF Tryz.func49
def func50:=aF Tryz.func50
def func51:=aF Tryz.func51
def func52:=aF Tryz.func52
def func54:=aF Tryz.func54
def func55:=aF Tryz.func55
def func56:=aF Tryz.func56
def func57:=aF Tryz.func57
def func58:=aF Tryz.func58
def func59:=aF Tryz.func59
def func60:=aF Tryz.func60
def func61:=aF Tryz.func61
def func62:=aF Tryz.func62
def func63:=aF Tryz.func63
def func64:=aF Tryz.func64
def func65:=aF Tryz.func65
def func67:=aF Tryz.func67
def func68:=aF Tryz.func68
def func69:=aF Tryz.func69
def func70:=aF Tryz.func70
def func71:=aF Tryz.func71
def func72:=aF Tryz.func72
def func73:=aF Tryz.func73
def func74:=aF Tryz.func74
def func75:=aF Tryz.func75
def func76:=aF Tryz.func76
def func77:=aF Tryz.func77
def func78:=aF Tryz.func78
def func79:=aF Tryz.func79
def func80:=aF Tryz.func80
def func81:=aF Tryz.func81
def func82:=aF Tryz.func82
def func83:=aF Tryz.func83
def func84:=aF Tryz.func84
def func85:=aF Tryz.func85
def func86:=aF Tryz.func86
def func87:=aF Tryz.func87
def func88:=aF Tryz.func88
def func93:=aF Tryz.func93
def func95:=aF Tryz.func95
def func96:=aF Tryz.func96
def func99:=aF Tryz.func99
def func100:=aF Tryz.func100
def func101:=aF Tryz.func101
def func102:=aF Tryz.func102
def func103:=aF Tryz.func103
def func104:=aF Tryz.func104
def func105:=aF Tryz.func105
def func106:=aF Tryz.func106
def func107:=aF Tryz.func107
def func108:=aF Tryz.func108
def func109:=aF Tryz.func109
def func110:=aF Tryz.func110
def func111:=aF Tryz.func111
def func112:=aF Tryz.func112
def func113:=aF Tryz.func113
def func114:=aF Tryz.func114
def func115:=aF Tryz.func115
def func117:=aF Tryz.func117
def func121:=aF Tryz.func121
def func123:=aF Tryz.func123
def func127:=aF Tryz.func127
def func128:=aF Tryz.func128
def func129:=aF Tryz.func129
def func131:=aF Tryz.func131
def func132:=aF Tryz.func132
def func133:=aF Tryz.func133
def func134:=aF Tryz.func134
def func135:=aF Tryz.func135
def func136:=aF Tryz.func136
def func137:=aF Tryz.func137
def func138:=aF Tryz.func138
def func139:=aF Tryz.func139
def func140:=aF Tryz.func140
def func141:=aF Tryz.func141
def func142:=aF Tryz.func142
def func143:=aF Tryz.func143
def func144:=aF Tryz.func144
def func145:=aF Tryz.func145
def func146:=aF Tryz.func146
def func147:=aF Tryz.func147
def func148:=aF Tryz.func148
def func149:=aF Tryz.func149
def func155:=aF Tryz.func155
def func157:=aF Tryz.func157
def func159:=aF Tryz.func159
def func160:=aF Tryz.func160
def func163:=aF Tryz.func163
def func164:=aF Tryz.func164
def func165:=aF Tryz.func165
def func166:=aF Tryz.func166
def func167:=aF Tryz.func167
def func168:=aF Tryz.func168
def func169:=aF Tryz.func169
def func170:=aF Tryz.func170
def func171:=aF Tryz.func171
def func172:=aF Tryz.func172
def func174:=aF Tryz.func174
def func182:=aF Tryz.func182
def func183:=aF Tryz.func183
def func185:=aF Tryz.func185
def func187:=aF Tryz.func187
def func189:=aF Tryz.func189
def func190:=aF Tryz.func190
def func191:=aF Tryz.func191
def func192:=aF Tryz.func192
def func193:=aF Tryz.func193
def func208:=aF Tryz.func208
def func214:=aF Tryz.func214
def func215:=aF Tryz.func215
def func216:=aF Tryz.func216
def func217:=aF Tryz.func217
def func218:=aF Tryz.func218
def func219:=aF Tryz.func219
def func220:=aF Tryz.func220
def func226:=aF Tryz.func226
def func228:=aF Tryz.func228
def func229:=aF Tryz.func229
def func230:=aF Tryz.func230
def func231:=aF Tryz.func231
def func232:=aF Tryz.func232
def func233:=aF Tryz.func233
def func234:=aF Tryz.func234
def func253:=aF Tryz.func253
def func254:=aF Tryz.func254
def func255:=aF Tryz.func255
def func256:=aF Tryz.func256
def func257:=aF Tryz.func257
def func258:=aF Tryz.func258
def func259:=aF Tryz.func259
def func260:=aF Tryz.func260
def func261:=aF Tryz.func261
def func262:=aF Tryz.func262
def func263:=aF Tryz.func263
def func264:=aF Tryz.func264
def func265:=aF Tryz.func265
@[go_sem] def call4:=gc func4
@[go_sem] def call5:=gc func5
@[go_sem] def call6:=gc func6
@[go_sem] def call7:=gc func7
@[go_sem] def call8:=gc func8
@[go_sem] def call9:=gc func9
@[go_sem] def call10:=gc func10
@[go_sem] def call11:=gc func11
@[go_sem] def call12:=gc func12
@[go_sem] def call13:=gc func13
@[go_sem] def call14:=gc func14
@[go_sem] def call15:=gc func15
@[go_sem] def call16:=gc func16
@[go_sem] def call17:=gc func17
@[go_sem] def call18:=gc func18
@[go_sem] def call19:=gc func19
@[go_sem] def call20:=gc func20
@[go_sem] def call21:=gc func21
@[go_sem] def call22:=gc func22
@[go_sem] def call23:=gc func23
@[go_sem] def call24:=gc func24
@[go_sem] def call25:=gc func25
@[go_sem] def call26:=gc func26
@[go_sem] def call27:=gc func27
@[go_sem] def call28:=gc func28
@[go_sem] def call29:=gc func29
@[go_sem] def call30:=gc func30
@[go_sem] def call32:=gc func32
@[go_sem] def call33:=gc func33
@[go_sem] def call34:=gc func34
@[go_sem] def call35:=gc func35
@[go_sem] def call36:=gc func36
@[go_sem] def call37:=gc func37
@[go_sem] def call38:=gc func38
@[go_sem] def call39:=gc func39
@[go_sem] def call40:=gc func40
@[go_sem] def call41:=gc func41
@[go_sem] def call42:=gc func42
@[go_sem] def call43:=gc func43
@[go_sem] def call44:=gc func44
@[go_sem] def call45:=gc func45
@[go_sem] def call46:=gc func46
@[go_sem] def call47:=gc func47
@[go_sem] def call48:=gc func48
@[go_sem] def call49:=gc func49
@[go_sem] def call50:=gc func50
@[go_sem] def call51:=gc func51
@[go_sem] def call52:=gc func52
@[go_sem] def call54:=gc func54
@[go_sem] def call55:=gc func55
@[go_sem] def call56:=gc func56
@[go_sem] def call57:=gc func57
@[go_sem] def call58:=gc func58
@[go_sem] def call59:=gc func59
@[go_sem] def call60:=gc func60
@[go_sem] def call61:=gc func61
@[go_sem] def call62:=gc func62
@[go_sem] def call63:=gc func63
@[go_sem] def call64:=gc func64
@[go_sem] def call65:=gc func65
@[go_sem] def call67:=gc func67
@[go_sem] def call68:=gc func68
@[go_sem] def call69:=gc func69
@[go_sem] def call70:=gc func70
@[go_sem] def call71:=gc func71
@[go_sem] def call72:=gc func72
@[go_sem] def call73:=gc func73
@[go_sem] def call74:=gc func74
@[go_sem] def call75:=gc func75
@[go_sem] def call77:=gc func77
@[go_sem] def call78:=gc func78
@[go_sem] def call79:=gc func79
@[go_sem] def call80:=gc func80
@[go_sem] def call81:=gc func81
@[go_sem] def call82:=gc func82
@[go_sem] def call83:=gc func83
@[go_sem] def call84:=gc func84
@[go_sem] def call85:=gc func85
@[go_sem] def call86:=gc func86
@[go_sem] def call87:=gc func87
@[go_sem] def call88:=gc func88
@[go_sem] def call92:=gc func92
@[go_sem] def call93:=gc func93
@[go_sem] def call94:=gc func94
@[go_sem] def call95:=gc func95
@[go_sem] def call96:=gc func96
@[go_sem] def call97:=gc func97
@[go_sem] def call98:=gc func98
@[go_sem] def call99:=gc func99
@[go_sem] def call100:=gc func100
@[go_sem] def call101:=gc func101
@[go_sem] def call102:=gc func102
@[go_sem] def call103:=gc func103
@[go_sem] def call104:=gc func104
@[go_sem] def call105:=gc func105
@[go_sem] def call106:=gc func106
@[go_sem] def call107:=gc func107
@[go_sem] def call108:=gc func108
@[go_sem] def call109:=gc func109
@[go_sem] def call110:=gc func110
@[go_sem] def call111:=gc func111
@[go_sem] def call112:=gc func112
@[go_sem] def call113:=gc func113
@[go_sem] def call114:=gc func114
@[go_sem] def call115:=gc func115
@[go_sem] def call117:=gc func117
@[go_sem] def call122:=gc func122
@[go_sem] def call123:=gc func123
@[go_sem] def call127:=gc func127
@[go_sem] def call128:=gc func128
@[go_sem] def call129:=gc func129
@[go_sem] def call141:=gc func141
@[go_sem] def call142:=gc func142
@[go_sem] def call144:=gc func144
@[go_sem] def call145:=gc func145
@[go_sem] def call146:=gc func146
@[go_sem] def call147:=gc func147
@[go_sem] def call148:=gc func148
@[go_sem] def call149:=gc func149
@[go_sem] def call157:=gc func157
@[go_sem] def call168:=gc func168
@[go_sem] def call169:=gc func169
@[go_sem] def call170:=gc func170
@[go_sem] def call171:=gc func171
@[go_sem] def call172:=gc func172
@[go_sem] def call173:=gc func173
@[go_sem] def call174:=gc func174
@[go_sem] def call183:=gc func183
@[go_sem] def call190:=gc func190
@[go_sem] def call191:=gc func191
@[go_sem] def call192:=gc func192
@[go_sem] def call193:=gc func193
@[go_sem] def call214:=gc func214
@[go_sem] def call215:=gc func215
@[go_sem] def call216:=gc func216
@[go_sem] def call217:=gc func217
@[go_sem] def call218:=gc func218
@[go_sem] def call219:=gc func219
@[go_sem] def call220:=gc func220
@[go_sem] def call226:=gc func226
@[go_sem] def call229:=gc func229
@[go_sem] def call230:=gc func230
@[go_sem] def call231:=gc func231
@[go_sem] def call232:=gc func232
@[go_sem] def call233:=gc func233
@[go_sem] def call234:=gc func234
@[go_sem] def call254:=gc func254
@[go_sem] def call255:=gc func255
@[go_sem] def call256:=gc func256
@[go_sem] def call257:=gc func257
@[go_sem] def call258:=gc func258
@[go_sem] def call259:=gc func259
@[go_sem] def call264:=gc func264
@[go_sem] def call265:=gc func265
def ntmps79:type_of%Tryz.ntmps79:=Tryz.ntmps79
def ntmps101:type_of%Tryz.ntmps101:=Tryz.ntmps101
def ntmps145:type_of%Tryz.ntmps145:=Tryz.ntmps145
def ntmps234:type_of%Tryz.ntmps234:=Tryz.ntmps234
end Go.Proofs.Tz
