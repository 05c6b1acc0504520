import Derived.Test.YtlmcblcijndipaaGreatDoorj30
import Derived.Test.YtlmcblcijndipaaGreatDoorj38
import Derived.Conc.LeavingOf
import Derived.Handed
import Derived.LaidLaws
import Derived.LaidHandle
import Derived.ChangeSame
import Derived.ChangeVars
import Derived.Test.YtlmcblcijndipaaGreatDoorCards
import Derived.Test.YtlmcblcijndipaaGreatDoorTie
import Derived.Stop.Joined
import Derived.SevenTiedAt
set_option linter.defProp false
set_option linter.unusedVariables false
set_option maxRecDepth 100000
namespace Go.Proofs.YtlmcblcijndipaaGreatDoor
open ChangeAt ChangeShapes Conc RowKit WideShapes
variable {ok:Ctx}{fn:Func}{fns:List Nat}{f:Nat}{e:TypeId}{W:World}
@[reducible] def qQ:Gl:={n:=9,ov:=283}
section
variable [Gl]
omit [Gl] in
def MB (P:Program)(fs:Array Func):∀d a b,Program.alikeButTags {P with funcs:=fs} d a b=P.alikeButTags d a b:=by
 intro d;induction d with
 |zero=>intro a b;rfl
 |succ d ih=>intro a b;unfold Program.alikeButTags;simp only[ih]
omit [Gl] in
def MK (P:Program)(fs:Array Func)(op:BinOp)(t:TypeId):kS {P with funcs:=fs} op t=kS P op t:=by
 unfold kS SX UX Program.stoodInHeld Program.stoodInAs;simp only[MB];rfl
def RT (P:Program)(fs:Array Func)(fn:FuncId->Bool)(op:Op):lR {P with funcs:=fs} fn op=lR P fn op:=by
 cases op with
 |binOp o t x y u=>
  show((kS {P with funcs:=fs} o t||vb {P with funcs:=fs} o t y)&&eJ fn x&&eJ fn y)=((kS P o t||vb P o t y)&&eJ fn x&&eJ fn y);rw[MK];rfl
 |_=>rfl
def Kk (P:Program)(fs:Array Func)(fn:FuncId->Bool):∀c,dg {P with funcs:=fs} fn c=dg P fn c:=by
 intro c;induction c with
 |seq a b ha hb=>simp only[dg,ha,hb]
 |cond x a b ha hb=>simp only[dg,ha,hb]
 |block i b hb=>simp only[dg,hb]
 |loop b hb=>simp only[dg,hb]
 |rangeFunc f ps a b ha hb=>simp only[dg,ha,hb]
 |region i ops d=>simp only[dg,RT]
 |_=>rfl
end
def I2 (fn:FuncId->Bool)(c:Code):@dg qQ Tz.prog fn c=@dg qQ Tryz.prog fn c:=@Kk qQ Tryz.prog _ fn c
noncomputable def GM (fns:List Nat)(fn:Func):Bool:=!(fn.name== "runtime.NumGoroutine")&&(match fn.body with|some c=>@dg qQ Tryz.prog (λf=>fns.contains f) c|none=>false)
noncomputable def Ax (fns:List Nat):Bool:=fns.all λk=>Tz.iv.contains k||(match Tryz.prog.funcs[k]? with|some fn=>GM fns fn|none=>false)
def qo (h:Ax fns=true)(hf:fns.contains f=true)(hne:Tz.iv.contains f=false):∃fn c,Tryz.prog.funcs[f]?=some fn/\fn.body=some c/\(fn.name== "runtime.NumGoroutine")=false/\@dg qQ Tryz.prog (λf=>fns.contains f) c=true:=by
 unfold Ax at h;rw[List.all_eq_true]at h;have h1:=h f (by simpa using hf);rw[adw]at h1;have h2:=h1.resolve_left (by rw[hne];simp);generalize Tryz.prog.funcs[f]?=x at h2;cases x with
 |none=>cases h2
 |some fn=>
  replace h2:GM fns fn=true:=h2;unfold GM at h2;rw[adx]at h2;let⟨h3,h4⟩:=h2;cases hb:fn.body with
  |none=>rw[hb]at h4;cases h4
  |some c=>rw[hb]at h4;exact⟨fn,c,rfl,hb,by simpa using h3,h4⟩
def Sd:Tz.iv.all (λk=>match Tryz.prog.funcs[k]? with|some fn=>fn.body.isSome&&!(fn.name== "runtime.NumGoroutine")|none=>false)=true:=bj
def yM (h:Tz.iv.contains f=true):∃fn,Tryz.prog.funcs[f]?=some fn/\fn.body.isSome=true/\(fn.name== "runtime.NumGoroutine")=false:=by
 have h0:=Sd;rw[List.all_eq_true]at h0;have h1:=h0 f qJ;generalize Tryz.prog.funcs[f]?=x at h1;cases x with
 |none=>cases h1
 |some fn=>
  replace h1:(fn.body.isSome&&!(fn.name== "runtime.NumGoroutine"))=true:=h1;rw[adx]at h1;exact⟨fn,rfl,h1.1,by simpa using h1.2⟩
def Kl:(Tryz.prog.funcs[Tz.As]?).all (λf=>f.body.isNone)=true:=bj
def IM {c:Code}(hne:Tz.iv.contains f=false)(h:Tryz.prog.funcs[f]?=some fn)(hb:fn.body=some c):Tz.prog.funcs[f]?=some fn:=Tz.aQ h (by
 rw[Bool.or_eq_false_iff];refine⟨hne,?_⟩;cases e:(f==Tz.As)with
 |false=>rfl
 |true=>
  have e':f=Tz.As:=by simpa using e
  have h0:=Kl;rw[<-e',h]at h0;simp[hb]at h0)
def SV:Option Func->Bool
 |none=>true
 |some fn=>!(fn.name== "runtime.NumGoroutine")&&fn.body.isNone&&(Extern.findNext fn).isNone&&(Extern.find fn).isNone&&!(fn.name.endsWith ".init"&&!fn.name.startsWith "("&&!fn.name.startsWith "gosem.")
def Yu:SV Tz.prog.funcs[qQ.ov]?=true:=bj
def TW (xs:Array Value)(V:World):Result.stops ((callFunc qQ.ov xs).run Tz.prog V)=true:=by
 have h:=Yu;generalize hx:Tz.prog.funcs[qQ.ov]?=x at h;cases x with
 |none=>
  simp only[callFunc,program,Sem.run_bind,Sem.run,Result.andThen];rw[hx];rfl
 |some fn=>
  simp only[SV,Bool.and_eq_true,Bool.not_eq_true',Option.isNone_iff_eq_none]at h;obtain⟨⟨⟨⟨h1,h2⟩,h3⟩,h4⟩,h5⟩:=h;simp only[callFunc,program,Sem.run_bind,Sem.run,Result.andThen];rw[hx];simp only[h1,h2,h3,h4,h5,Bool.false_eq_true,if_false,Option.isNone_none,if_true,mark,Sem.run_bind,Sem.run,Result.andThen];rfl
def RX (h:qQ.ov<1000000000):@BF qQ Tryz.prog:=by
 first
  |exact absurd h bd
  |exact@OI qQ rfl
def RL:Tryz.prog.info? 1000000000=none:=bj
def EM:Tz.prog.info? 1000000000=none:=RL
def oB:Tryz.prog.globals.size=9:=bj
def JI (h:Ax fns=true)(h1:∀f,ok.fn f=fns.contains f)(h2:∀f,ok.aX f=true->fns.contains f=true/\Tz.iv.contains f=false)(h3:∀c,ok.code c=@dg qQ Tryz.prog ok.fn c):@dL qQ Tz.prog Tz.prog ok/\@dL qQ Tz.prog Tryz.prog ok:=by
 letI:=qQ;have sJ:ok.fn=λf=>fns.contains f:=funext h1
 have kl:∀f,ok.fn f=true->∃fn,Tz.prog.funcs[f]?=some fn/\fn.body.isSome=true/\(fn.name== "runtime.NumGoroutine")=false:=λf hf=>by
  cases e:Tz.iv.contains f with
  |true=>let⟨fn,a1,a2,a3⟩:=yM e;exact⟨_,Tz.Ca a1 e,rfl,a3⟩
  |false=>
   let⟨fn,c,a1,a2,a3,_⟩:=qo h ((h1 f).symm.trans hf) e;exact⟨fn,IM e a1 a2,by rw[a2];rfl,a3⟩
 have kr:∀f,ok.fn f=true->∃fn,Tryz.prog.funcs[f]?=some fn/\fn.body.isSome=true/\(fn.name== "runtime.NumGoroutine")=false:=λf hf=>by
  cases e:Tz.iv.contains f with
  |true=>exact yM e
  |false=>
   let⟨fn,c,a1,a2,a3,_⟩:=qo h ((h1 f).symm.trans hf) e;exact⟨fn,a1,by rw[a2];rfl,a3⟩
 constructor
 .exact{left:=kl,right:=kl,hole:=EM,over:=TW,same:=λf hf=>(by
   let⟨hc,hne⟩:=h2 f hf;let⟨fn,c,a1,a2,a3,a4⟩:=qo h hc hne;exact⟨fn,c,IM hne a1 a2,IM hne a1 a2,a2,by rw[sJ,I2];exact a4⟩),code:=λc=>(h3 c).trans (I2 ok.fn c).symm,tab:=rfl,D8:=oB}
 .exact{left:=kl,right:=kr,hole:=EM,over:=TW,same:=λf hf=>(by
   let⟨hc,hne⟩:=h2 f hf;let⟨fn,c,a1,a2,a3,a4⟩:=qo h hc hne;exact⟨fn,c,IM hne a1 a2,a1,a2,by rw[sJ];exact a4⟩),code:=h3,tab:=rfl,D8:=oB}
def ground:Frame:={fn:=1000000000,tmps:=#[],todo:=[.call {target:=.nil,args:=#[]} false "fmt's door: none" #[]],defers:=[],mode:=.run,kind:=.normal}
def D_:Tz.prog.funcs[1000000000]?=none:=bj
def Wj:(Extern.next "fmt's door: none").isNone=true:=bj
def Nl:jA Tz.prog ground where
 ret:=λv w=>by
  have h:Extern.next "fmt's door: none"=none:=by have:=Wj;simpa using this
  exact⟨_,_,_,by simp[ground,Frame.finish,stepG,stepG.exec,G,h];exact⟨rfl,rfl,rfl⟩⟩
 pan:=λch w=>by
  have hc:Frame.catches Tz.prog (ground.raise ch)=true:=by
   simp[ground,Frame.raise,Frame.catches,D_]
  exact⟨_,_,_,by simp[stepG,G,ground,Frame.raise,unwind]at hc⊢;simp[hc];exact⟨rfl,rfl,rfl⟩⟩
def Sc (h1:∀f,ok.fn f=fns.contains f)(h2:∀f,ok.aX f=(fns.contains f&&!Tz.iv.contains f)):@Shut Tz.prog ok:=by
 intro f xs cs V hf hi;rw[h1]at hf;rw[h2,hf]at hi;let⟨fn,a1,a2,a3⟩:=yM (f:=f) (by simpa using hi);have hg:Tz.prog.funcs[f]?=some {fn with body:=some Tz.wS}:=Tz.Ca a1 (by simpa using hi);exact⟨_,_,_,by simp[Frame.enter,hg,Tz.wS,stepG,stepG.exec,G];exact⟨rfl,rfl,rfl⟩⟩
def D6:List Nat:=[189,160,161,135,195,149,196,231,150,174,109,251,252,138]
def Q4:Ax D6=true:=bj
def Q3:D6.all (λf=>!Tz.iv.contains f)=true:=bj
def UO {okw:Ctx}(h1:∀f,okw.fn f=D6.contains f)(h2:∀f,okw.aX f=D6.contains f)(hp:@dL qQ Tz.prog Tz.prog okw/\@dL qQ Tz.prog Tryz.prog okw):@pt qQ Tryz.prog ok J5 (@bY):=
 letI:=qQ;QQ (Na (okw:=okw) (c:=ground) (P0:=Tz.prog) rfl hp.1 hp.2 (λf h=>by rw[h1]at h;rw[h2];exact h) Nl ⟨UB,UB,by rw[h1];kernel_rfl⟩)
def QP:@pt qQ Tryz.prog ok J5 (@bY):=
 let okw:Ctx:=⟨λf=>D6.contains f,λf=>D6.contains f,λc=>@dg qQ Tryz.prog (λf=>D6.contains f) c⟩
 UO (okw:=okw) (λ_=>rfl) (λ_=>rfl) (JI (ok:=okw) Q4 (λ_=>rfl) (λf h=>⟨h,by
  have h0:=Q3;rw[List.all_eq_true]at h0;have:=h0 f (by simpa using(show D6.contains f=true from h));simpa using this⟩) (λ_=>rfl))
def YE:List Nat:=[3,276,287,291,292,277,7,8,9,10,11,12,13,14,15,16,17,18,19,20,21,106,278,279,80,69,288,289,290,79,52,33,34,37,36,35,38,39,40,41,42,43,44,26,45,46,27,47,48,49,50,51,134,135,136,137,281,280,110,282,111,67,68,70,71,72,73,74,56,75,76,77,78,154,107,284,140,139,99,100,101,102,103,104,105,83,108,109,162,163,164,130,131,132,133,113,138,146,197,147,198,201,233,173,172,200,199,234,149,235,195,224,225,216,217,218,219,220,221,222,223,236,174,253,246,247,248,249,250,258]
def Q2:Ax YE=true:=bj
def Nm:YE.all (λf=>(Tryz.prog.inits.idxOf? f).isNone)=true:=bj
section
variable {H:Type}{enc:TypeId×Value->H}
def pj {a:Assume}{C:Checked}{os:Os}{f:FuncId}{s:ChangeSpec}{conds:List PathCond}{apart fresh handsOn again:Bool}{X:World->Array Value->Prop}
  (hX:∀(w w':World) (args:Array Value),w.heap=w'.heap->X w args->X w' args)
  (own:ownKnob C.prog.godebug=none)(started:os.Started)(sJ:C.prog.funcs[f]?=some fn)
  (witness:∃(w:World) (tape:Tape) (i:Input),w.os=os/\(w.forCall tape i).Shaped C.prog/\i.vars=[]/\Input.okWide C.prog (w.forCall tape i) .any w.heap.size f i/\
   ((s.pre enc C.prog fn conds apart (w.forCall tape i).memory i.args/\X (w.forCall tape i).memory i.args)/\sizedMet enc C.prog fn (OpenSpec.ofChange s) apart (w.forCall tape i).memory i.args)/\a.holds C.prog (lone (Frame.enter C.prog f i.args .normal) []<|w.forCall tape i))
  (runs:∀(W:World) (base:Nat) (args:Array Value) (ds gs:List (DataW H)) (before:List MemPlace),W.ShapedOpen C.prog->
   (∀(j:Nat) t v,fn.params[j]?=some t->args[j]?=some v->Value.okWide C.prog W .any base t v)->
   DataW.Whole enc C.prog fn.params.toList s.vars apart W args.toList ds gs before->X W args->
   ∃M last o w' t',runNT C.prog (M+1) (solo (G (Frame.enter C.prog f args .normal) []) W) #[]=(.ended o w',t')/\runN C.prog M (solo (G (Frame.enter C.prog f args .normal) []) W)=.next last/\
    step C.prog last=.ended o w'/\Conc.Good C.prog (λv W'=>s.post enc C.prog fn apart fresh handsOn again W args v W') last o w' t'):
  ReturnsInLeavingWide a C os f .any (λw args=>(s.pre enc C.prog fn conds apart w args/\X w args)/\sizedMet enc C.prog fn (OpenSpec.ofChange s) apart w args) (s.post enc C.prog fn apart fresh handsOn again):=by
 refine returnsInLeavingWide_of_good own started witness ?_;intro w tape i _ lh _ eO Cq aa4;let⟨_,_,_,dC,aaX,_,_,_,_,hval⟩:=eO;have e:dC=fn:=ac9<|aaX.symm.trans sJ;subst e;let⟨⟨⟨ds,gs,before,hw,hc⟩,hx⟩,hz⟩:=Cq;have hw':=DataW.Whole.of_heap (w':=w.forCall tape i) bD hw;let⟨M,last,o,w',t',h1,h2,h3,h4⟩:=runs (w.forCall tape i) w.heap.size i.args ds gs before lh hval hw'<|hX _ _ _ bD hx;exact⟨M,last,o,w',t',h1,h2,h3,h4.mono λv hp=>ChangeSpec.post_blind hp⟩
end
def et:Tryz.prog.globalNamed "errors.errorType"=some 0:=bj
def rt:(Tryz.prog.cutTypes.find? (·.1== "internal/reflectlite.rtype")).map (·.2)=some 187:=bj
def Wv:((List.range 343).filter λt=>Tryz.prog.rowNamed t [101,114,114,111,114])=[93]:=bj
def Wc:Tryz.prog.types.size=343:=bj
def xz (h:laidMetH Tryz.prog [("errors.errorType",Rows.laid_errors_errorType)] W):W.cell? ⟨0,0,none⟩=some (.iface 187<|.agg #[.pointer<|some ⟨9,93,none⟩]):=by
 have h':laidMet Tryz.prog [] W/\handlesMet Tryz.prog [("errors.errorType",Rows.laid_errors_errorType)] W:=h;let⟨name,u,ty,e1,e2,e3,e4,e5⟩:=h'.2 _<|List.mem_singleton.2 rfl;have en:name=[101,114,114,111,114]:=(ac9 e1).symm;subst en;obtain rfl:=ac9<|rt.symm.trans e2;have hm:ty∈(List.range 343).filter λt=>Tryz.prog.rowNamed t [101,114,114,111,114]:=List.mem_filter.2 ⟨List.mem_range.2 (by rw[<-Wc];exact e3),e4⟩
 rw[Wv]at hm;obtain rfl:=List.mem_singleton.1 hm;have hh:typeHandle Tryz.prog 93=.pointer (some ⟨9,93,none⟩):=bj;rw[hh]at e5;have:=World.var?_cell et e5 0;simpa using this
def ut:((begin Tryz.prog (λ_ _=>0) default).world.heap[0]?).bind Obj.row?=some (#[.nilIface],165):=bj
def OV:(((begin Tryz.prog (λ_ _=>0) default).world.heap[9-1]?).bind Obj.row?).isSome=true:=bj
def U1 (hs:W.ShapedOpen Tryz.prog)(h:laidMetH Tryz.prog [("errors.errorType",Rows.laid_errors_errorType)] W):W.heap[0]?=some xf/\qQ.n<=W:=by
 have hc:=xz h;let⟨cs,h1,h2,_⟩:=hs.1 0 _ _ (by rw[oB];decide) ut;let⟨⟨z,t⟩,hz⟩:=Option.isSome_iff_exists.1 OV;let⟨cs',h3,_⟩:=hs.1 (9-1) z t (by rw[oB];decide) hz;have h4:=(ac5.1 h3).1;refine⟨?_,by show 9<=_;omega⟩;let⟨l⟩:=cs;match l,h2 with
 |[x],_=>
  simp[World.cell?,h1]at hc;rw[h1,hc];rfl
noncomputable def AH (os:Os):World:=
 let w0:=World.holding Tryz.prog os ⟨#[],#[],[]⟩
 {w0 with heap:=w0.heap.modify 0 λ
   |.cells _ t frozen=>.cells #[.iface 187<|.agg #[.pointer<|some ⟨9,93,none⟩]] t frozen
   |o=>o}
def zC (os:Os)(args:Array Value):laidMetH Tryz.prog [("errors.errorType",Rows.laid_errors_errorType)] ((AH os).forCall (λ_ _=>0) ⟨#[],args,[]⟩).memory:=
 laidMetH_of_parts (laidMet_nil _ _) bj
def LL (Lk:Looks){p:Pinned}{s:OpenSpec}{c:OpenClaim}(kinds:List LaidKind)(tests:Bool)(Vj:Bool×String)(lk:Bool)
  (hc:c.holds p s)(hw:c.wfByText s=true)(abn:c.laidByTextAt Lk p kinds tests)
  (de:c.start=.entering)(Ru:c.noBlocks=false/\c.again=false)(hm:p.checked.prog.mainIs=some (Vj.1,Vj.2.toList))(hn:(!Vj.1&&Vj.2.isEmpty&&!lk)=false)
  (hl:∀f fn,p.checked.prog.funcNamed c.func=some f->p.checked.prog.funcs[f]?=some fn->lk=p.checked.prog.looks []/\∀(j:Nat) t,fn.params[j]?=some t->p.checked.prog.wantsStandIn t=false)
  (hg:true=c.goesBy p.checked.prog):
  Claim7.holds p (.plain s) {stood:={row:=c,standIns:=[],harness:=Vj,looks:=lk},kinds:=[],alts:=[],goes:=true,laidByText:=true,laidKinds:=kinds,laidTests:=tests,laidLooks:=Lk}:=by
 have h6:Claim7.isSixth {stood:={row:=c,standIns:=[],harness:=Vj,looks:=lk},kinds:=[]}=false:=by simpa[Claim7.isSixth]using hn
 exact⟨Claim7.tied_new_at Lk kinds tests (Claim7.new_of_sixth hc Vj lk de Ru hm h6 hl) hw,(λD hD=>by cases hD),abn,(λh=>qK),hg⟩
def not_row {fits:TypeId->Bool}(hf:fits 165=false):∀d c off n,rowAt Tryz.prog fits d 165 c off n=false
 |0,_,_,_=>rfl
 |d+1,c,off,n=>by
  unfold rowAt;rw[Tryz.underlying165,hf];dsimp only;split
  .rfl
  .simp
def OB (he:sameLayout Tryz.prog Tryz.prog.depth 165 e=false)(ha:∀m u,Tryz.prog.underlying e≠some (.array m u))(c off n:Nat):∀d,liesAt Tryz.prog d 165 c off e n=false
 |0=>rfl
 |d+1=>by
  unfold liesAt;rw[not_row he];cases hu:Tryz.prog.underlying e with
  |none=>rfl
  |some x=>
   cases x with
   |array m u=>exact(ha m u hu).elim
   |_=>rfl
def Gy {r:Reach}{base:Nat}{t:TypeId}{x:Addr}{n cap:Nat}(ht:Tryz.prog.underlying t=some (.slice e))(he:sameLayout Tryz.prog Tryz.prog.depth 165 e=false)(ha:∀m u,Tryz.prog.underlying e≠some (.array m u))(hW:W.heap[0]?=some xf)(h:Cell.okWide Tryz.prog W r base t (.slice (some x) n cap)):(∃cs e z,W.heap[x.block]?=some (.cells cs e z))/\x.block≠0:=by
 simp only[ht,Cell.okWide,Cell.ok]at h;let⟨_,_,_,hs,row,cells,lh,hl⟩:=h;refine⟨?_,λh0=>?_⟩
 .unfold World.shape? at lh;split at lh
  .rename_i c el z hc;exact⟨c,el,z,hc⟩
  .cases lh
 .rw[h0]at lh;simp[World.shape?,hW,xf]at lh;obtain⟨rfl,_⟩:=lh;rw[OB he ha]at hl;cases hl
