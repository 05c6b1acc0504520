import Derived.Test.YtlmcblcijndipaaGreatDoora28
import Derived.Test.YtlmcblcijndipaaGreatDoora30
import Derived.Conc.LeavingOf
import Derived.Handed
import Derived.LaidLaws
import Derived.LaidHandle
import Derived.ChangeSame
import Derived.ChangeVars
import Derived.Test.YtlmcblcijndipaaGreatDoorCards
import Derived.Test.YtlmcblcijndipaaGreatDoorTie
import Derived.Stop.Joined
import Derived.SevenTiedAt
set_option linter.defProp false
set_option linter.unusedVariables false
set_option maxRecDepth 100000
namespace Go.Proofs.YtlmcblcijndipaaGreatDoor
open ChangeAt ChangeShapes Conc RowKit WideShapes
variable {ok:Ctx}{fn:Func}{fns:List Nat}{f:Nat}{e:TypeId}{W:World}
@[reducible] def qJ:Gl:={n:=9,ov:=283}
section
variable [Gl]
omit [Gl] in
def LG (P:Program)(fs:Array Func):∀d a b,Program.alikeButTags {P with funcs:=fs} d a b=P.alikeButTags d a b:=by
 intro d;induction d with
 |zero=>intro a b;rfl
 |succ d ih=>intro a b;unfold Program.alikeButTags;simp only[ih]
omit [Gl] in
def LO (P:Program)(fs:Array Func)(op:BinOp)(t:TypeId):kU {P with funcs:=fs} op t=kU P op t:=by
 unfold kU R5 TX Program.stoodInHeld Program.stoodInAs;simp only[LG];rfl
def QO (P:Program)(fs:Array Func)(fn:FuncId->Bool)(op:Op):lJ {P with funcs:=fs} fn op=lJ P fn op:=by
 cases op with
 |binOp o t x y u=>
  show((kU {P with funcs:=fs} o t||uK {P with funcs:=fs} o t y)&&eA fn x&&eA fn y)=((kU P o t||uK P o t y)&&eA fn x&&eA fn y);rw[LO];rfl
 |_=>rfl
def JL (P:Program)(fs:Array Func)(fn:FuncId->Bool):∀c,dh {P with funcs:=fs} fn c=dh P fn c:=by
 intro c;induction c with
 |seq a b ha hb=>simp only[dh,ha,hb]
 |cond x a b ha hb=>simp only[dh,ha,hb]
 |block i b hb=>simp only[dh,hb]
 |loop b hb=>simp only[dh,hb]
 |rangeFunc f ps a b ha hb=>simp only[dh,ha,hb]
 |region i ops d=>simp only[dh,QO]
 |_=>rfl
end
def Ix (fn:FuncId->Bool)(c:Code):@dh qJ Tz.prog fn c=@dh qJ Tryz.prog fn c:=@JL qJ Tryz.prog _ fn c
noncomputable def Gi (fns:List Nat)(fn:Func):Bool:=!(fn.name== "runtime.NumGoroutine")&&(match fn.body with|some c=>@dh qJ Tryz.prog (λf=>fns.contains f) c|none=>false)
noncomputable def Aq (fns:List Nat):Bool:=fns.all λk=>Tz.iq.contains k||(match Tryz.prog.funcs[k]? with|some fn=>Gi fns fn|none=>false)
def qi (h:Aq fns=true)(hf:fns.contains f=true)(hne:Tz.iq.contains f=false):∃fn c,Tryz.prog.funcs[f]?=some fn/\fn.body=some c/\(fn.name== "runtime.NumGoroutine")=false/\@dh qJ Tryz.prog (λf=>fns.contains f) c=true:=by
 unfold Aq at h;rw[List.all_eq_true]at h;have h1:=h f (by simpa using hf);rw[ady]at h1;have h2:=h1.resolve_left (by rw[hne];simp);generalize Tryz.prog.funcs[f]?=x at h2;cases x with
 |none=>cases h2
 |some fn=>
  replace h2:Gi fns fn=true:=h2;unfold Gi at h2;rw[adz]at h2;let⟨h3,h4⟩:=h2;cases hb:fn.body with
  |none=>rw[hb]at h4;cases h4
  |some c=>rw[hb]at h4;exact⟨fn,c,rfl,hb,by simpa using h3,h4⟩
def Ra:Tz.iq.all (λk=>match Tryz.prog.funcs[k]? with|some fn=>fn.body.isSome&&!(fn.name== "runtime.NumGoroutine")|none=>false)=true:=bD
def yC (h:Tz.iq.contains f=true):∃fn,Tryz.prog.funcs[f]?=some fn/\fn.body.isSome=true/\(fn.name== "runtime.NumGoroutine")=false:=by
 have h0:=Ra;rw[List.all_eq_true]at h0;have h1:=h0 f oO;generalize Tryz.prog.funcs[f]?=x at h1;cases x with
 |none=>cases h1
 |some fn=>
  replace h1:(fn.body.isSome&&!(fn.name== "runtime.NumGoroutine"))=true:=h1;rw[adz]at h1;exact⟨fn,rfl,h1.1,by simpa using h1.2⟩
def JM:(Tryz.prog.funcs[Tz.Aj]?).all (λf=>f.body.isNone)=true:=bD
def Id {c:Code}(hne:Tz.iq.contains f=false)(h:Tryz.prog.funcs[f]?=some fn)(hb:fn.body=some c):Tz.prog.funcs[f]?=some fn:=Tz.aM h (by
 rw[Bool.or_eq_false_iff];refine⟨hne,?_⟩;cases e:(f==Tz.Aj)with
 |false=>rfl
 |true=>
  have e':f=Tz.Aj:=by simpa using e
  have h0:=JM;rw[<-e',h]at h0;simp[hb]at h0)
def R4:Option Func->Bool
 |none=>true
 |some fn=>!(fn.name== "runtime.NumGoroutine")&&fn.body.isNone&&(Extern.findNext fn).isNone&&(Extern.find fn).isNone&&!(fn.name.endsWith ".init"&&!fn.name.startsWith "("&&!fn.name.startsWith "gosem.")
def XB:R4 Tz.prog.funcs[qJ.ov]?=true:=bD
def SQ (xs:Array Value)(V:World):Result.stops ((callFunc qJ.ov xs).run Tz.prog V)=true:=by
 have h:=XB;generalize hx:Tz.prog.funcs[qJ.ov]?=x at h;cases x with
 |none=>
  simp only[callFunc,program,Sem.run_bind,Sem.run,Result.andThen];rw[hx];rfl
 |some fn=>
  simp only[R4,Bool.and_eq_true,Bool.not_eq_true',Option.isNone_iff_eq_none]at h;obtain⟨⟨⟨⟨h1,h2⟩,h3⟩,h4⟩,h5⟩:=h;simp only[callFunc,program,Sem.run_bind,Sem.run,Result.andThen];rw[hx];simp only[h1,h2,h3,h4,h5,Bool.false_eq_true,if_false,Option.isNone_none,if_true,mark,Sem.run_bind,Sem.run,Result.andThen];rfl
def QS (h:qJ.ov<1000000000):@Bh qJ Tryz.prog:=by
 first
  |exact absurd h bF
  |exact@NO qJ rfl
def QJ:Tryz.prog.info? 1000000000=none:=bD
def Em:Tz.prog.info? 1000000000=none:=QJ
def oa:Tryz.prog.globals.size=9:=bD
def Ja (h:Aq fns=true)(h1:∀f,ok.fn f=fns.contains f)(h2:∀f,ok.bh f=true->fns.contains f=true/\Tz.iq.contains f=false)(h3:∀c,ok.code c=@dh qJ Tryz.prog ok.fn c):@dM qJ Tz.prog Tz.prog ok/\@dM qJ Tz.prog Tryz.prog ok:=by
 letI:=qJ;have sz:ok.fn=λf=>fns.contains f:=funext h1
 have kl:∀f,ok.fn f=true->∃fn,Tz.prog.funcs[f]?=some fn/\fn.body.isSome=true/\(fn.name== "runtime.NumGoroutine")=false:=λf hf=>by
  cases e:Tz.iq.contains f with
  |true=>let⟨fn,a1,a2,a3⟩:=yC e;exact⟨_,Tz.BO a1 e,rfl,a3⟩
  |false=>
   let⟨fn,c,a1,a2,a3,_⟩:=qi h ((h1 f).symm.trans hf) e;exact⟨fn,Id e a1 a2,by rw[a2];rfl,a3⟩
 have kr:∀f,ok.fn f=true->∃fn,Tryz.prog.funcs[f]?=some fn/\fn.body.isSome=true/\(fn.name== "runtime.NumGoroutine")=false:=λf hf=>by
  cases e:Tz.iq.contains f with
  |true=>exact yC e
  |false=>
   let⟨fn,c,a1,a2,a3,_⟩:=qi h ((h1 f).symm.trans hf) e;exact⟨fn,a1,by rw[a2];rfl,a3⟩
 constructor
 .exact{left:=kl,right:=kl,hole:=Em,over:=SQ,same:=λf hf=>(by
   let⟨hc,hne⟩:=h2 f hf;let⟨fn,c,a1,a2,a3,a4⟩:=qi h hc hne;exact⟨fn,c,Id hne a1 a2,Id hne a1 a2,a2,by rw[sz,Ix];exact a4⟩),code:=λc=>(h3 c).trans (Ix ok.fn c).symm,tab:=rfl,DL:=oa}
 .exact{left:=kl,right:=kr,hole:=Em,over:=SQ,same:=λf hf=>(by
   let⟨hc,hne⟩:=h2 f hf;let⟨fn,c,a1,a2,a3,a4⟩:=qi h hc hne;exact⟨fn,c,Id hne a1 a2,a1,a2,by rw[sz];exact a4⟩),code:=h3,tab:=rfl,DL:=oa}
def ground:Frame:={fn:=1000000000,tmps:=#[],todo:=[.call {target:=.nil,args:=#[]} false "fmt's door: none" #[]],defers:=[],mode:=.run,kind:=.normal}
def ZM:Tz.prog.funcs[1000000000]?=none:=bD
def Va:(Extern.next "fmt's door: none").isNone=true:=bD
def Mq:jE Tz.prog ground where
 ret:=λv w=>by
  have h:Extern.next "fmt's door: none"=none:=by have:=Va;simpa using this
  exact⟨_,_,_,by simp[ground,Frame.finish,stepG,stepG.exec,G,h];exact⟨rfl,rfl,rfl⟩⟩
 pan:=λch w=>by
  have hc:Frame.catches Tz.prog (ground.raise ch)=true:=by
   simp[ground,Frame.raise,Frame.catches,ZM]
  exact⟨_,_,_,by simp[stepG,G,ground,Frame.raise,unwind]at hc⊢;simp[hc];exact⟨rfl,rfl,rfl⟩⟩
def Q9 (h1:∀f,ok.fn f=fns.contains f)(h2:∀f,ok.bh f=(fns.contains f&&!Tz.iq.contains f)):@Shut Tz.prog ok:=by
 intro f xs cs V hf hi;rw[h1]at hf;rw[h2,hf]at hi;let⟨fn,a1,a2,a3⟩:=yC (f:=f) (by simpa using hi);have hg:Tz.prog.funcs[f]?=some {fn with body:=some Tz.wy}:=Tz.BO a1 (by simpa using hi);exact⟨_,_,_,by simp[Frame.enter,hg,Tz.wy,stepG,stepG.exec,G];exact⟨rfl,rfl,rfl⟩⟩
def DK:List Nat:=[189,160,161,135,195,149,196,231,150,174,109,251,252,138]
def P6:Aq DK=true:=bD
def P5:DK.all (λf=>!Tz.iq.contains f)=true:=bD
def TQ {okw:Ctx}(h1:∀f,okw.fn f=DK.contains f)(h2:∀f,okw.bh f=DK.contains f)(hp:@dM qJ Tz.prog Tz.prog okw/\@dM qJ Tz.prog Tryz.prog okw):@pj qJ Tryz.prog ok Jy (@cX):=
 letI:=qJ;PS (L9 (okw:=okw) (c:=ground) (P0:=Tz.prog) rfl hp.1 hp.2 (λf h=>by rw[h1]at h;rw[h2];exact h) Mq ⟨TD,TD,by rw[h1];kernel_rfl⟩)
def PR:@pj qJ Tryz.prog ok Jy (@cX):=
 let okw:Ctx:=⟨λf=>DK.contains f,λf=>DK.contains f,λc=>@dh qJ Tryz.prog (λf=>DK.contains f) c⟩
 TQ (okw:=okw) (λ_=>rfl) (λ_=>rfl) (Ja (ok:=okw) P6 (λ_=>rfl) (λf h=>⟨h,by
  have h0:=P5;rw[List.all_eq_true]at h0;have:=h0 f (by simpa using(show DK.contains f=true from h));simpa using this⟩) (λ_=>rfl))
def XM:List Nat:=[4,276,287,291,292,277,22,8,9,15,18,19,23,10,11,16,12,106,278,279,80,69,288,289,290,79,52,33,53,37,36,35,34,54,38,39,40,41,42,43,44,26,48,49,21,55,45,46,50,27,134,135,136,137,281,280,110,282,111,81,82,67,68,70,71,72,73,74,56,75,76,77,78,154,107,284,140,139,14,112,99,100,101,102,103,104,105,83,108,109,162,163,164,25,130,131,132,133,113,138,146,197,147,198,201,233,173,172,200,199,234,149,235,195,224,225,216,217,218,219,220,221,222,223,236,174,253,246,247,248,249,250,258]
def P4:Aq XM=true:=bD
def Mu:XM.all (λf=>(Tryz.prog.inits.idxOf? f).isNone)=true:=bD
section
variable {H:Type}{enc:TypeId×Value->H}
def oX {a:Assume}{C:Checked}{os:Os}{f:FuncId}{s:ChangeSpec}{conds:List PathCond}{apart fresh handsOn again:Bool}{X:World->Array Value->Prop}
  (hX:∀(w w':World) (args:Array Value),w.heap=w'.heap->X w args->X w' args)
  (own:ownKnob C.prog.godebug=none)(started:os.Started)(sz:C.prog.funcs[f]?=some fn)
  (witness:∃(w:World) (tape:Tape) (i:Input),w.os=os/\(w.forCall tape i).Shaped C.prog/\i.vars=[]/\Input.okWide C.prog (w.forCall tape i) .any w.heap.size f i/\
   ((s.pre enc C.prog fn conds apart (w.forCall tape i).memory i.args/\X (w.forCall tape i).memory i.args)/\sizedMet enc C.prog fn (OpenSpec.ofChange s) apart (w.forCall tape i).memory i.args)/\a.holds C.prog (lone (Frame.enter C.prog f i.args .normal) []<|w.forCall tape i))
  (runs:∀(W:World) (base:Nat) (args:Array Value) (ds gs:List (DataW H)) (before:List MemPlace),W.ShapedOpen C.prog->
   (∀(j:Nat) t v,fn.params[j]?=some t->args[j]?=some v->Value.okWide C.prog W .any base t v)->
   DataW.Whole enc C.prog fn.params.toList s.vars apart W args.toList ds gs before->X W args->
   ∃M last o w' t',runNT C.prog (M+1) (solo (G (Frame.enter C.prog f args .normal) []) W) #[]=(.ended o w',t')/\runN C.prog M (solo (G (Frame.enter C.prog f args .normal) []) W)=.next last/\
    step C.prog last=.ended o w'/\Conc.Good C.prog (λv W'=>s.post enc C.prog fn apart fresh handsOn again W args v W') last o w' t'):
  ReturnsInLeavingWide a C os f .any (λw args=>(s.pre enc C.prog fn conds apart w args/\X w args)/\sizedMet enc C.prog fn (OpenSpec.ofChange s) apart w args) (s.post enc C.prog fn apart fresh handsOn again):=by
 refine returnsInLeavingWide_of_good own started witness ?_;intro w tape i _ ku _ ez Cb aaX;let⟨_,_,_,dC,aaQ,_,_,_,_,hval⟩:=ez;have e:dC=fn:=adb<|aaQ.symm.trans sz;subst e;let⟨⟨⟨ds,gs,before,hw,hc⟩,hx⟩,hz⟩:=Cb;have hw':=DataW.Whole.of_heap (w':=w.forCall tape i) cj hw;let⟨M,last,o,w',t',h1,h2,h3,h4⟩:=runs (w.forCall tape i) w.heap.size i.args ds gs before ku hval hw'<|hX _ _ _ cj hx;exact⟨M,last,o,w',t',h1,h2,h3,h4.mono λv hp=>ChangeSpec.post_blind hp⟩
end
def et:Tryz.prog.globalNamed "errors.errorType"=some 0:=bD
def rt:(Tryz.prog.cutTypes.find? (·.1== "internal/reflectlite.rtype")).map (·.2)=some 187:=bD
def Vj:((List.range 343).filter λt=>Tryz.prog.rowNamed t [101,114,114,111,114])=[93]:=bD
def U5:Tryz.prog.types.size=343:=bD
def wY (h:laidMetH Tryz.prog [("errors.errorType",Rows.laid_errors_errorType)] W):W.cell? ⟨0,0,none⟩=some (.iface 187<|.agg #[.pointer<|some ⟨9,93,none⟩]):=by
 have h':laidMet Tryz.prog [] W/\handlesMet Tryz.prog [("errors.errorType",Rows.laid_errors_errorType)] W:=h;let⟨name,u,ty,e1,e2,e3,e4,e5⟩:=h'.2 _<|List.mem_singleton.2 rfl;have en:name=[101,114,114,111,114]:=(adb e1).symm;subst en;obtain rfl:=adb<|rt.symm.trans e2;have hm:ty∈(List.range 343).filter λt=>Tryz.prog.rowNamed t [101,114,114,111,114]:=List.mem_filter.2 ⟨List.mem_range.2 (by rw[<-U5];exact e3),e4⟩
 rw[Vj]at hm;obtain rfl:=List.mem_singleton.1 hm;have hh:typeHandle Tryz.prog 93=.pointer (some ⟨9,93,none⟩):=bD;rw[hh]at e5;have:=World.var?_cell et e5 0;simpa using this
def uc:((begin Tryz.prog (λ_ _=>0) default).world.heap[0]?).bind Obj.row?=some (#[.nilIface],165):=bD
def N8:(((begin Tryz.prog (λ_ _=>0) default).world.heap[9-1]?).bind Obj.row?).isSome=true:=bD
def T3 (hs:W.ShapedOpen Tryz.prog)(h:laidMetH Tryz.prog [("errors.errorType",Rows.laid_errors_errorType)] W):W.heap[0]?=some wO/\qJ.n<=W:=by
 have hc:=wY h;let⟨cs,h1,h2,_⟩:=hs.1 0 _ _ (by rw[oa];decide) uc;let⟨⟨z,t⟩,hz⟩:=Option.isSome_iff_exists.1 N8;let⟨cs',h3,_⟩:=hs.1 (9-1) z t (by rw[oa];decide) hz;have h4:=(ac7.1 h3).1;refine⟨?_,by show 9<=_;omega⟩;let⟨l⟩:=cs;match l,h2 with
 |[x],_=>
  simp[World.cell?,h1]at hc;rw[h1,hc];rfl
noncomputable def AB (os:Os):World:=
 let w0:=World.holding Tryz.prog os ⟨#[],#[],[]⟩
 {w0 with heap:=w0.heap.modify 0 λ
   |.cells _ t frozen=>.cells #[.iface 187<|.agg #[.pointer<|some ⟨9,93,none⟩]] t frozen
   |o=>o}
def zr (os:Os)(args:Array Value):laidMetH Tryz.prog [("errors.errorType",Rows.laid_errors_errorType)] ((AB os).forCall (λ_ _=>0) ⟨#[],args,[]⟩).memory:=
 laidMetH_of_parts (laidMet_nil _ _) bD
def KY (Lk:Looks){p:Pinned}{s:OpenSpec}{c:OpenClaim}(kinds:List LaidKind)(tests:Bool)(Uk:Bool×String)(lk:Bool)
  (hc:c.holds p s)(hw:c.wfByText s=true)(abg:c.laidByTextAt Lk p kinds tests)
  (dz:c.start=.entering)(Dc:c.noBlocks=false/\c.again=false)(hm:p.checked.prog.mainIs=some (Uk.1,Uk.2.toList))(hn:(!Uk.1&&Uk.2.isEmpty&&!lk)=false)
  (hl:∀f fn,p.checked.prog.funcNamed c.func=some f->p.checked.prog.funcs[f]?=some fn->lk=p.checked.prog.looks []/\∀(j:Nat) t,fn.params[j]?=some t->p.checked.prog.wantsStandIn t=false)
  (hg:true=c.goesBy p.checked.prog):
  Claim7.holds p (.plain s) {stood:={row:=c,standIns:=[],harness:=Uk,looks:=lk},kinds:=[],alts:=[],goes:=true,laidByText:=true,laidKinds:=kinds,laidTests:=tests,laidLooks:=Lk}:=by
 have h6:Claim7.isSixth {stood:={row:=c,standIns:=[],harness:=Uk,looks:=lk},kinds:=[]}=false:=by simpa[Claim7.isSixth]using hn
 exact⟨Claim7.tied_new_at Lk kinds tests (Claim7.new_of_sixth hc Uk lk dz Dc hm h6 hl) hw,(λD hD=>by cases hD),abg,(λh=>qC),hg⟩
def not_row {fits:TypeId->Bool}(hf:fits 165=false):∀d c off n,rowAt Tryz.prog fits d 165 c off n=false
 |0,_,_,_=>rfl
 |d+1,c,off,n=>by
  unfold rowAt;rw[Tryz.underlying165,hf];dsimp only;split
  .rfl
  .simp
def NI (he:sameLayout Tryz.prog Tryz.prog.depth 165 e=false)(ha:∀m u,Tryz.prog.underlying e≠some (.array m u))(c off n:Nat):∀d,liesAt Tryz.prog d 165 c off e n=false
 |0=>rfl
 |d+1=>by
  unfold liesAt;rw[not_row he];cases hu:Tryz.prog.underlying e with
  |none=>rfl
  |some x=>
   cases x with
   |array m u=>exact(ha m u hu).elim
   |_=>rfl
def wF {r:Reach}{base:Nat}{t:TypeId}{x:Addr}{n cap:Nat}(ht:Tryz.prog.underlying t=some (.slice e))(he:sameLayout Tryz.prog Tryz.prog.depth 165 e=false)(ha:∀m u,Tryz.prog.underlying e≠some (.array m u))(hW:W.heap[0]?=some wO)(h:Cell.okWide Tryz.prog W r base t (.slice (some x) n cap)):(∃cs e z,W.heap[x.block]?=some (.cells cs e z))/\x.block≠0:=by
 simp only[ht,Cell.okWide,Cell.ok]at h;let⟨_,_,_,hs,row,cells,ku,hl⟩:=h;refine⟨?_,λh0=>?_⟩
 .unfold World.shape? at ku;split at ku
  .rename_i c el z hc;exact⟨c,el,z,hc⟩
  .cases ku
 .rw[h0]at ku;simp[World.shape?,hW,wO]at ku;obtain⟨rfl,_⟩:=ku;rw[NI he ha]at hl;cases hl
