import Derived.Test.YtlmcblcijndipabGreatDoorAd36
import Derived.Test.YtlmcblcijndipabGreatDoorAd19
import Derived.Test.YtlmcblcijndipabGreatDoorAd28
import Derived.Conc.LeavingOf
import Derived.Test.YtlmcblcijndipabGreatDoorCards
import Derived.Test.YtlmcblcijndipabGreatDoorTie
set_option linter.unusedVariables false
set_option maxRecDepth 100000
namespace Go.Proofs.YtlmcblcijndipabGreatDoor
section
open Go Go.Conc Go.RowKit
@[reducible] def j0:Gl:={n:=9,ov:=278}
section
variable [Gl]
theorem Co (P:Program)(fs:Array Func)(fn:FuncId->Bool)(op:Op):ge {P with funcs:=fs} fn op=ge P fn op:=by cases op<;>rfl
theorem yH (P:Program)(fs:Array Func)(fn:FuncId->Bool):∀c,aR {P with funcs:=fs} fn c=aR P fn c:=by
 intro c;induction c with
 |seq a b ha hb=>simp only[aR,ha,hb]
 |cond x a b ha hb=>simp only[aR,ha,hb]
 |block i b hb=>simp only[aR,hb]
 |loop b hb=>simp only[aR,hb]
 |scope b hb=>simp only[aR,hb]
 |rangeFunc f ps a b ha hb=>simp only[aR,ha,hb]
 |region i ops d=>simp only[aR,Co]
 |_=>rfl
end
theorem xf (fn:FuncId->Bool)(c:Code):@aR j0 Tz.prog fn c=@aR j0 Tryz.prog fn c:=@yH j0 Tryz.prog _ fn c
noncomputable def vU (fns:List Nat)(fn:Func):Bool:=!(fn.name== "runtime.NumGoroutine")&&(match fn.body with|some c=>@aR j0 Tryz.prog (λf=>fns.contains f) c|none=>false)
noncomputable def qJ (fns:List Nat):Bool:=fns.all λk=>Tz.shutL.contains k||(match Tryz.prog.funcs[k]? with|some fn=>vU fns fn|none=>false)
theorem jP {fns:List Nat}(h:qJ fns=true){f:Nat}(hf:fns.contains f=true)(hne:Tz.shutL.contains f=false):∃fn c,Tryz.prog.funcs[f]?=some fn/\fn.body=some c/\(fn.name== "runtime.NumGoroutine")=false/\@aR j0 Tryz.prog (λf=>fns.contains f) c=true:=by
 unfold qJ at h;rw[List.all_eq_true]at h;have h1:=h f (by simpa using hf);rw[GP]at h1;have h2:=h1.resolve_left (by rw[hne];simp);generalize Tryz.prog.funcs[f]?=x at h2;cases x with
 |none=>cases h2
 |some fn=>
  replace h2:vU fns fn=true:=h2;unfold vU at h2;rw[GQ]at h2;obtain⟨h3,h4⟩:=h2;cases hb:fn.body with
  |none=>rw[hb]at h4;cases h4
  |some c=>rw[hb]at h4;exact⟨fn,c,rfl,hb,by simpa using h3,h4⟩
theorem Cq:Tz.shutL.all (λk=>match Tryz.prog.funcs[k]? with|some fn=>fn.body.isSome&&!(fn.name== "runtime.NumGoroutine")|none=>false)=true:=by kernel_rfl
theorem pu {f:Nat}(h:Tz.shutL.contains f=true):∃fn,Tryz.prog.funcs[f]?=some fn/\fn.body.isSome=true/\(fn.name== "runtime.NumGoroutine")=false:=by
 have h0:=Cq;rw[List.all_eq_true]at h0;have h1:=h0 f (by simpa using h);generalize Tryz.prog.funcs[f]?=x at h1;cases x with
 |none=>cases h1
 |some fn=>
  replace h1:(fn.body.isSome&&!(fn.name== "runtime.NumGoroutine"))=true:=h1;rw[GQ]at h1;exact⟨fn,rfl,h1.1,by simpa using h1.2⟩
theorem yI:(Tryz.prog.funcs[Tz.deadN]?).all (λf=>f.body.isNone)=true:=by kernel_rfl
theorem xh {f:Nat}{fn:Func}{c:Code}(hne:Tz.shutL.contains f=false)(h:Tryz.prog.funcs[f]?=some fn)(hb:fn.body=some c):Tz.prog.funcs[f]?=some fn:=Tz.g_fn h (by
 rw[Bool.or_eq_false_iff];refine⟨hne,?_⟩;cases e:(f==Tz.deadN)with
 |false=>rfl
 |true=>
  have e':f=Tz.deadN:=by simpa using e
  have h0:=yI;rw[<-e',h]at h0;simp[hb]at h0)
def CR:Option Func->Bool
 |none=>true
 |some fn=>!(fn.name== "runtime.NumGoroutine")&&fn.body.isNone&&(Extern.findNext fn).isNone&&(Extern.find fn).isNone&&!(fn.name.endsWith ".init"&&!fn.name.startsWith "("&&!fn.name.startsWith "gosem.")
theorem Ed:CR Tz.prog.funcs[j0.ov]?=true:=by kernel_rfl
theorem CU (xs:Array Value)(V:World):Result.stops ((callFunc j0.ov xs).run Tz.prog V)=true:=by
 have h:=Ed;generalize hx:Tz.prog.funcs[j0.ov]?=x at h;cases x with
 |none=>
  simp only[callFunc,program,Sem.run_bind,Sem.run,Result.andThen];rw[hx];rfl
 |some fn=>
  simp only[CR,Bool.and_eq_true,Bool.not_eq_true',Option.isNone_iff_eq_none]at h;obtain⟨⟨⟨⟨h1,h2⟩,h3⟩,h4⟩,h5⟩:=h;simp only[callFunc,program,Sem.run_bind,Sem.run,Result.andThen];rw[hx];simp only[h1,h2,h3,h4,h5,Bool.false_eq_true,if_false,Option.isNone_none,if_true,mark,Sem.run_bind,Sem.run,Result.andThen];rfl
theorem Cr (h:j0.ov<1000000000):@rB j0 Tryz.prog:=by
 first
  |exact absurd h (by decide)
  |exact@AB j0 rfl
theorem Cs:Tryz.prog.info? 1000000000=none:=by kernel_rfl
theorem us:Tz.prog.info? 1000000000=none:=Cs
theorem iJ:Tryz.prog.globals.size=9:=by kernel_rfl
theorem xj {fns:List Nat}(h:qJ fns=true){ok:Ctx}(h1:∀f,ok.fn f=fns.contains f)(h2:∀f,ok.inn f=true->fns.contains f=true/\Tz.shutL.contains f=false)(h3:∀c,ok.code c=@aR j0 Tryz.prog ok.fn c):@bq j0 Tz.prog Tz.prog ok/\@bq j0 Tz.prog Tryz.prog ok:=by
 letI:=j0;have hfn:ok.fn=λf=>fns.contains f:=funext h1
 have kl:∀f,ok.fn f=true->∃fn,Tz.prog.funcs[f]?=some fn/\fn.body.isSome=true/\(fn.name== "runtime.NumGoroutine")=false:=λf hf=>by
  cases e:Tz.shutL.contains f with
  |true=>obtain⟨fn,a1,a2,a3⟩:=pu e;exact⟨_,Tz.g_shut a1 e,rfl,a3⟩
  |false=>
   obtain⟨fn,c,a1,a2,a3,_⟩:=jP h ((h1 f).symm.trans hf) e;exact⟨fn,xh e a1 a2,by rw[a2];rfl,a3⟩
 have kr:∀f,ok.fn f=true->∃fn,Tryz.prog.funcs[f]?=some fn/\fn.body.isSome=true/\(fn.name== "runtime.NumGoroutine")=false:=λf hf=>by
  cases e:Tz.shutL.contains f with
  |true=>exact pu e
  |false=>
   obtain⟨fn,c,a1,a2,a3,_⟩:=jP h ((h1 f).symm.trans hf) e;exact⟨fn,a1,by rw[a2];rfl,a3⟩
 constructor
 .exact{left:=kl,right:=kl,hole:=us,over:=CU,same:=λf hf=>(by
   obtain⟨hc,hne⟩:=h2 f hf;obtain⟨fn,c,a1,a2,a3,a4⟩:=jP h hc hne;exact⟨fn,c,xh hne a1 a2,xh hne a1 a2,a2,by rw[hfn,xf];exact a4⟩),code:=λc=>(h3 c).trans (xf ok.fn c).symm,tab:=rfl,glob:=iJ}
 .exact{left:=kl,right:=kr,hole:=us,over:=CU,same:=λf hf=>(by
   obtain⟨hc,hne⟩:=h2 f hf;obtain⟨fn,c,a1,a2,a3,a4⟩:=jP h hc hne;exact⟨fn,c,xh hne a1 a2,a1,a2,by rw[hfn];exact a4⟩),code:=h3,tab:=rfl,glob:=iJ}
def ground:Frame:={fn:=1000000000,tmps:=#[],todo:=[.call {target:=.nil,args:=#[]} false "fmt's door: none" #[]],defers:=[],mode:=.run,kind:=.normal}
theorem Ee:Tz.prog.funcs[1000000000]?=none:=by kernel_rfl
theorem DH:(Extern.next "fmt's door: none").isNone=true:=by kernel_rfl
theorem AC:ff Tz.prog ground where
 ret:=λv w=>by
  have h:Extern.next "fmt's door: none"=none:=by have:=DH;simpa using this
  exact⟨_,_,_,by simp[ground,Frame.finish,stepG,stepG.exec,G,h];exact⟨rfl,rfl,rfl⟩⟩
 pan:=λch w=>by
  have hc:Frame.catches Tz.prog (ground.raise ch)=true:=by
   simp[ground,Frame.raise,Frame.catches,Ee]
  exact⟨_,_,_,by simp[stepG,G,ground,Frame.raise,unwind]at hc⊢;simp[hc];exact⟨rfl,rfl,rfl⟩⟩
theorem Ct {fns:List Nat}{ok:Ctx}(h1:∀f,ok.fn f=fns.contains f)(h2:∀f,ok.inn f=(fns.contains f&&!Tz.shutL.contains f)):@Shut Tz.prog ok:=by
 intro f xs cs V hf hi;rw[h1]at hf;rw[h2,hf]at hi;obtain⟨fn,a1,a2,a3⟩:=pu (f:=f) (by simpa using hi);have hg:Tz.prog.funcs[f]?=some {fn with body:=some Tz.body0}:=Tz.g_shut a1 (by simpa using hi);exact⟨_,_,_,by simp[Frame.enter,hg,Tz.body0,stepG,stepG.exec,G];exact⟨rfl,rfl,rfl⟩⟩
def ut:List Nat:=[227,203,204,177,233,125,234,245,126,145,149,251,252,180]
theorem Cu:qJ ut=true:=by kernel_rfl
theorem Cv:ut.all (λf=>!Tz.shutL.contains f)=true:=by kernel_rfl
theorem DI {ok okw:Ctx}(h1:∀f,okw.fn f=ut.contains f)(h2:∀f,okw.inn f=ut.contains f)(hp:@bq j0 Tz.prog Tz.prog okw/\@bq j0 Tz.prog Tryz.prog okw):@jg j0 Tryz.prog ok xZ (@Dr24):=
 letI:=j0;BF (zK (okw:=okw) (c:=ground) (P0:=Tz.prog) rfl hp.1 hp.2 (λf h=>by rw[h1]at h;rw[h2];exact h) AC ⟨by rw[h2];kernel_rfl,by rw[h2];kernel_rfl,by rw[h1];kernel_rfl⟩)
theorem Cw {ok:Ctx}:@jg j0 Tryz.prog ok xZ (@Dr24):=
 let okw:Ctx:=⟨λf=>ut.contains f,λf=>ut.contains f,λc=>@aR j0 Tryz.prog (λf=>ut.contains f) c⟩
 DI (okw:=okw) (λ_=>rfl) (λ_=>rfl) (xj (ok:=okw) Cu (λ_=>rfl) (λf h=>⟨h,by
  have h0:=Cv;rw[List.all_eq_true]at h0;have:=h0 f (by simpa using(show ut.contains f=true from h));simpa using this⟩) (λ_=>rfl))
def Ef:List Nat:=[3,271,272,282,286,287,8,9,11,12,10,13,14,15,16,146,273,274,132,66,283,284,285,91,112,28,29,37,38,30,31,32,33,34,35,36,39,40,41,42,43,44,45,176,177,178,179,276,275,150,277,151,90,131,59,60,61,62,63,48,64,65,67,50,197,147,279,127,182,181,111,83,84,85,86,87,88,89,68,205,206,207,128,129,130,107,108,109,110,93,122,235,123,236,239,148,149,247,144,143,238,237,180,248,125,249,233,174,175,166,167,168,169,170,171,172,173,250,145,253,192,193,194,195,196,212]
theorem Cx:qJ Ef=true:=by kernel_rfl
theorem AD:Ef.all (λf=>(Tryz.prog.inits.idxOf? f).isNone)=true:=by kernel_rfl
end
section
open Go Go.Conc Go.ChangeShapes Go.WideShapes Go.ChangeAt Go.RowKit
section
variable {H:Type}{enc:TypeId×Value->H}
theorem iP {a:Assume}{C:Checked}{os:Os}{f:FuncId}{fn:Func}{s:ChangeSpec}{conds:List PathCond}{apart fresh handsOn again:Bool}{X:World->Array Value->Prop}
  (hX:∀(w w':World) (args:Array Value),w.heap=w'.heap->X w args->X w' args)
  (own:ownKnob C.prog.godebug=none)(started:os.Started)(hfn:C.prog.funcs[f]?=some fn)
  (witness:∃(w:World) (tape:Tape) (i:Input),w.os=os/\(w.forCall tape i).Shaped C.prog/\i.vars=[]/\Input.okWide C.prog (w.forCall tape i) .any w.heap.size f i/\
   ((s.pre enc C.prog fn conds apart (w.forCall tape i).memory i.args/\X (w.forCall tape i).memory i.args)/\sizedMet enc C.prog fn (OpenSpec.ofChange s) apart (w.forCall tape i).memory i.args)/\a.holds C.prog (lone (Frame.enter C.prog f i.args .normal) [] (w.forCall tape i)))
  (runs:∀(W:World) (base:Nat) (args:Array Value) (ds gs:List (DataW H)) (before:List MemPlace),W.ShapedOpen C.prog->
   (∀(j:Nat) t v,fn.params[j]?=some t->args[j]?=some v->Value.okWide C.prog W .any base t v)->
   DataW.Whole enc C.prog fn.params.toList s.vars apart W args.toList ds gs before->X W args->
   ∃M last o w' t',runNT C.prog (M+1) (solo (G (Frame.enter C.prog f args .normal) []) W) #[]=(.ended o w',t')/\runN C.prog M (solo (G (Frame.enter C.prog f args .normal) []) W)=.next last/\
    step C.prog last=.ended o w'/\Conc.Good C.prog (λv W'=>s.post enc C.prog fn apart fresh handsOn again W args v W') last o w' t'):
  ReturnsInLeavingWide a C os f .any (λw args=>(s.pre enc C.prog fn conds apart w args/\X w args)/\sizedMet enc C.prog fn (OpenSpec.ofChange s) apart w args) (s.post enc C.prog fn apart fresh handsOn again):=by
 refine returnsInLeavingWide_of_good own started witness ?_;intro w tape i _ hsh _ hok hpre hholds;obtain⟨_,_,_,fn',hfn',_,_,_,_,hval⟩:=hok;have e:fn'=fn:=Gt (hfn'.symm.trans hfn);subst e;obtain⟨⟨⟨ds,gs,before,hw,hc⟩,hx⟩,hz⟩:=hpre;have hw':=DataW.Whole.of_heap (w':=w.forCall tape i) (by rfl) hw;obtain⟨M,last,o,w',t',h1,h2,h3,h4⟩:=runs (w.forCall tape i) w.heap.size i.args ds gs before hsh hval hw' (hX _ _ _ (by rfl) hx);exact⟨M,last,o,w',t',h1,h2,h3,h4.mono λv hp=>ChangeSpec.post_blind hp⟩
end
theorem et:Tryz.prog.globalNamed "errors.errorType"=some 0:=by kernel_rfl
theorem rt:(Tryz.prog.cutTypes.find? (·.1== "internal/reflectlite.rtype")).map (·.2)=some 175:=by kernel_rfl
theorem DK:((List.range 340).filter λt=>Tryz.prog.rowNamed t [101,114,114,111,114])=[92]:=by kernel_rfl
theorem DL:Tryz.prog.types.size=340:=by kernel_rfl
theorem pv {W:World}(h:laidMetH Tryz.prog [("errors.errorType",Rows.laid_errors_errorType)] W):W.cell? ⟨0,0,none⟩=some (.iface 175 (.agg #[.pointer (some ⟨9,92,none⟩)])):=by
 have h':laidMet Tryz.prog [] W/\handlesMet Tryz.prog [("errors.errorType",Rows.laid_errors_errorType)] W:=h;obtain⟨name,u,ty,e1,e2,e3,e4,e5⟩:=h'.2 _ (List.mem_singleton.2 rfl);have en:name=[101,114,114,111,114]:=(Gt e1).symm;subst en;obtain rfl:=Gt (rt.symm.trans e2);have hm:ty∈(List.range 340).filter λt=>Tryz.prog.rowNamed t [101,114,114,111,114]:=List.mem_filter.2 ⟨List.mem_range.2 (by rw[<-DL];exact e3),e4⟩
 rw[DK]at hm;obtain rfl:=List.mem_singleton.1 hm;have hh:typeHandle Tryz.prog 92=.pointer (some ⟨9,92,none⟩):=by kernel_rfl
 rw[hh]at e5;have:=World.var?_cell et e5 0;simpa using this
theorem row0:((begin Tryz.prog (λ_ _=>0) default).world.heap[0]?).bind Obj.row?=some (#[.nilIface],155):=by kernel_rfl
theorem sC:(((begin Tryz.prog (λ_ _=>0) default).world.heap[9-1]?).bind Obj.row?).isSome=true:=by kernel_rfl
theorem DN {W:World}(hs:W.ShapedOpen Tryz.prog)(h:laidMetH Tryz.prog [("errors.errorType",Rows.laid_errors_errorType)] W):W.heap[0]?=some mc/\j0.n<=W.heap.size:=by
 have hc:=pv h;obtain⟨cs,h1,h2,_⟩:=hs.1 0 _ _ (by rw[iJ];decide) row0;obtain⟨⟨z,t⟩,hz⟩:=Option.isSome_iff_exists.1 sC;obtain⟨cs',h3,_⟩:=hs.1 (9-1) z t (by rw[iJ];decide) hz;have h4:=(Gp.1 h3).1;refine⟨?_,by show 9<=_;omega⟩;obtain⟨l⟩:=cs;match l,h2 with
 |[x],_=>
  simp[World.cell?,h1]at hc;rw[h1,hc];rfl
noncomputable def qK (os:Os):World:=
 let w0:=World.holding Tryz.prog os ⟨#[],#[],[]⟩
 {w0 with heap:=w0.heap.modify 0 λ
   |.cells _ t frozen=>.cells #[.iface 175 (.agg #[.pointer (some ⟨9,92,none⟩)])] t frozen
   |o=>o}
theorem pN (os:Os)(args:Array Value):laidMetH Tryz.prog [("errors.errorType",Rows.laid_errors_errorType)] ((qK os).forCall (λ_ _=>0) ⟨#[],args,[]⟩).memory:=
 laidMetH_of_parts (laidMet_nil _ _) (by kernel_rfl)
theorem yM (Lk:Looks){p:Pinned}{s:OpenSpec}{c:OpenClaim}(kinds:List LaidKind)(tests:Bool)(har:Bool×String)(lk:Bool)
  (hc:c.holds p s)(hw:c.wfByText s=true)(htie:c.laidByTextAt Lk p kinds tests)
  (hst:c.start=.entering)(hnb:c.noBlocks=false/\c.again=false)(hm:p.checked.prog.mainIs=some (har.1,har.2.toList))(hn:(!har.1&&har.2.isEmpty&&!lk)=false)
  (hl:∀f fn,p.checked.prog.funcNamed c.func=some f->p.checked.prog.funcs[f]?=some fn->lk=p.checked.prog.looks []/\∀(j:Nat) t,fn.params[j]?=some t->p.checked.prog.wantsStandIn t=false)
  (hg:true=c.goesBy p.checked.prog):
  Claim7.holds p (.plain s) {stood:={row:=c,standIns:=[],harness:=har,looks:=lk},kinds:=[],alts:=[],goes:=true,laidByText:=true,laidKinds:=kinds,laidTests:=tests,laidLooks:=Lk}:=by
 have h6:Claim7.isSixth {stood:={row:=c,standIns:=[],harness:=har,looks:=lk},kinds:=[]}=false:=by simpa[Claim7.isSixth]using hn
 exact⟨Claim7.tied_new_at Lk kinds tests (Claim7.new_of_sixth hc har lk hst hnb hm h6 hl) hw,(λD hD=>by cases hD),htie,(λh=>by cases h),hg⟩
theorem CB:sameLayout Tryz.prog Tryz.prog.depth 155 27=false:=by kernel_rfl
theorem AH:sameLayout Tryz.prog Tryz.prog.depth 155 3=false:=by kernel_rfl
theorem not_row {fits:TypeId->Bool}(hf:fits 155=false):∀d c off n,rowAt Tryz.prog fits d 155 c off n=false
 |0,_,_,_=>rfl
 |d+1,c,off,n=>by
  unfold rowAt;rw[Tryz.underlying155,hf];dsimp only;split
  .rfl
  .simp
theorem AI {e:TypeId}(he:sameLayout Tryz.prog Tryz.prog.depth 155 e=false)(ha:∀m u,Tryz.prog.underlying e≠some (.array m u))(c off n:Nat):∀d,liesAt Tryz.prog d 155 c off e n=false
 |0=>rfl
 |d+1=>by
  unfold liesAt;rw[not_row he];cases hu:Tryz.prog.underlying e with
  |none=>rfl
  |some x=>
   cases x with
   |array m u=>exact(ha m u hu).elim
   |_=>rfl
theorem pw {W:World}{r:Reach}{base:Nat}{t e:TypeId}{x:Addr}{n cap:Nat}(ht:Tryz.prog.underlying t=some (.slice e))(he:sameLayout Tryz.prog Tryz.prog.depth 155 e=false)(ha:∀m u,Tryz.prog.underlying e≠some (.array m u))(hW:W.heap[0]?=some mc)(h:Cell.okWide Tryz.prog W r base t (.slice (some x) n cap)):(∃cs e z,W.heap[x.block]?=some (.cells cs e z))/\x.block≠0:=by
 simp only[ht,Cell.okWide,Cell.ok]at h;obtain⟨_,_,_,hs,row,cells,hsh,hl⟩:=h;refine⟨?_,λh0=>?_⟩
 .unfold World.shape? at hsh;split at hsh
  .rename_i c el z hc;exact⟨c,el,z,hc⟩
  .cases hsh
 .rw[h0]at hsh;simp[World.shape?,hW,mc]at hsh;obtain⟨rfl,_⟩:=hsh;rw[AI he ha]at hl;cases hl
end
