import Derived.Test.YtlmcblcijndipabGreatDoorM35
import Derived.Test.YtlmcblcijndipabGreatDoorM27
import Derived.Test.YtlmcblcijndipabGreatDoorM03
import Derived.Test.YtlmcblcijndipabGreatDoorM08
set_option linter.unusedVariables false
set_option maxRecDepth 100000
namespace Go.Proofs.YtlmcblcijndipabGreatDoor
open Go Go.Conc
section
variable [Gl]{ok:Ctx}
def Dr24 (f:FuncId)(xs:Array Value)(V:World)(R:Value->World->Prop):Prop:=DrB f xs V R\/DrC f xs V R
theorem yP:ij ok Dr24:=by
 rintro f xs V V' v ρ R (h|h)
 .exact zR h
 .exact zX h
theorem yQ (h:ii Tryz.prog ok uZ DrB):ii Tryz.prog ok uZ Dr24:=by
 rintro f xs V ρ xs' W M Shun gs r0 rest t q sl R hI (hd|hd)
 .exact h hI hd
 .exact wY hI hd
end
end Go.Proofs.YtlmcblcijndipabGreatDoor
namespace Go.Proofs.YtlmcblcijndipabGreatDoor
open Go Go.Conc Go.RowKit
@[reducible] def rO:Gl:=⟨9⟩
theorem zh (P:Program)(fs:Array Func)(fn:FuncId->Bool)(op:Op):fk {P with funcs:=fs} fn op=fk P fn op:=by cases op<;>rfl
theorem vB (P:Program)(fs:Array Func)(fn:FuncId->Bool):∀c,aF {P with funcs:=fs} fn c=aF P fn c:=by
 intro c;induction c with
 |seq a b ha hb=>simp only[aF,ha,hb]
 |cond x a b ha hb=>simp only[aF,ha,hb]
 |block i b hb=>simp only[aF,hb]
 |loop b hb=>simp only[aF,hb]
 |scope b hb=>simp only[aF,hb]
 |rangeFunc f ps a b ha hb=>simp only[aF,ha,hb]
 |region i ops d=>simp only[aF,zh]
 |_=>rfl
theorem uq (fn:FuncId->Bool)(c:Code):aF Tryz0.prog fn c=aF Tryz.prog fn c:=vB Tryz.prog _ fn c
noncomputable def tE (fns:List Nat)(fn:Func):Bool:=!(fn.name== "runtime.NumGoroutine")&&(match fn.body with|some c=>aF Tryz.prog (λf=>fns.contains f) c|none=>false)
noncomputable def o8 (fns:List Nat):Bool:=fns.all λk=>Tryz0.shutL.contains k||(match Tryz.prog.funcs[k]? with|some fn=>tE fns fn|none=>false)
theorem iV {fns:List Nat}(h:o8 fns=true){f:Nat}(hf:fns.contains f=true)(hne:Tryz0.shutL.contains f=false):∃fn c,Tryz.prog.funcs[f]?=some fn/\fn.body=some c/\(fn.name== "runtime.NumGoroutine")=false/\aF Tryz.prog (λf=>fns.contains f) c=true:=by
 unfold o8 at h;rw[List.all_eq_true]at h;have h1:=h f (by simpa using hf);rw[Bool.or_eq_true]at h1;have h2:=h1.resolve_left (by rw[hne];simp);generalize Tryz.prog.funcs[f]?=x at h2;cases x with
 |none=>cases h2
 |some fn=>
  replace h2:tE fns fn=true:=h2;unfold tE at h2;rw[Bool.and_eq_true]at h2;obtain⟨h3,h4⟩:=h2;cases hb:fn.body with
  |none=>rw[hb]at h4;cases h4
  |some c=>rw[hb]at h4;exact⟨fn,c,rfl,hb,by simpa using h3,h4⟩
theorem zi:Tryz0.shutL.all (λk=>match Tryz.prog.funcs[k]? with|some fn=>fn.body.isSome&&!(fn.name== "runtime.NumGoroutine")|none=>false)=true:=by kernel_rfl
theorem nA {f:Nat}(h:Tryz0.shutL.contains f=true):∃fn,Tryz.prog.funcs[f]?=some fn/\fn.body.isSome=true/\(fn.name== "runtime.NumGoroutine")=false:=by
 have h0:=zi;rw[List.all_eq_true]at h0;have h1:=h0 f (by simpa using h);generalize Tryz.prog.funcs[f]?=x at h1;cases x with
 |none=>cases h1
 |some fn=>
  replace h1:(fn.body.isSome&&!(fn.name== "runtime.NumGoroutine"))=true:=h1;rw[Bool.and_eq_true]at h1;exact⟨fn,rfl,h1.1,by simpa using h1.2⟩
theorem ur {f:Nat}{fn:Func}(hne:Tryz0.shutL.contains f=false)(h:Tryz.prog.funcs[f]?=some fn):Tryz0.prog.funcs[f]?=some fn:=Tryz0.g_fn Tryz.prog hne h
theorem zj:Tryz.prog.info? 1000000000=none:=by kernel_rfl
theorem rP:Tryz0.prog.info? 1000000000=none:=zj
theorem gN:Tryz.prog.globals.size=9:=by kernel_rfl
theorem us {fns:List Nat}(h:o8 fns=true){ok:Ctx}(h1:∀f,ok.fn f=fns.contains f)(h2:∀f,ok.inn f=true->fns.contains f=true/\Tryz0.shutL.contains f=false)(h3:∀c,ok.code c=aF Tryz.prog ok.fn c):@aW rO Tryz0.prog Tryz0.prog ok/\@aW rO Tryz0.prog Tryz.prog ok:=by
 letI:=rO;have hfn:ok.fn=λf=>fns.contains f:=funext h1
 have kl:∀f,ok.fn f=true->∃fn,Tryz0.prog.funcs[f]?=some fn/\fn.body.isSome=true/\(fn.name== "runtime.NumGoroutine")=false:=λf hf=>by
  cases e:Tryz0.shutL.contains f with
  |true=>obtain⟨fn,a1,a2,a3⟩:=nA e;exact⟨_,Tryz0.g_shut Tryz.prog e a1,rfl,a3⟩
  |false=>
   obtain⟨fn,c,a1,a2,a3,_⟩:=iV h ((h1 f).symm.trans hf) e;exact⟨fn,ur e a1,by rw[a2];rfl,a3⟩
 have kr:∀f,ok.fn f=true->∃fn,Tryz.prog.funcs[f]?=some fn/\fn.body.isSome=true/\(fn.name== "runtime.NumGoroutine")=false:=λf hf=>by
  cases e:Tryz0.shutL.contains f with
  |true=>exact nA e
  |false=>
   obtain⟨fn,c,a1,a2,a3,_⟩:=iV h ((h1 f).symm.trans hf) e;exact⟨fn,a1,by rw[a2];rfl,a3⟩
 constructor
 .exact{left:=kl,right:=kl,hole:=rP,same:=λf hf=>(by
   obtain⟨hc,hne⟩:=h2 f hf;obtain⟨fn,c,a1,a2,a3,a4⟩:=iV h hc hne;exact⟨fn,c,ur hne a1,ur hne a1,a2,by rw[hfn,uq];exact a4⟩),code:=λc=>(h3 c).trans (uq ok.fn c).symm,tab:=rfl,glob:=gN}
 .exact{left:=kl,right:=kr,hole:=rP,same:=λf hf=>(by
   obtain⟨hc,hne⟩:=h2 f hf;obtain⟨fn,c,a1,a2,a3,a4⟩:=iV h hc hne;exact⟨fn,c,ur hne a1,a1,a2,by rw[hfn];exact a4⟩),code:=h3,tab:=rfl,glob:=gN}
def gO:Frame:={fn:=1000000000,tmps:=#[],todo:=[.call {target:=.nil,args:=#[]} false "fmt's door: none" #[]],defers:=[],mode:=.run,kind:=.normal}
theorem AU:Tryz0.prog.funcs[1000000000]?=none:=by kernel_rfl
theorem Ar:(Extern.next "fmt's door: none").isNone=true:=by kernel_rfl
theorem xS:eb Tryz0.prog gO where
 ret:=λv w=>by
  have h:Extern.next "fmt's door: none"=none:=by have:=Ar;simpa using this
  exact⟨_,_,_,by simp[gO,Frame.finish,stepG,stepG.exec,G,h];exact⟨rfl,rfl,rfl⟩⟩
 pan:=λch w=>by
  have hc:Frame.catches Tryz0.prog (gO.raise ch)=true:=by
   simp[gO,Frame.raise,Frame.catches,AU]
  exact⟨_,_,_,by simp[stepG,G,gO,Frame.raise,unwind]at hc⊢;simp[hc];exact⟨rfl,rfl,rfl⟩⟩
theorem zk {fns:List Nat}{ok:Ctx}(h1:∀f,ok.fn f=fns.contains f)(h2:∀f,ok.inn f=(fns.contains f&&!Tryz0.shutL.contains f)):@nM Tryz0.prog ok:=by
 intro f xs cs V hf hi;rw[h1]at hf;rw[h2,hf]at hi;obtain⟨fn,a1,a2,a3⟩:=nA (f:=f) (by simpa using hi);have hg:Tryz0.prog.funcs[f]?=some {fn with body:=some Tryz0.body0}:=Tryz0.g_shut Tryz.prog (by simpa using hi) a1;exact⟨_,_,_,by simp[Frame.enter,hg,Tryz0.body0,stepG,stepG.exec,G];exact⟨rfl,rfl,rfl⟩⟩
def rQ:List Nat:=[227,203,204,177,233,125,234,245,126,145,149,251,252,180]
theorem zl:o8 rQ=true:=by kernel_rfl
theorem zm:rQ.all (λf=>!Tryz0.shutL.contains f)=true:=by kernel_rfl
theorem As {ok okw:Ctx}(h1:∀f,okw.fn f=rQ.contains f)(h2:∀f,okw.inn f=rQ.contains f)(hp:@aW rO Tryz0.prog Tryz0.prog okw/\@aW rO Tryz0.prog Tryz.prog okw):@ii rO Tryz.prog ok uZ (@Dr24):=
 letI:=rO;yQ (wT (okw:=okw) (c:=gO) (P₀:=Tryz0.prog) rfl hp.1 hp.2 (λf h=>by rw[h1]at h;rw[h2];exact h) xS ⟨by rw[h2];kernel_rfl,by rw[h2];kernel_rfl,by rw[h1];kernel_rfl⟩)
theorem zn {ok:Ctx}:@ii rO Tryz.prog ok uZ (@Dr24):=
 let okw:Ctx:=⟨λf=>rQ.contains f,λf=>rQ.contains f,λc=>aF Tryz.prog (λf=>rQ.contains f) c⟩
 As (okw:=okw) (λ_=>rfl) (λ_=>rfl) (us (ok:=okw) zl (λ_=>rfl) (λf h=>⟨h,by
  have h0:=zm;rw[List.all_eq_true]at h0;have:=h0 f (by simpa using(show rQ.contains f=true from h));simpa using this⟩) (λ_=>rfl))
def AV:List Nat:=[5,286,271,282,287,272,8,11,19,20,14,15,16,273,112,66,283,284,132,285,91,28,29,37,38,30,31,33,48,39,40,41,42,43,44,45,276,275,131,150,151,90,9,12,59,60,68,35,64,65,67,50,127,182,181,111,83,84,93,62,63,146,205,206,207,128,129,130,32,107,85,86,87,88,89,176,177,178,179,122,235,123,236,239,147,148,149,61,108,109,110,197,247,144,143,238,237,180,248,125,249,233,174,175,166,167,168,169,170,171,172,173,250,145,253,192,193,194,195,196,212]
theorem zo:o8 AV=true:=by kernel_rfl
theorem xU:AV.all (λf=>(Tryz.prog.inits.idxOf? f).isNone)=true:=by kernel_rfl
end Go.Proofs.YtlmcblcijndipabGreatDoor
