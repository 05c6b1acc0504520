import Derived.Test.YtlmcblcijndipabGreatDoorDr34
import Derived.Test.YtlmcblcijndipabGreatDoorDr25
import Derived.Test.YtlmcblcijndipabGreatDoorDr03
import Derived.Test.YtlmcblcijndipabGreatDoorDr08
set_option linter.unusedVariables false
set_option maxRecDepth 100000
namespace Go.Proofs.YtlmcblcijndipabGreatDoor
section
open Go Go.Conc
section
variable [Gl]{ok:Ctx}
def Dr24 (f:FuncId)(xs:Array Value)(V:World)(R:Value->World->Prop):Prop:=DrB f xs V R\/DrC f xs V R
theorem Ac:iL ok Dr24:=by
 rintro f xs V V' v ρ R (h|h)
 .exact Bt h
 .exact BC h
theorem Ae (h:iK Tryz.prog ok ww DrB):iK Tryz.prog ok ww Dr24:=by
 rintro f xs V ρ xs' W M Shun gs r0 rest t q sl R hI (hd|hd)
 .exact h hI hd
 .exact yC hI hd
end
end
section
open Go Go.Conc Go.RowKit
@[reducible] def tt:Gl:=⟨9⟩
theorem AH (P:Program)(fs:Array Func)(fn:FuncId->Bool)(op:Op):fO {P with funcs:=fs} fn op=fO P fn op:=by cases op<;>rfl
theorem xd (P:Program)(fs:Array Func)(fn:FuncId->Bool):∀c,aI {P with funcs:=fs} fn c=aI P fn c:=by
 intro c;induction c with
 |seq a b ha hb=>simp only[aI,ha,hb]
 |cond x a b ha hb=>simp only[aI,ha,hb]
 |block i b hb=>simp only[aI,hb]
 |loop b hb=>simp only[aI,hb]
 |scope b hb=>simp only[aI,hb]
 |rangeFunc f ps a b ha hb=>simp only[aI,ha,hb]
 |region i ops d=>simp only[aI,AH]
 |_=>rfl
theorem vB (fn:FuncId->Bool)(c:Code):aI Tryz0.prog fn c=aI Tryz.prog fn c:=xd Tryz.prog _ fn c
noncomputable def uL (fns:List Nat)(fn:Func):Bool:=!(fn.name== "runtime.NumGoroutine")&&(match fn.body with|some c=>aI Tryz.prog (λf=>fns.contains f) c|none=>false)
noncomputable def qg (fns:List Nat):Bool:=fns.all λk=>Tryz0.shutL.contains k||(match Tryz.prog.funcs[k]? with|some fn=>uL fns fn|none=>false)
theorem jB {fns:List Nat}(h:qg fns=true){f:Nat}(hf:fns.contains f=true)(hne:Tryz0.shutL.contains f=false):∃fn c,Tryz.prog.funcs[f]?=some fn/\fn.body=some c/\(fn.name== "runtime.NumGoroutine")=false/\aI Tryz.prog (λf=>fns.contains f) c=true:=by
 unfold qg at h;rw[List.all_eq_true]at h;have h1:=h f (by simpa using hf);rw[Bool.or_eq_true]at h1;have h2:=h1.resolve_left (by rw[hne];simp);generalize Tryz.prog.funcs[f]?=x at h2;cases x with
 |none=>cases h2
 |some fn=>
  replace h2:uL fns fn=true:=h2;unfold uL at h2;rw[Bool.and_eq_true]at h2;obtain⟨h3,h4⟩:=h2;cases hb:fn.body with
  |none=>rw[hb]at h4;cases h4
  |some c=>rw[hb]at h4;exact⟨fn,c,rfl,hb,by simpa using h3,h4⟩
theorem AI:Tryz0.shutL.all (λk=>match Tryz.prog.funcs[k]? with|some fn=>fn.body.isSome&&!(fn.name== "runtime.NumGoroutine")|none=>false)=true:=by kernel_rfl
theorem oB {f:Nat}(h:Tryz0.shutL.contains f=true):∃fn,Tryz.prog.funcs[f]?=some fn/\fn.body.isSome=true/\(fn.name== "runtime.NumGoroutine")=false:=by
 have h0:=AI;rw[List.all_eq_true]at h0;have h1:=h0 f (by simpa using h);generalize Tryz.prog.funcs[f]?=x at h1;cases x with
 |none=>cases h1
 |some fn=>
  replace h1:(fn.body.isSome&&!(fn.name== "runtime.NumGoroutine"))=true:=h1;rw[Bool.and_eq_true]at h1;exact⟨fn,rfl,h1.1,by simpa using h1.2⟩
theorem vC {f:Nat}{fn:Func}(hne:Tryz0.shutL.contains f=false)(h:Tryz.prog.funcs[f]?=some fn):Tryz0.prog.funcs[f]?=some fn:=Tryz0.g_fn Tryz.prog hne h
theorem AJ:Tryz.prog.info? 1000000000=none:=by kernel_rfl
theorem tu:Tryz0.prog.info? 1000000000=none:=AJ
theorem iu:Tryz.prog.globals.size=9:=by kernel_rfl
theorem vD {fns:List Nat}(h:qg fns=true){ok:Ctx}(h1:∀f,ok.fn f=fns.contains f)(h2:∀f,ok.inn f=true->fns.contains f=true/\Tryz0.shutL.contains f=false)(h3:∀c,ok.code c=aI Tryz.prog ok.fn c):@bh tt Tryz0.prog Tryz0.prog ok/\@bh tt Tryz0.prog Tryz.prog ok:=by
 letI:=tt;have hfn:ok.fn=λf=>fns.contains f:=funext h1
 have kl:∀f,ok.fn f=true->∃fn,Tryz0.prog.funcs[f]?=some fn/\fn.body.isSome=true/\(fn.name== "runtime.NumGoroutine")=false:=λf hf=>by
  cases e:Tryz0.shutL.contains f with
  |true=>obtain⟨fn,a1,a2,a3⟩:=oB e;exact⟨_,Tryz0.g_shut Tryz.prog e a1,rfl,a3⟩
  |false=>
   obtain⟨fn,c,a1,a2,a3,_⟩:=jB h ((h1 f).symm.trans hf) e;exact⟨fn,vC e a1,by rw[a2];rfl,a3⟩
 have kr:∀f,ok.fn f=true->∃fn,Tryz.prog.funcs[f]?=some fn/\fn.body.isSome=true/\(fn.name== "runtime.NumGoroutine")=false:=λf hf=>by
  cases e:Tryz0.shutL.contains f with
  |true=>exact oB e
  |false=>
   obtain⟨fn,c,a1,a2,a3,_⟩:=jB h ((h1 f).symm.trans hf) e;exact⟨fn,a1,by rw[a2];rfl,a3⟩
 constructor
 .exact{left:=kl,right:=kl,hole:=tu,same:=λf hf=>(by
   obtain⟨hc,hne⟩:=h2 f hf;obtain⟨fn,c,a1,a2,a3,a4⟩:=jB h hc hne;exact⟨fn,c,vC hne a1,vC hne a1,a2,by rw[hfn,vB];exact a4⟩),code:=λc=>(h3 c).trans (vB ok.fn c).symm,tab:=rfl,glob:=iu}
 .exact{left:=kl,right:=kr,hole:=tu,same:=λf hf=>(by
   obtain⟨hc,hne⟩:=h2 f hf;obtain⟨fn,c,a1,a2,a3,a4⟩:=jB h hc hne;exact⟨fn,c,vC hne a1,a1,a2,by rw[hfn];exact a4⟩),code:=h3,tab:=rfl,glob:=iu}
def iv:Frame:={fn:=1000000000,tmps:=#[],todo:=[.call {target:=.nil,args:=#[]} false "fmt's door: none" #[]],defers:=[],mode:=.run,kind:=.normal}
theorem CB:Tryz0.prog.funcs[1000000000]?=none:=by kernel_rfl
theorem Cb:(Extern.next "fmt's door: none").isNone=true:=by kernel_rfl
theorem zh:eI Tryz0.prog iv where
 ret:=λv w=>by
  have h:Extern.next "fmt's door: none"=none:=by have:=Cb;simpa using this
  exact⟨_,_,_,by simp[iv,Frame.finish,stepG,stepG.exec,G,h];exact⟨rfl,rfl,rfl⟩⟩
 pan:=λch w=>by
  have hc:Frame.catches Tryz0.prog (iv.raise ch)=true:=by
   simp[iv,Frame.raise,Frame.catches,CB]
  exact⟨_,_,_,by simp[stepG,G,iv,Frame.raise,unwind]at hc⊢;simp[hc];exact⟨rfl,rfl,rfl⟩⟩
theorem AK {fns:List Nat}{ok:Ctx}(h1:∀f,ok.fn f=fns.contains f)(h2:∀f,ok.inn f=(fns.contains f&&!Tryz0.shutL.contains f)):@oQ Tryz0.prog ok:=by
 intro f xs cs V hf hi;rw[h1]at hf;rw[h2,hf]at hi;obtain⟨fn,a1,a2,a3⟩:=oB (f:=f) (by simpa using hi);have hg:Tryz0.prog.funcs[f]?=some {fn with body:=some Tryz0.body0}:=Tryz0.g_shut Tryz.prog (by simpa using hi) a1;exact⟨_,_,_,by simp[Frame.enter,hg,Tryz0.body0,stepG,stepG.exec,G];exact⟨rfl,rfl,rfl⟩⟩
def tv:List Nat:=[227,203,204,177,233,125,234,245,126,145,149,251,252,180]
theorem AL:qg tv=true:=by kernel_rfl
theorem AM:tv.all (λf=>!Tryz0.shutL.contains f)=true:=by kernel_rfl
theorem Cc {ok okw:Ctx}(h1:∀f,okw.fn f=tv.contains f)(h2:∀f,okw.inn f=tv.contains f)(hp:@bh tt Tryz0.prog Tryz0.prog okw/\@bh tt Tryz0.prog Tryz.prog okw):@iK tt Tryz.prog ok ww (@Dr24):=
 letI:=tt;Ae (yx (okw:=okw) (c:=iv) (P₀:=Tryz0.prog) rfl hp.1 hp.2 (λf h=>by rw[h1]at h;rw[h2];exact h) zh ⟨by rw[h2];kernel_rfl,by rw[h2];kernel_rfl,by rw[h1];kernel_rfl⟩)
theorem AN {ok:Ctx}:@iK tt Tryz.prog ok ww (@Dr24):=
 let okw:Ctx:=⟨λf=>tv.contains f,λf=>tv.contains f,λc=>aI Tryz.prog (λf=>tv.contains f) c⟩
 Cc (okw:=okw) (λ_=>rfl) (λ_=>rfl) (vD (ok:=okw) AL (λ_=>rfl) (λf h=>⟨h,by
  have h0:=AM;rw[List.all_eq_true]at h0;have:=h0 f (by simpa using(show tv.contains f=true from h));simpa using this⟩) (λ_=>rfl))
def CC:List Nat:=[4,282,286,271,287,272,8,11,17,18,14,15,16,273,66,283,284,132,285,91,112,28,29,37,38,30,31,33,46,35,47,36,39,40,41,42,43,44,45,276,275,150,151,90,131,9,12,59,60,62,63,48,64,65,67,50,127,182,181,111,83,84,85,86,87,88,89,68,146,205,206,207,128,129,130,32,107,108,109,110,93,176,177,178,179,122,235,123,236,239,147,148,149,61,197,247,144,143,238,237,180,248,125,249,233,174,175,166,167,168,169,170,171,172,173,250,145,253,192,193,194,195,196,212]
theorem AO:qg CC=true:=by kernel_rfl
theorem zi:CC.all (λf=>(Tryz.prog.inits.idxOf? f).isNone)=true:=by kernel_rfl
end
end Go.Proofs.YtlmcblcijndipabGreatDoor
