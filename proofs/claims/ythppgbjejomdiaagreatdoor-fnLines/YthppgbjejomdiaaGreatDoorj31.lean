import Derived.Test.YthppgbjejomdiaaGreatDoorj30
import Derived.Test.YthppgbjejomdiaaGreatDoorj23
import Derived.Conc.LeavingOf
import Derived.Test.YthppgbjejomdiaaGreatDoorCards
import Derived.Test.YthppgbjejomdiaaGreatDoorTie
import Derived.SevenTiedAt
import Derived.Lay
import Derived.LaidSub
import Derived.Lib.LaidTab
import Derived.Lib.ItoaNum
set_option linter.all false
set_option maxRecDepth 100000
open Bool renaming or_false->au,or_eq_false_iff->be,false_eq_true->bi
open Go renaming Func->ad,Program->aj,FuncId->ao,Value->av,TypeId->ax,World->ay,Code->az,sameLayout->aE,laidMetH->aG,liesAt->aI,rowAt->aL,callFunc->a8,laidMetH_iff->br
open Go.Frame renaming enter->a6,catches->bm,raise->bn
open Go.Program renaming stoodInHeld->aV,stoodInAs->a0,alikeButTags->a9
open Go.Sem renaming run_bind->a5,run->a7
open List renaming contains_iff_mem->bb,mem_singleton->bj,all_eq_true->bk,mem_map->bo,range->bp
open Or renaming inr->aa,inl->ac
namespace Go.Proofs.YthppgbjejomdiaaGreatDoor
open ChangeAt ChangeShapes Conc RowKit WideShapes
variable {c:az}{ok:Ctx}{fn:ad}{r:List Nat}{f:Nat}{e:ax}{W W':ay}
@[reducible] def oW:Gl:={n:=9,ov:=266,Yr:=λp=>p=Tz.prog,top:=λp=>p=Tryz.prog}
section
variable [Gl]
omit [Gl] in
def yT (P:aj)(g:Array ad):∀d a b,a9 {P with funcs:=g} d a b=P.alikeButTags d a b:=by intro d;induction d with|zero=>intro a b;rfl|succ d h=>simp_all [a9]
omit [Gl] in
def Po (P:aj)(b:Array ad)(a:BinOp)(t:ax):mV {P with funcs:=b} a t=mV P a t:=by unfold mV OK Xl aV a0;simp[yT];rfl
omit [Gl] in
def Vf (P:aj)(s:Array ad):aI {P with funcs:=s}=aI P:=by
 have v:∀t,aV {P with funcs:=s} t=P.stoodInHeld t:=λt=>by unfold aV a0;simp[yT];rfl
 have x:∀d t u,aE {P with funcs:=s} d t u=aE P d t u:=by intro d;induction d with|zero=>intro t u;rfl|succ d p=>intro t u;unfold aE;simp[p,v];rfl
 have y:∀q d e c o n,aL {P with funcs:=s} q d e c o n=aL P q d e c o n:=by intro q d;induction d with|zero=>intro e c o n;rfl|succ d p=>intro e c o n;unfold aL;simp[p,v];rfl
 funext d;induction d with|zero=>rfl|succ d p=>funext e c o u n;unfold aI;simp[p,x,y];rfl
omit [Gl] in
def Ao (P:aj)(a:Array ad)(t:ax):kZ {P with funcs:=a} t=kZ P t:=by unfold kZ OK Xl aV a0;simp[yT];rfl
theorem LV (P p fn q):jv {P with funcs:=p} fn q=jv P fn q:=by cases q with|binOp o t x y u=>show(O' x&&(mV {P with funcs:=p} o t||xk {P with funcs:=p} o t y)&&du fn x&&du fn y)=(O' x&&(mV P o t||xk P o t y)&&du fn x&&du fn y);rw[Po];rfl|pick c a b=>cases c<;>rfl|makeMap t n=>show(kZ _ t&&_)=(kZ P t&&_);rw[Ao]|insert t m k x=>show(kZ _ t&&_&&_&&_)=(kZ P t&&_&&_&&_);rw[Ao]|lookup t m k x=>show(kZ _ t&&_&&_)=(kZ P t&&_&&_);rw[Ao]|_=>rfl
theorem CB (P t fn):∀c,codeOk {P with funcs:=t} fn c=codeOk P fn c:=by intro c;induction c with|seq a b s hb=>grind [codeOk]|cond x a b s hb=>grind [codeOk]|block i b hb=>assumption|loop b hb=>assumption|rangeFunc f u a b s hb=>grind [codeOk]|region i ops d=>grind [codeOk,LV]|_=>rfl
end
def Li (fn c):@codeOk oW Tz.prog fn c=@codeOk oW Tryz.prog fn c:=@CB oW Tryz.prog _ fn c
section
variable [Gl]{P:aj}{fn:ao->Bool}
def pm:Op->Bool
 |.panic _=>true
 |.defer {callee:=.value _,args,argTypes}=>args.isEmpty&&argTypes.isEmpty
 |.convert a b _=>a==47&&b==87||a==87&&b==47
 |.binOp .neq t _ y u=>t==47&&u==47||t==51&&u==51&&Tz.isT y
 |.binOp .eql t _ _ u=>t==47&&u==47||t==51&&u==51
 |.assign (.const<|.map none)=>true
 |_=>false
def C2 (P:aj)(fn:ao->Bool)(o:Oper):Bool:=o.op.operands.toList.any Tz.LI||(jv P fn o.op||vg fn o.op)||pm o.op
def gw (P:aj)(fn:ao->Bool):az->Bool
 |.seq a b=>gw P fn a&&gw P fn b
 |.cond x a b=>du fn x&&gw P fn a&&gw P fn b
 |.block _ a|.loop a=>gw P fn a
 |.region _ ops _=>ops.all (C2 P fn)
 |c=>codeOk P fn c
def LL {o}(h:C2 P fn o):o.dst=(Tz.nk o).dst/\(o.guard=(Tz.nk o).guard/\o.after=(Tz.nk o).after)/\((WW P fn (Tz.nk o) o/\WW P fn (Tz.nk o) (Tz.nk o))\/dead (Tz.nk o).op=some o.op\/(Tz.nk o).op=Xk):=by
 unfold C2 at h;unfold Tz.nk;cases hk:o.op.operands.toList.any Tz.LI with
 |true=>exact⟨rfl,⟨rfl,rfl⟩,aa<|aa rfl⟩
 |false=>
 rw[hk]at h;simp only[Bool.false_or,bi,if_false]at h⊢;let⟨dst,v,s,B,q,guard⟩:=o;simp only at h;have p:∀{v:Op},jv P fn v=true->WW P fn ⟨dst,v,s,B,q,guard⟩ ⟨dst,v,s,B,q,guard⟩:=λh=>ac ⟨rfl,h⟩;cases v with|panic y=>exact⟨rfl,⟨rfl,rfl⟩,aa<|ac rfl⟩|defer c=>(let⟨C,args,D⟩:=c;cases C with|value y=>have z:(args.isEmpty&&D.isEmpty)=true:=h;simp at z;obtain⟨rfl,rfl⟩:=z;exact⟨rfl,⟨rfl,rfl⟩,aa<|ac rfl⟩|_=>cases h)|convert a b y=>simp only[vg,pm,au]at h⊢;split;rename_i e;simp at e;obtain⟨rfl,rfl⟩:=e;exact⟨rfl,⟨rfl,rfl⟩,aa<|ac rfl⟩;split;rename_i e;simp at e;obtain⟨rfl,rfl⟩:=e;exact⟨rfl,⟨rfl,rfl⟩,aa<|ac rfl⟩;grind|binOp v t x y u=>(cases v with|neq=>simp only[vg,pm,au]at h⊢;split;rename_i e;simp at e;obtain⟨rfl,rfl⟩:=e;exact⟨rfl,⟨rfl,rfl⟩,aa<|ac rfl⟩;split;exact⟨rfl,⟨rfl,rfl⟩,aa<|aa rfl⟩;grind|eql=>simp only[vg,pm,au]at h⊢;split;rename_i e;simp at e;obtain⟨rfl,rfl⟩:=e;exact⟨rfl,⟨rfl,rfl⟩,aa<|ac rfl⟩;split;rename_i e;simp at e;obtain⟨rfl,rfl⟩:=e;exact⟨rfl,⟨rfl,rfl⟩,aa<|ac rfl⟩;grind|_=>simp_all [pm,vg,au])|call c=>(have z:(jv P fn (.call c)||vg fn (.call c))=true:=by grind [pm]);let⟨C,args,D⟩:=c;by_cases hs:C=.builtin .unsafeSliceData;subst hs;(have A:vg fn (.call ⟨.builtin .unsafeSliceData,args,D⟩)=true:=by simpa[jv,D6,mW,nS]using z);exact⟨rfl,⟨rfl,rfl⟩,ac ⟨aa<|ac ⟨rfl,rfl,A⟩,aa<|ac ⟨rfl,rfl,A⟩⟩⟩;(have A:vg fn (.call ⟨C,args,D⟩)=false:=by unfold vg;split<;>simp_all);rw[A,au]at z;split;rename_i e;simp at e;rename_i e;simp at e;rename_i e;simp at e;rename_i e;simp at e;rename_i e;simp at e;rename_i e;exact absurd (by injection e with e;injection e) hs;rename_i e;simp at e;exact⟨rfl,⟨rfl,rfl⟩,ac ⟨p z,p z⟩⟩|assign x=>by_cases J:x=.const (.map none);subst J;exact⟨rfl,⟨rfl,rfl⟩,ac ⟨aa<|aa ⟨rfl,ac rfl⟩,aa<|aa ⟨rfl,aa rfl⟩⟩⟩;(have A:pm (.assign x)=false:=by unfold pm;split<;>simp_all);simp[A,vg,au]at h;split;rename_i e;simp at e;rename_i e;simp at e;rename_i e;simp at e;rename_i e;simp at e;rename_i e;simp at e;rename_i e;simp at e;rename_i e;exact absurd (by injection e) J;exact⟨rfl,⟨rfl,rfl⟩,ac ⟨p h,p h⟩⟩|_=>simp[pm,vg,au]at h;exact⟨rfl,⟨rfl,rfl⟩,ac ⟨p h,p h⟩⟩
def GB {ops}(h:ops.all (C2 P fn)):pW P fn (ops.map Tz.nk) ops/\(Gl.Yr P->pW P fn (ops.map Tz.nk) (ops.map Tz.nk)):=by (have key:∀(i:Nat) (o:Oper),ops[i]?=some o->C2 P fn o=true:=λi o e=>by grind);refine⟨⟨cQ,λi o j e d=>?_⟩,λn=>⟨rfl,λi o j e d=>?_⟩⟩;rw[Array.getElem?_map,d]at e;let⟨q,s,g⟩:=LL<|key i j d;grind;rw[Array.getElem?_map]at e;obtain⟨x,l,rfl⟩:=agP.1 e;rcases(LL (key i x l)).2.2 with g|g|g<;>grind
def LK:∀{c:az},gw P fn c->DS P fn (Tz.nj c) c/\(Gl.Yr P->DS P fn (Tz.nj c) (Tz.nj c)):=by intro c;induction c with|seq a b p hb=>intro h;simp[gw]at h;exact⟨.seq (p h.1).1 (hb h.2).1,λs=>.seq ((p h.1).2 s)<|(hb h.2).2 s⟩|cond x a b p hb=>intro h;simp[gw]at h;exact⟨.cond h.1.1 (p h.1.2).1 (hb h.2).1,λs=>.cond h.1.1 ((p h.1.2).2 s)<|(hb h.2).2 s⟩|block i a p=>exact λh=>⟨.block (p h).1,λs=>.block<|(p h).2 s⟩|loop a p=>exact λh=>⟨.loop (p h).1,λs=>.loop<|(p h).2 s⟩|region i ops d=>exact λh=>⟨.region d (GB h).1,λs=>.region d<|(GB h).2 s⟩|_=>exact λh=>⟨.same h,λ_=>.same h⟩
def Nv (P q fn):∀c,gw {P with funcs:=q} fn c=gw P fn c:=by intro c;induction c with|seq a b p hb=>grind [gw]|cond x a b p hb=>grind [gw]|block i a p=>assumption|loop a p=>assumption|region i ops d=>grind [C2,LV,gw]|_=>grind [gw,CB]
end
def Vd (fn c):@gw oW Tz.prog fn c=@gw oW Tryz.prog fn c:=@Nv oW Tryz.prog _ fn c
noncomputable def PW (r:List Nat)(k:Nat)(fn:ad):Bool:=!(fn.name== "runtime.NumGoroutine")&&(match fn.body with|some c=>if Tz.qH.contains k then@gw oW Tryz.prog (λf=>r.contains f) c else@codeOk oW Tryz.prog (λf=>r.contains f) c|none=>false)
noncomputable def CM (r:List Nat):Bool:=r.all λk=>Tz.jk.contains k||Tz.xX.contains k||(match Tryz.prog.funcs[k]? with|some fn=>PW r k fn|none=>false)
def rD (h:CM r)(u:r.contains f)(s:Tz.jk.contains f=false)(v:Tz.xX.contains f=false):∃fn c,Tryz.prog.funcs[f]?=some fn/\fn.body=some c/\(fn.name== "runtime.NumGoroutine")=false/\(if Tz.qH.contains f then@gw oW Tryz.prog (λf=>r.contains f) c else@codeOk oW Tryz.prog (λf=>r.contains f) c):=by unfold CM at h;rw[bk]at h;have t:=h f cQ;rw[agY,agY]at t;grind [PW]
def VS:Tz.jk.all (λk=>match Tryz.prog.funcs[k]? with|some fn=>fn.body.isSome&&!(fn.name== "runtime.NumGoroutine")|none=>false):=aO
def AS (h:Tz.jk.contains f):∃fn,Tryz.prog.funcs[f]?=some fn/\fn.body.isSome/\(fn.name== "runtime.NumGoroutine")=false:=by have s:=VS;grind
def MQ:(Tryz.prog.funcs[Tz.wR]?).all (λf=>f.body.isNone):=aO
def O1 (hne:Tz.jk.contains f=false)(h:Tryz.prog.funcs[f]?=some fn)(hb:fn.body=some c):Tz.prog.funcs[f]?=some {fn with body:=some (if Tz.qH.contains f then Tz.nj c else c)}:=by (have s:(Tz.jk.contains f||f==Tz.wR)=false:=by rw[be];refine⟨hne,?_⟩;cases e:(f==Tz.wR)with|false=>rfl|true=>have t:=MQ;grind);cases hl:Tz.qH.contains f;rw[Tz.aF h s hl];obtain⟨⟩:=fn;grind;rw[Tz.jm h s hl,hb];rfl
def Xj:Option ad->Bool
 |none=>true
 |some fn=>!(fn.name== "runtime.NumGoroutine")&&fn.body.isNone&&(Extern.findNext fn).isNone&&(Extern.find fn).isNone&&!(fn.name.endsWith ".init"&&!fn.name.startsWith "("&&!fn.name.startsWith "gosem.")
def aa5:Xj Tz.prog.funcs[oW.ov]?:=aO
def Yh (xs V):Result.stops ((a8 oW.ov xs).run Tz.prog V):=by have h:=aa5;generalize a:Tz.prog.funcs[oW.ov]?=x at h;rcases x with _|fn;simp only[a8,program,a5,a7,Result.andThen];rw[a];rfl;simp only[Xj,Bool.and_eq_true,Bool.not_eq_true',Option.isNone_iff_eq_none]at h;obtain⟨⟨⟨⟨b,d⟩,g⟩,i⟩,j⟩:=h;simp only[a8,program,a5,a7,Result.andThen];rw[a];simp only[b,d,g,i,j,bi,if_false,Option.isNone_none,if_true,mark,a5,a7,Result.andThen];rfl
def Vy (h:oW.ov<1000000000):@DU oW Tryz.prog:=by
 first
  |exact absurd h bc
  |exact@Rr oW rfl
def Vo:Tryz.prog.info? 1000000000=none:=aO
def GT:Tz.prog.info? 1000000000=none:=Vo
def Au:Tryz.prog.globals.size=9:=aO
def ZO {d}(hb:fn.body=some c):({({fn with body:=some d}:ad)with body:=some c}:ad)=fn:=by obtain⟨⟩:=fn;grind
def Rg:Tz.prog.funcs.size<=1999999:=by have:(decide (Tz.prog.funcs.size<=1999999))=true:=aO;grind
def uq:Tryz.prog.follows .rangeFuncRecover:=aO
def W_:¬oW.Yr Tryz.prog/\oW.top Tryz.prog:=⟨λh=>by
 have h:Tryz.prog=Tz.prog:=h;have t:=Tz.func173;rw[Tz.Fn,<-h,Tryz.func173]at t;have s:=congrArg (λf:Option ad=>match f.bind (·.body)with|some (.refuse _)=>true|_=>false) t;revert s;exact λs=>absurd s<|by decide,rfl⟩
def DQ (h:Tz.xX.contains f):Tz.prog.funcs[f]?=none\/∃e,TE Tz.prog.funcs[f]? e/\TE Tryz.prog.funcs[f]? e:=by simp only[Tz.xX,List.contains_eq_mem,List.mem_cons,List.not_mem_nil,or_false,decide_eq_true_eq]at h;rcases h with rfl|rfl|rfl|rfl|rfl|rfl;exact aa ⟨_,⟨_,Tz.aF Tryz.func91,by kernel_rfl,by kernel_rfl,by kernel_rfl,by kernel_rfl,ac rfl⟩,⟨_,Tryz.func91,by kernel_rfl,by kernel_rfl,by kernel_rfl,by kernel_rfl,ac rfl⟩⟩;exact aa ⟨_,⟨_,Tz.aF Tryz.func150,by kernel_rfl,by kernel_rfl,by kernel_rfl,by kernel_rfl,aa<|ac rfl⟩,⟨_,Tryz.func150,by kernel_rfl,by kernel_rfl,by kernel_rfl,by kernel_rfl,aa<|ac rfl⟩⟩;exact aa ⟨_,⟨_,Tz.aF Tryz.func53,by kernel_rfl,by kernel_rfl,by kernel_rfl,by kernel_rfl,aa<|aa rfl⟩,⟨_,Tryz.func53,by kernel_rfl,by kernel_rfl,by kernel_rfl,by kernel_rfl,aa<|aa rfl⟩⟩;exact ac (by kernel_rfl);exact ac (by kernel_rfl);exact ac<|by kernel_rfl
def L4 (h:CM r=true)(D:∀f,ok.ex f=Tz.xX.contains f)(O:∀f,ok.fn f=r.contains f)(J:∀f,ok.aP f=true->r.contains f=true/\Tz.sG.contains f=false)(T:∀c,ok.code c=@codeOk oW Tryz.prog ok.fn c):@dV oW Tz.prog Tz.prog ok/\@dV oW Tz.prog Tryz.prog ok:=by
 letI:=oW;have J:∀f,ok.aP f=true->r.contains f=true/\Tz.jk.contains f=false/\Tz.xX.contains f=false:=λf s=>by
  let⟨a,b⟩:=J f s;have b:(Tz.jk++Tz.xX).contains f=false:=b;rw[List.contains_append,be]at b;exact⟨a,b⟩
 have U:ok.fn=λf=>r.contains f:=funext O
 have R:∀f,ok.fn f=true->ok.ex f=false->∃fn,Tz.prog.funcs[f]?=some fn/\fn.body.isSome=true/\(fn.name== "runtime.NumGoroutine")=false:=λf s B=>by
  cases e:Tz.jk.contains f with
  |true=>let⟨fn,u,x,C⟩:=AS e;exact⟨_,Tz.Ek u e,rfl,C⟩
  |false=>
   let⟨fn,c,u,x,C,_⟩:=rD h ((O f).symm.trans s) e<|(D f).symm.trans B;exact⟨_,O1 e u x,rfl,C⟩
 have Y:∀f,ok.fn f=true->ok.ex f=false->∃fn,Tryz.prog.funcs[f]?=some fn/\fn.body.isSome=true/\(fn.name== "runtime.NumGoroutine")=false:=λf s B=>by
  cases e:Tz.jk.contains f with
  |true=>exact AS e
  |false=>
   let⟨fn,c,u,x,C,_⟩:=rD h ((O f).symm.trans s) e<|(D f).symm.trans B;exact⟨fn,u,by rw[x];rfl,C⟩
 constructor
 .exact{left:=R,right:=R,ext:=λf s=>(by rcases DQ ((D f).symm.trans s)with h|⟨e,a,_⟩;exact ac h;exact aa ⟨e,a,a⟩),inx:=λf s=>(D f).trans (J f s).2.2,hole:=GT,over:=Yh,lies:=rfl,same:=λf s=>(by
   let⟨hc,t,B⟩:=J f s;let⟨fn,c,u,x,C,y⟩:=rD h hc t B;have A:=O1 t u x;refine⟨_,_,_,A,A,rfl,?_⟩;rw[U];cases N:Tz.qH.contains f with
   |true=>rw[N]at y;exact(LK (P:=Tz.prog)<|(Vd _ _).trans y).2 rfl
   |false=>rw[N]at y;exact .same<|(Li _ _).trans y),ZN:=⟨uq,uq⟩,code:=λc=>(T c).trans (Li ok.fn c).symm,tab:=rfl,Jp:=Au,Pm:=Rg}
 .exact{left:=R,right:=Y,ext:=λf s=>DQ<|(D f).symm.trans s,inx:=λf s=>(D f).trans (J f s).2.2,hole:=GT,over:=Yh,lies:=Vf Tryz.prog _,same:=λf s=>(by
   let⟨hc,t,B⟩:=J f s;let⟨fn,c,u,x,C,y⟩:=rD h hc t B;have A:=O1 t u x;refine⟨_,_,c,A,?_,rfl,?_⟩
   .rw[u];exact congrArg some (ZO x).symm
   rw[U];cases N:Tz.qH.contains f with
   |true=>rw[N]at y;exact(LK y).1
   |false=>rw[N]at y;exact .same y),ZN:=⟨uq,uq⟩,code:=T,tab:=rfl,Jp:=Au,Pm:=Rg}
def ground:Frame:={fn:=1000000000,tmps:=#[],todo:=[.call {target:=.nil,args:=#[]} false "fmt's door: none" #[]],defers:=[],mode:=.run,kind:=.normal}
def aco:Tz.prog.funcs[1000000000]?=none:=aO
def M_:(Extern.next "fmt's door: none").isNone=true:=aO
def PV:kw Tz.prog ground where
 ret:=λv w=>by
  have h:Extern.next "fmt's door: none"=none:=by have:=M_;simpa using this
  exact⟨_,_,_,by simp[ground,Frame.finish,stepG,stepG.exec,G,h];exact⟨rfl,rfl,rfl⟩⟩
 pan:=λch w=>by
  have hc:bm Tz.prog (ground.raise ch)=true:=by
   simp[ground,bn,bm,aco]
  exact⟨_,_,_,by simp[stepG,G,ground,bn,unwind]at hc⊢;simp[hc];exact⟨rfl,rfl,rfl⟩⟩
def VR (v:∀f,ok.fn f=r.contains f)(x:∀f,ok.aP f=(r.contains f&&!Tz.sG.contains f)):@sw Tz.prog ok:=by intro f B cs V u hi;rw[v]at u;rw[x,u]at hi;(have y:Tz.sG.contains f=true:=by simpa using hi);have hi:(Tz.jk++Tz.xX).contains f=true:=y;rw[List.contains_append,agY]at hi;rcases hi with hi|hi;let⟨fn,s,t,C⟩:=AS hi;have A:Tz.prog.funcs[f]?=some {fn with body:=some Tz.yY}:=Tz.Ek s hi;exact⟨_,_,_,by simp[Frame.enter,A,Tz.yY,stepG,stepG.exec,G];exact⟨rfl,rfl,rfl⟩⟩;rcases DQ hi with s|⟨e,⟨fn,s,_,t,_⟩,_⟩;exact⟨_,_,_,by simp[Frame.enter,s,stepG,stepG.exec,G];exact⟨rfl,rfl,rfl⟩⟩;rw[Option.isNone_iff_eq_none]at t;exact⟨_,_,_,by simp[Frame.enter,s,t,stepG,stepG.exec,G];exact⟨rfl,rfl,rfl⟩⟩
def F1:List Nat:=[208,189,190,169,214,77,215,226,79,101,144,232,233,172]
def Ur:CM F1=true:=aO
def Uq:F1.all (λf=>!Tz.sG.contains f)=true:=aO
def ZB {okw:Ctx}(s:∀f,okw.fn f=F1.contains f)(h2:∀f,okw.aP f=F1.contains f)(t:@dV oW Tz.prog Tz.prog okw/\@dV oW Tz.prog Tryz.prog okw):@qh oW Tryz.prog ok MC (@aS):=
 letI:=oW;Ua (PK (okw:=okw) (c:=ground) (af8:=Tz.prog) rfl t.1 t.2 (λf h=>by rw[s]at h;rw[h2];exact h) PV ⟨aa2,aa2,by rw[s];kernel_rfl⟩)
def T9:@qh oW Tryz.prog ok MC (@aS):=
 let okw:Ctx:=⟨λf=>F1.contains f,λf=>F1.contains f,λc=>@codeOk oW Tryz.prog (λf=>F1.contains f) c,λf=>Tz.xX.contains f⟩
 ZB (okw:=okw) (λ_=>rfl) (λ_=>rfl) (L4 (ok:=okw) Ur (λ_=>rfl) (λ_=>rfl) (λf h=>⟨h,by
  have s:=Uq;rw[bk]at s;have:=s f (by simpa using(show F1.contains f=true from h));simpa using this⟩) (λ_=>rfl))
def abe:List Nat:=[262,253,261,260,263,6,5,141,254,264,107,95,255,256,257,52,106,81,20,21,14,15,17,16,18,19,168,169,170,171,259,258,145,265,146,80,32,34,33,35,36,37,38,39,22,23,24,25,26,27,28,29,31,30,183,142,267,102,174,173,78,54,55,56,57,58,59,60,12,61,62,63,64,65,40,41,42,44,43,45,46,47,48,49,50,51,53,191,192,193,103,104,105,82,83,84,85,86,87,88,67,68,69,70,71,72,73,74,76,75,79,216,217,220,143,144,108,109,110,111,112,113,114,115,89,91,92,93,94,96,97,98,77,100,99,228,219,218,172,147,148,149,117,122,123,127,128,129,101,139,140,131,132,133,134,135,136,137,138,229,230,214,231,150,156,157,159,160,163,164,165,166,167,234,178,179,182,1999999,2000004,2000006]
def ZP:List Nat:=[3,4,7,8,10,11,9,13]++abe
def Up:CM ZP=true:=aO
def PX:ZP.all (λf=>(Tryz.prog.inits.idxOf? f).isNone)=true:=aO
section
variable {H:Type}{enc:ax×av->H}
def p7 {a C os f s B u D A J}{X:ay->Array av->Prop} (hX:∀(w w':ay) (args:Array av),w.heap=w'.heap->X w args->X w' args) (own:ownKnob C.prog.godebug=none)(N:os.Started)(se:C.prog.funcs[f]?=some fn) (O:∃(w:ay) (x:Tape) (i:Input),w.os=os/\(w.forCall x i).Shaped C.prog/\i.vars=[]/\Input.okWide C.prog (w.forCall x i) .any w f i/\((s.pre enc C.prog fn B u (w.forCall x i).memory i.args/\X (w.forCall x i).memory i.args)/\sizedMet enc C.prog fn (OpenSpec.ofChange s) u (w.forCall x i).memory i.args)/\a.holds C.prog (lone (a6 C.prog f i.args .normal) []<|w.forCall x i)) (R:∀(W:ay) (base:Nat) (args:Array av) (Y gs:List (DataW H)) (y:List MemPlace),W.ShapedOpen C.prog->(∀(j:Nat) t v,fn.params[j]?=some t->args[j]?=some v->Value.okWide C.prog W .any base t v)->DataW.Whole enc C.prog fn.params.toList s.vars u W args.toList Y gs y->X W args->∃M last o w' U,runNT C.prog (M+1) (solo (G (a6 C.prog f args .normal) []) W) #[]=(.ended o w',U)/\runN C.prog M (solo (G (a6 C.prog f args .normal) []) W)=.next last/\step C.prog last=.ended o w'/\Conc.Good C.prog (λv W'=>s.post enc C.prog fn u D A J W args v W') last o w' U): ReturnsInLeavingWide a C os f .any (λw args=>(s.pre enc C.prog fn B u w args/\X w args)/\sizedMet enc C.prog fn (OpenSpec.ofChange s) u w args) (s.post enc C.prog fn u D A J):=by apply returnsInLeavingWide_of_good own N O;intro w x i _ m8 _ eK EB aZ;let⟨_,_,_,ee,Z,_,_,_,_,T⟩:=eK;have e:=agC<|Z.symm.trans se;subst e;let⟨⟨⟨Y,gs,y,hw,hc⟩,hx⟩,hz⟩:=EB;let⟨M,last,o,w',U,h1,h2,h3,h4⟩:=R _ w i.args Y gs y m8 T (DataW.Whole.of_heap bQ hw)<|hX _ _ _ bQ hx;exact⟨M,last,o,w',U,h1,h2,h3,h4.mono λv hp=>ChangeSpec.post_blind hp⟩
end
def et:Tryz.prog.globalNamed "errors.errorType"=some 3:=aO
def rt:(Tryz.prog.cutTypes.find? (·.1== "internal/reflectlite.rtype")).map (·.2)=some 222:=aO
def T_:((bp 329).filter λt=>Tryz.prog.rowNamed t [101,114,114,111,114])=[51]:=aO
def zF (h:aG Tryz.prog [("errors.errorType",Rows.laid_errors_errorType)] W):W.cell? ⟨3,0,none⟩=some (.iface 222<|.agg #[.pointer<|some ⟨9,51,none⟩]):=by let⟨name,u,b,d,g,l,i,j⟩:=h.2 _<|bj.2 rfl;have k:=(agC d).symm;subst k;obtain rfl:=agC<|rt.symm.trans g;have a:b∈(bp 329).filter λt=>Tryz.prog.rowNamed t [101,114,114,111,114]:=List.mem_filter.2 ⟨List.mem_range.2 cQ,i⟩;rw[T_]at a;obtain rfl:=bj.1 a;have m:typeHandle Tryz.prog 51=.pointer (some ⟨9,51,none⟩):=aO;have:=World.var?_cell et j 0;assumption
def wj:((begin Tryz.prog (λ_ _=>0) default).world.heap[3]?).bind Obj.row?=some (#[.nilIface],195):=aO
def RH:(((begin Tryz.prog (λ_ _=>0) default).world.heap[9-1]?).bind Obj.row?).isSome=true:=aO
def ZK (d:W.ShapedOpen Tryz.prog)(h:aG Tryz.prog [("errors.errorType",Rows.laid_errors_errorType)] W):W.heap[3]?=some zr/\oW.n<=W:=by have g:=zF h;let⟨cs,j,s,_⟩:=d.1 3 _ _ cQ wj;let⟨⟨z,t⟩,u⟩:=Option.isSome_iff_exists.1 RH;let⟨v,w,_⟩:=d.1 _ z t cQ u;have y:=(agy.1 w).1;refine⟨?_,zc⟩;let⟨l⟩:=cs;match l,s with|[x],_=>simp[World.cell?,j]at g;rw[j,g];rfl
noncomputable def C1 (os:Os):World:=
 let d:=World.holding Tryz.prog os ⟨#[],#[],[]⟩
 {d with heap:=d.heap.modify 3 λ
   |.cells _ t frozen=>.cells #[.iface 222<|.agg #[.pointer<|some ⟨9,51,none⟩]] t frozen
   |o=>o}
def Ox (x){p s c}(kinds u v lk) (hc:c.holds p s)(hw:c.wfByText s=true)(y:c.laidByTextAt x p kinds u) (A:c.start=.entering)(B:c.noBlocks=false/\c.again=false)(C:p.checked.prog.mainIs=some (v.1,v.2.toList))(hn:(!v.1&&v.2.isEmpty&&!lk)=false) (J:∀f fn,p.checked.prog.funcNamed c.func=some f->p.checked.prog.funcs[f]?=some fn->lk=p.checked.prog.looks []/\∀(j:Nat) t,fn.params[j]?=some t->p.checked.prog.wantsStandIn t=false) (N:true=c.goesBy p.checked.prog): Claim7.holds p (.plain s) {stood:={row:=c,standIns:=[],harness:=v,looks:=lk},kinds:=[],alts:=[],goes:=true,laidByText:=true,laidKinds:=kinds,laidTests:=u,laidLooks:=x}:=by have O:Claim7.isSixth {stood:={row:=c,standIns:=[],harness:=v,looks:=lk},kinds:=[]}=false:=zc;exact⟨Claim7.tied_new_at x kinds u (Claim7.new_of_sixth hc v lk A B C O J) hw,(λD R=>cQ),y,(λh=>sV),N⟩
def not_row {p}(q:p 195=false):∀d c off n,aL Tryz.prog p d 195 c off n=false
 |0,_,_,_=>rfl
 |d+1,c,off,n=>by
  unfold aL;rw[Tryz.underlying195,q];dsimp only;split
  .rfl
  .simp
theorem Ri (he:aE Tryz.prog Tryz.prog.depth 195 e=false)(p:∀m u,Tryz.prog.underlying e≠some (.array m u))(c off n):∀d,aI Tryz.prog d 195 c off e n=false
 |0=>rfl
 |d+1=>by
  unfold aI;rw[not_row he];cases q:Tryz.prog.underlying e with
  |none=>rfl
  |some x=>
   cases x with
   |array m u=>exact(p m u q).elim
   |_=>rfl
def I8 {r base t x n cap}(g:Tryz.prog.underlying t=some (.slice e))(he:aE Tryz.prog Tryz.prog.depth 195 e=false)(l:∀m u,Tryz.prog.underlying e≠some (.array m u))(s:W.heap[3]?=some zr)(h:Cell.okWide Tryz.prog W r base t (.slice (some x) n cap)):(∃cs e z,W.heap[x.block]?=some (.cells cs e z))/\x.block≠3:=by simp[g,Cell.okWide,Cell.ok]at h;let⟨_,_,_,v,j,d,w,y⟩:=h;grind [World.shape?,zr,Ri]
namespace K3
def JO (h:aU (λd=>d<W) W W'):Below W W {W' with tape:=W.tape}:=⟨h.os,rfl,h.out,h.size,h.block⟩
def JP (h:aU (λd=>d<W) W W')(a):W.keptBut W' a:=by refine⟨h.os,h.out,λi b=>?_⟩;rw[h.block i b];split<;>simp_all
def DN {s g cs}(t:Tryz.prog.globalNamed s=some g)(h:W.var? Tryz.prog s=some cs):∃e z,W.heap[g]?=some (.cells cs e z):=by unfold World.var? at h;rw[t,Option.bind_some]at h;split at h;rename_i c e z u;cases h;exact⟨e,z,u⟩;cases h
def Z' (h:aG Tryz.prog Rows.fnLinesRow.laid W):Lib.TabIs Tryz.prog W "internal/strconv.uint64pow10" .u64 Lib.pow10Tab:=by have a:=(br.1 h).1.filter λx=>x.1== "internal/strconv.uint64pow10";exact Lib.tabIs_of_head (g:=6) (t:=208) (e:=164) (n:=20) (rest:=[]) aO aO aO aO aO aO a
def adJ (h:aG Tryz.prog Rows.fnLinesRow.laid W):∃t u,W.var? Tryz.prog "strconv.ErrSyntax"=some #[.iface t u]:=by have j:=(br.1 h).1.filter λx=>x.1== "strconv.ErrSyntax";obtain⟨o,⟨g,t,i,a,p,q,k,l,m,b,_⟩,_⟩:laidMet Tryz.prog [("strconv.ErrSyntax",Rows.laid_strconv_ErrSyntax)] W:=j;obtain rfl:g=4:=agC<|k.symm.trans aO;obtain rfl:t=51:=agC<|l.symm.trans aO;cases a with|zero=>cases b|succ a=>unfold DataW.trod at b;rw[Tryz.underlying51]at b;let⟨i⟩:=i;simp only at b;(split at b<;>first|cases b|skip);all_goals first|(rename_i d n;cases d;done)|(rename_i d;cases d;done)|(rename_i s u v d n;exact⟨u,v,m⟩)
noncomputable def pl:List (String×DataW Unit):=(Rows.fnLinesRow.laid).filter λx=>x.2.handleName?.isNone
noncomputable def wS (os:Os):World:=(C1 os).layVars Tryz.prog pl
def aaN (os args):aG Tryz.prog Rows.fnLinesRow.laid ((wS os).forCall (λ_ _=>0) ⟨#[],args,[]⟩).memory:=by have a:(pl.filter λx=>(pl.map (·.1)).contains x.1)=pl:=List.filter_eq_self.2 λx b=>bb.2<|bo.2 ⟨x,b,rfl⟩;(have d:(pl.filter λx=>!(pl.map (·.1)).contains x.1)=[]:=List.filter_eq_nil_iff.2 λx b=>by rw[bb.2 (bo.2 ⟨x,b,rfl⟩)];simp);have h:laidMet Tryz.prog pl (wS os):=laidMet_layVars (w0:=C1 os) (pl.map (·.1)) [] (by rw[a];rfl) (by rw[a];kernel_rfl) (by rw[a];kernel_rfl) (by rw[d];exact LaidIn.none);exact laidMetH_of_parts (h.of_heap<|by simp[World.memory,World.forCall,Input.heap]) aO
def jf:joinedFacts Tryz.prog 3 Tryz.f3 Rows.fnLinesSpec Rows.fnLinesRow=true:=by kernel_rfl
end K3
