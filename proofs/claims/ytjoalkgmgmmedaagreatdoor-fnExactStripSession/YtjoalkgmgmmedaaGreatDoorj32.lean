import Derived.Test.YtjoalkgmgmmedaaGreatDoorj31
import Derived.Test.YtjoalkgmgmmedaaGreatDoorj23
import Derived.Conc.LeavingOf
import Derived.Test.YtjoalkgmgmmedaaGreatDoorCards
import Derived.Test.YtjoalkgmgmmedaaGreatDoorTie
import Derived.Lay
import Derived.Lib.LaidTab
import Derived.Lib.ItoaNum
set_option linter.defProp false
set_option linter.unusedVariables false
set_option maxRecDepth 100000
open Bool renaming or_false->aa,or_eq_false_iff->aV,false_eq_true->a5
open Go renaming Program->au,FuncId->ax,Func->aE,laidMetH->aF,Value->a8,sameLayout->bb,World->bi,TypeId->bn,rowAt->bo,callFunc->bp,stepG->br,Code->bs,laidMetH_iff->bt,liesAt->bv
open Go.Frame renaming enter->ai,catches->a9,raise->be
open Go.Program renaming stoodInHeld->ac,stoodInAs->av,alikeButTags->aB
open Go.Sem renaming run_bind->aI,run->bk
open List renaming contains_iff_mem->aL,contains_append->a0,mem_singleton->a6,all_eq_true->a7,mem_map->bj,range->bm
open Option renaming isNone_iff_eq_none->ay
open Or renaming inr->ad,inl->ao
namespace Go.Proofs.YtjoalkgmgmmedaaGreatDoor
open ChangeAt ChangeShapes Conc RowKit WideShapes
variable {c:bs}{ok:Ctx}{fn:aE}{r:List Nat}{f:Nat}{W W':bi}
@[reducible] def oK:Gl:={n:=9,ov:=259,XA:=λp=>p=Tz.prog,top:=λp=>p=Tryz.prog}
section
variable [Gl]
omit [Gl] in
def yF (P:au)(e:Array aE):∀d a b,aB {P with funcs:=e} d a b=P.alikeButTags d a b:=by
 intro d;induction d with
 |zero=>intro a b;rfl
 |succ d g=>simp_all [aB]
omit [Gl] in
def OL (P:au)(b:Array aE)(a:BinOp)(t:bn):mK {P with funcs:=b} a t=mK P a t:=by
 unfold mK N6 Wh ac av;simp[yF];rfl
omit [Gl] in
def UA (P:au)(s:Array aE):bv {P with funcs:=s}=bv P:=by
 have v:∀t,ac {P with funcs:=s} t=P.stoodInHeld t:=λt=>by
  unfold ac av;simp[yF];rfl
 have x:∀d t u,bb {P with funcs:=s} d t u=bb P d t u:=by
  intro d;induction d with
  |zero=>intro t u;rfl
  |succ d p=>intro t u;unfold bb;simp[p,v];rfl
 have y:∀q d e c o n,bo {P with funcs:=s} q d e c o n=bo P q d e c o n:=by
  intro q d;induction d with
  |zero=>intro e c o n;rfl
  |succ d p=>intro e c o n;unfold bo;simp[p,v];rfl
 funext d;induction d with
 |zero=>rfl
 |succ d p=>funext e c o u n;unfold bv;simp[p,x,y];rfl
omit [Gl] in
def zR (P:au)(a:Array aE)(t:bn):kR {P with funcs:=a} t=kR P t:=by
 unfold kR N6 Wh ac av;simp[yF];rfl
theorem Lg (P e fn p):jm {P with funcs:=e} fn p=jm P fn p:=by
 cases p with
 |binOp o t x y u=>
  show(ZX x&&(mK {P with funcs:=e} o t||wK {P with funcs:=e} o t y)&&dq fn x&&dq fn y)=(ZX x&&(mK P o t||wK P o t y)&&dq fn x&&dq fn y);rw[OL];rfl
 |pick c a b=>cases c<;>rfl
 |makeMap t n=>show(kR _ t&&_)=(kR P t&&_);rw[zR]
 |insert t m k x=>show(kR _ t&&_&&_&&_)=(kR P t&&_&&_&&_);rw[zR]
 |lookup t m k x=>show(kR _ t&&_&&_)=(kR P t&&_&&_);rw[zR]
 |_=>rfl
theorem Ce (P t fn):∀c,codeOk {P with funcs:=t} fn c=codeOk P fn c:=by
 intro c;induction c with
 |seq a b s hb=>grind [codeOk]
 |cond x a b s hb=>grind [codeOk]
 |block i b hb=>assumption
 |loop b hb=>assumption
 |rangeFunc f u a b s hb=>grind [codeOk]
 |region i ops d=>grind [codeOk,Lg]
 |_=>rfl
end
def KI (fn c):@codeOk oK Tz.prog fn c=@codeOk oK Tryz.prog fn c:=@Ce oK Tryz.prog _ fn c
section
variable [Gl]{P:au}{fn:ax->Bool}
def oX:Op->Bool
 |.panic _=>true
 |.defer {callee:=.value _,args,argTypes}=>args.isEmpty&&argTypes.isEmpty
 |.convert a b _=>a==38&&b==87||a==87&&b==38
 |.binOp .neq t _ y u=>t==38&&u==38||t==43&&u==43&&Tz.isT y
 |.binOp .eql t _ _ u=>t==38&&u==38||t==43&&u==43
 |.assign (.const<|.map none)=>true
 |_=>false
def CE (P:au)(fn:ax->Bool)(o:Oper):Bool:=o.op.operands.toList.any Tz.K3||(jm P fn o.op||uQ fn o.op)||oX o.op
def gq (P:au)(fn:ax->Bool):bs->Bool
 |.seq a b=>gq P fn a&&gq P fn b
 |.cond x a b=>dq fn x&&gq P fn a&&gq P fn b
 |.block _ a|.loop a=>gq P fn a
 |.region _ ops _=>ops.all (CE P fn)
 |c=>codeOk P fn c
def K6 {o}(h:CE P fn o):o.dst=(Tz.mU o).dst/\(o.guard=(Tz.mU o).guard/\o.after=(Tz.mU o).after)/\((VU P fn (Tz.mU o) o/\VU P fn (Tz.mU o) (Tz.mU o))\/dead (Tz.mU o).op=some o.op\/(Tz.mU o).op=Wf):=by
 unfold CE at h;unfold Tz.mU;cases hk:o.op.operands.toList.any Tz.K3 with
 |true=>exact⟨rfl,⟨rfl,rfl⟩,ad<|ad rfl⟩
 |false=>
 rw[hk]at h;simp only[Bool.false_or,a5,if_false]at h⊢;let⟨dst,v,s,B,q,guard⟩:=o;simp only at h;have p:∀{v:Op},jm P fn v=true->VU P fn ⟨dst,v,s,B,q,guard⟩ ⟨dst,v,s,B,q,guard⟩:=λh=>ao ⟨rfl,h⟩
 cases v with
 |panic y=>exact⟨rfl,⟨rfl,rfl⟩,ad<|ao rfl⟩
 |defer c=>
  let⟨C,args,D⟩:=c;cases C with
  |value y=>
   have z:(args.isEmpty&&D.isEmpty)=true:=h;simp at z;obtain⟨rfl,rfl⟩:=z;exact⟨rfl,⟨rfl,rfl⟩,ad<|ao rfl⟩
  |_=>cases h
 |convert a b y=>
  simp only[uQ,oX,aa]at h⊢;split
  .rename_i e;simp at e;obtain⟨rfl,rfl⟩:=e;exact⟨rfl,⟨rfl,rfl⟩,ad<|ao rfl⟩
  split
  .rename_i e;simp at e;obtain⟨rfl,rfl⟩:=e;exact⟨rfl,⟨rfl,rfl⟩,ad<|ao rfl⟩
  grind
 |binOp v t x y u=>
  cases v with
  |neq=>
   simp only[uQ,oX,aa]at h⊢;split
   .rename_i e;simp at e;obtain⟨rfl,rfl⟩:=e;exact⟨rfl,⟨rfl,rfl⟩,ad<|ao rfl⟩
   split
   .exact⟨rfl,⟨rfl,rfl⟩,ad<|ad rfl⟩
   grind
  |eql=>
   simp only[uQ,oX,aa]at h⊢;split
   .rename_i e;simp at e;obtain⟨rfl,rfl⟩:=e;exact⟨rfl,⟨rfl,rfl⟩,ad<|ao rfl⟩
   split
   .rename_i e;simp at e;obtain⟨rfl,rfl⟩:=e;exact⟨rfl,⟨rfl,rfl⟩,ad<|ao rfl⟩
   grind
  |_=>simp_all [oX,uQ,aa]
 |call c=>
  have z:(jm P fn (.call c)||uQ fn (.call c))=true:=by grind [oX]
  let⟨C,args,D⟩:=c;by_cases hs:C=.builtin .unsafeSliceData
  .subst hs;have A:uQ fn (.call ⟨.builtin .unsafeSliceData,args,D⟩)=true:=by simpa[jm,DD,mL,nH]using z
   exact⟨rfl,⟨rfl,rfl⟩,ao ⟨ad<|ao ⟨rfl,rfl,A⟩,ad<|ao ⟨rfl,rfl,A⟩⟩⟩
  have A:uQ fn (.call ⟨C,args,D⟩)=false:=by unfold uQ;split<;>simp_all
  rw[A,aa]at z;split
  .rename_i e;simp at e
  .rename_i e;simp at e
  .rename_i e;simp at e
  .rename_i e;simp at e
  .rename_i e;simp at e
  .rename_i e;exact absurd (by injection e with e;injection e) hs
  .rename_i e;simp at e
  exact⟨rfl,⟨rfl,rfl⟩,ao ⟨p z,p z⟩⟩
 |assign x=>
  by_cases J:x=.const (.map none)
  .subst J;exact⟨rfl,⟨rfl,rfl⟩,ao ⟨ad<|ad ⟨rfl,ao rfl⟩,ad<|ad ⟨rfl,ad rfl⟩⟩⟩
  have A:oX (.assign x)=false:=by unfold oX;split<;>simp_all
  simp[A,uQ,aa]at h;split
  .rename_i e;simp at e
  .rename_i e;simp at e
  .rename_i e;simp at e
  .rename_i e;simp at e
  .rename_i e;simp at e
  .rename_i e;simp at e
  .rename_i e;exact absurd (by injection e) J
  exact⟨rfl,⟨rfl,rfl⟩,ao ⟨p h,p h⟩⟩
 |_=>simp[oX,uQ,aa]at h;exact⟨rfl,⟨rfl,rfl⟩,ao ⟨p h,p h⟩⟩
def F7 {ops}(h:ops.all (CE P fn)):pM P fn (ops.map Tz.mU) ops/\(Gl.XA P->pM P fn (ops.map Tz.mU) (ops.map Tz.mU)):=by
 have key:∀(i:Nat) (o:Oper),ops[i]?=some o->CE P fn o=true:=λi o e=>by
  grind
 refine⟨⟨cO,λi o j e d=>?_⟩,λn=>⟨rfl,λi o j e d=>?_⟩⟩
 .rw[Array.getElem?_map,d]at e;let⟨q,s,g⟩:=K6<|key i j d;grind
 rw[Array.getElem?_map]at e;obtain⟨x,l,rfl⟩:=af3.1 e;rcases(K6 (key i x l)).2.2 with g|g|g;all_goals grind
def K5:∀{c:bs},gq P fn c->Dv P fn (Tz.mQ c) c/\(Gl.XA P->Dv P fn (Tz.mQ c) (Tz.mQ c)):=by
 intro c;induction c with
 |seq a b e hb=>
  intro h;simp[gq]at h;exact⟨.seq (e h.1).1 (hb h.2).1,λs=>.seq ((e h.1).2 s)<|(hb h.2).2 s⟩
 |cond x a b e hb=>
  intro h;simp[gq]at h;exact⟨.cond h.1.1 (e h.1.2).1 (hb h.2).1,λs=>.cond h.1.1 ((e h.1.2).2 s)<|(hb h.2).2 s⟩
 |block i a e=>exact λh=>⟨.block (e h).1,λs=>.block<|(e h).2 s⟩
 |loop a e=>exact λh=>⟨.loop (e h).1,λs=>.loop<|(e h).2 s⟩
 |region i ops d=>
  exact λh=>⟨.region d (F7 h).1,λs=>.region d<|(F7 h).2 s⟩
 |_=>exact λh=>⟨.same h,λ_=>.same h⟩
def MN (P p fn):∀c,gq {P with funcs:=p} fn c=gq P fn c:=by
 intro c;induction c with
 |seq a b e hb=>grind [gq]
 |cond x a b e hb=>grind [gq]
 |block i a e=>assumption
 |loop a e=>assumption
 |region i ops d=>
  grind [CE,Lg,gq]
 |_=>grind [gq,Ce]
end
def Uy (fn c):@gq oK Tz.prog fn c=@gq oK Tryz.prog fn c:=@MN oK Tryz.prog _ fn c
noncomputable def Pg (r:List Nat)(k:Nat)(fn:aE):Bool:=!(fn.name== "runtime.NumGoroutine")&&(match fn.body with|some c=>if Tz.qA.contains k then@gq oK Tryz.prog (λf=>r.contains f) c else@codeOk oK Tryz.prog (λf=>r.contains f) c|none=>false)
noncomputable def Cr (r:List Nat):Bool:=r.all λk=>Tz.je.contains k||Tz.xG.contains k||(match Tryz.prog.funcs[k]? with|some fn=>Pg r k fn|none=>false)
def rj (h:Cr r)(v:r.contains f)(u:Tz.je.contains f=false)(y:Tz.xG.contains f=false):∃fn c,Tryz.prog.funcs[f]?=some fn/\fn.body=some c/\(fn.name== "runtime.NumGoroutine")=false/\(if Tz.qA.contains f then@gq oK Tryz.prog (λf=>r.contains f) c else@codeOk oK Tryz.prog (λf=>r.contains f) c):=by
 unfold Cr at h;rw[a7]at h;have s:=h f cO;rw[agc,agc]at s;have t:=s.resolve_left cO;generalize Tryz.prog.funcs[f]?=x at t;cases x with
 |none=>grind
 |some fn=>
  unfold Pg at t;grind
def Vd:Tz.je.all (λk=>match Tryz.prog.funcs[k]? with|some fn=>fn.body.isSome&&!(fn.name== "runtime.NumGoroutine")|none=>false):=aO
def AA (h:Tz.je.contains f):∃fn,Tryz.prog.funcs[f]?=some fn/\fn.body.isSome/\(fn.name== "runtime.NumGoroutine")=false:=by
 have s:=Vd;grind
def L8:(Tryz.prog.funcs[Tz.wq]?).all (λf=>f.body.isNone):=aO
def Oo (hne:Tz.je.contains f=false)(h:Tryz.prog.funcs[f]?=some fn)(hb:fn.body=some c):Tz.prog.funcs[f]?=some {fn with body:=some (if Tz.qA.contains f then Tz.mQ c else c)}:=by
 have s:(Tz.je.contains f||f==Tz.wq)=false:=by
  rw[aV];refine⟨hne,?_⟩;cases e:(f==Tz.wq)with
  |false=>rfl
  |true=>
   have t:=L8;grind
 cases hl:Tz.qA.contains f with
 |true=>rw[Tz.jh h s hl,hb];rfl
 |false=>rw[Tz.aH h s hl];obtain⟨⟩:=fn;grind
def We:Option aE->Bool
 |none=>true
 |some fn=>!(fn.name== "runtime.NumGoroutine")&&fn.body.isNone&&(Extern.findNext fn).isNone&&(Extern.find fn).isNone&&!(fn.name.endsWith ".init"&&!fn.name.startsWith "("&&!fn.name.startsWith "gosem.")
def aan:We Tz.prog.funcs[oK.ov]?:=aO
def Xr (xs V):Result.stops ((bp oK.ov xs).run Tz.prog V):=by
 have h:=aan;generalize a:Tz.prog.funcs[oK.ov]?=x at h;cases x with
 |none=>
  simp only[bp,program,aI,bk,Result.andThen];rw[a];rfl
 |some fn=>
  simp only[We,Bool.and_eq_true,Bool.not_eq_true',ay]at h;obtain⟨⟨⟨⟨b,d⟩,e⟩,g⟩,i⟩:=h;simp only[bp,program,aI,bk,Result.andThen];rw[a];simp only[b,d,e,g,i,a5,if_false,Option.isNone_none,if_true,mark,aI,bk,Result.andThen];rfl
def UT (h:oK.ov<1000000000):@Dx oK Tryz.prog:=by
 first
  |exact absurd h bh
  |exact@QI oK rfl
def UJ:Tryz.prog.info? 1000000000=none:=aO
def Gs:Tz.prog.info? 1000000000=none:=UJ
def zZ:Tryz.prog.globals.size=9:=aO
def YU {d}(hb:fn.body=some c):({({fn with body:=some d}:aE)with body:=some c}:aE)=fn:=by
 obtain⟨⟩:=fn;grind
def QC:Tz.prog.funcs.size<=1999999:=by
 have:(decide (Tz.prog.funcs.size<=1999999))=true:=aO;grind
def t6:Tryz.prog.follows .rangeFuncRecover:=aO
def Z8:¬oK.XA Tryz.prog/\oK.top Tryz.prog:=⟨λh=>by
 have h:Tryz.prog=Tz.prog:=h;have t:=Tz.func166;rw[Tz.Fn,<-h,Tryz.func166]at t;have s:=congrArg (λf:Option aE=>match f.bind (·.body)with|some (.refuse _)=>true|_=>false) t;revert s;exact λs=>absurd s<|by decide,rfl⟩
def Dt (h:Tz.xG.contains f):Tz.prog.funcs[f]?=none\/∃e,SQ Tz.prog.funcs[f]? e/\SQ Tryz.prog.funcs[f]? e:=by
 simp only[Tz.xG,List.contains_eq_mem,List.mem_cons,List.not_mem_nil,or_false,decide_eq_true_eq]at h;rcases h with rfl|rfl|rfl|rfl|rfl|rfl
 .exact ad ⟨_,⟨_,Tz.aH Tryz.func92,by kernel_rfl,by kernel_rfl,by kernel_rfl,by kernel_rfl,ao rfl⟩,⟨_,Tryz.func92,by kernel_rfl,by kernel_rfl,by kernel_rfl,by kernel_rfl,ao rfl⟩⟩
 .exact ad ⟨_,⟨_,Tz.aH Tryz.func143,by kernel_rfl,by kernel_rfl,by kernel_rfl,by kernel_rfl,ad<|ao rfl⟩,⟨_,Tryz.func143,by kernel_rfl,by kernel_rfl,by kernel_rfl,by kernel_rfl,ad<|ao rfl⟩⟩
 .exact ad ⟨_,⟨_,Tz.aH Tryz.func58,by kernel_rfl,by kernel_rfl,by kernel_rfl,by kernel_rfl,ad<|ad rfl⟩,⟨_,Tryz.func58,by kernel_rfl,by kernel_rfl,by kernel_rfl,by kernel_rfl,ad<|ad rfl⟩⟩
 .exact ao (by kernel_rfl)
 .exact ao (by kernel_rfl)
 .exact ao (by kernel_rfl)
def Lo (h:Cr r=true)(D:∀f,ok.ex f=Tz.xG.contains f)(O:∀f,ok.fn f=r.contains f)(J:∀f,ok.aN f=true->r.contains f=true/\Tz.sv.contains f=false)(T:∀c,ok.code c=@codeOk oK Tryz.prog ok.fn c):@dQ oK Tz.prog Tz.prog ok/\@dQ oK Tz.prog Tryz.prog ok:=by
 letI:=oK;have J:∀f,ok.aN f=true->r.contains f=true/\Tz.je.contains f=false/\Tz.xG.contains f=false:=λf s=>by
  let⟨a,b⟩:=J f s;have b:(Tz.je++Tz.xG).contains f=false:=b;rw[a0,aV]at b;exact⟨a,b⟩
 have U:ok.fn=λf=>r.contains f:=funext O
 have R:∀f,ok.fn f=true->ok.ex f=false->∃fn,Tz.prog.funcs[f]?=some fn/\fn.body.isSome=true/\(fn.name== "runtime.NumGoroutine")=false:=λf s B=>by
  cases e:Tz.je.contains f with
  |true=>let⟨fn,u,x,C⟩:=AA e;exact⟨_,Tz.DS u e,rfl,C⟩
  |false=>
   let⟨fn,c,u,x,C,_⟩:=rj h ((O f).symm.trans s) e<|(D f).symm.trans B;exact⟨_,Oo e u x,rfl,C⟩
 have Y:∀f,ok.fn f=true->ok.ex f=false->∃fn,Tryz.prog.funcs[f]?=some fn/\fn.body.isSome=true/\(fn.name== "runtime.NumGoroutine")=false:=λf s B=>by
  cases e:Tz.je.contains f with
  |true=>exact AA e
  |false=>
   let⟨fn,c,u,x,C,_⟩:=rj h ((O f).symm.trans s) e<|(D f).symm.trans B;exact⟨fn,u,by rw[x];rfl,C⟩
 constructor
 .exact{left:=R,right:=R,ext:=λf s=>(by rcases Dt ((D f).symm.trans s)with h|⟨e,a,_⟩;exact ao h;exact ad ⟨e,a,a⟩),inx:=λf s=>(D f).trans (J f s).2.2,hole:=Gs,over:=Xr,lies:=rfl,same:=λf s=>(by
   let⟨hc,t,B⟩:=J f s;let⟨fn,c,u,x,C,y⟩:=rj h hc t B;have A:=Oo t u x;refine⟨_,_,_,A,A,rfl,?_⟩;rw[U];cases N:Tz.qA.contains f with
   |true=>rw[N]at y;exact(K5 (P:=Tz.prog)<|(Uy _ _).trans y).2 rfl
   |false=>rw[N]at y;exact .same<|(KI _ _).trans y),YT:=⟨t6,t6⟩,code:=λc=>(T c).trans (KI ok.fn c).symm,tab:=rfl,IP:=zZ,OK:=QC}
 .exact{left:=R,right:=Y,ext:=λf s=>Dt<|(D f).symm.trans s,inx:=λf s=>(D f).trans (J f s).2.2,hole:=Gs,over:=Xr,lies:=UA Tryz.prog _,same:=λf s=>(by
   let⟨hc,t,B⟩:=J f s;let⟨fn,c,u,x,C,y⟩:=rj h hc t B;have A:=Oo t u x;refine⟨_,_,c,A,?_,rfl,?_⟩
   .rw[u];exact congrArg some (YU x).symm
   rw[U];cases N:Tz.qA.contains f with
   |true=>rw[N]at y;exact(K5 y).1
   |false=>rw[N]at y;exact .same y),YT:=⟨t6,t6⟩,code:=T,tab:=rfl,IP:=zZ,OK:=QC}
def ground:Frame:={fn:=1000000000,tmps:=#[],todo:=[.call {target:=.nil,args:=#[]} false "fmt's door: none" #[]],defers:=[],mode:=.run,kind:=.normal}
def abz:Tz.prog.funcs[1000000000]?=none:=aO
def ZV:(Extern.next "fmt's door: none").isNone=true:=aO
def Pf:j9 Tz.prog ground where
 ret:=λv w=>by
  have h:Extern.next "fmt's door: none"=none:=by have:=ZV;simpa using this
  exact⟨_,_,_,by simp[ground,Frame.finish,br,stepG.exec,G,h];exact⟨rfl,rfl,rfl⟩⟩
 pan:=λch w=>by
  have hc:a9 Tz.prog (ground.raise ch)=true:=by
   simp[ground,be,a9,abz]
  exact⟨_,_,_,by simp[br,G,ground,be,unwind]at hc⊢;simp[hc];exact⟨rfl,rfl,rfl⟩⟩
def Vb (v:∀f,ok.fn f=r.contains f)(x:∀f,ok.aN f=(r.contains f&&!Tz.sv.contains f)):@rX Tz.prog ok:=by
 intro f B cs V u hi;rw[v]at u;rw[x,u]at hi;have y:Tz.sv.contains f=true:=by simpa using hi
 have hi:(Tz.je++Tz.xG).contains f=true:=y;rw[a0,agc]at hi;rcases hi with hi|hi
 .let⟨fn,s,t,C⟩:=AA hi;have A:Tz.prog.funcs[f]?=some {fn with body:=some Tz.yK}:=Tz.DS s hi;exact⟨_,_,_,by simp[ai,A,Tz.yK,br,stepG.exec,G];exact⟨rfl,rfl,rfl⟩⟩
 .rcases Dt hi with s|⟨e,⟨fn,s,_,t,_⟩,_⟩
  .exact⟨_,_,_,by simp[ai,s,br,stepG.exec,G];exact⟨rfl,rfl,rfl⟩⟩
  rw[ay]at t;exact⟨_,_,_,by simp[ai,s,t,br,stepG.exec,G];exact⟨rfl,rfl,rfl⟩⟩
def FC:List Nat:=[201,182,183,162,207,77,208,219,79,102,140,225,226,165]
def TK:Cr FC=true:=aO
def TJ:FC.all (λf=>!Tz.sv.contains f)=true:=aO
def YH {okw:Ctx}(s:∀f,okw.fn f=FC.contains f)(h2:∀f,okw.aN f=FC.contains f)(t:@dQ oK Tz.prog Tz.prog okw/\@dQ oK Tz.prog Tryz.prog okw):@qa oK Tryz.prog ok LR (@aS):=
 letI:=oK;Tt (O5 (okw:=okw) (c:=ground) (afn:=Tz.prog) rfl t.1 t.2 (λf h=>by rw[s]at h;rw[h2];exact h) Pf ⟨aal,aal,by rw[s];kernel_rfl⟩)
def Ts:@qa oK Tryz.prog ok LR (@aS):=
 let okw:Ctx:=⟨λf=>FC.contains f,λf=>FC.contains f,λc=>@codeOk oK Tryz.prog (λf=>FC.contains f) c,λf=>Tz.xG.contains f⟩
 YH (okw:=okw) (λ_=>rfl) (λ_=>rfl) (Lo (ok:=okw) TK (λ_=>rfl) (λ_=>rfl) (λf h=>⟨h,by
  have s:=TJ;rw[a7]at s;have:=s f (by simpa using(show FC.contains f=true from h));simpa using this⟩) (λ_=>rfl))
def TL:List Nat:=[255,246,254,253,256,4,5,137,247,257,108,96,248,249,250,57,107,81,6,7,8,9,11,10,12,13,161,162,163,164,252,251,141,258,142,80,14,16,15,17,18,19,20,21,22,23,24,25,26,27,28,29,31,30,176,138,260,103,167,166,78,32,34,35,36,37,38,39,33,40,41,42,43,44,45,46,47,49,48,50,51,52,53,54,55,56,58,184,185,186,104,105,106,59,60,61,62,63,64,65,67,68,69,70,71,72,73,74,76,75,79,209,210,213,139,140,82,83,84,85,86,87,88,89,90,92,93,94,95,97,98,99,77,101,100,221,212,211,165,109,110,111,113,118,119,123,124,125,102,135,136,127,128,129,130,131,132,133,134,222,223,207,224,143,149,150,152,153,156,157,158,159,160,227,171,172,175,1999999,2000004,2000006]
def TM:Cr (3::TL)=true:=aO
def Pi:(3::TL).all (λf=>(Tryz.prog.inits.idxOf? f).isNone)=true:=aO
section
variable {H:Type}{enc:bn×a8->H}
def pU {a C os f s B u D A J}{X:bi->Array a8->Prop}
  (hX:∀(w w':bi) (args:Array a8),w.heap=w'.heap->X w args->X w' args)
  (own:ownKnob C.prog.godebug=none)(N:os.Started)(rQ:C.prog.funcs[f]?=some fn)
  (O:∃(w:bi) (x:Tape) (i:Input),w.os=os/\(w.forCall x i).Shaped C.prog/\i.vars=[]/\Input.okWide C.prog (w.forCall x i) .any w.heap.size f i/\
   ((s.pre enc C.prog fn B u (w.forCall x i).memory i.args/\X (w.forCall x i).memory i.args)/\sizedMet enc C.prog fn (OpenSpec.ofChange s) u (w.forCall x i).memory i.args)/\a.holds C.prog (lone (ai C.prog f i.args .normal) []<|w.forCall x i))
  (R:∀(W:bi) (base:Nat) (args:Array a8) (Y gs:List (DataW H)) (y:List MemPlace),W.ShapedOpen C.prog->
   (∀(j:Nat) t v,fn.params[j]?=some t->args[j]?=some v->Value.okWide C.prog W .any base t v)->
   DataW.Whole enc C.prog fn.params.toList s.vars u W args.toList Y gs y->X W args->
   ∃M last o w' U,runNT C.prog (M+1) (solo (G (ai C.prog f args .normal) []) W) #[]=(.ended o w',U)/\runN C.prog M (solo (G (ai C.prog f args .normal) []) W)=.next last/\
    step C.prog last=.ended o w'/\Conc.Good C.prog (λv W'=>s.post enc C.prog fn u D A J W args v W') last o w' U):
  ReturnsInLeavingWide a C os f .any (λw args=>(s.pre enc C.prog fn B u w args/\X w args)/\sizedMet enc C.prog fn (OpenSpec.ofChange s) u w args) (s.post enc C.prog fn u D A J):=by
 apply returnsInLeavingWide_of_good own N O;intro w x i _ nk _ eF Eb aZ;let⟨_,_,_,d7,Z,_,_,_,_,T⟩:=eF;have e:=afQ<|Z.symm.trans rQ;subst e;let⟨⟨⟨Y,gs,y,hw,hc⟩,hx⟩,hz⟩:=Eb;let⟨M,last,o,w',U,h1,h2,h3,h4⟩:=R _ w.heap.size i.args Y gs y nk T (DataW.Whole.of_heap bQ hw)<|hX _ _ _ bQ hx;exact⟨M,last,o,w',U,h1,h2,h3,h4.mono λv hp=>ChangeSpec.post_blind hp⟩
end
def et:Tryz.prog.globalNamed "errors.errorType"=some 3:=aO
def rt:(Tryz.prog.cutTypes.find? (·.1== "internal/reflectlite.rtype")).map (·.2)=some 213:=aO
def Z4:((bm 320).filter λt=>Tryz.prog.rowNamed t [101,114,114,111,114])=[43]:=aO
def zh (h:aF Tryz.prog [("errors.errorType",Rows.laid_errors_errorType)] W):W.cell? ⟨3,0,none⟩=some (.iface 213<|.agg #[.pointer<|some ⟨9,43,none⟩]):=by
 let⟨name,u,b,d,e,k,g,i⟩:=h.2 _<|a6.2 rfl;have j:=(afQ d).symm;subst j;obtain rfl:=afQ<|rt.symm.trans e;have a:b∈(bm 320).filter λt=>Tryz.prog.rowNamed t [101,114,114,111,114]:=List.mem_filter.2 ⟨List.mem_range.2 cO,g⟩
 rw[Z4]at a;obtain rfl:=a6.1 a;have l:typeHandle Tryz.prog 43=.pointer (some ⟨9,43,none⟩):=aO;have:=World.var?_cell et i 0;assumption
def vI:((begin Tryz.prog (λ_ _=>0) default).world.heap[3]?).bind Obj.row?=some (#[.nilIface],186):=aO
def QY:(((begin Tryz.prog (λ_ _=>0) default).world.heap[9-1]?).bind Obj.row?).isSome=true:=aO
def YQ (d:W.ShapedOpen Tryz.prog)(h:aF Tryz.prog [("errors.errorType",Rows.laid_errors_errorType)] W):W.heap[3]?=some II/\oK.n<=W:=by
 have e:=zh h;let⟨cs,g,j,_⟩:=d.1 3 _ _ cO vI;let⟨⟨z,t⟩,s⟩:=Option.isSome_iff_exists.1 QY;let⟨u,v,_⟩:=d.1 _ z t cO s;have w:=(afM.1 v).1;refine⟨?_,yO⟩;let⟨l⟩:=cs;match l,j with
 |[x],_=>
  simp[World.cell?,g]at e;rw[g,e];rfl
noncomputable def CD (os:Os):World:=
 let d:=World.holding Tryz.prog os ⟨#[],#[],[]⟩
 {d with heap:=d.heap.modify 3 λ
   |.cells _ t frozen=>.cells #[.iface 213<|.agg #[.pointer<|some ⟨9,43,none⟩]] t frozen
   |o=>o}
def NN (x){p s c}(kinds u v lk)
  (hc:c.holds p s)(hw:c.wfByText s=true)(y:c.laidByTextAt x p kinds u)
  (A:c.start=.entering)(B:c.noBlocks=false/\c.again=false)(C:p.checked.prog.mainIs=some (v.1,v.2.toList))(hn:(!v.1&&v.2.isEmpty&&!lk)=false)
  (J:∀f fn,p.checked.prog.funcNamed c.func=some f->p.checked.prog.funcs[f]?=some fn->lk=p.checked.prog.looks []/\∀(j:Nat) t,fn.params[j]?=some t->p.checked.prog.wantsStandIn t=false)
  (N:true=c.goesBy p.checked.prog):
  Claim7.holds p (.plain s) {stood:={row:=c,standIns:=[],harness:=v,looks:=lk},kinds:=[],alts:=[],goes:=true,laidByText:=true,laidKinds:=kinds,laidTests:=u,laidLooks:=x}:=by
 have O:Claim7.isSixth {stood:={row:=c,standIns:=[],harness:=v,looks:=lk},kinds:=[]}=false:=yO;exact⟨Claim7.tied_new_at x kinds u (Claim7.new_of_sixth hc v lk A B C O J) hw,(λD R=>cO),y,(λh=>sK),N⟩
def not_row {e}(p:e 186=false):∀d c off n,bo Tryz.prog e d 186 c off n=false
 |0,_,_,_=>rfl
 |d+1,c,off,n=>by
  unfold bo;rw[Tryz.underlying186,p];dsimp only;split
  .rfl
  .simp
namespace Ku
def Jh (h:aU (λd=>d<W.heap.size) W W'):Below W.heap.size W {W' with tape:=W.tape}:=⟨h.os,rfl,h.out,h.size,h.block⟩
def Ji (h:aU (λd=>d<W.heap.size) W W')(a):W.keptBut W' a:=by
 refine⟨h.os,h.out,λi b=>?_⟩;rw[h.block i b];split<;>simp_all
def Do {s g cs}(t:Tryz.prog.globalNamed s=some g)(h:W.var? Tryz.prog s=some cs):∃e z,W.heap[g]?=some (.cells cs e z):=by
 unfold World.var? at h;rw[t,Option.bind_some]at h;split at h
 .rename_i c e z u;cases h;exact⟨e,z,u⟩
 .cases h
def d_ (h:aF Tryz.prog Rows.fnExactStripSessionRow.laid W):Lib.TabIs Tryz.prog W "internal/strconv.uint64pow10" .u64 Lib.pow10Tab:=by
 have a:=(bt.1 h).1.filter λx=>x.1== "internal/strconv.uint64pow10"
 exact Lib.tabIs_of_head (g:=6) (t:=199) (e:=158) (n:=20) (rest:=[]) aO aO aO aO aO aO a
def acS (h:aF Tryz.prog Rows.fnExactStripSessionRow.laid W):∃t u,W.var? Tryz.prog "strconv.ErrSyntax"=some #[.iface t u]:=by
 have i:=(bt.1 h).1.filter λx=>x.1== "strconv.ErrSyntax"
 obtain⟨n,⟨g,t,e,a,p,q,j,k,l,b,_⟩,_⟩:laidMet Tryz.prog [("strconv.ErrSyntax",Rows.laid_strconv_ErrSyntax)] W:=i;obtain rfl:g=4:=afQ<|j.symm.trans aO;obtain rfl:t=43:=afQ<|k.symm.trans aO;cases a with
 |zero=>cases b
 |succ a=>
  unfold DataW.trod at b;rw[Tryz.underlying43]at b;let⟨e⟩:=e;simp only at b;split at b<;>first|cases b|skip
  all_goals first|(rename_i d m;cases d;done)|(rename_i d;cases d;done)|(rename_i o u v d m;exact⟨u,v,l⟩)
noncomputable def pl:List (String×DataW Unit):=(Rows.fnExactStripSessionRow.laid).filter λx=>x.2.handleName?.isNone
noncomputable def wS (os:Os):World:=(CD os).layVars Tryz.prog pl
def O' (os args):aF Tryz.prog Rows.fnExactStripSessionRow.laid ((wS os).forCall (λ_ _=>0) ⟨#[],args,[]⟩).memory:=by
 have a:(pl.filter λx=>(pl.map (·.1)).contains x.1)=pl:=List.filter_eq_self.2 λx b=>aL.2<|bj.2 ⟨x,b,rfl⟩
 have d:(pl.filter λx=>!(pl.map (·.1)).contains x.1)=[]:=List.filter_eq_nil_iff.2 λx b=>by rw[aL.2 (bj.2 ⟨x,b,rfl⟩)];simp
 have h:laidMet Tryz.prog pl (wS os):=laidMet_layVars (w0:=CD os) (pl.map (·.1)) [] (by rw[a];rfl) (by rw[a];kernel_rfl) (by rw[a];kernel_rfl) (by rw[d];exact LaidIn.none);exact laidMetH_of_parts (h.of_heap<|by simp[World.memory,World.forCall,Input.heap]) aO
def jf:joinedFacts Tryz.prog 3 Tryz.f3 Rows.fnExactStripSessionSpec Rows.fnExactStripSessionRow=true:=by kernel_rfl
end Ku
