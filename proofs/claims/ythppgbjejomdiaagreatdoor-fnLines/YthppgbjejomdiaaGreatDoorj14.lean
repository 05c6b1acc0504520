import Derived.Test.YthppgbjejomdiaaGreatDoorj09
import Derived.Test.YthppgbjejomdiaaGreatDoorj13
set_option linter.all false
set_option maxHeartbeats 2000000
set_option maxRecDepth 100000
open Array renaming replicate->bz
open Go renaming World->ao,execOp->au,Value->ay,setRow_size->az,stepG->aE,Addr->aI,results->be,Goroutine->bj,setRow_other->bp,setRow_heap->br,yielded->bs,Frame->bt,Event->bv,storeCells->bA,Program->bB,TypeId->bE,goexitEntry->bO
open Go.Region renaming ready->aL,wanted->bo
open Go.RowKit.Below renaming heap_alloc->bm
open Go.Value renaming pointer->aa,slice->av,int->ax,bool->bk,oneCell'->bN
open Go.World renaming cell?->aV
open List renaming mem_singleton->bK,all_eq_true->bM
open Option renaming ne_none_iff_exists'->bJ
open Or renaming inl->ac,inr->ad
namespace Go.Proofs.YthppgbjejomdiaaGreatDoor
open Conc Conc.Lib ConcR.Gen RowKit
variable {Stop:(Nat->Prop)->bj->ao->Prop}{a:aI}{l:Array Bool}{ok:Ctx}{c c0:bt}{fn:Func}{cs:List bt}{todo:List Item}{rest:List Nat}{u A g i k off r:Nat}{M M':Nat->Prop}{o:Oper}{p:Ph}{P af8:bB}{v:ay}{W W' aj s w:ao}{x:aX}
def od (id:Nat):Code->Option (Array Oper)
 |.region i ops _=>if i==id then some ops else none
 |.seq a b=>(od id a).or (od id b)
 |.cond _ a b=>(od id a).or (od id b)
 |.block _ c=>od id c
 |.loop c=>od id c
 |.scope c=>od id c
 |_=>none
def kV:Code->Option Code
 |.seq a b=>(kV a).or (kV b)
 |.cond _ a b=>(kV a).or (kV b)
 |.block _ c=>kV c
 |.loop c=>some c
 |.scope c=>kV c
 |_=>none
section
variable {m:Bool}{I:ao->Prop}{X:bv->Prop}{Ro:Nat->Prop}
 {b:bt}{a:Act}{k:List Item}{ops:Array Oper}
def stepG_value {w':ao}(ho:ops[i]?=some o)(hw:bo o (bs ops a.tmps))(hk:b.kind≠.early)(q:(au a.eval o).run P w=.ok (.value v) w'): aE P m (G (b.at a<|.inRegion ops (i::rest)::k) cs) w=.go (G (b.at (a.put o.dst v)<|.inRegion ops rest::k) cs) w' (listed P b.fn a o w):=by have:=goes_oper_k (P:=P) (main:=m) (cs:=cs) (k:=k) (rest:=rest) (w:=w) (K:=λg' e f=>g'=G (b.at (a.put o.dst v)<|.inRegion ops rest::k) cs/\e=w'/\f=listed P b.fn a o w) ho hw hk λz h=>cQ;let⟨g',e,f,B,C,D,N⟩:=goes_elim this;grind
theorem ET.oper (ho:ops[i]?=some o)(hw:bo o (bs ops a.tmps))(hk:b.kind≠.early)
  (h:∀aj,aU (λb=>M b\/Ro b) W aj->I aj->∃v W',(au a.eval o).run P aj=.ok (.value v) W'/\fM X M Ro aj W' (listed P b.fn a o aj)/\ET P m I X Ro Stop (grow M aj W') (G (b.at (a.put o.dst v)<|.inRegion ops rest::k) cs) W'):
  ET P m I X Ro Stop M (G (b.at a<|.inRegion ops (i::rest)::k) cs) W:=
 ET.step rfl λaj e f=>by
  let⟨v,W',j,n,q⟩:=h aj e f;exact⟨_,_,_,stepG_value ho hw hk j,n,q⟩
def ET.val v (ho:ops[i]?=some o)(hw:bo o (bs ops a.tmps))(hk:b.kind≠.early)
  (h:∀aj,aU (λb=>M b\/Ro b) W aj->I aj->(au a.eval o).run P aj=.ok (.value v) aj/\∀e∈(au a.eval o).events P aj #[],Iw X M Ro e)
  (n:ET P m I X Ro Stop M (G (b.at (a.put o.dst v)<|.inRegion ops rest::k) cs) W):ET P m I X Ro Stop M (G (b.at a<|.inRegion ops (i::rest)::k) cs) W:=
 ET.oper ho hw hk λaj f j=>⟨v,aj,(h aj f j).1,fM.stay λe he=>(h aj f j).2 e<|mem_listed he,by rw[show grow M aj aj=M from cU rfl];exact n.rely f⟩
def ET.none (ho:ops[i]?=some o)(hw:bo o (bs ops a.tmps))(hk:b.kind≠.early)
  (h:∀aj,aU (λb=>M b\/Ro b) W aj->I aj->∃W',(au a.eval o).run P aj=.ok .skip W'/\fM X M Ro aj W' (listed P b.fn a o aj)/\ET P m I X Ro Stop (grow M aj W') (G (b.at (a.put o.dst undef)<|.inRegion ops rest::k) cs) W'):
  ET P m I X Ro Stop M (G (b.at a<|.inRegion ops (i::rest)::k) cs) W:=
 ET.step rfl λaj e f=>by
  let⟨W',j,n,q⟩:=h aj e f;exact⟨_,_,_,stepG_none ho hw hk j,n,q⟩
def Fe (e:b.kind=.normal)(f:a.defers=[])(q:P.funcs[b.fn]?=some fn)(z:(be fn a.tmps).run P w=.ok v w): aE P m (G {b.at a todo with mode:=.returning}<|c::cs) w=.go (G (c.finish v) cs) w (seen P b.fn<|(be fn a.tmps).events P w #[]):=by simp_all [G,aE,unwind,doReturn,Frame.at,GStep.after]
def ET.ES  v (z:b.kind=.normal)(B:a.defers=[])(C:P.funcs[b.fn]?=some fn)
  (h:∀aj,aU (λb=>M b\/Ro b) W aj->I aj->(be fn a.tmps).run P aj=.ok v aj/\∀e∈(be fn a.tmps).events P aj #[],Iw X M Ro e)
  (n:ET P m I X Ro Stop M (G (c.finish v) cs) W):ET P m I X Ro Stop M (G {b.at a todo with mode:=.returning}<|c::cs) W:=
 ET.step rfl λaj f q=>⟨_,_,_,Fe z B C (h aj f q).1,fM.stay λe he=>(h aj f q).2 e<|kM _ _ _ e he,by rw[show grow M aj aj=M from cU rfl];exact n.rely f⟩
def fM.row (cs:Array ay)(f:M g){es:Array bv}(h:∀e∈es,Iw X M Ro e):fM X M Ro W (W.setRow g cs) es:=
 ⟨λb _ j=>bp _ _ _ _ λe=>j<|e▸f,Nat.le_of_eq (az _ _ _).symm,rfl,rfl,rfl,λe n=>by rw[show grow M W _=M from cU (az _ _ _)];exact h e n⟩
def CJ {a:aI}(h:Ro a.block):Iw X M Ro ⟨.cell a,false,false⟩:=ac ⟨rfl,a,rfl,ad ⟨h,rfl⟩⟩
def ip {a:aI}{w:Bool}(h:M a.block):Iw X M Ro ⟨.cell a,w,false⟩:=ac ⟨rfl,a,rfl,ac h⟩
end
section
variable [Gl]
structure Jb where
 bl:Nat
 bn:Nat
 bb:Nat
 nb:Nat
 no:Nat
 nc:Nat
 tb:Nat
 jK:ay
 iF:Nat->ay
 S:Nat->Nat->Prop
 Is:Nat->aX->Prop
 lt:aX->aX->Bool
 base:Nat
def Jb.pick (J:Jb)(x y:aX):aX:=if J.lt y x then y else x
def Jb.dB (J:Jb):List aX->aX
 |[]=>ff
 |x::xs=>xs.foldl J.pick x
omit [Gl] in
def Jb.pk (J:Jb)(x y:aX):J.pick x y=x\/J.pick x y=y:=by grind [Jb.pick]
inductive yL (J:Jb):List Nat->aX->Prop
 |nil:yL J [] ff
 |snoc {seq:List Nat} {i:Nat} {x y:aX}:yL J seq x->J.Is i y->yL J (seq++[i]) (J.pick x y)
structure lj (W:ao)(M:Nat->Prop)(x:aX):Prop where
 row:eX W x.a x.n x.g
 small:x.n<=1048576
 blk:∀a,x.a=some a->a.spot=none/\M a.block/\∃cs e,W.heap[a.block]?=some (.cells cs e (0,0))/\∀v∈cs,∃n,v=ax .i64 n
 full:∀a,x.a=some a->a.off=0/\∃cs,W.heap[a.block]?=some (.cells cs 3 (0,0))/\cs.size=x.n
omit [Gl] in
def lj.keep (h:lj W M x)(C:∀b,M b->M' b)(D:∀a,x.a=some a->W'.heap[a.block]?=W.heap[a.block]?):lj W' M' x:=by refine⟨?_,h.small,λa f=>?_,λa f=>?_⟩;rcases h.row with e|⟨b,off,e,j⟩;exact ac e;refine ad ⟨b,off,e,λi n=>?_⟩;have:=j i n;grind [aV];let⟨q,z,cs,e,B,E⟩:=h.blk a f;grind;let⟨q,cs,z,B⟩:=h.full a f;grind
def Le (J:Jb)(seq:List Nat)(f:List ay)(e:Nat->Prop)(W:ao):Prop:=∃x,f=x.cells/\yL J seq x/\lj W e x/\∀b,e b->J.base<=b
structure pN (J:Jb)(af8:bB)(p:Ph)(ok:Ctx)(Ro:Nat->Prop)(s:ao):Prop where
 prog:p.P=Tryz.prog
 ty:p.ty=249
 tk:p.tk=J.tb
 wd:p.wd=4
 n4:p.n=4
 bty:p.bty=217
 res:p.Ze=Le J
 base:J.base<=s
 acb:s.heap[J.bl]?=some (.cells #[J.jK] 39 (0,0))
 ack:s.heap[J.bn]?=some (.cells #[av (some ⟨J.nb,J.no,none⟩) p.L J.nc] 219 (0,0))
 Zi:s.heap[J.bb]?=some (.cells #[av p.Bs 4 4] 250 (0,0))
 rbl:Ro J.bl
 rbn:Ro J.bn
 Yl:Ro J.bb
 rnb:Ro J.nb
 iO:∀i,i<p.L->s.cell? ⟨J.nb,J.no+i,none⟩=some (J.iF i)
 sro:∀i b,J.S i b->Ro b
 closed:∀i,i<p.L->∀aj,aU Ro s aj->Closed ok (J.S i) aj
 Pg:∀i,i<p.L->ar ok (uD<|J.S i) J.jK J.jK
 Pi:∀i,i<p.L->ar ok (uD<|J.S i) (J.iF i) (J.iF i)
 Sw:∀i,i<p.L->∀(F:Nat->Prop) aj,aU Ro s aj->∀τ d,Calls af8 208 #[J.jK,J.iF i] (re (froze F aj) τ d) λe w'=>∃x,e=.returned x.val/\J.Is i x/\lj w' (λb=>aj<=b) x
 ren:∀i x a',J.Is i x->(x.a=none<->a'=none)->J.Is i {x with a:=a'}
 least:∀V (b:Nat) (xs:List aX) (z:Nat×Nat),xs.length<=1048576->V.heap[b]?=some (.cells (xs.flatMap aX.cells).toArray 217 z)->(∀x∈xs,eX V x.a x.n x.g/\x.n<=1048576)->
  Calls af8 189 #[av b xs.length xs.length,.func (.func 190) #[] #[]] V λe w'=>e=.returned (J.dB xs).val/\Below V V w'
 Yg:ok.aP 208/\ok.aP 189/\ok.fn 190
def pN.mono {J Ro q}(h:pN J af8 p ok Ro s)(e:∀b,Ro b->q b)(hk:aU Ro s aj):pN J af8 p ok q aj:=
 ⟨h.prog,h.ty,h.tk,h.wd,h.n4,h.bty,h.res,agz h.base hk.size,(hk.block _ h.rbl).trans h.acb,(hk.block _ h.rbn).trans h.ack,(hk.block _ h.Yl).trans h.Zi,e _ h.rbl,e _ h.rbn,e _ h.Yl,e _ h.rnb,λi j=>by rw[<-h.iO i j];simp[aV,hk.block _ h.rnb],
  λi b z=>e _<|h.sro i b z,λi j n f=>h.closed i j n<|hk.trans<|f.mono e,h.Pg,h.Pi,λi j F n f τ d=>h.Sw i j F n (hk.trans<|f.mono e) τ d,h.ren,h.least,h.Yg⟩
end
def nz {P:bB}(g o:Nat)(t:bE):∀n i (d:Array ay) (w:ao) (es:Array bv),w.heap[g]?=some (.cells d t (0,0))->o+i+n.length<=d.size->(∀v∈n,v.oneCell')->
  ∀ev∈(bA ⟨g,o,none⟩ n i).events P w es,ev∈es\/∃j,i<=j/\j<i+n.length/\ev=⟨.cell ⟨g,o+j,none⟩,true,false⟩
 |[],_,_,_,_,_,_,_=>λev h=>ac (by simpa[bA]using h)
 |v::rest,i,d,w,es,q,C,z=>λev h=>by
  have D:o+i<d.size:=by simp at C;omega
  have f:(⟨g,o,none⟩:aI).add i=⟨g,o+i,none⟩:=by unfold Addr.add;split<;>simp_all
  have e:w.cell? ⟨g,o+i,none⟩=some d[o+i]:=by simp[aV,q,D]
  have B:w.frozen? ⟨g,o+i,none⟩=false:=by simp[World.frozen?,q]
  have E:(store ((⟨g,o,none⟩:aI).add i) v).run P w=.ok () (w.setRow g<|d.setIfInBounds (o+i) v):=by
   rw[f,run_store P w _ v _ (z v aN),e];simp[B,setCell_eq_setRow w g (o+i) d t (0,0) v q]
  have L:(store ((⟨g,o,none⟩:aI).add i) v).events P w es=es.push ⟨.cell ⟨g,o+i,none⟩,true,false⟩:=by
   rw[f,events_store P w es _ v _ (z v aN),e];grind
  simp[bA,E]at h;rcases nz g o t rest (i+1) _ _ _ (br w g d _ t _ q) f7 (λx F=>z x<|by simp[F]) ev h with h|⟨j,N,O,Q⟩;all_goals grind
section
variable {a:Act}{d:Array ay}{ty:bE}{t:aX}{x y:Operand}
def AO (e:o.op=.store 217 x y)(f:a.eval x=aa (some ⟨g,off,none⟩))(j:a.eval y=t.val)(n:W.heap[g]?=some (.cells d ty (0,0)))(q:off+4<=d.size): (au a.eval o).run Tryz.prog W=.ok .skip (W.setRow g (d.toList.take off++t.cells++d.toList.drop (off+4)).toArray):=by have h:=run_storeCells_at (P:=Tryz.prog) g off ty t.cells 0 d W n zc (by simp[aX.cells,bN]);rw[Nat.add_zero]at h;obtain⟨cs,z,B,C⟩:∃cs,t.val=.agg cs/\cs.size=4/\cs.toList=t.cells:=⟨_,rfl,rfl,rfl⟩;unfold au;simp[e,f,j];go_simp;grind
def CI (f:o.op=.store 217 x y)(n:a.eval x=aa (some ⟨g,off,none⟩))(q:a.eval y=t.val)(z:W.heap[g]?=some (.cells d ty (0,0)))(D:off+4<=d.size): ∀e∈(au a.eval o).events Tryz.prog W #[],∃j,j<4/\e=⟨.cell ⟨g,off+j,none⟩,true,false⟩:=by intro e he;have h:=nz (P:=Tryz.prog) g off ty t.cells 0 d W #[] z zc (by simp[aX.cells,bN]) e;obtain⟨cs,B,E,C⟩:∃cs,t.val=.agg cs/\cs.size=4/\cs.toList=t.cells:=⟨_,rfl,rfl,rfl⟩;rw[<-C]at h;unfold au at he;simp[f,n,q,B]at he;simp[go_sem]at he;grind
def gd (f:o.op=.store 217 x y)(n:a.eval x=aa g)(q:a.eval y=t.val)(z:W.heap[g]?=some (.cells d ty (0,0)))(B:d.size=4): (au a.eval o).run Tryz.prog W=.ok .skip (W.setRow g t.cells.toArray)/\∀e∈(au a.eval o).events Tryz.prog W #[],∃j,e=⟨.cell ⟨g,j,none⟩,true,false⟩:=by refine⟨?_,λe he=>?_⟩;rw[AO f n q z ab];have:d.toList.drop (0+4)=[]:=cY;grind;let⟨j,_,h⟩:=CI f n q z ab e he;grind
def AN (e:o.op=.load 217 x)(f:a.eval x=aa g)(hg:W.heap[g]?=some (.cells t.cells.toArray ty (0,0))):(au a.eval o).run Tryz.prog W=.ok (.value t.val) W:=by have c0:W.cell? g=some (bk t.ok):=FQ;have j:W.cell? ⟨g,1,none⟩=some (ax .i64 t.sum):=FQ;have q:W.cell? ⟨g,2,none⟩=some (ax .i64 t.most):=FQ;have z:W.cell? ⟨g,3,none⟩=some (av t.a t.n t.cap):=FQ;unfold au;simp[e,f,aX.val];go_simp
def CH (f:o.op=.load 217 x)(q:a.eval x=aa g)(hg:W.heap[g]?=some (.cells t.cells.toArray ty (0,0))):∀e∈(au a.eval o).events Tryz.prog W #[],∃j,e=⟨.cell ⟨g,j,none⟩,false,false⟩:=by intro e he;have c0:W.cell? g=some (bk t.ok):=FQ;have z:W.cell? ⟨g,1,none⟩=some (ax .i64 t.sum):=FQ;have B:W.cell? ⟨g,2,none⟩=some (ax .i64 t.most):=FQ;have C:W.cell? ⟨g,3,none⟩=some (av t.a t.n t.cap):=FQ;unfold au at he;simp[f,q]at he;simp[go_sem,c0,z,B,C]at he;grind
end
noncomputable def bot:Frame:={(default:bt)with fn:=Tryz.prog.funcs.size,defers:=[],mode:=.panicking [bO]}
noncomputable def I1:Code:=Tryz.f185.body.getD .skip
noncomputable def jw:Array Oper:=(od 1 I1).getD #[]
noncomputable def yZ:Code:=Tryz.f187.body.getD .skip
noncomputable def kU:Code:=(kV yZ).getD .skip
noncomputable def iY:Array Oper:=(od 5 yZ).getD #[]
def call47 (J:Jb)(e A:Nat):Deferred:={target:=.fn (.func 185) #[aa e,aa J.bl,aa J.bn,aa J.tb,aa J.bb,aa A],args:=#[]}
def MI (J:Jb)(e A:Nat)(w:ao):aE Tryz.prog false (born Tryz.prog<|call47 J e A) w=.go (G ((baseD 185).at ⟨#[aa e,aa J.bl,aa J.bn,aa J.tb,aa J.bb,aa A,ud,ud,ud,ud,ud,ud],[]⟩ [.code I1]) [bot]) w #[]:=by simp[born,call47,aE,unwind,callDeferred,invoke,callFunc,Tryz.func185,Tryz.f185,seen,GStep.after,G,Frame.enter,Frame.at,baseD,bot,I1]
def NW (T:Array ay)(todo:List Item):QuitsD Tryz.prog 2 0 (G {(baseD 185).at ⟨T,[]⟩ todo with mode:=.returning} [bot]):=by refine QuitsD.ctl (g':=G bot []) rfl (λw=>?_) ?_;simp[G,aE,unwind,doReturn,be,Frame.at,baseD,bot,seen,GStep.after,bO];refine QuitsD.ctl (g':={G bot []with status:=.finished}) rfl (λw=>?_) ⟨rfl,rfl⟩;simp[G,aE,unwind,bot,Frame.catches];rfl
def RJ {cs:Array ay}{e o}(f:e.length=4)(h:off+4<=cs.size):
  (cs.toList.take off++e++cs.toList.drop (off+4)).toArray[o]?=if off<=o/\o<off+4 then e[o-off]? else cs[o]?:=f7
def fR {b:Nat}{e:bE}{z:Nat×Nat}(h:w.heap[b]?=some (.cells #[v] e z)):w.cell? b=some v:=adD
def adj {p:Prop}(x9:p:=by unfold execOp;refine⟨?_,λe he=>?_⟩;(.simp only[bF];go_simp);simp[go_sem,bF,hb]at he;subst he;exact CJ wY):p:=x9
def YE {p:Prop}(x9:p:=by simp[go_sem]at he;rw[events_indexAt_slice _ _ _ _ _ _ (by go_simp) ab]at he;simp at he):p:=x9
section
variable [Gl]{J:Jb}{Ro:Nat->Prop}
noncomputable def abf (J:Jb)(f A:Nat)(h j v8 v9 v10 e:ay)(rest:List Nat):Frame:=
 (baseD 185).at ⟨#[aa f,aa J.bl,aa J.bn,aa J.tb,aa J.bb,aa A,h,j,v8,v9,v10,e],[dcall 186 #[aa f]]⟩ [.inRegion jw rest]
omit [Gl] in
def yB:∀e f h j n q,aL .any jw #[e,f,h,j,n,q,false]≠[]/\(aL .any jw #[e,f,h,j,n,q,false]).all (λi=>(i==0&&!e)||(i==1&&!f)||(i==2&&!h)||(i==3&&!j)||(i==4&&!n&&h&&j)||(i==5&&!q&&e&&f)||(i==6&&n&&q)):=by decide +kernel
def TN (f:pN J af8 p ok Ro s)(Ta:k<4)(wY:Ro A)(aG:p.Wg≠p.Bs){seq}(hb:yL J seq x)(ho:Fm .any jw l rest): ∀E F D (O Q v8 v9 q:Value) (M:Nat->Prop) (W:World) C u,l=#[E,F,true,true,true,D,false]->(E->O=.slice p.Bs 4 4)->(F->Q=.int .i64 k)->(D->q=.pointer (some ⟨p.Bs,k*4,none⟩))->aU Ro s W->W.heap[A]?=some (.cells #[.int .i64 k] 3 (0,0))->M C->W.cell? C=some u->lj W (λb=>M b/\b≠C) x->(∀b,p.Sp b->¬M b)->(∀b,M b->J.base<=b)->(D->E/\F)->ET p.P false p.I Ph.oD Ro (p.Cq k seq) M (G (abf J p.Wg A O Q v8 v9 x.val q rest) [bot]) W:=by induction ho with|nil h=>rintro E F D O Q v8 v9 q M W C u rfl;exact absurd h (yB _ _ _ _ _ _).1|@cons l i rest hi hr ih=>rintro E F D O Q v8 v9 q M W C u rfl h6 h7 En Y Z R T U V Ly h5;have S:=List.all_eq_true.1 (yB E F true true true D).2 i hi;simp at S;rcases S with(((⟨rfl,rfl⟩|⟨rfl,rfl⟩)|S)|⟨rfl,S⟩);(.obtain⟨o,ho,bF,N,hg⟩:∃o,jw[0]?=some o/\o.op=.load 250 (.tmp 4)/\o.dst=some 6/\o.guard=none:=⟨_,rfl,rfl,rfl,rfl⟩;refine ET.val (.slice p.Bs 4 4) ho ma (by k_ne) (λaj n _=>?_) ?_;(.have hb:=(fR<|(n.block _<|.inr f.Yl).trans<|(Y.block _ f.Yl).trans f.Zi);rw[f.prog];unfold execOp;refine⟨?_,λe he=>?_⟩;(.simp[bF];go_simp;done);simp[go_sem,bF,hb]at he;subst he;exact CJ f.Yl);rw[N];walk_nrm;exact ih true F D _ _ _ _ _ _ _ _ _ aN (λ_=>rfl) h7 En Y Z R T U V Ly λe=>⟨rfl,(h5 e).2⟩);(.obtain⟨o,ho,bF,N,hg⟩:∃o,jw[1]?=some o/\o.op=.load 3 (.tmp 5)/\o.dst=some 7/\o.guard=none:=⟨_,rfl,rfl,rfl,rfl⟩;refine ET.val (.int .i64 k) ho ma (by k_ne) (λaj n _=>?_) ?_;have hb:=fR<|(n.block _<|.inr wY).trans Z;rw[f.prog];exact adj;rw[N];walk_nrm;exact ih E true D _ _ _ _ _ _ _ _ _ aN h6 (λ_=>rfl) En Y Z R T U V Ly λe=>⟨(h5 e).1,rfl⟩);(.obtain⟨⟨⟨rfl,rfl⟩,rfl⟩,rfl⟩:=S;obtain⟨o,ho,bF,N,hg⟩:∃o,jw[5]?=some o/\o.op=.indexAddr 250 (.tmp 6) (.tmp 7)/\o.dst=some 11/\o.guard=none:=⟨_,rfl,rfl,rfl,rfl⟩;refine ET.val (.pointer<|some ⟨p.Bs,k*4,none⟩) ho ma (by k_ne) (λaj n _=>?_) ?_;(.rw[f.prog,h6 rfl,h7 rfl];unfold execOp;refine⟨?_,λe he=>?_⟩;(.simp only[bF];go_simp;intro h;omega);have T:=Tryz.underlying250;simp[bF]at he;exact YE);rw[N];walk_nrm;exact ih true true true _ _ _ _ _ _ _ _ _ aN h6 h7 (λ_=>rfl) Y Z R T U V Ly λ_=>⟨rfl,rfl⟩);obtain⟨o,ho,bF,N,hg⟩:∃o,jw[6]?=some o/\o.op=.store 217 (.tmp 11) (.tmp 10)/\o.dst=none/\o.guard=none:=⟨_,rfl,rfl,rfl,rfl⟩;subst S;refine ET.stop λaj n hW=>⟨rfl,λ⟨cs,z⟩=>?_⟩;(have iV:k*4+4<=cs.size:=by rw[z.2,f.n4,f.wd];omega);have hy:Act.eval ⟨#[.pointer p.Wg,.pointer J.bl,.pointer J.bn,.pointer J.tb,.pointer J.bb,.pointer A,O,Q,v8,v9,x.val,q],[dcall 186 #[.pointer p.Wg]]⟩ (.tmp 10)=x.val:=rfl;have ha:Act.eval ⟨#[.pointer p.Wg,.pointer J.bl,.pointer J.bn,.pointer J.tb,.pointer J.bb,.pointer A,O,Q,v8,v9,x.val,q],[dcall 186 #[.pointer p.Wg]]⟩ (.tmp 11)=.pointer (some ⟨p.Bs,k*4,none⟩):=En rfl;have fT:=AO bF ha hy z.1 iV;have oA:=CI bF ha hy z.1 iV;rw[<-f.prog]at fT oA;refine⟨_,_,_,x.cells,stepG_none ho ma (by k_ne) fT,?_,λe he=>?_,?_⟩;refine⟨setRow_size _ _ _,rfl,rfl,rfl,λb hb=>setRow_other _ _ _ _ hb,by rw[f.wd];rfl,λaP Jy=>?_⟩;(obtain rfl:cs=aP:=by have:=z.1.symm.trans Jy.1;simpa using this);refine⟨_,⟨setRow_heap _ _ _ _ _ _ z.1,?_⟩,λo'=>by rw[RJ rfl iV,f.wd,Nat.add_mul,Nat.one_mul]⟩;rw[<-z.2];simp[aX.cells];omega;obtain⟨j,hj,rfl⟩:=oA e<|mem_listed he;refine⟨rfl,_,rfl,rfl,?_,?_⟩<;>rw[f.wd]<;>simp<;>omega;(have aZ:lj (aj.setRow p.Bs (cs.toList.take (k*4)++x.cells++cs.toList.drop (k*4+4)).toArray) (λb=>M b/\b≠C) x:=U.keep (λ_ h=>h) λa ha=>by let⟨_,⟨h2,_⟩,_⟩:=U.blk a ha;rw[setRow_other _ _ _ _ (λe=>V _ (.inr<|.inr e) h2)];exact n.block _<|.inl h2);refine⟨λb=>M b/\b≠C,C,4,u,26,by rw[f.res];exact⟨x,rfl,hb,aZ,λb dr=>Ly b dr.1⟩,λb h=>h.1,R,λh=>h.2 rfl,?_⟩;(have a0:Go.ConcN.Has C 0 u (aj.setRow p.Bs (cs.toList.take (k*4)++x.cells++cs.toList.drop (k*4+4)).toArray):=by show World.cell? _ _=_;rw[cell_setRow_other _ _ _ _ (λe=>V _ (.inr<|.inr e) R)];rw[<-T];simp[World.cell?,n.block C (.inl R)]);let⟨st,sm,hw⟩:=hW.1;have sA:Go.ConcN.WgLive p.ty p.Wg (aj.setRow p.Bs (cs.toList.take (k*4)++x.cells++cs.toList.drop (k*4+4)).toArray):=⟨st,sm,hw.of_block<|setRow_other _ _ _ _ aG⟩;let⟨e0,e1⟩:=h5 rfl;subst e0 e1;(have UZ:rest=[]:=by generalize hL:(#[true,true,true,true,true,true,false]:Array Bool).setIfInBounds 6 true=L at hr;(have e:L=#[true,true,true,true,true,true,true]:=by rw[<-hL];simp);subst e;rcases hr with _|⟨h,_⟩;rfl;exact absurd h<|by rw[show Region.ready .any jw #[true,true,true,true,true,true,true]=[] from Zn];simp);subst UZ;(letI:Go.ConcR.Payload:=p.pl);have B:=And.intro sA a0;rw[N,f.prog];rw[f.ty]at B⊢;walk_nrm;(u_c stepG_region_end Go.ConcN.Gen.kn_rely B);(u_c stepG_end Go.ConcN.Gen.kn_rely B);(u_in Go.ConcN.Gen.kn_rely B);rw[stepG_unwind_enter rfl Tryz.func186 (nm_done link) rfl];simp;refine⟨by u_nil,?_⟩;(walk_nrmf Tryz.f186);have hA:=@Go.ConcN.Gen.doneN p.pl link Tryz.prog DO (λ_ _=>False) (λ_ _=>False) p.Wg C 4 0 1 u;simp only[body_done,doneFn]at hA;exact hA rfl (NW _ _) _ B
end
def Nt {S}(h:¬S a.block):aU S w (w.setCell a v):=
 ⟨λb f=>Below.heap_setCell w a v b λe=>h<|e▸f,Nat.le_of_eq (aside_setCell w a v).size.symm,rfl,rfl⟩
def Jj (w:ao)(es:Array bv):(Instr.build 217 #[]).events Tryz.prog w es=es:=aO
def Ss {p:Prop}(x9:p:=by refine fM.alloc _ λe he=>?_;have hm:=mem_listed he;simp[go_sem]at hm):p:=x9
section
variable [Gl]{J:Jb}{Ro:Nat->Prop}
structure LS (p:Ph)(Ro:Nat->Prop)(s:ao)(r u:Nat)(x:aX)(M:Nat->Prop)(W:ao):Prop where
 m6:M r
 m7:M u
 ne:r≠u
 c6:∃c,W.heap[r]?=some (.cells c 217 (0,0))/\c.size=4
 c7:W.heap[u]?=some (.cells x.cells.toArray 217 (0,0))
 held:lj W (λb=>M b/\b≠r/\b≠u) x
 keep:aU Ro s W
 sp:∀b,p.Sp b\/Ro b->¬M b/\b<W
 Km:∀b,p.Sp b->¬Ro b
 lt:∀b,M b->b<W
 gl:Gl.n<=W
 nw:∀b,M b->s<=b
def LS.rely (h:LS p Ro s r u x M W)(k:aU (λb=>M b\/Ro b) W aj):LS p Ro s r u x M aj:=by refine⟨h.m6,h.m7,h.ne,?_,(k.block _<|ac h.m7).trans h.c7,h.held.keep (λ_ x=>x) λa e=>k.block _<|ac (h.held.blk a e).2.1.1,h.keep.trans<|k.mono λ_ x=>ad x,λb hb=>⟨(h.sp b hb).1,agx (h.sp b hb).2 k.size⟩,h.Km,λb hb=>agx (h.lt b hb) k.size,agz h.gl k.size,h.nw⟩;let⟨c,f,q⟩:=h.c6;exact⟨c,(k.block _<|ac h.m6).trans f,q⟩
def LS.tk (h:LS p Ro s r u x M W) v:aU (λb=>M b\/Ro b) W (W.setCell p.tk v):=
 Nt λe=>e.elim (h.sp _<|ac<|ad<|ac rfl).1<|h.Km _<|ad<|ac rfl
def Uf (B:pN J af8 p ok Ro s)(M:Nat->Prop)(W:ao)(hk:aU Ro s W)(LD:∀b,p.Sp b\/Ro b->¬M b/\b<W)(Ge:∀b,p.Sp b->¬Ro b)(aG:∀b,M b->b<W)(Et:Gl.n<=W)(Ly:∀b,M b->s<=b) (hL:∀r u (v3 v4 v5 v8 v9 v10 N v12 v13 v14 v15 v16 v17 v18 v19 v20 O R T U Y Z:ay) (M':Nat->Prop) (W':ao),LS p Ro s r u ff M' W'->ET p.P false p.I Ph.oD Ro Stop M' (G ((base 187).at ⟨#[J.jK,av (some ⟨J.nb,J.no,none⟩) p.L J.nc,aa J.tb,v3,v4,v5,aa r,aa u,v8,v9,v10,N,v12,v13,v14,v15,v16,v17,v18,v19,v20,O,R,T,U,Y,Z],[]⟩ [.code kU,.inLoop kU,.inBlock 0]) cs) W'): ET p.P false p.I Ph.oD Ro Stop M (G ((base 187).at ⟨#[J.jK,av (some ⟨J.nb,J.no,none⟩) p.L J.nc,aa J.tb,ud,ud,ud,ud,ud,ud,ud,ud,ud,ud,ud,ud,ud,ud,ud,ud,ud,ud,ud,ud,ud,ud,ud,ud],[]⟩ [.code yZ]) cs) W:=by simp only[yZ];apply ET.sr;refine ET.oper rfl rfl (by k_ne) λaj q _=>⟨aa<|some ⟨aj,0,none⟩,aj.alloc<|.cells #[false,(0:Int),(0:Int),()] 217,?_,?_,?_⟩;(.rw[B.prog];go_simp);(.rw[B.prog];refine fM.alloc _ λe he=>?_;have hm:=mem_listed he;simp[go_sem]at hm);walk_nrm;apply ET.ns;refine ET.val ff.val rfl rfl (by k_ne) (λz _ _=>?_) ?_;(.rw[B.prog];refine⟨?_,λe he=>?_⟩;(.go_simp;first|(rw[run_build z 217 #[] ff.cells.toArray aO];rfl)|rfl);first|(simp[go_sem]at he;done)|(simp[go_sem]at he;rw[Jj]at he;simp at he));walk_nrm;refine ET.oper rfl rfl (by k_ne) λz f _=>⟨aa<|some ⟨z,0,none⟩,z.alloc<|.cells #[false,(0:Int),(0:Int),()] 217,?_,?_,?_⟩;(.rw[B.prog];go_simp);(.rw[B.prog];refine fM.alloc _ λe he=>?_;have hm:=mem_listed he;simp[go_sem]at hm);walk_nrm;(have z0:∀(w:ao) (o:Obj),(w.alloc o).heap.size=(w:Nat)+1:=λw o=>by show(w.heap.push o).size=_;simp);have z1:=q.size;have z2:=f.size;rw[z0]at z2;have UD:grow M aj (aj.alloc<|.cells #[false,(0:Int),(0:Int),()] 217) (aj:Nat):=ad ⟨agw _,cQ⟩;refine ET.none rfl rfl (by k_ne) λdX D _=>?_;have z3:=D.size;rw[z0]at z3;have h7:=(D.block _<|ac<|ad ⟨agw _,cQ⟩).trans<|heap_alloc_new _ _;have C:grow (grow M aj<|aj.alloc<|.cells #[false,(0:Int),(0:Int),()] 217) z (z.alloc<|.cells #[false,(0:Int),(0:Int),()] 217) (z:Nat):=ad ⟨agw _,cQ⟩;refine⟨dX.setRow z ff.cells.toArray,by rw[B.prog];exact(gd rfl rfl rfl h7 rfl).1,?_,?_⟩;rw[B.prog];refine fM.row _ C λe he=>?_;obtain⟨j,rfl⟩:=(gd rfl rfl rfl h7 rfl).2 e<|mem_listed he;exact ip C;rw[cU (az _ _ _)];walk_nrm;apply ET.rn;refine ET.c (λ_=>stepG_block) ?_;refine ET.c (λ_=>stepG_loop) ?_;refine hL aj z _ _ _ _ _ _ _ _ _ _ _ _ _ _ _ _ _ _ _ _ _ _ _ _ ⟨ac UD,C,ab,?_,br _ _ _ _ _ _ h7,⟨ac rfl,agB _,λa ha=>(by cases ha),λa ha=>(by cases ha)⟩,?_,λb hb=>?_,Ge,λb hb=>?_,?_,λb hb=>?_⟩;refine⟨_,(bp _ _ _ _ ab).trans<|(D.block _<|ac<|ac UD).trans<|(bm _ _ _ ab).trans<|(f.block _<|ac UD).trans<|heap_alloc_new _ _,rfl⟩;refine⟨λb hb=>?_,by rw[az];have:=hk.size;omega,D.os.trans<|f.os.trans<|q.os.trans hk.os,D.out.trans<|f.out.trans<|q.out.trans hk.out⟩;have dr:=LD b<|ad hb;rw[bp _ _ _ _ ab,D.block _ (ad hb),bm _ _ _ ab,f.block _ (ad hb),bm _ _ _ ab,q.block _ (ad hb)];exact hk.block b hb;have dr:=LD b hb;rw[az];refine⟨λx=>?_,ab⟩;rcases x with(x|⟨x,_⟩)|⟨x,_⟩<;>grind;rw[az];rcases hb with(x|⟨_,x⟩)|⟨_,x⟩<;>grind;grind [az];have:=hk.size;rcases hb with(x|⟨x,_⟩)|⟨x,_⟩<;>grind
end
section
open ConcR (rd wr)
def KW:(Tryz.f225.name== "runtime.NumGoroutine")=false:=aO
def KU:Tryz.f225.body.isNone:=aO
def KX:Extern.findNext Tryz.f225=none:=aO
def KV:Extern.find Tryz.f225=some (Extern.Atomic.update (Op.intArith .add) .i64 true):=aO
def L_:(Tryz.f207.name== "runtime.NumGoroutine")=false:=aO
section
variable [Gl]{J:Jb}{Ro:Nat->Prop}
def SC (hJ:pN J af8 p ok Ro s)(hL:p.L<4611686018427387904)(v3 v4 v5 v8 v9 v10 R v12 v13 v14 v15 v16 v17 v18 v19 v20 T U Y Z aG aZ:ay): ∃(g1:bj) (g2:Nat->bj),(∀(Stop:(Nat->Prop)->bj->ao->Prop) M W,ET Tryz.prog false p.I Ph.oD Ro Stop M g1 W->ET Tryz.prog false p.I Ph.oD Ro Stop M (G ((base 187).at ⟨#[J.jK,av (some ⟨J.nb,J.no,none⟩) p.L J.nc,aa J.tb,v3,v4,v5,aa r,aa u,v8,v9,v10,R,v12,v13,v14,v15,v16,v17,v18,v19,v20,T,U,Y,Z,aG,aZ],[]⟩ [.code kU,.inLoop kU,.inBlock 0])<|c0::cs) W)/\(g1.status=.running/\∀W x,x<4611686018427387904->p.kC W x->aE Tryz.prog false g1 W=.go (g2 x) (W.setCell p.tk<|ax .i64<|x+1) #[rd p.tk,wr p.tk])/\(∀(Stop:(Nat->Prop)->bj->ao->Prop) M W x,x<p.L->(∀v3 v4 v5 v8 v9 v10 R v12 v13 v14 v15 v16 v17 v18 v19 v20 T U Y Z aG aZ:ay,ET Tryz.prog false p.I Ph.oD Ro Stop M (G ((base 187).at ⟨#[J.jK,av (some ⟨J.nb,J.no,none⟩) p.L J.nc,aa J.tb,v3,v4,v5,aa r,aa u,ax .i64 x,v9,v10,R,v12,v13,v14,v15,v16,v17,v18,v19,v20,T,U,Y,Z,aG,aZ],[]⟩ [.code (.region 5 iY true),.inBlock 1,.inLoop kU,.inBlock 0])<|c0::cs) W)->ET Tryz.prog false p.I Ph.oD Ro Stop M (g2 x) W)/\(∀(Stop:(Nat->Prop)->bj->ao->Prop) M W x N,p.L<=x->x<4611686018427387904->LS p Ro s r u N M W->(∀W',LS p Ro s r u N M W'->W'.cell? r=some (bk N.ok)->ET Tryz.prog false p.I Ph.oD Ro Stop M (G (c0.finish N.val) cs) W')->ET Tryz.prog false p.I Ph.oD Ro Stop M (g2 x) W):=by
 refine⟨?g1,?g2,?A,⟨?B0,?B⟩,?C,?D⟩;case A=>intro Stop M W h;simp only[kU,yZ,Tryz.f187,Option.getD_some,kV,Option.or_some,Option.or_none,Option.none_or];refine ET.c (λ_=>stepG_block) ?_;apply ET.sr;refine ET.z ?_;(refine ET.k rfl λ_ _ _=>goes_call rfl rfl (by k_ne) rfl Tryz.func207 L_ rfl ⟨⟨rfl,λe he=>ji⟩,?_⟩;walk_nrmf Tryz.f207);apply ET.sr;refine ET.z ?_;apply ET.ns;refine ET.z ?_;refine ET.z ?_;refine ET.z ?_;refine ET.z ?_;exact h
 case B0=>rfl
 case B=>intro W x hx ht;have hw:IntKind.i64.wrap ((x:Int)+1)=x+1:=jh;have h1:=ht.1;have h2:=ht.2;rw[hJ.tk]at h1 h2⊢;refine(stepG_add_atomic rfl rfl (by k_ne) rfl Tryz.func225 KW KU KX .i64 KV rfl rfl h1 h2).trans ?_;rw[hw];rfl
 case C=>intro Stop M W x hx h;have hw:IntKind.i64.wrap ((x:Int)+1-1)=x:=jh;have a1:IntKind.i64.wrap (x:Int)=x:=jh;have hd:decide ((p.L:Int)<=x)=false:=decide_eq_false ab;have fe:¬((p.L:Int)<=x):=ab;walk_nrm;refine ET.z ?_;apply ET.rn;apply ET.rt;(refine ET.k rfl λ_ _ _=>goes_leave1 rfl rfl Tryz.func207 rfl ⟨⟨rfl,λe he=>ji⟩,?_⟩;walk_nrm);refine ET.z ?_;refine ET.z ?_;apply ET.rn;apply ET.sq;apply ET.sr;refine ET.z ?_;refine ET.z ?_;refine ET.z ?_;refine ET.z ?_;apply ET.rn;refine ET.iu rfl ?_;apply ET.sk;exact h _ _ _ undef _ _ _ _ _ _ _ _ _ _ _ _ _ _ _ _ _ _
 intro Stop M W x N hx U4 nH h;have hw:IntKind.i64.wrap ((x:Int)+1-1)=x:=jh;have a1:IntKind.i64.wrap (x:Int)=x:=jh;have hd:decide ((p.L:Int)<=x)=true:=decide_eq_true ab;have fe:(p.L:Int)<=x:=ab;walk_nrm;refine ET.z ?_;apply ET.rn;apply ET.rt;(refine ET.k rfl λ_ _ _=>goes_leave1 rfl rfl Tryz.func207 rfl ⟨⟨rfl,λe he=>ji⟩,?_⟩;walk_nrm);refine ET.z ?_;refine ET.z ?_;apply ET.rn;apply ET.sq;apply ET.sr;refine ET.z ?_;refine ET.z ?_;refine ET.z ?_;refine ET.z ?_;apply ET.rn;refine ET.mc rfl ?_;apply ET.sr;refine ET.val N.val rfl rfl (by k_ne) (λaj O _=>?_) ?_;have f:=nH.rely O;refine⟨AN rfl rfl f.c7,λe he=>?_⟩;obtain⟨j,rfl⟩:=CH rfl rfl f.c7 e he;exact ip nH.m7;walk_nrm;refine ET.none rfl rfl (by k_ne) λaj O _=>?_;have f:=nH.rely O;let⟨c,Lq,a0⟩:=f.c6;refine⟨aj.setRow r N.cells.toArray,(gd rfl rfl rfl Lq a0).1,?_,?_⟩;refine fM.row _ nH.m6 λe he=>?_;obtain⟨j,rfl⟩:=(gd rfl rfl rfl Lq a0).2 e<|mem_listed he;exact ip nH.m6;rw[cU (az _ _ _)];have XM:LS p Ro s r u N M (aj.setRow r N.cells.toArray):=by have ho:∀b,b≠r->(aj.setRow r N.cells.toArray).heap[b]?=aj.heap[b]?:=λb hb=>bp _ _ _ _ hb;refine⟨f.m6,f.m7,f.ne,⟨_,br _ _ _ _ _ _ Lq,rfl⟩,(ho _<|Ne.symm f.ne).trans f.c7,f.held.keep (λ_ x=>x) λa ha=>ho _ (f.held.blk a ha).2.1.2.1,⟨λb hb=>(ho b λe=>(f.sp b<|ad hb).1<|e▸f.m6).trans<|f.keep.block b hb,by rw[az];exact f.keep.size,f.keep.os,f.keep.out⟩,λb hb=>by rw[az];exact f.sp b hb,f.Km,λb hb=>by rw[az];exact f.lt b hb,by rw[az];exact f.gl,f.nw⟩
 have h6:(aj.setRow r N.cells.toArray).heap[r]?=some (.cells N.cells.toArray 217 (0,0)):=br _ _ _ _ _ _ Lq;generalize aj.setRow r N.cells.toArray=dD at XM h6⊢;clear f Lq a0 O;walk_nrm;apply ET.rn;apply ET.rt;refine ET.ES N.val rfl rfl Tryz.func187 (λdX eb _=>?_) (h dD XM<|by simp[aV,h6,aX.cells]);have h6':=(eb.block _<|ac nH.m6).trans h6;have c0:dX.cell? r=some (bk N.ok):=FP;have c1:dX.cell? ⟨r,1,none⟩=some (ax .i64 N.sum):=FP;have c2:dX.cell? ⟨r,2,none⟩=some (ax .i64 N.most):=FP;have c3:dX.cell? ⟨r,3,none⟩=some (av N.a N.n N.cap):=FP;refine⟨by simp[be,Tryz.f187,go_sem,aX.val,c0,c1,c2,c3],λe he=>?_⟩;simp[be,Tryz.f187,go_sem,c0,c1,c2,c3]at he;rcases he with rfl|rfl|rfl|rfl<;>exact ip nH.m6
end
end
def Ma:∀z h j n e f q,((!q||(h&&f))&&(!f||e)&&(!e||(j&&n)))->aL .any iY #[z,h,j,n,e,f,q,false,false,false]≠[]/\(aL .any iY #[z,h,j,n,e,f,q,false,false,false]).all (λi=>(i==0&&!z)||(i==1&&!h)||(i==2&&!j)||(i==3&&!n)||(i==4&&!e&&j&&n)||(i==5&&!f&&e)||(i==6&&!q&&h&&f)||(i==7&&z&&q)):=by decide +kernel
section
variable [Gl]{σ:Ren}
def A3 {C}(h:ar ok σ x.val C):∃a',C=aX.val {x with a:=a'}/\(x.a=none<->a'=none)/\∀a,x.a=some a->∃d,a'=some d/\dG σ a d:=by generalize E:Value.agg #[.bool x.ok,.int .i64 x.sum,.int .i64 x.most,.slice x.a x.n x.cap]=v at h;cases h<;>cases E;rename_i B F e;let⟨l⟩:=B;(obtain⟨f,j,q,z,rfl⟩:∃f j q z,l=[f,j,q,z]:=by rcases l with _|⟨f,_|⟨j,_|⟨q,_|⟨z,_|⟨L,l⟩⟩⟩⟩⟩<;>simp at F;grind);have D:=e 3 _ z rfl rfl;cases (e 0 _ f rfl rfl);cases (e 1 _ j rfl rfl);cases (e 2 _ q rfl rfl);generalize K:x.a=N at D;cases D with|dj=>simp_all [aX.val]|@slice a a' _ _ O=>simp_all [aX.val]
def Nf {O:ao}{a':Option aI}(hw:bw ok false σ O W')(L:lj O (λ_=>True) x)(Y:x.a=none<->a'=none)(Q:∀a,x.a=some a->∃d,a'=some d/\dG σ a d)(hM:∀a d,x.a=some a->σ a.block=some d->M' d):lj W' M' {x with a:=a'}:=by
 have D:∀a d,x.a=some a->a'=some d->dG σ a d->∃cs f e,O.heap[a.block]?=some (.cells cs e (0,0))/\W'.heap[d.block]?=some (.cells f e (0,0))/\aB ok σ cs f/\∀v∈cs,∃n:Int,v=ax .i64 n:=by intro a d q z B;let⟨_,_,cs,e,E,F⟩:=L.blk a q;let⟨o,o',R,Z,g3⟩:=hw.heap _ _ B.blk;rw[E]at R;cases R;cases g3 with|cells hv S=>rcases S with S|⟨S,_⟩<;>grind
 refine⟨?_,L.small,λd C=>?_,λd C=>?_⟩;rcases L.row with e|⟨b,off,e,hr⟩;exact ac e;let⟨d,q,z⟩:=Q _ e;let⟨cs,f,T,B,E,F,N⟩:=D _ d e q z;refine ad ⟨d.block,off,?_,λi hi=>?_⟩;let⟨db,aP,ds⟩:=d;have o1:=z.off;have o2:=z.spot;grind;have hc:=hr i hi;simp[aV,B]at hc;let⟨v',R,Z⟩:=F.get hc;cases Z;grind [aV];replace C:a'=some d:=C;have U:x.a≠none:=λe=>by have:=Y.1 e;grind
 let⟨a,q⟩:=bJ.1 U;let⟨d',z,B⟩:=Q a q;rw[C]at z;cases z;let⟨cs,f,T,E,F,N,h7⟩:=D a d q C B;refine⟨by rw[B.spot];exact(L.blk a q).1,hM a _ q B.blk,f,T,F,λv hv=>?_⟩;let⟨j,hj⟩:=Array.mem_iff_getElem?.1 hv;have aG:j<cs.size:=by rw[N.size];grind
 let⟨n,V⟩:=h7 cs[j]<|Array.getElem_mem aG;have:=N.at_ j _ _ (agD aG) hj;rw[V]at this;cases this;exact⟨n,rfl⟩;replace C:a'=some d:=C;have U:x.a≠none:=λe=>by have:=Y.1 e;rw[C]at this;cases this
 let⟨a,q⟩:=bJ.1 U;let⟨d',z,B⟩:=Q a q;rw[C]at z;cases z;let⟨f1,aZ,f2,f3⟩:=L.full a q;let⟨cs,f,T,E,F,N,h7⟩:=D a d q C B;rw[f2]at E;simp only[Option.some.injEq,Obj.cells.injEq]at E;let⟨e1,e2,_⟩:=E;subst e1 e2;exact⟨by rw[B.off];exact f1,f,F,by rw[<-N.size];exact f3⟩
end
def tv {F:Nat->Prop}{a:Option aI}{n:Nat}{g:Nat->Int}{τ:Nat->Question->Nat}{d:Nat}(h:eX W a n g):eX (re (froze F W) τ d) a n g:=by rcases h with h|⟨b,off,e,f⟩;exact ac h;exact ad ⟨b,off,e,λi j=>(sY F W _).trans<|f i j⟩
def bC (h j n e f q:Bool):Bool:=(!q||(h&&f))&&(!f||e)&&(!e||(j&&n))
def bm1:∀e f j n q:Bool,bC false e f j n q=true->bC true e f j n q=true:=bc
def bm2:∀e f j n q:Bool,bC e false f j n q=true->bC e true f j n q=true:=bc
def bm3:∀e f j n q:Bool,bC e f false j n q=true->bC e f true j n q=true:=bc
def bm4:∀e f j:Bool,bC e true true false f j=true->bC e true true true f j=true:=bc
def bm5:∀e f j n:Bool,bC e f j true false n=true->bC e f j true true n=true:=bc
def bm6:∀e f j:Bool,bC true e f j true false=true->e=true/\f=true/\j=true:=bc
def bm7:∀e f j n q:Bool,bC e f j n q true=true->e=true/\f=true/\j=true/\n=true/\q=true:=bc
def acW {p:Prop}(x9:p:=by cases g1;cases g3 with|@cells _ c' _ _ z'' hv hz=>replace hz:=hz.resolve_right (λh=>by cases h.1);(have:c'=cs:=by refine Array.ext hv.size.symm λj h1 h2=>?_;let⟨n,hn'⟩:=h4 cs[j]<|Array.getElem_mem h2;have:=hv.at_ j _ _ (agD h2)<|agD h1;rw[hn']at this⊢;generalize c'[j]=w at this;cases this;rfl);rw[g2,h3,this,hz];rfl):p:=x9
def aaC {p:Prop}(x9:p:=by exact⟨cs,e,(eb.block _<|.inl h2.1).trans h3,λv hv=>by obtain⟨n,rfl⟩:=h4 v hv;exact .int _ _⟩):p:=x9
def YH {p:Prop}(x9:p:=by rw[e,hN]at h3;cases h3;let⟨n,hn⟩:=h4 (.bool x.ok) (by simp[aX.cells]);cases hn):p:=x9
def aaG {p:Prop}(x9:p:=by unfold execOp;refine⟨?_,λe he=>by simp[go_sem,bF]at he⟩;simp;go_simp):p:=x9
section
variable [Gl]{J:Jb}{Ro:Nat->Prop}
def LS.acp (h:LS p Ro s r u x M W):Bj (λb=>p.Sp b\/Ro b) M W:=⟨λb e=>(h.sp b e).1,λb e=>(h.sp b e).2⟩
def LS.alloc (h:LS p Ro s r u x M W)(o):LS p Ro s r u x (grow M W<|W.alloc o) (W.alloc o):=by (have z:(W.alloc o).heap.size=(W:Nat)+1:=by show(W.heap.push o).size=_;simp);have hb:∀b,b<(W:Nat)->(W.alloc o).heap[b]?=W.heap[b]?:=λb hb=>bm _ _ _ hb;let⟨c,e,f⟩:=h.c6;refine⟨ac h.m6,ac h.m7,h.ne,⟨c,(hb _<|h.lt _ h.m6).trans e,f⟩,(hb _<|h.lt _ h.m7).trans h.c7,h.held.keep (λb x=>⟨ac x.1,x.2⟩) λa B=>hb _<|h.lt _ (h.held.blk a B).2.1.1,⟨λb x=>(hb b (h.sp b<|ad x).2).trans<|h.keep.block b x,by rw[z];have:=h.keep.size;omega,h.keep.os,h.keep.out⟩,λb x=>⟨λy=>y.elim (h.sp b x).1 λy=>by have:=(h.sp b x).2;omega,by rw[z];have:=(h.sp b x).2;omega⟩,h.Km,λb x=>x.elim (λy=>by rw[z];have:=h.lt b y;omega) And.right,by rw[z];have:=h.gl;omega,λb x=>x.elim (h.nw b) λy=>agz h.keep.size y.1⟩
omit [Gl] in
def GI:KZ (λb=>p.Sp b\/Ro b) p.I:=λw e h f=>p.Vi w e (λb j=>h b<|ac j) f
def Ve (hJ:pN J af8 p ok Ro s)(fd:dV af8 af8 ok)(hP:dV af8 Tryz.prog ok)(jp:∀f,ok.fn f=true->ok.aP f=true)(BF:kw af8 c){y:aX}
  (hK:∀(v3 v4 v5 v9 v10 v11 v12 v13 v14 v15 v16 v17 v18 v19 v20 v21 v22 v23 v24 v25 v26:Value) (M:Nat->Prop) (W:World),LS p Ro s r u (J.pick x y) M W->ET Tryz.prog false p.I Ph.oD Ro Stop M (G ((base 187).at ⟨#[J.jK,.slice (some ⟨J.nb,J.no,none⟩) p.L J.nc,.pointer (some ⟨J.tb,0,none⟩),v3,v4,v5,.pointer (some ⟨r,0,none⟩),.pointer (some ⟨u,0,none⟩),.int .i64 i,v9,v10,v11,v12,v13,v14,v15,v16,v17,v18,v19,v20,v21,v22,v23,v24,v25,v26],[]⟩ [.inBlock 1,.inLoop kU,.inBlock 0]) cs) W)
  (v3 v4 v5 v9 v10 v11 v12 v13 v14 v15 v16 v17 v19 v20 v21 v22 v23 v25 v26:Value)(M:Nat->Prop)(W:World)(hy:lj W (λb=>M b/\b≠r/\b≠u) y)(nH:LS p Ro s r u x M W):
  ET Tryz.prog false p.I Ph.oD Ro Stop M (G ((base 187).at ⟨#[J.jK,.slice (some ⟨J.nb,J.no,none⟩) p.L J.nc,.pointer (some ⟨J.tb,0,none⟩),v3,v4,v5,.pointer (some ⟨r,0,none⟩),.pointer (some ⟨u,0,none⟩),.int .i64 i,v9,v10,v11,v12,v13,v14,v15,v16,v17,x.val,v19,v20,v21,v22,v23,y.val,v25,v26],[]⟩ (.inRegion iY [7,8,9]::[.inBlock 1,.inLoop kU,.inBlock 0])) cs) W:=by
 obtain⟨o,ho,bF,hd,hg⟩:∃o,iY[7]?=some o/\o.op=.buildSlice 250 2 #[(0,.tmp 18),(1,.tmp 24)]/\o.dst=some 25/\o.guard=none:=⟨_,rfl,rfl,rfl,rfl⟩;refine ET.oper ho ma (by k_ne) λaj agf _=>⟨.slice (some ⟨aj.heap.size,0,none⟩) 2 2,aj.alloc (.cells (x.cells++y.cells).toArray 217),?_,?_,?_⟩
 .unfold execOp;simp;walk_nrm
  simp only[aX.val,aX.cells];go_simp
 .refine fM.alloc _ λe he=>?_
  have hm:=mem_listed he;unfold execOp at hm;simp only[bF]at hm;simp only[Act.eval,List.map_toArray,List.map_cons,List.map_nil,Array.getD_eq_getD_getElem?,List.getElem?_toArray,List.getElem?_cons_succ,List.getElem?_cons_zero,Option.getD_some,aX.val]at hm;simp[go_sem]at hm
 rw[hd];walk_nrm
 have vV:=nH.rely agf;have X8:=hy.keep (λ_ h=>h) λa ha=>agf.block _ (.inl (hy.blk a ha).2.1.1)
 have te:=vV.alloc (.cells (x.cells++y.cells).toArray 217);have pa:∀b,b<aj.heap.size->(aj.alloc (.cells (x.cells++y.cells).toArray 217)).heap[b]?=aj.heap[b]?:=λb hb=>Below.heap_alloc _ _ _ hb
 have sB:lj (aj.alloc (.cells (x.cells++y.cells).toArray 217)) (λb=>grow M aj (aj.alloc (.cells (x.cells++y.cells).toArray 217)) b/\b≠r/\b≠u) y:=X8.keep (λb h=>⟨.inl h.1,h.2⟩) λa ha=>pa _ (vV.lt _ (X8.blk a ha).2.1.1)
 have xj:=te.held;have hN:(aj.alloc (.cells (x.cells++y.cells).toArray 217)).heap[aj.heap.size]?=some (.cells (x.cells++y.cells).toArray 217 (0,0)):=heap_alloc_new _ _;have hMN:grow M aj (aj.alloc (.cells (x.cells++y.cells).toArray 217)) aj.heap.size:=.inr ⟨agw _,by show _<(aj.heap.push _).size;simp⟩;have n6:r≠aj.heap.size:=λe=>by have:=vV.lt _ vV.m6;omega
 have n7:u≠aj.heap.size:=λe=>by have:=vV.lt _ vV.m7;omega
 generalize aj.alloc (.cells (x.cells++y.cells).toArray 217)=dD at te sB xj hN hMN⊢;generalize grow M aj dD=sQ at te sB xj hMN⊢;generalize aj.heap.size=N at hN hMN n6 n7⊢;obtain⟨o,ho,bF,hd,hg⟩:∃o,iY[8]?=some o/\o.op=.call {callee:=.value (.func 189),args:=#[.tmp 25,.func 190],argTypes:=#[250,255]}/\o.dst=some 26/\o.guard=none:=⟨_,rfl,rfl,rfl,rfl⟩;have hSx:∀a,x.a=some a->(λb=>b=N\/(∃a,x.a=some a/\a.block=b)\/∃a,y.a=some a/\a.block=b) a.block:=λa ha=>.inr (.inl ⟨a,ha,rfl⟩)
 have hSy:∀a,y.a=some a->(λb=>b=N\/(∃a,x.a=some a/\a.block=b)\/∃a,y.a=some a/\a.block=b) a.block:=λa ha=>.inr (.inr ⟨a,ha,rfl⟩)
 have Ti:∀(z:aX),(∀a,z.a=some a->(λb=>b=N\/(∃a,x.a=some a/\a.block=b)\/∃a,y.a=some a/\a.block=b) a.block)->∀v∈z.cells,ar ok (uD (λb=>b=N\/(∃a,x.a=some a/\a.block=b)\/∃a,y.a=some a/\a.block=b)) v v:=by
  intro z hz v hv;simp only[aX.cells,List.mem_cons,List.not_mem_nil,or_false]at hv;rcases hv with rfl|rfl|rfl|rfl
  .exact .bool _
  .exact .int _ _
  .exact .int _ _
  .cases hza:z.a with
   |none=>exact .dj _ _
   |some a=>exact .slice _ _ ⟨gn.2 ⟨hz a hza,rfl⟩,rfl,rfl⟩
 refine ET.I6 fd hP jp BF ho ma (by k_ne) bF Tryz.func189 aO rfl hJ.Yg.2.1 GI (λb hb=>.inr hb) te.acp te.lt te.gl (λb=>b=N\/(∃a,x.a=some a/\a.block=b)\/∃a,y.a=some a/\a.block=b)
  (λdX v w=>v=(J.pick x y).val/\∀b,b<dX.heap.size->w.heap[b]?=(froze Ro dX).heap[b]?) (λW v w τ d h=>h) ?_ ?_ ?_ ?_ ?_
 .rintro b (rfl|⟨a,ha,rfl⟩|⟨a,ha,rfl⟩)
  .grind
  .exact .inl (xj.blk a ha).2.1.1
  .exact .inl (sB.blk a ha).2.1.1
 .intro dX eb;refine⟨?_⟩;rintro b (rfl|⟨a,ha,rfl⟩|⟨a,ha,rfl⟩)
  .refine⟨_,_,(eb.block _ (.inl hMN)).trans hN,λv hv=>?_⟩;grind
  .obtain⟨_,h2,cs,e,h3,h4⟩:=xj.blk a ha;exact aaC
  .obtain⟨_,h2,cs,e,h3,h4⟩:=sB.blk a ha;exact aaC
 .intro v hv;simp[Act.eval]at hv;rcases hv with rfl|rfl
  .exact .slice _ _ ⟨gn.2 ⟨.inl rfl,rfl⟩,rfl,rfl⟩
  .exact .func (.func hJ.Yg.2.2) rfl (λi x x' h=>by simp at h) rfl (λi x x' h=>by simp at h)
 .intro dX eb _ τ d;walk_nrm
  obtain⟨z',h1,_⟩:=gL ((eb.block _ (.inl hMN)).trans hN);refine(hJ.least (re (froze Ro dX) τ d) N [x,y] z' aN h1 ?_).mono ?_
  .intro z hz;simp at hz;rcases hz with rfl|rfl
   .exact⟨tv (xj.keep (λ_ _=>trivial) λa ha=>eb.block _ (.inl (xj.blk a ha).2.1.1)).row,xj.small⟩
   .exact⟨tv (sB.keep (λ_ _=>trivial) λa ha=>eb.block _ (.inl (sB.blk a ha).2.1.1)).row,sB.small⟩
  .rintro e w' ⟨rfl,hb⟩;exact⟨_,rfl,rfl,λb dr=>hb.block b (by show b<(froze Ro dX).heap.size;rw[jP];exact dr)⟩
 intro dX v' M' W' eb aeB i' hB;have jq:=te.rely eb;have QE:=sB.keep (λ_ h=>h) λa ha=>eb.block _ (.inl (sB.blk a ha).2.1.1)
 obtain⟨σ,v,V',hv,⟨rfl,hbe⟩,hw,hS,zN,f_⟩:=hB.res;obtain⟨a',rfl,hn,ha⟩:=A3 hv;have hpS:∀a,(J.pick x y).a=some a->(λb=>b=N\/(∃a,x.a=some a/\a.block=b)\/∃a,y.a=some a/\a.block=b) a.block:=by
  rcases J.pk x y with e|e<;>rw[e]<;>assumption
 have ea:a'=(J.pick x y).a:=by
  cases e:(J.pick x y).a with
  |none=>exact hn.1 e
  |some a=>
   obtain⟨d,h1,h2⟩:=ha a e;have h3:=h2.blk;rw[hS _ (hpS a e)]at h3;simp at h3;rw[h1];obtain⟨d1,d2,d3⟩:=d;have h4:=h2.off;have h5:=h2.spot;obtain⟨a1,a2,a3⟩:=a;simp only at h3 h4 h5;rw[h3,h4,h5]
 have ev:aX.val {J.pick x y with a:=a'}=(J.pick x y).val:=cQ;rw[ev];have same:∀b cs e,sQ b->σ b=some b->dX.heap[b]?=some (.cells cs e (0,0))->(∀v∈cs,∃n:Int,v=.int .i64 n)->W'.heap[b]?=dX.heap[b]?:=by
  intro b cs e hm hs h3 h4;obtain⟨o,o',g1,g2,g3⟩:=hw.heap _ _ hs;obtain⟨z',f1,_⟩:=gL h3;rw[hbe b (jq.lt b hm),f1]at g1;exact acW
 have Lu:∀b,sQ b->b≠N->W'.heap[b]?=dX.heap[b]?:=by
  intro b hb hne;by_cases hs:(λb=>b=N\/(∃a,x.a=some a/\a.block=b)\/∃a,y.a=some a/\a.block=b) b
  .have pd:=hS b hs;rcases hs with e|⟨a,ha,rfl⟩|⟨a,ha,rfl⟩
   .omega
   .obtain⟨_,_,cs,e,h3,h4⟩:=jq.held.blk a ha;grind
   .obtain⟨_,_,cs,e,h3,h4⟩:=QE.blk a ha;grind
  .exact hB.rest.block b ⟨hb,hs⟩
 have nx:∀a,x.a=some a->a.block≠N:=λa ha e=>by
  obtain⟨_,_,cs,e',h3,h4⟩:=xj.blk a ha;exact YH
 have ny:∀a,y.a=some a->a.block≠N:=λa ha e=>by
  obtain⟨_,_,cs,e',h3,h4⟩:=sB.blk a ha;exact YH
 have iV:=hB.ro.size;have Ni:LS p Ro s r u x M' W':=by
  obtain⟨c,c1,c2⟩:=jq.c6;refine⟨hB.own _ jq.m6,hB.own _ jq.m7,jq.ne,⟨c,(Lu _ jq.m6 n6).trans c1,c2⟩,(Lu _ jq.m7 n7).trans jq.c7,jq.held.keep (λb hb=>⟨hB.own _ hb.1,hb.2⟩) (λa ha=>Lu _ (jq.held.blk a ha).2.1.1 (nx a ha)),jq.keep.trans hB.ro,λb hb=>⟨λhm=>?_,agx (jq.sp b hb).2 iV⟩,jq.Km,hB.lt,agz jq.gl iV,λb hm=>(hB.new b hm).elim (jq.nw b) λy=>agz jq.keep.size y⟩;rcases hB.new b hm with hm|hm
  .exact(jq.sp b hb).1 hm
  .have:=(jq.sp b hb).2;omega
 have Qw:lj W' (λb=>M' b/\b≠r/\b≠u) (J.pick x y):=by
  rcases J.pk x y with e|e
  .rw[e];exact Ni.held
  .rw[e];exact(QE.keep (λb hb=>⟨hB.own _ hb.1,hb.2⟩) (λa ha=>Lu _ (QE.blk a ha).2.1.1 (ny a ha)))
 rw[hd];walk_nrm
 obtain⟨o',JA,BK,hd',qw⟩:∃o,iY[9]?=some o/\o.op=.store 217 (.tmp 7) (.tmp 26)/\o.dst=none/\o.guard=none:=⟨_,rfl,rfl,rfl,rfl⟩;refine ET.none JA (by simp[Region.wanted,qw]) (by k_ne) λui mj _=>?_
 have ix:=Ni.rely mj;have XW:=Qw.keep (λ_ h=>h) λa ha=>mj.block _ (.inl (Qw.blk a ha).2.1.1)
 refine⟨ui.setRow u (J.pick x y).cells.toArray,(gd BK rfl rfl ix.c7 rfl).1,?_,?_⟩
 .refine fM.row _ ix.m7 λe he=>?_
  obtain⟨j,rfl⟩:=(gd BK rfl rfl ix.c7 rfl).2 e (mem_listed he);exact ip ix.m7
 rw[cU (setRow_size _ _ _),hd'];walk_nrm
 apply ET.rn;have hbo:∀b,b≠u->(ui.setRow u (J.pick x y).cells.toArray).heap[b]?=ui.heap[b]?:=λb hb=>setRow_other _ _ _ _ hb
 obtain⟨c,c1,c2⟩:=ix.c6;exact hK _ _ _ _ _ _ _ _ _ _ _ _ _ _ _ _ _ _ _ _ _ _ _ ⟨ix.m6,ix.m7,ix.ne,⟨c,(hbo _ ix.ne).trans c1,c2⟩,setRow_heap _ _ _ _ _ _ ix.c7,XW.keep (λ_ h=>h) (λa ha=>hbo _ (XW.blk a ha).2.1.2.2),⟨λb hb=>(hbo b (λe=>(ix.sp b (.inr hb)).1 (e▸ix.m7))).trans (ix.keep.block b hb),by rw[setRow_size];exact ix.keep.size,ix.keep.os,ix.keep.out⟩,λb hb=>by rw[setRow_size];exact ix.sp b hb,ix.Km,λb hb=>by rw[setRow_size];exact ix.lt b hb,by rw[setRow_size];exact ix.gl,ix.nw⟩
def Wn (N:pN J af8 p ok Ro s)(fd:dV af8 af8 ok)(hP:dV af8 Tryz.prog ok)(jp:∀f,ok.fn f=true->ok.aP f=true)(BF:kw af8 c)(hi:i<p.L)
  (hK:∀(v3 v4 v5 v9 v10 aZ v12 v13 v14 v15 v16 v17 v18 v19 v20 U Y Z aG bb bi:ay) (y:aX) (M:Nat->Prop) (W:ao),J.Is i y->LS p Ro s r u (J.pick x y) M W->ET Tryz.prog false p.I Ph.oD Ro Stop M (G ((base 187).at ⟨#[J.jK,av (some ⟨J.nb,J.no,none⟩) p.L J.nc,aa<|some ⟨J.tb,0,none⟩,v3,v4,v5,aa<|some ⟨r,0,none⟩,aa<|some ⟨u,0,none⟩,ax .i64 i,v9,v10,aZ,v12,v13,v14,v15,v16,v17,v18,v19,v20,U,Y,Z,aG,bb,bi],[]⟩ [.inBlock 1,.inLoop kU,.inBlock 0]) cs) W)
  (ho:Fm .any iY l rest):
  ∀(l0 l1 l2 l3 l4 l5 O:Bool) (v3 v4 v5 v9 v10 aZ v12 v13 v14 v15 v16 v17 v18 v19 v20 U Y Z aG bb bi:ay) (M:Nat->Prop) (W:ao),l=#[l0,l1,l2,l3,l4,l5,O,false,false,false]->bC l1 l2 l3 l4 l5 O=true->
   (l0=true->v18=x.val)->(l1=true->v19=J.jK)->(l2=true->v20=av (some ⟨J.nb,J.no,none⟩) p.L J.nc)->(l3=true->U=ax .i64 i)->(l4=true->Y=aa (some ⟨J.nb,J.no+i,none⟩))->(l5=true->Z=J.iF i)->
   (O=true->∃y:aX,aG=y.val/\J.Is i y/\lj W (λb=>M b/\b≠r/\b≠u) y)->LS p Ro s r u x M W->
   ET Tryz.prog false p.I Ph.oD Ro Stop M (G ((base 187).at ⟨#[J.jK,av (some ⟨J.nb,J.no,none⟩) p.L J.nc,aa<|some ⟨J.tb,0,none⟩,v3,v4,v5,aa<|some ⟨r,0,none⟩,aa<|some ⟨u,0,none⟩,ax .i64 i,v9,v10,aZ,v12,v13,v14,v15,v16,v17,v18,v19,v20,U,Y,Z,aG,bb,bi],[]⟩<|.inRegion iY rest::[.inBlock 1,.inLoop kU,.inBlock 0]) cs) W:=by
 induction ho with
 |nil h=>rintro l0 l1 l2 l3 l4 l5 O _ _ _ _ _ _ _ _ _ _ _ _ _ _ _ _ _ _ _ _ _ M W rfl hb;exact absurd h (Ma _ _ _ _ _ _ _ hb).1
 |@cons l q rest hq hr ih=>
  rintro l0 l1 l2 l3 l4 l5 O v3 v4 v5 v9 v10 aZ v12 v13 v14 v15 v16 v17 v18 v19 v20 U Y Z aG bb bi M W rfl hb h0 h1 T h3 h4 h5 h6 D;have hc:=bM.1 (Ma l0 l1 l2 l3 l4 l5 O hb).2 q hq;simp only[Bool.or_eq_true,Bool.and_eq_true,beq_iff_eq,Bool.not_eq_true']at hc;rcases hc with((((((⟨rfl,rfl⟩|⟨rfl,rfl⟩)|⟨rfl,rfl⟩)|⟨rfl,rfl⟩)|⟨⟨⟨rfl,rfl⟩,rfl⟩,rfl⟩)|⟨⟨rfl,rfl⟩,rfl⟩)|⟨⟨⟨rfl,rfl⟩,rfl⟩,rfl⟩)|⟨⟨rfl,rfl⟩,rfl⟩
  ·
   obtain⟨o,ho,bF,R,hg⟩:∃o,iY[0]?=some o/\o.op=.load 217 (.tmp 7)/\o.dst=some 18/\o.guard=none:=⟨_,rfl,rfl,rfl,rfl⟩;refine ET.val x.val ho ma (by k_ne) (λaj B _=>?_) ?_
   .have C:=D.rely B;refine⟨AN bF rfl C.c7,λe he=>?_⟩;obtain⟨j,rfl⟩:=CH bF rfl C.c7 e he;exact ip D.m7
   .rw[R];walk_nrm
    exact ih true l1 l2 l3 l4 l5 O _ _ _ _ _ _ _ _ _ _ _ _ _ _ _ _ _ _ _ _ _ _ _ aN hb (λ_=>rfl) h1 T h3 h4 h5 h6 D
  .obtain⟨o,ho,bF,R,hg⟩:∃o,iY[1]?=some o/\o.op=.move (.tmp 0)/\o.dst=some 19/\o.guard=none:=⟨_,rfl,rfl,rfl,rfl⟩;refine ET.val (J.jK) ho ma (by k_ne) (λaj B _=>?_) ?_
   .exact aaG
   .rw[R];walk_nrm
    exact ih l0 true l2 l3 l4 l5 O _ _ _ _ _ _ _ _ _ _ _ _ _ _ _ _ _ _ _ _ _ _ _ aN (bm1 _ _ _ _ _ hb) h0 (λ_=>rfl) T h3 h4 h5 h6 D
  .obtain⟨o,ho,bF,R,hg⟩:∃o,iY[2]?=some o/\o.op=.move (.tmp 1)/\o.dst=some 20/\o.guard=none:=⟨_,rfl,rfl,rfl,rfl⟩;refine ET.val (av (some ⟨J.nb,J.no,none⟩) p.L J.nc) ho ma (by k_ne) (λaj B _=>?_) ?_
   .exact aaG
   .rw[R];walk_nrm
    exact ih l0 l1 true l3 l4 l5 O _ _ _ _ _ _ _ _ _ _ _ _ _ _ _ _ _ _ _ _ _ _ _ aN (bm2 _ _ _ _ _ hb) h0 h1 (λ_=>rfl) h3 h4 h5 h6 D
  .obtain⟨o,ho,bF,R,hg⟩:∃o,iY[3]?=some o/\o.op=.move (.tmp 8)/\o.dst=some 21/\o.guard=none:=⟨_,rfl,rfl,rfl,rfl⟩;refine ET.val (ax .i64 i) ho ma (by k_ne) (λaj B _=>?_) ?_
   .exact aaG
   .rw[R];walk_nrm
    exact ih l0 l1 l2 true l4 l5 O _ _ _ _ _ _ _ _ _ _ _ _ _ _ _ _ _ _ _ _ _ _ _ aN (bm3 _ _ _ _ _ hb) h0 h1 T (λ_=>rfl) h4 h5 h6 D
  .obtain⟨o,ho,bF,R,hg⟩:∃o,iY[4]?=some o/\o.op=.indexAddr 219 (.tmp 20) (.tmp 21)/\o.dst=some 22/\o.guard=none:=⟨_,rfl,rfl,rfl,rfl⟩;obtain rfl:=T rfl;obtain rfl:=h3 rfl;refine ET.val (aa<|some ⟨J.nb,J.no+i,none⟩) ho ma (by k_ne) (λaj B _=>?_) ?_
   .have qe:(i:Int)<p.L:=by omega
    unfold au;refine⟨?_,λe he=>?_⟩
    .simp;go_simp
    simp only[bF]at he;exact YE
   .rw[R];walk_nrm
    exact ih l0 l1 true true true l5 O _ _ _ _ _ _ _ _ _ _ _ _ _ _ _ _ _ _ _ _ _ _ _ aN (bm4 _ _ _ hb) h0 h1 T h3 (λ_=>rfl) h5 h6 D
  .obtain⟨o,ho,bF,R,hg⟩:∃o,iY[5]?=some o/\o.op=.load 106 (.tmp 22)/\o.dst=some 23/\o.guard=none:=⟨_,rfl,rfl,rfl,rfl⟩;obtain rfl:=h4 rfl;refine ET.val (J.iF i) ho ma (by k_ne) (λaj B _=>?_) ?_
   .have hc:aj.cell? ⟨J.nb,J.no+i,none⟩=some (J.iF i):=by
     rw[<-N.iO i hi];simp only[aV,(D.rely B).keep.block _ N.rnb]
    unfold au;refine⟨?_,λe he=>?_⟩
    .simp;go_simp
    .simp[go_sem,bF,hc]at he;subst he;exact CJ N.rnb
   .rw[R];walk_nrm
    exact ih l0 l1 l2 l3 true true O _ _ _ _ _ _ _ _ _ _ _ _ _ _ _ _ _ _ _ _ _ _ _ aN (bm5 _ _ _ _ hb) h0 h1 T h3 h4 (λ_=>rfl) h6 D
  ·
   obtain⟨o,ho,bF,R,hg⟩:∃o,iY[6]?=some o/\o.op=.call {callee:=.value<|.func 208,args:=#[.tmp 19,.tmp 23],argTypes:=#[39,106]}/\o.dst=some 24/\o.guard=none:=⟨_,rfl,rfl,rfl,rfl⟩;obtain rfl:=h1 rfl;obtain rfl:=h5 rfl;obtain⟨rfl,rfl,rfl⟩:=bm6 _ _ _ hb;refine ET.I6 fd hP jp BF ho ma (by k_ne) bF Tryz.func208 aO rfl N.Yg.1 GI (λb hb=>ad hb) D.acp D.lt D.gl (J.S i)
    (λaj v w=>∃y:aX,v=y.val/\J.Is i y/\lj w (λb=>(aj:Nat)<=b) y) (λW v w τ d ⟨y,e1,e2,e3⟩=>⟨y,e1,e2,e3.keep (λ_ h=>h) λ_ _=>rfl⟩) (λb hb=>ad<|N.sro i b hb) (λaj B=>N.closed i hi aj (D.rely B).keep) ?_ ?_ ?_
   .intro v hv;simp[Act.eval]at hv;rcases hv with rfl|rfl
    .exact N.Pg i hi
    .exact N.Pi i hi
   .intro aj B _ τ d;walk_nrm
    refine(N.Sw i hi Ro aj (D.rely B).keep τ d).mono ?_;rintro e w' ⟨y,rfl,e2,e3⟩;exact⟨_,rfl,y,rfl,e2,e3⟩
   intro aj v' M' W' B qF i' hB;have C:=D.rely B;obtain⟨σ,v,V',hv,⟨y,rfl,hy,hh⟩,hw,hS,zN,f_⟩:=hB.res;obtain⟨a',rfl,hn,ha⟩:=A3 hv;have bl:∀b,M b->¬J.S i b:=λb hb hs=>(C.sp b<|ad<|N.sro i b hs).1 hb
   have Lu:∀b,M b->W'.heap[b]?=aj.heap[b]?:=λb hb=>hB.rest.block b ⟨hb,bl b hb⟩
   have bn:∀a d,y.a=some a->σ a.block=some d->(aj:Nat)<=d:=λa d h1 T=>(zN _ _ T).elim (λe=>by
    have:=(hh.blk a h1).2.1;have:=(C.sp _<|ad<|N.sro i _ e.1).2;omega) id
   have bq:∀a d,y.a=some a->σ a.block=some d->M' d/\d≠r/\d≠u:=λa d h1 T=>by
    have hb:=bn a d h1 T;have O:=C.lt _ C.m6;have l7:=C.lt _ C.m7;refine⟨(f_ _ _ T).resolve_right λe=>?_,ab,ab⟩;have:=(C.sp d<|ad e.1).2;omega
   have iV:=hB.ro.size;have Ni:LS p Ro s r u x M' W':=by
    let⟨c,c1,c2⟩:=C.c6;refine⟨hB.own _ C.m6,hB.own _ C.m7,C.ne,⟨c,(Lu _ C.m6).trans c1,c2⟩,(Lu _ C.m7).trans C.c7,C.held.keep (λb hb=>⟨hB.own _ hb.1,hb.2⟩) λa ha=>Lu _ (C.held.blk a ha).2.1.1,C.keep.trans hB.ro,λb hb=>⟨λhm=>?_,agx (C.sp b hb).2 iV⟩,C.Km,hB.lt,agz C.gl iV,λb hm=>(hB.new b hm).elim (C.nw b) λy=>agz C.keep.size y⟩;rcases hB.new b hm with hm|hm
    .exact(C.sp b hb).1 hm
    .have:=(C.sp b hb).2;omega
   rw[R];walk_nrm
   exact ih l0 true true true true true true _ _ _ _ _ _ _ _ _ _ _ _ _ _ _ _ _ _ _ _ _ _ _ aN rfl h0 h1 T h3 h4 h5 (λ_=>⟨_,rfl,N.ren i y a' hy hn,(Nf hw ⟨hh.row,hh.small,λa ha=>⟨(hh.blk a ha).1,trivial,(hh.blk a ha).2.2⟩,hh.full⟩ hn ha bq)⟩) Ni
  obtain⟨rfl,rfl,rfl,rfl,rfl⟩:=bm7 _ _ _ _ _ hb;obtain⟨y,rfl,hy,hh⟩:=h6 rfl;obtain rfl:=h0 rfl;obtain rfl:rest=[8,9]:=by
   have e1:(#[true,true,true,true,true,true,true,false,false,false]:Array Bool).setIfInBounds 7 true=#[true,true,true,true,true,true,true,true,false,false]:=aN;rw[e1]at hr;generalize hL:(#[true,true,true,true,true,true,true,true,false,false]:Array Bool)=L at hr;cases hr with
   |nil h=>subst hL;exact absurd h Zn
   |@cons _ q1 r1 oy oC=>
    subst hL;rw[show aL .any iY #[true,true,true,true,true,true,true,true,false,false]=[8] from by decide +kernel]at oy;obtain rfl:=bK.1 oy;have e2:(#[true,true,true,true,true,true,true,true,false,false]:Array Bool).setIfInBounds 8 true=#[true,true,true,true,true,true,true,true,true,false]:=aN;rw[e2]at oC;generalize hL:(#[true,true,true,true,true,true,true,true,true,false]:Array Bool)=L at oC;cases oC with
    |nil h=>subst hL;exact absurd h Zn
    |@cons _ q2 r2 MX Tf=>
     subst hL;rw[show aL .any iY #[true,true,true,true,true,true,true,true,true,false]=[9] from by decide +kernel]at MX;obtain rfl:=bK.1 MX;have e3:(#[true,true,true,true,true,true,true,true,true,false]:Array Bool).setIfInBounds 9 true=#[true,true,true,true,true,true,true,true,true,true]:=aN;rw[e3]at Tf;generalize hL:(#[true,true,true,true,true,true,true,true,true,true]:Array Bool)=L at Tf;cases Tf with
     |nil h=>rfl
     |@cons _ q3 r3 bx b5=>
      subst hL;exact absurd bx (by rw[show aL .any iY #[true,true,true,true,true,true,true,true,true,true]=[] from by decide +kernel];simp)
  exact Ve N fd hP jp BF (λa0 a1 a2 a3 a4 a5 a6 a7 a8 a9 bH bR bS bV bW bX b0 b1 b2 b3 b4 M W h=>hK a0 a1 a2 a3 a4 a5 a6 a7 a8 a9 bH bR bS bV bW bX b0 b1 b2 b3 b4 y M W hy h) _ _ _ _ _ _ _ _ _ _ _ _ _ _ _ _ _ _ _ _ _ hh D
end
def mixed:Tryz.prog.follows .mixedOrders:=aO
section
variable [Gl]{J:Jb}{Ro:Nat->Prop}
def Wy (Z:pN J af8 p ok Ro s)(fd:dV af8 af8 ok)(hP:dV af8 Tryz.prog ok)(jp:∀f,ok.fn f->ok.aP f)(BF:kw af8 c)(hL:p.L<4611686018427387904) (Nk:∀seq x M W,yL J seq x->LS p Ro s r u x M W->W.cell? r=some (bk x.ok)->ET Tryz.prog false p.I Ph.oD Ro (p.Cq k seq) M (G (c0.finish x.val) cs) W) f: ∀lo (seq:List Nat) (x:aX) (M:Nat->Prop) (W:ao) (v3 v4 v5 v8 v9 v10 B v12 v13 v14 v15 v16 v17 v18 v19 v20 C D N O R T:ay),p.L<=lo+f->yL J seq x->LS p Ro s r u x M W->ET Tryz.prog false p.I Ph.oD Ro (p.ll k Ro f lo seq) M (G ((base 187).at ⟨#[J.jK,av (some ⟨J.nb,J.no,none⟩) p.L J.nc,aa J.tb,v3,v4,v5,aa r,aa u,v8,v9,v10,B,v12,v13,v14,v15,v16,v17,v18,v19,v20,C,D,N,O,R,T],[]⟩ [.code kU,.inLoop kU,.inBlock 0])<|c0::cs) W:=by induction f with|zero=>intro lo seq x M W v3 v4 v5 v8 v9 v10 B v12 v13 v14 v15 v16 v17 v18 v19 v20 C D N O R T Td hb nH;obtain⟨g1,g2,hA,⟨hs,hB⟩,hC,hD⟩:=SC Z hL v3 v4 v5 v8 v9 v10 B v12 v13 v14 v15 v16 v17 v18 v19 v20 C D N O R T;refine hA _ _ _<|ET.stop λaj U _=>⟨hs,λy h1 h2 h3=>⟨ab,g2 y,?_⟩⟩;rw[Z.prog];exact⟨hB aj y h2 h3,hD _ _ _ y x ab h2 (nH.rely<|U.trans<|(nH.rely U).tk<|ax .i64<|y+1) λW' Y h5=>Nk seq x M W' hb Y h5⟩|succ f ih=>intro lo seq x M W v3 v4 v5 v8 v9 v10 B v12 v13 v14 v15 v16 v17 v18 v19 v20 C D N O R T Td hb nH;obtain⟨g1,g2,hA,⟨hs,hB⟩,hC,hD⟩:=SC Z hL v3 v4 v5 v8 v9 v10 B v12 v13 v14 v15 v16 v17 v18 v19 v20 C D N O R T;refine hA _ _ _<|ET.stop λaj U _=>⟨hs,λy h1 h2 h3=>⟨g2 y,?_⟩⟩;rw[Z.prog];have hl:=nH.rely<|U.trans<|(nH.rely U).tk<|ax .i64<|y+1;refine⟨hB aj y h2 h3,λY=>hD _ _ _ y x Y h2 hl λW' h5 h6=>Nk seq x M W' hb h5 h6,λY=>hC _ _ _ y Y λa3 a4 a5 a8 a9 aG aZ a0 a1 a2 a6 a7 bb bi bl bn bq bx bF bH bR bS=>ET.drawn mixed λorder ho=>?_⟩;have e:(bz iY.size false)=#[false,false,false,false,false,false,false,false,false,false]:=aO;refine Wn Z fd hP jp BF Y ?_ ho false false false false false false false _ _ _ _ _ _ _ _ _ _ _ _ _ _ _ _ _ _ _ _ _ M _ rfl rfl (λh=>sV) (λh=>sV) (λh=>sV) (λh=>sV) (λh=>sV) (λh=>sV) (λh=>sV) hl;exact λb3 b4 b5 b9 Bu bV DW bW bX b0 b1 b2 b6 b7 b8 ca cb cc cd ce cf z M' W' hz Ni=>ET.c (λ_=>stepG_inBlock)<|ET.c (λ_=>stepG_inLoop)<|ih (y+1) (seq++[y]) (J.pick x z) M' W' _ _ _ _ _ _ _ _ _ _ _ _ _ _ _ _ _ _ _ _ _ _ ab (hb.snoc hz) Ni
end
def acn:(Tryz.f187.name== "runtime.NumGoroutine")=false:=aO
section
variable [Gl]{J:Jb}{Ro:Nat->Prop}
def Pj (B:pN J af8 p ok Ro s)(fd:dV af8 af8 ok)(hP:dV af8 Tryz.prog ok)(jp:∀f,ok.fn f->ok.aP f)(BF:kw af8 c)(hL:p.L<4611686018427387904)(Ta:k<4)(wY:Ro A)(aZ:s.heap[A]?=some (.cells #[ax .i64 k] 3 (0,0)))(bb:p.Wg≠p.Bs) (Ge:∀b,p.Sp b->¬Ro b)(aG:∀b,p.Sp b\/Ro b->b<s)(Et:Gl.n<=s)(ho:Fm .any jw l rest): ∀R T U Y D (v6 v7 v8 v9 v10 N:ay) (W:ao),l=#[R,T,U,Y,false,D,false]->(R->v6=av p.Bs 4 4)->(T->v7=ax .i64 k)->(U->v8=J.jK)->(Y->v9=av (some ⟨J.nb,J.no,none⟩) p.L J.nc)->(D->N=aa (some ⟨p.Bs,k*4,none⟩))->(D->R/\T)->aU Ro s W->(s:Nat)<=W->ET Tryz.prog false p.I Ph.oD Ro (p.ll k Ro p.L 0 []) (λ_=>False) (G (abf J p.Wg A v6 v7 v8 v9 v10 N rest) [bot]) W:=by induction ho with|nil h=>rintro R T U Y D v6 v7 v8 v9 v10 N W rfl;exact absurd h (yB _ _ _ _ _ _).1|@cons l q rest hq hr ih=>rintro R T U Y D v6 v7 v8 v9 v10 N W rfl Z h7 h8 h9 En h5 hK iV;have hc:=bM.1 (yB R T U Y false D).2 q hq;simp at hc;rcases hc with((((⟨rfl,rfl⟩|⟨rfl,rfl⟩)|⟨rfl,rfl⟩)|⟨rfl,rfl⟩)|⟨⟨rfl,rfl⟩,rfl⟩)|⟨⟨⟨rfl,rfl⟩,rfl⟩,rfl⟩;(.obtain⟨o,ho,bF,O,hg⟩:∃o,jw[0]?=some o/\o.op=.load 250 (.tmp 4)/\o.dst=some 6/\o.guard=none:=⟨_,rfl,rfl,rfl,rfl⟩;refine ET.val (av p.Bs 4 4) ho ma (by k_ne) (λaj C _=>?_) ?_;(.have hb:=fR<|(C.block _<|ad B.Yl).trans<|(hK.block _ B.Yl).trans B.Zi;unfold au;refine⟨?_,λe he=>?_⟩;(.simp only[bF];go_simp);simp[go_sem,bF,hb]at he;subst he;exact CJ B.Yl);rw[O];walk_nrm;exact ih true T U Y D _ _ _ _ _ _ _ aN (λ_=>rfl) h7 h8 h9 En (λe=>⟨rfl,(h5 e).2⟩) hK iV);(.obtain⟨o,ho,bF,O,hg⟩:∃o,jw[1]?=some o/\o.op=.load 3 (.tmp 5)/\o.dst=some 7/\o.guard=none:=⟨_,rfl,rfl,rfl,rfl⟩;refine ET.val (ax .i64 k) ho ma (by k_ne) (λaj C _=>?_) ?_;have hb:=fR<|(C.block _<|ad wY).trans<|(hK.block _ wY).trans aZ;exact adj;rw[O];walk_nrm;exact ih R true U Y D _ _ _ _ _ _ _ aN Z (λ_=>rfl) h8 h9 En (λe=>⟨(h5 e).1,rfl⟩) hK iV);(.obtain⟨o,ho,bF,O,hg⟩:∃o,jw[2]?=some o/\o.op=.load 39 (.tmp 1)/\o.dst=some 8/\o.guard=none:=⟨_,rfl,rfl,rfl,rfl⟩;refine ET.val (J.jK) ho ma (by k_ne) (λaj C _=>?_) ?_;(.have hb:=fR<|(C.block _<|ad B.rbl).trans<|(hK.block _ B.rbl).trans B.acb;unfold au;refine⟨?_,λe he=>?_⟩;(.simp only[bF];go_simp);simp[go_sem,bF,hb]at he;subst he;exact CJ B.rbl);rw[O];walk_nrm;exact ih R T true Y D _ _ _ _ _ _ _ aN Z h7 (λ_=>rfl) h9 En h5 hK iV);(.obtain⟨o,ho,bF,O,hg⟩:∃o,jw[3]?=some o/\o.op=.load 219 (.tmp 2)/\o.dst=some 9/\o.guard=none:=⟨_,rfl,rfl,rfl,rfl⟩;refine ET.val (av (some ⟨J.nb,J.no,none⟩) p.L J.nc) ho ma (by k_ne) (λaj C _=>?_) ?_;(.have hb:=fR<|(C.block _<|ad B.rbn).trans<|(hK.block _ B.rbn).trans B.ack;unfold au;refine⟨?_,λe he=>?_⟩;(.simp only[bF];go_simp);simp[go_sem,bF,hb]at he;subst he;exact CJ B.rbn);rw[O];walk_nrm;exact ih R T U true D _ _ _ _ _ _ _ aN Z h7 h8 (λ_=>rfl) En h5 hK iV);(.obtain⟨o,ho,bF,O,hg⟩:∃o,jw[4]?=some o/\o.op=.call {callee:=.value<|.func 187,args:=#[.tmp 8,.tmp 9,.tmp 3],argTypes:=#[39,219,253]}/\o.dst=some 10/\o.guard=none:=⟨_,rfl,rfl,rfl,rfl⟩;obtain rfl:=h8 rfl;obtain rfl:=h9 rfl;refine ET.k rfl λ_ _ _=>goes_call ho ma (by k_ne) bF Tryz.func187 acn rfl ⟨⟨rfl,λe he=>ji⟩,?_⟩;walk_nrm;have en:∀n,Tryz.f187.ntmps-n=27-n:=λn=>rfl;rw[en];walk_nrm;rw[<-B.prog];apply Uf B (λ_=>False) W hK (λb hb=>⟨id,agx (aG b hb) iV⟩) Ge (λb hb=>hb.elim) ab λb hb=>hb.elim;intro r u a0 a1 a2 a3 a4 a5 a6 a7 a8 a9 bi bl bn bq bx bH bR bS bV bW bX b0 M' W' nH;rw[B.prog];refine Wy B fd hP jp BF hL ?_ p.L 0 [] ff M' W' _ _ _ _ _ _ _ _ _ _ _ _ _ _ _ _ _ _ _ _ _ _ ab .nil nH;intro seq x M W hb hl hc;rw[Frame.finish_at,ho];simp[Option.bind_some,O];walk_nrm;have:=TN B Ta wY bb hb hr R T D v6 v7 J.jK (av (some ⟨J.nb,J.no,none⟩) p.L J.nc) N M W r x.ok aN Z h7 En hl.keep ((hl.keep.block _ wY).trans aZ) hl.m6 hc (hl.held.keep (λb h=>⟨h.1,h.2.1⟩) λ_ _=>rfl) (λb hb=>(hl.sp b<|ac hb).1) (λb hb=>agz B.base<|hl.nw b hb) h5;rw[B.prog]at this;exact this);obtain⟨o,ho,bF,O,hg⟩:∃o,jw[5]?=some o/\o.op=.indexAddr 250 (.tmp 6) (.tmp 7)/\o.dst=some 11/\o.guard=none:=⟨_,rfl,rfl,rfl,rfl⟩;refine ET.val (aa<|some ⟨p.Bs,k*4,none⟩) ho ma (by k_ne) (λaj C _=>?_) ?_;(.rw[Z rfl,h7 rfl];unfold au;refine⟨?_,λe he=>?_⟩;(.simp only[bF];go_simp;omega);simp[bF]at he;simp[go_sem]at he;rw[events_indexAt_slice _ _ _ _ _ _ (by go_simp) ab]at he;grind);rw[O];walk_nrm;exact ih true true U Y true _ _ _ _ _ _ _ aN Z h7 h8 h9 (λ_=>rfl) (λ_=>⟨rfl,rfl⟩) hK iV
def Y1 (D:pN J af8 p ok Ro s)(N:dV af8 af8 ok)(O:dV af8 Tryz.prog ok)(R:∀f,ok.fn f->ok.aP f)(T:kw af8 c)(U:p.L<4611686018427387904)(Y:k<4)(Z:Ro A)(B:s.heap[A]?=some (.cells #[ax .i64 k] 3 (0,0)))(C:p.Wg≠p.Bs) (Ge:∀b,p.Sp b->¬Ro b)(aG:∀b,p.Sp b\/Ro b->b<s)(Et:Gl.n<=s): ET p.P false p.I Ph.oD Ro (p.ll k Ro p.L 0 []) (λ_=>False) (born Tryz.prog<|call47 J p.Wg A) s:=by rw[D.prog];apply ET.c λw=>MI J p.Wg A w;apply ET.sr;(refine ET.c (λ_=>stepG_defer rfl rfl (by k_ne) rfl) ?_;walk_nrm);apply ET.rn;refine ET.drawn mixed λorder ho=>?_;have e:(bz jw.size false)=#[false,false,false,false,false,false,false]:=aO;change Fm .any jw (bz jw.size false) order at ho;exact Pj D N O R T U Y Z B C Ge aG Et ho false false false false false _ _ _ _ _ _ s rfl (λh=>sV) (λh=>sV) (λh=>sV) (λh=>sV) (λh=>sV) (λh=>sV) (aU.refl _ _) ab
end
