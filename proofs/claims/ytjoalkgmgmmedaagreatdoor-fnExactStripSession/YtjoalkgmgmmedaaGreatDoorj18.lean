import Derived.Test.YtjoalkgmgmmedaaGreatDoorj10
import Derived.Test.YtjoalkgmgmmedaaGreatDoorj17
set_option linter.defProp false
set_option linter.unusedSimpArgs false
set_option linter.unusedVariables false
set_option maxHeartbeats 2000000
set_option maxRecDepth 100000
open Array renaming replicate->bp
open Go renaming setRow_size->ac,execOp->ad,World->ax,Value->ay,setRow_other->aI,setRow_heap->bk,Goroutine->bm,results->bs,stepG->bt,storeCells->bE,yielded->bM,Addr->bN,Program->bV,Frame->bW,Event->b0,goexitEntry->b1,TypeId->b8
open Go.Conc renaming base->bH,mem_listed->bL,listed->bO,baseD->bR,stepG_block->b2,goes_leave1->b6,stepG_none->ca
open Go.ConcN.Gen renaming kn_rely->bj
open Go.Region renaming ready->av,wanted->aV
open Go.RowKit.Below renaming heap_alloc->aB
open Go.Value renaming pointer->aa,slice->ao,int->be,oneCell'->bA,bool->bB,agg->bS
open Go.World renaming cell?->au
open List renaming all_eq_true->bo,mem_singleton->bv
open Option renaming ne_none_iff_exists'->br,getD_some->bz
open Or renaming inr->aE,inl->aL
namespace Go.Proofs.YtjoalkgmgmmedaaGreatDoor
open Conc Conc.Lib ConcR.Gen RowKit
variable {Stop:(Nat->Prop)->bm->ax->Prop}{a:bN}{l:Array Bool}{ok:Ctx}{c c0:bW}{fn:Func}{cs:List bW}{todo:List Item}{rest:List Nat}{u A g i k off r:Nat}{M M':Nat->Prop}{o:Oper}{p:Ph}{P afn:bV}{v:ay}{W W' ai s w:ax}{x:aX}
def nW (id:Nat):Code->Option (Array Oper)
 |.region i ops _=>if i==id then some ops else none
 |.seq a b=>(nW id a).or (nW id b)
 |.cond _ a b=>(nW id a).or (nW id b)
 |.block _ c=>nW id c
 |.loop c=>nW id c
 |.scope c=>nW id c
 |_=>none
def kN:Code->Option Code
 |.seq a b=>(kN a).or (kN b)
 |.cond _ a b=>(kN a).or (kN b)
 |.block _ c=>kN c
 |.loop c=>some c
 |.scope c=>kN c
 |_=>none
section
variable {m:Bool}{I:ax->Prop}{X:b0->Prop}{Ro:Nat->Prop}
 {b:bW}{a:Act}{k:List Item}{ops:Array Oper}
def stepG_value {w':ax}(ho:ops[i]?=some o)(hw:aV o (bM ops a.tmps))(hk:b.kind≠.early)(q:(ad a.eval o).run P w=.ok (.value v) w'):
  bt P m (G (b.at a<|.inRegion ops (i::rest)::k) cs) w=.go (G (b.at (a.put o.dst v)<|.inRegion ops rest::k) cs) w' (bO P b.fn a o w):=by
 have:=goes_oper_k (P:=P) (main:=m) (cs:=cs) (k:=k) (rest:=rest) (w:=w) (K:=λg' e f=>g'=G (b.at (a.put o.dst v)<|.inRegion ops rest::k) cs/\e=w'/\f=bO P b.fn a o w) ho hw hk λz h=>cO;let⟨g',e,f,B,C,D,N⟩:=goes_elim this;grind
theorem ET.oper (ho:ops[i]?=some o)(hw:aV o (bM ops a.tmps))(hk:b.kind≠.early)
  (h:∀ai,aU (λb=>M b\/Ro b) W ai->I ai->∃v W',(ad a.eval o).run P ai=.ok (.value v) W'/\fH X M Ro ai W' (bO P b.fn a o ai)/\ET P m I X Ro Stop (grow M ai W') (G (b.at (a.put o.dst v)<|.inRegion ops rest::k) cs) W'):
  ET P m I X Ro Stop M (G (b.at a<|.inRegion ops (i::rest)::k) cs) W:=
 ET.step rfl λai e f=>by
  let⟨v,W',j,n,q⟩:=h ai e f;exact⟨_,_,_,stepG_value ho hw hk j,n,q⟩
def ET.val v (ho:ops[i]?=some o)(hw:aV o (bM ops a.tmps))(hk:b.kind≠.early)
  (h:∀ai,aU (λb=>M b\/Ro b) W ai->I ai->(ad a.eval o).run P ai=.ok (.value v) ai/\∀e∈(ad a.eval o).events P ai #[],Hz X M Ro e)
  (n:ET P m I X Ro Stop M (G (b.at (a.put o.dst v)<|.inRegion ops rest::k) cs) W):ET P m I X Ro Stop M (G (b.at a<|.inRegion ops (i::rest)::k) cs) W:=
 ET.oper ho hw hk λai f j=>⟨v,ai,(h ai f j).1,fH.stay λe he=>(h ai f j).2 e<|mem_listed he,by rw[show grow M ai ai=M from cR rfl];exact n.rely f⟩
def ET.none (ho:ops[i]?=some o)(hw:aV o (bM ops a.tmps))(hk:b.kind≠.early)
  (h:∀ai,aU (λb=>M b\/Ro b) W ai->I ai->∃W',(ad a.eval o).run P ai=.ok .skip W'/\fH X M Ro ai W' (bO P b.fn a o ai)/\ET P m I X Ro Stop (grow M ai W') (G (b.at (a.put o.dst undef)<|.inRegion ops rest::k) cs) W'):
  ET P m I X Ro Stop M (G (b.at a<|.inRegion ops (i::rest)::k) cs) W:=
 ET.step rfl λai e f=>by
  let⟨W',j,n,q⟩:=h ai e f;exact⟨_,_,_,ca ho hw hk j,n,q⟩
def EO (e:b.kind=.normal)(f:a.defers=[])(q:P.funcs[b.fn]?=some fn)(z:(bs fn a.tmps).run P w=.ok v w):
  bt P m (G {b.at a todo with mode:=.returning}<|c::cs) w=.go (G (c.finish v) cs) w (seen P b.fn<|(bs fn a.tmps).events P w #[]):=by
 simp_all [G,bt,unwind,doReturn,Frame.at,GStep.after]
def ET.Er  v (z:b.kind=.normal)(B:a.defers=[])(C:P.funcs[b.fn]?=some fn)
  (h:∀ai,aU (λb=>M b\/Ro b) W ai->I ai->(bs fn a.tmps).run P ai=.ok v ai/\∀e∈(bs fn a.tmps).events P ai #[],Hz X M Ro e)
  (n:ET P m I X Ro Stop M (G (c.finish v) cs) W):ET P m I X Ro Stop M (G {b.at a todo with mode:=.returning}<|c::cs) W:=
 ET.step rfl λai f q=>⟨_,_,_,EO z B C (h ai f q).1,fH.stay λe he=>(h ai f q).2 e<|kD _ _ _ e he,by rw[show grow M ai ai=M from cR rfl];exact n.rely f⟩
def fH.row (cs:Array ay)(f:M g){es:Array b0}(h:∀e∈es,Hz X M Ro e):fH X M Ro W (W.setRow g cs) es:=
 ⟨λb _ j=>aI _ _ _ _ λe=>j<|e▸f,Nat.le_of_eq (ac _ _ _).symm,rfl,rfl,rfl,λe n=>by rw[show grow M W _=M from cR (ac _ _ _)];exact h e n⟩
def Cn {a}(h:Ro a.block):Hz X M Ro ⟨.cell a,false,false⟩:=aL ⟨rfl,a,rfl,aE ⟨h,rfl⟩⟩
def il {a w}(h:M a.block):Hz X M Ro ⟨.cell a,w,false⟩:=aL ⟨rfl,a,rfl,aL h⟩
end
section
variable [Gl]
structure Jb where
 bl:Nat
 bn:Nat
 bb:Nat
 nb:Nat
 no:Nat
 nc:Nat
 tb:Nat
 jE:ay
 iB:Nat->ay
 S:Nat->Nat->Prop
 Is:Nat->aX->Prop
 lt:aX->aX->Bool
 base:Nat
def Jb.pick (J:Jb)(x y:aX):aX:=if J.lt y x then y else x
def Jb.dA (J:Jb):List aX->aX
 |[]=>eY
 |x::xs=>xs.foldl J.pick x
omit [Gl] in
def Jb.pk (J:Jb)(x y:aX):J.pick x y=x\/J.pick x y=y:=by
 grind [Jb.pick]
inductive yw (J:Jb):List Nat->aX->Prop
 |nil:yw J [] eY
 |snoc {seq:List Nat} {i:Nat} {x y:aX}:yw J seq x->J.Is i y->yw J (seq++[i]) (J.pick x y)
structure kV (W:ax)(M:Nat->Prop)(x:aX):Prop where
 row:eR W x.a x.n x.g
 small:x.n<=1048576
 blk:∀a,x.a=some a->a.spot=none/\M a.block/\∃cs e,W.heap[a.block]?=some (.cells cs e (0,0))/\∀v∈cs,∃n,v=be .i64 n
 full:∀a,x.a=some a->a.off=0/\∃cs,W.heap[a.block]?=some (.cells cs 3 (0,0))/\cs.size=x.n
omit [Gl] in
def kV.keep (h:kV W M x)(C:∀b,M b->M' b)(D:∀a,x.a=some a->W'.heap[a.block]?=W.heap[a.block]?):kV W' M' x:=by
 refine⟨?_,h.small,λa f=>?_,λa f=>?_⟩
 .rcases h.row with e|⟨b,off,e,j⟩
  .exact aL e
  refine aE ⟨b,off,e,λi n=>?_⟩;have:=j i n;grind [au]
 .let⟨q,z,cs,e,B,E⟩:=h.blk a f;grind
 let⟨q,cs,z,B⟩:=h.full a f;grind
def KE (J:Jb)(seq:List Nat)(f:List ay)(e:Nat->Prop)(W:ax):Prop:=∃x,f=x.cells/\yw J seq x/\kV W e x/\∀b,e b->J.base<=b
structure pE (J:Jb)(afn:bV)(p:Ph)(ok:Ctx)(Ro:Nat->Prop)(s:ax):Prop where
 prog:p.P=Tryz.prog
 ty:p.ty=240
 tk:p.tk=J.tb
 wd:p.wd=4
 n4:p.n=4
 bty:p.bty=208
 res:p.Yl=KE J
 base:J.base<=s
 abo:s.heap[J.bl]?=some (.cells #[J.jE] 26 (0,0))
 abv:s.heap[J.bn]?=some (.cells #[ao (some ⟨J.nb,J.no,none⟩) p.L J.nc] 210 (0,0))
 Yp:s.heap[J.bb]?=some (.cells #[ao p.Bs 4 4] 241 (0,0))
 rbl:Ro J.bl
 rbn:Ro J.bn
 Xu:Ro J.bb
 rnb:Ro J.nb
 iJ:∀i,i<p.L->s.cell? ⟨J.nb,J.no+i,none⟩=some (J.iB i)
 sro:∀i b,J.S i b->Ro b
 closed:∀i,i<p.L->∀ai,aU Ro s ai->Closed ok (J.S i) ai
 OG:∀i,i<p.L->aq ok (ul<|J.S i) J.jE J.jE
 OH:∀i,i<p.L->aq ok (ul<|J.S i) (J.iB i) (J.iB i)
 RL:∀i,i<p.L->∀(F:Nat->Prop) ai,aU Ro s ai->∀τ d,Calls afn 201 #[J.jE,J.iB i] (re (froze F ai) τ d) λe w'=>∃x,e=.returned x.val/\J.Is i x/\kV w' (λb=>ai<=b) x
 ren:∀i x a',J.Is i x->(x.a=none<->a'=none)->J.Is i {x with a:=a'}
 least:∀V (b:Nat) (xs:List aX) (z:Nat×Nat),xs.length<=1048576->V.heap[b]?=some (.cells (xs.flatMap aX.cells).toArray 208 z)->(∀x∈xs,eR V x.a x.n x.g/\x.n<=1048576)->
  Calls afn 182 #[ao b xs.length xs.length,.func (.func 183) #[] #[]] V λe w'=>e=.returned (J.dA xs).val/\Below V V w'
 Xq:ok.aN 201/\ok.aN 182/\ok.fn 183
def pE.mono {J Ro q}(h:pE J afn p ok Ro s)(e:∀b,Ro b->q b)(hk:aU Ro s ai):pE J afn p ok q ai:=
 ⟨h.prog,h.ty,h.tk,h.wd,h.n4,h.bty,h.res,afN h.base hk.size,(hk.block _ h.rbl).trans h.abo,(hk.block _ h.rbn).trans h.abv,(hk.block _ h.Xu).trans h.Yp,e _ h.rbl,e _ h.rbn,e _ h.Xu,e _ h.rnb,λi j=>by rw[<-h.iJ i j];simp[au,hk.block _ h.rnb],
  λi b z=>e _<|h.sro i b z,λi j n f=>h.closed i j n<|hk.trans<|f.mono e,h.OG,h.OH,λi j F n f τ d=>h.RL i j F n (hk.trans<|f.mono e) τ d,h.ren,h.least,h.Xq⟩
end
def m9 {P:bV}(g o:Nat)(t:b8):∀n i (d:Array ay) (w:ax) (es:Array b0),w.heap[g]?=some (.cells d t (0,0))->o+i+n.length<=d.size->(∀v∈n,v.oneCell')->
  ∀ev∈(bE ⟨g,o,none⟩ n i).events P w es,ev∈es\/∃j,i<=j/\j<i+n.length/\ev=⟨.cell ⟨g,o+j,none⟩,true,false⟩
 |[],_,_,_,_,_,_,_=>λev h=>aL (by simpa[bE]using h)
 |v::rest,i,d,w,es,q,C,z=>λev h=>by
  have D:o+i<d.size:=by simp at C;omega
  have f:(⟨g,o,none⟩:bN).add i=⟨g,o+i,none⟩:=by unfold Addr.add;split<;>simp_all
  have e:w.cell? ⟨g,o+i,none⟩=some d[o+i]:=by simp[au,q,D]
  have B:w.frozen? ⟨g,o+i,none⟩=false:=by simp[World.frozen?,q]
  have E:(store ((⟨g,o,none⟩:bN).add i) v).run P w=.ok () (w.setRow g<|d.setIfInBounds (o+i) v):=by
   rw[f,run_store P w _ v _ (z v aP),e];simp[B,setCell_eq_setRow w g (o+i) d t (0,0) v q]
  have L:(store ((⟨g,o,none⟩:bN).add i) v).events P w es=es.push ⟨.cell ⟨g,o+i,none⟩,true,false⟩:=by
   rw[f,events_store P w es _ v _ (z v aP),e];grind
  simp[bE,E]at h;rcases m9 g o t rest (i+1) _ _ _ (bk w g d _ t _ q) gC (λx F=>z x<|by simp[F]) ev h with h|⟨j,N,O,Q⟩;all_goals grind
section
variable {a:Act}{d:Array ay}{ty:b8}{t:aX}{x y:Operand}
def Ax (e:o.op=.store 208 x y)(f:a.eval x=aa (some ⟨g,off,none⟩))(j:a.eval y=t.val)(n:W.heap[g]?=some (.cells d ty (0,0)))(q:off+4<=d.size):
  (ad a.eval o).run Tryz.prog W=.ok .skip (W.setRow g (d.toList.take off++t.cells++d.toList.drop (off+4)).toArray):=by
 have h:=run_storeCells_at (P:=Tryz.prog) g off ty t.cells 0 d W n yO (by simp[aX.cells,bA]);rw[Nat.add_zero]at h;obtain⟨cs,z,B,C⟩:∃cs,t.val=bS cs/\cs.size=4/\cs.toList=t.cells:=⟨_,rfl,rfl,rfl⟩;unfold ad;simp[e,f,j];go_simp
 grind
def Cm (f:o.op=.store 208 x y)(n:a.eval x=aa (some ⟨g,off,none⟩))(q:a.eval y=t.val)(z:W.heap[g]?=some (.cells d ty (0,0)))(D:off+4<=d.size):
  ∀e∈(ad a.eval o).events Tryz.prog W #[],∃j,j<4/\e=⟨.cell ⟨g,off+j,none⟩,true,false⟩:=by
 intro e he;have h:=m9 (P:=Tryz.prog) g off ty t.cells 0 d W #[] z yO (by simp[aX.cells,bA]) e;obtain⟨cs,B,E,C⟩:∃cs,t.val=bS cs/\cs.size=4/\cs.toList=t.cells:=⟨_,rfl,rfl,rfl⟩;rw[<-C]at h;unfold ad at he;simp[f,n,q,B]at he;simp[go_sem]at he;grind
def f9 (f:o.op=.store 208 x y)(n:a.eval x=aa g)(q:a.eval y=t.val)(z:W.heap[g]?=some (.cells d ty (0,0)))(B:d.size=4):
  (ad a.eval o).run Tryz.prog W=.ok .skip (W.setRow g t.cells.toArray)/\∀e∈(ad a.eval o).events Tryz.prog W #[],∃j,e=⟨.cell ⟨g,j,none⟩,true,false⟩:=by
 refine⟨?_,λe he=>?_⟩
 .rw[Ax f n q z ab];have:d.toList.drop (0+4)=[]:=dj;grind
 let⟨j,_,h⟩:=Cm f n q z ab e he;grind
def Aw (e:o.op=.load 208 x)(f:a.eval x=aa g)(hg:W.heap[g]?=some (.cells t.cells.toArray ty (0,0))):(ad a.eval o).run Tryz.prog W=.ok (.value t.val) W:=by
 have c0:W.cell? g=some (bB t.ok):=Fq;have j:W.cell? ⟨g,1,none⟩=some (be .i64 t.sum):=Fq;have q:W.cell? ⟨g,2,none⟩=some (be .i64 t.most):=Fq;have z:W.cell? ⟨g,3,none⟩=some (ao t.a t.n t.cap):=Fq;unfold ad;simp[e,f,aX.val];go_simp
def Ck (f:o.op=.load 208 x)(q:a.eval x=aa g)(hg:W.heap[g]?=some (.cells t.cells.toArray ty (0,0))):∀e∈(ad a.eval o).events Tryz.prog W #[],∃j,e=⟨.cell ⟨g,j,none⟩,false,false⟩:=by
 intro e he;have c0:W.cell? g=some (bB t.ok):=Fq;have z:W.cell? ⟨g,1,none⟩=some (be .i64 t.sum):=Fq;have B:W.cell? ⟨g,2,none⟩=some (be .i64 t.most):=Fq;have C:W.cell? ⟨g,3,none⟩=some (ao t.a t.n t.cap):=Fq;unfold ad at he;simp[f,q]at he;simp[go_sem,c0,z,B,C]at he;grind
end
noncomputable def bot:Frame:={(default:bW)with fn:=Tryz.prog.funcs.size,defers:=[],mode:=.panicking [b1]}
noncomputable def It:Code:=Tryz.f178.body.getD .skip
noncomputable def jo:Array Oper:=(nW 1 It).getD #[]
noncomputable def yL:Code:=Tryz.f180.body.getD .skip
noncomputable def kM:Code:=(kN yL).getD .skip
noncomputable def iR:Array Oper:=(nW 5 yL).getD #[]
def call47 (J:Jb)(e A:Nat):Deferred:={target:=.fn (.func 178) #[aa e,aa J.bl,aa J.bn,aa J.tb,aa J.bb,aa A],args:=#[]}
def LY (J:Jb)(e A:Nat)(w:ax):bt Tryz.prog false (born Tryz.prog<|call47 J e A) w=
  .go (G ((bR 178).at ⟨#[aa e,aa J.bl,aa J.bn,aa J.tb,aa J.bb,aa A,ud,ud,ud,ud,ud,ud],[]⟩ [.code It]) [bot]) w #[]:=by
 simp[born,call47,bt,unwind,callDeferred,invoke,callFunc,Tryz.func178,Tryz.f178,seen,GStep.after,G,Frame.enter,Frame.at,bR,bot,It]
def Ni (T:Array ay)(todo:List Item):QuitsD Tryz.prog 2 0 (G {(bR 178).at ⟨T,[]⟩ todo with mode:=.returning} [bot]):=by
 refine QuitsD.ctl (g':=G bot []) rfl (λw=>?_) ?_
 .simp[G,bt,unwind,doReturn,bs,Frame.at,bR,bot,seen,GStep.after,b1]
 refine QuitsD.ctl (g':={G bot []with status:=.finished}) rfl (λw=>?_) ⟨rfl,rfl⟩;simp[G,bt,unwind,bot,Frame.catches];rfl
def Q0 {cs:Array ay}{e:List ay}{o:Nat}(f:e.length=4)(h:off+4<=cs.size):
  (cs.toList.take off++e++cs.toList.drop (off+4)).toArray[o]?=if off<=o/\o<off+4 then e[o-off]? else cs[o]?:=gC
def fM {b:Nat}{e z}(h:w.heap[b]?=some (.cells #[v] e z)):w.cell? b=some v:=acN
section
variable [Gl]{J:Jb}{Ro:Nat->Prop}
noncomputable def aaw (J:Jb)(f A:Nat)(h j v8 v9 v10 e:ay)(rest:List Nat):Frame:=
 (bR 178).at ⟨#[aa f,aa J.bl,aa J.bn,aa J.tb,aa J.bb,aa A,h,j,v8,v9,v10,e],[dcall 179 #[aa f]]⟩ [.inRegion jo rest]
omit [Gl] in
def yh:∀e f h j n q,av .any jo #[e,f,h,j,n,q,false]≠[]/\
  (av .any jo #[e,f,h,j,n,q,false]).all (λi=>(i==0&&!e)||(i==1&&!f)||(i==2&&!h)||(i==3&&!j)||(i==4&&!n&&h&&j)||(i==5&&!q&&e&&f)||(i==6&&n&&q)):=by
 decide +kernel
def acu {p:Prop}(x9:p:=by
  unfold execOp;refine⟨?_,λe he=>?_⟩
  .simp only[bF];go_simp
  .simp[go_sem,bF,hb]at he;subst he;exact Cn wC):p:=x9
def XM {p:Prop}(x9:p:=by
  simp[go_sem]at he;rw[events_indexAt_slice _ _ _ _ _ _ (by go_simp) ab]at he;simp at he):p:=x9
def S4 (f:pE J afn p ok Ro s)(Sr:k<4)(wC:Ro A)(aF:p.Wg≠p.Bs){seq:List Nat}(hb:yw J seq x)(ho:EX .any jo l rest):
  ∀E F D (O Q v8 v9 q:ay) (M:Nat->Prop) (W:ax) C u,l=#[E,F,true,true,true,D,false]->(E->O=ao p.Bs 4 4)->(F->Q=be .i64 k)->(D->q=aa (some ⟨p.Bs,k*4,none⟩))->
   aU Ro s W->W.heap[A]?=some (.cells #[be .i64 k] 3 (0,0))->M C->W.cell? C=some u->kV W (λb=>M b/\b≠C) x->(∀b,p.Sp b->¬M b)->(∀b,M b->J.base<=b)->(D->E/\F)->
   ET p.P false p.I Ph.oq Ro (p.BQ k seq) M (G (aaw J p.Wg A O Q v8 v9 x.val q rest) [bot]) W:=by
 induction ho with
 |nil h=>rintro E F D O Q v8 v9 q M W C u rfl;exact absurd h (yh _ _ _ _ _ _).1
 |@cons l i rest hi hr ih=>
  rintro E F D O Q v8 v9 q M W C u rfl h6 h7 DV Y Z R T U V KU h5;have S:=bo.1 (yh E F true true true D).2 i hi;simp at S;rcases S with(((⟨rfl,rfl⟩|⟨rfl,rfl⟩)|S)|⟨rfl,S⟩)
  .obtain⟨o,ho,bF,N,hg⟩:∃o,jo[0]?=some o/\o.op=.load 241 (.tmp 4)/\o.dst=some 6/\o.guard=none:=⟨_,rfl,rfl,rfl,rfl⟩;refine ET.val (ao p.Bs 4 4) ho lQ (by k_ne) (λai n _=>?_) ?_
   .have hb:=(fM<|(n.block _<|aE f.Xu).trans<|(Y.block _ f.Xu).trans f.Yp);rw[f.prog];unfold ad;refine⟨?_,λe he=>?_⟩
    .simp[bF];go_simp
     done
    simp[go_sem,bF,hb]at he;subst he;exact Cn f.Xu
   rw[N];walk_nrm
   exact ih true F D _ _ _ _ _ _ _ _ _ aP (λ_=>rfl) h7 DV Y Z R T U V KU λe=>⟨rfl,(h5 e).2⟩
  .obtain⟨o,ho,bF,N,hg⟩:∃o,jo[1]?=some o/\o.op=.load 3 (.tmp 5)/\o.dst=some 7/\o.guard=none:=⟨_,rfl,rfl,rfl,rfl⟩;refine ET.val (be .i64 k) ho lQ (by k_ne) (λai n _=>?_) ?_
   .have hb:=fM<|(n.block _<|aE wC).trans Z;rw[f.prog];exact acu
   .rw[N];walk_nrm
    exact ih E true D _ _ _ _ _ _ _ _ _ aP h6 (λ_=>rfl) DV Y Z R T U V KU λe=>⟨(h5 e).1,rfl⟩
  .obtain⟨⟨⟨rfl,rfl⟩,rfl⟩,rfl⟩:=S;obtain⟨o,ho,bF,N,hg⟩:∃o,jo[5]?=some o/\o.op=.indexAddr 241 (.tmp 6) (.tmp 7)/\o.dst=some 11/\o.guard=none:=⟨_,rfl,rfl,rfl,rfl⟩;refine ET.val (aa<|some ⟨p.Bs,k*4,none⟩) ho lQ (by k_ne) (λai n _=>?_) ?_
   .rw[f.prog,h6 rfl,h7 rfl];unfold ad;refine⟨?_,λe he=>?_⟩
    .simp only[bF];go_simp
     intro h;omega
    have T:=Tryz.underlying241;simp[bF]at he;exact XM
   .rw[N];walk_nrm
    exact ih true true true _ _ _ _ _ _ _ _ _ aP h6 h7 (λ_=>rfl) Y Z R T U V KU λ_=>⟨rfl,rfl⟩
  obtain⟨o,ho,bF,N,hg⟩:∃o,jo[6]?=some o/\o.op=.store 208 (.tmp 11) (.tmp 10)/\o.dst=none/\o.guard=none:=⟨_,rfl,rfl,rfl,rfl⟩;subst S;refine ET.stop λai n hW=>⟨rfl,λ⟨cs,z⟩=>?_⟩
  have iP:k*4+4<=cs.size:=by rw[z.2,f.n4,f.wd];omega
  have hy:Act.eval ⟨#[aa p.Wg,aa J.bl,aa J.bn,aa J.tb,aa J.bb,aa A,O,Q,v8,v9,x.val,q],[dcall 179 #[aa p.Wg]]⟩ (.tmp 10)=x.val:=rfl;have ha:Act.eval ⟨#[aa p.Wg,aa J.bl,aa J.bn,aa J.tb,aa J.bb,aa A,O,Q,v8,v9,x.val,q],[dcall 179 #[aa p.Wg]]⟩ (.tmp 11)=aa (some ⟨p.Bs,k*4,none⟩):=DV rfl;have fO:=Ax bF ha hy z.1 iP;have oj:=Cm bF ha hy z.1 iP;rw[<-f.prog]at fO oj;refine⟨_,_,_,x.cells,ca ho lQ (by k_ne) fO,?_,λe he=>?_,?_⟩
  .refine⟨ac _ _ _,rfl,rfl,rfl,λb hb=>aI _ _ _ _ hb,by rw[f.wd];rfl,λaN IX=>?_⟩;obtain rfl:cs=aN:=by have:=z.1.symm.trans IX.1;simpa using this
   refine⟨_,⟨bk _ _ _ _ _ _ z.1,?_⟩,λo'=>by rw[Q0 rfl iP,f.wd,Nat.add_mul,Nat.one_mul]⟩;rw[<-z.2];simp[aX.cells];omega
  .obtain⟨j,hj,rfl⟩:=oj e<|mem_listed he;refine⟨rfl,_,rfl,rfl,?_,?_⟩<;>rw[f.wd]<;>simp<;>omega
  have aZ:kV (ai.setRow p.Bs (cs.toList.take (k*4)++x.cells++cs.toList.drop (k*4+4)).toArray) (λb=>M b/\b≠C) x:=U.keep (λ_ h=>h) λa ha=>by
   let⟨_,⟨h2,_⟩,_⟩:=U.blk a ha;rw[aI _ _ _ _ (λe=>V _ (aE<|aE e) h2)];exact n.block _<|aL h2
  refine⟨λb=>M b/\b≠C,C,4,u,26,by rw[f.res];exact⟨x,rfl,hb,aZ,λb dl=>KU b dl.1⟩,λb h=>h.1,R,λh=>h.2 rfl,?_⟩;have a0:Go.ConcN.Has C 0 u (ai.setRow p.Bs (cs.toList.take (k*4)++x.cells++cs.toList.drop (k*4+4)).toArray):=by
   show au _ _=_;rw[cell_setRow_other _ _ _ _ (λe=>V _ (aE<|aE e) R)];rw[<-T];simp[au,n.block C (aL R)]
  let⟨st,sm,hw⟩:=hW.1;have rZ:Go.ConcN.WgLive p.ty p.Wg (ai.setRow p.Bs (cs.toList.take (k*4)++x.cells++cs.toList.drop (k*4+4)).toArray):=⟨st,sm,hw.of_block<|setRow_other _ _ _ _ aF⟩;let⟨e0,e1⟩:=h5 rfl;subst e0 e1;have Um:rest=[]:=by
   generalize hL:(#[true,true,true,true,true,true,false]:Array Bool).setIfInBounds 6 true=L at hr;have e:L=#[true,true,true,true,true,true,true]:=by rw[<-hL];simp
   subst e;cases hr with
   |nil=>rfl
   |cons h _=>exact absurd h (by rw[show av .any jo #[true,true,true,true,true,true,true]=[] from Yt];simp)
  subst Um;letI:Go.ConcR.Payload:=p.pl
  have B:=And.intro rZ a0;rw[N,f.prog];rw[f.ty]at B⊢;walk_nrm
  u_c stepG_region_end bj B
  u_c stepG_end bj B
  u_in bj B
  rw[stepG_unwind_enter rfl Tryz.func179 (nm_done link) rfl];simp;refine⟨by u_nil,?_⟩;walk_nrmf Tryz.f179
  have hA:=@Go.ConcN.Gen.doneN p.pl link Tryz.prog Dq (λ_ _=>False) (λ_ _=>False) p.Wg C 4 0 1 u;simp only[body_done,doneFn]at hA;exact hA rfl (Ni _ _) _ B
end
def MK {S}(h:¬S a.block):aU S w (w.setCell a v):=
 ⟨λb f=>Below.heap_setCell w a v b λe=>h<|e▸f,Nat.le_of_eq (aside_setCell w a v).size.symm,rfl,rfl⟩
def IJ (w:ax)(es:Array b0):(Instr.build 208 #[]).events Tryz.prog w es=es:=aO
section
variable [Gl]{J:Jb}{Ro:Nat->Prop}
structure LS (p:Ph)(Ro:Nat->Prop)(s:ax)(r u:Nat)(x:aX)(M:Nat->Prop)(W:ax):Prop where
 m6:M r
 m7:M u
 ne:r≠u
 c6:∃c,W.heap[r]?=some (.cells c 208 (0,0))/\c.size=4
 c7:W.heap[u]?=some (.cells x.cells.toArray 208 (0,0))
 held:kV W (λb=>M b/\b≠r/\b≠u) x
 keep:aU Ro s W
 sp:∀b,p.Sp b\/Ro b->¬M b/\b<W
 JN:∀b,p.Sp b->¬Ro b
 lt:∀b,M b->b<W
 gl:Gl.n<=W
 nw:∀b,M b->s<=b
def LS.rely (h:LS p Ro s r u x M W)(k:aU (λb=>M b\/Ro b) W ai):LS p Ro s r u x M ai:=by
 refine⟨h.m6,h.m7,h.ne,?_,(k.block _<|aL h.m7).trans h.c7,h.held.keep (λ_ x=>x) λa e=>k.block _<|aL (h.held.blk a e).2.1.1,h.keep.trans<|k.mono λ_ x=>aE x,λb hb=>⟨(h.sp b hb).1,afL (h.sp b hb).2 k.size⟩,h.JN,λb hb=>afL (h.lt b hb) k.size,afN h.gl k.size,h.nw⟩;let⟨c,f,q⟩:=h.c6;exact⟨c,(k.block _<|aL h.m6).trans f,q⟩
def LS.tk (h:LS p Ro s r u x M W) v:aU (λb=>M b\/Ro b) W (W.setCell p.tk v):=
 MK λe=>e.elim (h.sp _<|aL<|aE<|aL rfl).1<|h.JN _<|aE<|aL rfl
def RI {p:Prop}(x9:p:=by
  refine fH.alloc _ λe he=>?_
  have hm:=mem_listed he;simp[go_sem]at hm):p:=x9
def Ty (B:pE J afn p ok Ro s)(M:Nat->Prop)(W:ax)(hk:aU Ro s W)(KY:∀b,p.Sp b\/Ro b->¬M b/\b<W)(FM:∀b,p.Sp b->¬Ro b)(aF:∀b,M b->b<W)(E4:Gl.n<=W)(KU:∀b,M b->s<=b)
  (hL:∀r u (v3 v4 v5 v8 v9 v10 N v12 v13 v14 v15 v16 v17 v18 v19 v20 O R T U Y Z:ay) (M':Nat->Prop) (W':ax),LS p Ro s r u eY M' W'->ET p.P false p.I Ph.oq Ro Stop M' (G ((bH 180).at ⟨#[J.jE,ao (some ⟨J.nb,J.no,none⟩) p.L J.nc,aa J.tb,v3,v4,v5,aa r,aa u,v8,v9,v10,N,v12,v13,v14,v15,v16,v17,v18,v19,v20,O,R,T,U,Y,Z],[]⟩ [.code kM,.inLoop kM,.inBlock 0]) cs) W'):
  ET p.P false p.I Ph.oq Ro Stop M (G ((bH 180).at ⟨#[J.jE,ao (some ⟨J.nb,J.no,none⟩) p.L J.nc,aa J.tb,ud,ud,ud,ud,ud,ud,ud,ud,ud,ud,ud,ud,ud,ud,ud,ud,ud,ud,ud,ud,ud,ud,ud,ud],[]⟩ [.code yL]) cs) W:=by
 simp only[yL];apply ET.sr;refine ET.oper rfl rfl (by k_ne) λai q _=>⟨aa<|some ⟨ai.heap.size,0,none⟩,ai.alloc<|.cells #[false,(0:Int),(0:Int),()] 208,?_,?_,?_⟩
 .rw[B.prog];go_simp
 .rw[B.prog];refine fH.alloc _ λe he=>?_
  have hm:=bL he;simp[go_sem]at hm
 walk_nrm
 apply ET.ns;refine ET.val eY.val rfl rfl (by k_ne) (λz _ _=>?_) ?_
 .rw[B.prog];refine⟨?_,λe he=>?_⟩
  .go_simp
   first|(rw[run_build z 208 #[] eY.cells.toArray aO];rfl)|rfl
  .first|(simp[go_sem]at he;done)|(simp[go_sem]at he;rw[IJ]at he;simp at he)
 walk_nrm
 refine ET.oper rfl rfl (by k_ne) λz f _=>⟨aa<|some ⟨z.heap.size,0,none⟩,z.alloc<|.cells #[false,(0:Int),(0:Int),()] 208,?_,?_,?_⟩
 .rw[B.prog];go_simp
 .rw[B.prog];refine fH.alloc _ λe he=>?_
  have hm:=bL he;simp[go_sem]at hm
 walk_nrm
 have z0:∀(w:ax) (o:Obj),(w.alloc o).heap.size=w.heap.size+1:=λw o=>by show(w.heap.push o).size=_;simp
 have z1:=q.size;have z2:=f.size;rw[z0]at z2;have TY:grow M ai (ai.alloc<|.cells #[false,(0:Int),(0:Int),()] 208) ai.heap.size:=aE ⟨afK _,cO⟩;refine ET.none rfl rfl (by k_ne) λdU D _=>?_
 have z3:=D.size;rw[z0]at z3;have h7:=(D.block _<|aL<|aE ⟨afK _,cO⟩).trans<|heap_alloc_new _ _;have C:grow (grow M ai<|ai.alloc<|.cells #[false,(0:Int),(0:Int),()] 208) z (z.alloc<|.cells #[false,(0:Int),(0:Int),()] 208) z.heap.size:=aE ⟨afK _,cO⟩;refine⟨dU.setRow z.heap.size eY.cells.toArray,by rw[B.prog];exact(f9 rfl rfl rfl h7 rfl).1,?_,?_⟩
 .rw[B.prog];refine fH.row _ C λe he=>?_
  obtain⟨j,rfl⟩:=(f9 rfl rfl rfl h7 rfl).2 e<|mem_listed he;exact il C
 rw[cR (ac _ _ _)];walk_nrm
 apply ET.rn;refine ET.c (λ_=>b2) ?_;refine ET.c (λ_=>stepG_loop) ?_;refine hL ai.heap.size z.heap.size _ _ _ _ _ _ _ _ _ _ _ _ _ _ _ _ _ _ _ _ _ _ _ _ ⟨aL TY,C,ab,?_,bk _ _ _ _ _ _ h7,⟨aL rfl,afP _,λa ha=>(by cases ha),λa ha=>(by cases ha)⟩,?_,λb hb=>?_,FM,λb hb=>?_,?_,λb hb=>?_⟩
 .refine⟨_,(aI _ _ _ _ ab).trans<|(D.block _<|aL<|aL TY).trans<|(aB _ _ _ ab).trans<|(f.block _<|aL TY).trans<|heap_alloc_new _ _,rfl⟩
 .refine⟨λb hb=>?_,by rw[ac];have:=hk.size;omega,D.os.trans<|f.os.trans<|q.os.trans hk.os,D.out.trans<|f.out.trans<|q.out.trans hk.out⟩;have dl:=KY b<|aE hb;rw[aI _ _ _ _ ab,D.block _ (aE hb),aB _ _ _ ab,f.block _ (aE hb),aB _ _ _ ab,q.block _ (aE hb)];exact hk.block b hb
 .have dl:=KY b hb;rw[ac];refine⟨λx=>?_,ab⟩;rcases x with(x|⟨x,_⟩)|⟨x,_⟩<;>grind
 .rw[ac];rcases hb with(x|⟨_,x⟩)|⟨_,x⟩<;>grind
 .grind [ac]
 .have:=hk.size;rcases hb with(x|⟨x,_⟩)|⟨x,_⟩<;>grind
end
section
open ConcR (rd wr)
def Km:(Tryz.f218.name== "runtime.NumGoroutine")=false:=aO
def Kk:Tryz.f218.body.isNone:=aO
def Kn:Extern.findNext Tryz.f218=none:=aO
def Kl:Extern.find Tryz.f218=some (Extern.Atomic.update (Op.intArith .add) .i64 true):=aO
def ZU:(Tryz.f200.name== "runtime.NumGoroutine")=false:=aO
section
variable [Gl]{J:Jb}{Ro:Nat->Prop}
def RU (hJ:pE J afn p ok Ro s)(hL:p.L<4611686018427387904)(v3 v4 v5 v8 v9 v10 R v12 v13 v14 v15 v16 v17 v18 v19 v20 T U Y Z aF aZ:ay):
  ∃(g1:bm) (g2:Nat->bm),(∀(Stop:(Nat->Prop)->bm->ax->Prop) M W,ET Tryz.prog false p.I Ph.oq Ro Stop M g1 W->ET Tryz.prog false p.I Ph.oq Ro Stop M (G ((bH 180).at ⟨#[J.jE,ao (some ⟨J.nb,J.no,none⟩) p.L J.nc,aa J.tb,v3,v4,v5,aa r,aa u,v8,v9,v10,R,v12,v13,v14,v15,v16,v17,v18,v19,v20,T,U,Y,Z,aF,aZ],[]⟩ [.code kM,.inLoop kM,.inBlock 0])<|c0::cs) W)/\
   (g1.status=.running/\∀W x,x<4611686018427387904->p.kq W x->bt Tryz.prog false g1 W=.go (g2 x) (W.setCell p.tk<|be .i64<|x+1) #[rd p.tk,wr p.tk])/\
   (∀(Stop:(Nat->Prop)->bm->ax->Prop) M W x,x<p.L->(∀v3 v4 v5 v8 v9 v10 R v12 v13 v14 v15 v16 v17 v18 v19 v20 T U Y Z aF aZ:ay,ET Tryz.prog false p.I Ph.oq Ro Stop M (G ((bH 180).at ⟨#[J.jE,ao (some ⟨J.nb,J.no,none⟩) p.L J.nc,aa J.tb,v3,v4,v5,aa r,aa u,be .i64 x,v9,v10,R,v12,v13,v14,v15,v16,v17,v18,v19,v20,T,U,Y,Z,aF,aZ],[]⟩ [.code (.region 5 iR true),.inBlock 1,.inLoop kM,.inBlock 0])<|c0::cs) W)->ET Tryz.prog false p.I Ph.oq Ro Stop M (g2 x) W)/\
   (∀(Stop:(Nat->Prop)->bm->ax->Prop) M W x N,p.L<=x->x<4611686018427387904->LS p Ro s r u N M W->(∀W',LS p Ro s r u N M W'->W'.cell? r=some (bB N.ok)->ET Tryz.prog false p.I Ph.oq Ro Stop M (G (c0.finish N.val) cs) W')->ET Tryz.prog false p.I Ph.oq Ro Stop M (g2 x) W):=by
 refine⟨?g1,?g2,?A,⟨?B0,?B⟩,?C,?D⟩
 case A=>
  intro Stop M W h;simp only[kM,yL,Tryz.f180,bz,kN,Option.or_some,Option.or_none,Option.none_or];refine ET.c (λ_=>b2) ?_;apply ET.sr;refine ET.z ?_
  (refine ET.k rfl λ_ _ _=>goes_call rfl rfl (by k_ne) rfl Tryz.func200 ZU rfl ⟨⟨rfl,λe he=>jc⟩,?_⟩;walk_nrmf Tryz.f200)
  apply ET.sr;refine ET.z ?_;apply ET.ns;refine ET.z ?_;refine ET.z ?_;refine ET.z ?_;refine ET.z ?_;exact h
 case B0=>rfl
 case B=>
  intro W x hx ht;have hw:IntKind.i64.wrap ((x:Int)+1)=x+1:=kw;have h1:=ht.1;have h2:=ht.2;rw[hJ.tk]at h1 h2⊢;refine(stepG_add_atomic rfl rfl (by k_ne) rfl Tryz.func218 Km Kk Kn .i64 Kl rfl rfl h1 h2).trans ?_;rw[hw];rfl
 case C=>
  intro Stop M W x hx h;have hw:IntKind.i64.wrap ((x:Int)+1-1)=x:=kw;have a1:IntKind.i64.wrap (x:Int)=x:=kw;have hd:decide ((p.L:Int)<=x)=false:=decide_eq_false ab;have eX:¬((p.L:Int)<=x):=ab;walk_nrm
  refine ET.z ?_;apply ET.rn;apply ET.rt
  (refine ET.k rfl λ_ _ _=>b6 rfl rfl Tryz.func200 rfl ⟨⟨rfl,λe he=>jc⟩,?_⟩;walk_nrm)
  refine ET.z ?_;refine ET.z ?_;apply ET.rn;apply ET.sq;apply ET.sr;refine ET.z ?_;refine ET.z ?_;refine ET.z ?_;refine ET.z ?_;apply ET.rn;refine ET.ip rfl ?_;apply ET.sk;exact h _ _ _ undef _ _ _ _ _ _ _ _ _ _ _ _ _ _ _ _ _ _
 intro Stop M W x N hx Uq nz h;have hw:IntKind.i64.wrap ((x:Int)+1-1)=x:=kw;have a1:IntKind.i64.wrap (x:Int)=x:=kw;have hd:decide ((p.L:Int)<=x)=true:=decide_eq_true ab;have eX:(p.L:Int)<=x:=ab;walk_nrm
 refine ET.z ?_;apply ET.rn;apply ET.rt
 (refine ET.k rfl λ_ _ _=>b6 rfl rfl Tryz.func200 rfl ⟨⟨rfl,λe he=>jc⟩,?_⟩;walk_nrm)
 refine ET.z ?_;refine ET.z ?_;apply ET.rn;apply ET.sq;apply ET.sr;refine ET.z ?_;refine ET.z ?_;refine ET.z ?_;refine ET.z ?_;apply ET.rn;refine ET.lR rfl ?_;apply ET.sr;refine ET.val N.val rfl rfl (by k_ne) (λai O _=>?_) ?_
 .have f:=nz.rely O;refine⟨Aw rfl rfl f.c7,λe he=>?_⟩;obtain⟨j,rfl⟩:=Ck rfl rfl f.c7 e he;exact il nz.m7
 walk_nrm
 refine ET.none rfl rfl (by k_ne) λai O _=>?_
 have f:=nz.rely O;let⟨c,KP,a0⟩:=f.c6;refine⟨ai.setRow r N.cells.toArray,(f9 rfl rfl rfl KP a0).1,?_,?_⟩
 .refine fH.row _ nz.m6 λe he=>?_
  obtain⟨j,rfl⟩:=(f9 rfl rfl rfl KP a0).2 e<|mem_listed he;exact il nz.m6
 rw[cR (ac _ _ _)];have WO:LS p Ro s r u N M (ai.setRow r N.cells.toArray):=by
  have ho:∀b,b≠r->(ai.setRow r N.cells.toArray).heap[b]?=ai.heap[b]?:=λb hb=>aI _ _ _ _ hb
  refine⟨f.m6,f.m7,f.ne,⟨_,bk _ _ _ _ _ _ KP,rfl⟩,(ho _<|Ne.symm f.ne).trans f.c7,f.held.keep (λ_ x=>x) λa ha=>ho _ (f.held.blk a ha).2.1.2.1,⟨λb hb=>(ho b λe=>(f.sp b<|aE hb).1<|e▸f.m6).trans<|f.keep.block b hb,by rw[ac];exact f.keep.size,f.keep.os,f.keep.out⟩,λb hb=>by rw[ac];exact f.sp b hb,f.JN,λb hb=>by rw[ac];exact f.lt b hb,by rw[ac];exact f.gl,f.nw⟩
 have h6:(ai.setRow r N.cells.toArray).heap[r]?=some (.cells N.cells.toArray 208 (0,0)):=bk _ _ _ _ _ _ KP;generalize ai.setRow r N.cells.toArray=dN at WO h6⊢;clear f KP a0 O;walk_nrm
 apply ET.rn;apply ET.rt;refine ET.Er N.val rfl rfl Tryz.func180 (λdU d8 _=>?_) (h dN WO<|by simp[au,h6,aX.cells]);have h6':=(d8.block _<|aL nz.m6).trans h6;have c0:dU.cell? r=some (bB N.ok):=Fp;have c1:dU.cell? ⟨r,1,none⟩=some (be .i64 N.sum):=Fp;have c2:dU.cell? ⟨r,2,none⟩=some (be .i64 N.most):=Fp;have c3:dU.cell? ⟨r,3,none⟩=some (ao N.a N.n N.cap):=Fp;refine⟨by simp[bs,Tryz.f180,go_sem,aX.val,c0,c1,c2,c3],λe he=>?_⟩;simp[bs,Tryz.f180,go_sem,c0,c1,c2,c3]at he;rcases he with rfl|rfl|rfl|rfl<;>exact il nz.m6
end
end
def Lt:∀z h j n e f q,((!q||(h&&f))&&(!f||e)&&(!e||(j&&n)))->av .any iR #[z,h,j,n,e,f,q,false,false,false]≠[]/\
  (av .any iR #[z,h,j,n,e,f,q,false,false,false]).all (λi=>(i==0&&!z)||(i==1&&!h)||(i==2&&!j)||(i==3&&!n)||(i==4&&!e&&j&&n)||(i==5&&!f&&e)||(i==6&&!q&&h&&f)||(i==7&&z&&q)):=by
 decide +kernel
section
variable [Gl]{σ:Ren}
def AK {C:ay}(h:aq ok σ x.val C):∃a',C=aX.val {x with a:=a'}/\(x.a=none<->a'=none)/\∀a,x.a=some a->∃d,a'=some d/\dD σ a d:=by
 generalize E:bS #[bB x.ok,be .i64 x.sum,be .i64 x.most,ao x.a x.n x.cap]=v at h;cases h<;>cases E
 rename_i B F e;let⟨l⟩:=B;obtain⟨f,j,q,z,rfl⟩:∃f j q z,l=[f,j,q,z]:=by
  rcases l with _|⟨f,_|⟨j,_|⟨q,_|⟨z,_|⟨L,l⟩⟩⟩⟩⟩<;>simp at F
  grind
 have D:=e 3 _ z rfl rfl;cases (e 0 _ f rfl rfl);cases (e 1 _ j rfl rfl);cases (e 2 _ q rfl rfl);generalize K:x.a=N at D;cases D with
 |dr=>simp_all [aX.val]
 |@slice a a' _ _ O=>simp_all [aX.val]
def Mt {O:ax}{a':Option bN}(hw:bw ok false σ O W')(L:kV O (λ_=>True) x)(Y:x.a=none<->a'=none)(Q:∀a,x.a=some a->∃d,a'=some d/\dD σ a d)(hM:∀a d,x.a=some a->σ a.block=some d->M' d):kV W' M' {x with a:=a'}:=by
 have D:∀a d,x.a=some a->a'=some d->dD σ a d->∃cs f e,O.heap[a.block]?=some (.cells cs e (0,0))/\W'.heap[d.block]?=some (.cells f e (0,0))/\aA ok σ cs f/\∀v∈cs,∃n:Int,v=be .i64 n:=by
  intro a d q z B;let⟨_,_,cs,e,E,F⟩:=L.blk a q;let⟨o,o',R,Z,g3⟩:=hw.heap _ _ B.blk;rw[E]at R;cases R;cases g3 with
  |cells hv S=>
   rcases S with S|⟨S,_⟩<;>grind
 refine⟨?_,L.small,λd C=>?_,λd C=>?_⟩
 .rcases L.row with e|⟨b,off,e,hr⟩
  .exact aL e
  let⟨d,q,z⟩:=Q _ e;let⟨cs,f,T,B,E,F,N⟩:=D _ d e q z;refine aE ⟨d.block,off,?_,λi hi=>?_⟩
  .let⟨db,aN,ds⟩:=d;have o1:=z.off;have o2:=z.spot;grind
  have hc:=hr i hi;simp[au,B]at hc;let⟨v',R,Z⟩:=F.get hc;cases Z;grind [au]
 .replace C:a'=some d:=C;have U:x.a≠none:=λe=>by have:=Y.1 e;grind
  let⟨a,q⟩:=br.1 U;let⟨d',z,B⟩:=Q a q;rw[C]at z;cases z;let⟨cs,f,T,E,F,N,h7⟩:=D a d q C B;refine⟨by rw[B.spot];exact(L.blk a q).1,hM a _ q B.blk,f,T,F,λv hv=>?_⟩;let⟨j,hj⟩:=Array.mem_iff_getElem?.1 hv;have aF:j<cs.size:=by rw[N.size];grind
  let⟨n,V⟩:=h7 cs[j]<|Array.getElem_mem aF;have:=N.at_ j _ _ (afR aF) hj;rw[V]at this;cases this;exact⟨n,rfl⟩
 replace C:a'=some d:=C;have U:x.a≠none:=λe=>by have:=Y.1 e;rw[C]at this;cases this
 let⟨a,q⟩:=br.1 U;let⟨d',z,B⟩:=Q a q;rw[C]at z;cases z;let⟨f1,aZ,f2,f3⟩:=L.full a q;let⟨cs,f,T,E,F,N,h7⟩:=D a d q C B;rw[f2]at E;simp only[Option.some.injEq,Obj.cells.injEq]at E;let⟨e1,e2,_⟩:=E;subst e1 e2;exact⟨by rw[B.off];exact f1,f,F,by rw[<-N.size];exact f3⟩
end
def sX {F a n g}{τ:Nat->Question->Nat}{d}(h:eR W a n g):eR (re (froze F W) τ d) a n g:=by
 rcases h with h|⟨b,off,e,f⟩
 .exact aL h
 exact aE ⟨b,off,e,λi j=>(sN F W _).trans<|f i j⟩
def bC (h j n e f q:Bool):Bool:=(!q||(h&&f))&&(!f||e)&&(!e||(j&&n))
def bm1:∀e f j n q:Bool,bC false e f j n q=true->bC true e f j n q=true:=bh
def bm2:∀e f j n q:Bool,bC e false f j n q=true->bC e true f j n q=true:=bh
def bm3:∀e f j n q:Bool,bC e f false j n q=true->bC e f true j n q=true:=bh
def bm4:∀e f j:Bool,bC e true true false f j=true->bC e true true true f j=true:=bh
def bm5:∀e f j n:Bool,bC e f j true false n=true->bC e f j true true n=true:=bh
def bm6:∀e f j:Bool,bC true e f j true false=true->e=true/\f=true/\j=true:=bh
def bm7:∀e f j n q:Bool,bC e f j n q true=true->e=true/\f=true/\j=true/\n=true/\q=true:=bh
section
variable [Gl]{J:Jb}{Ro:Nat->Prop}
def LS.abA (h:LS p Ro s r u x M W):AX (λb=>p.Sp b\/Ro b) M W:=⟨λb e=>(h.sp b e).1,λb e=>(h.sp b e).2⟩
def LS.alloc (h:LS p Ro s r u x M W)(o):LS p Ro s r u x (grow M W<|W.alloc o) (W.alloc o):=by
 have z:(W.alloc o).heap.size=W.heap.size+1:=by show(W.heap.push o).size=_;simp
 have hb:∀b,b<W.heap.size->(W.alloc o).heap[b]?=W.heap[b]?:=λb hb=>aB _ _ _ hb
 let⟨c,e,f⟩:=h.c6;refine⟨aL h.m6,aL h.m7,h.ne,⟨c,(hb _<|h.lt _ h.m6).trans e,f⟩,(hb _<|h.lt _ h.m7).trans h.c7,h.held.keep (λb x=>⟨aL x.1,x.2⟩) λa B=>hb _<|h.lt _ (h.held.blk a B).2.1.1,⟨λb x=>(hb b (h.sp b<|aE x).2).trans<|h.keep.block b x,by rw[z];have:=h.keep.size;omega,h.keep.os,h.keep.out⟩,λb x=>⟨λy=>y.elim (h.sp b x).1 λy=>by have:=(h.sp b x).2;omega,by rw[z];have:=(h.sp b x).2;omega⟩,h.JN,λb x=>x.elim (λy=>by rw[z];have:=h.lt b y;omega) And.right,by rw[z];have:=h.gl;omega,λb x=>x.elim (h.nw b) λy=>afN h.keep.size y.1⟩
omit [Gl] in
def Gf:Kq (λb=>p.Sp b\/Ro b) p.I:=λw e h f=>p.UD w e (λb j=>h b<|aL j) f
def ab5 {p:Prop}(x9:p:=by
  cases g1;cases g3 with
  |@cells _ c' _ _ z'' hv hz=>
   replace hz:=hz.resolve_right (λh=>by cases h.1);have:c'=cs:=by
    refine Array.ext hv.size.symm λj h1 h2=>?_
    let⟨n,hn'⟩:=h4 cs[j]<|Array.getElem_mem h2;have:=hv.at_ j _ _ (afR h2)<|afR h1;rw[hn']at this⊢;generalize c'[j]=w at this;cases this;rfl
   rw[g2,h3,this,hz];rfl):p:=x9
def F_ {p:Prop}(x9:p:=by
  exact⟨cs,e,(d8.block _<|.inl h2.1).trans h3,λv hv=>by obtain⟨n,rfl⟩:=h4 v hv;exact .int _ _⟩):p:=x9
def XP {p:Prop}(x9:p:=by
  rw[e,hN]at h3;cases h3;let⟨n,hn⟩:=h4 (.bool x.ok) (by simp[aX.cells]);cases hn):p:=x9
def Uz (hJ:pE J afn p ok Ro s)(eV:dQ afn afn ok)(hP:dQ afn Tryz.prog ok)(jq:∀f,ok.fn f=true->ok.aN f=true)(A2:j9 afn c){y:aX}
  (hK:∀(v3 v4 v5 v9 v10 Z v12 v13 v14 v15 v16 v17 v18 v19 v20 aF aZ a0 a8 a4 a5:ay) (M:Nat->Prop) (W:ax),LS p Ro s r u (J.pick x y) M W->ET Tryz.prog false p.I Ph.oq Ro Stop M (G ((bH 180).at ⟨#[J.jE,.slice (some ⟨J.nb,J.no,none⟩) p.L J.nc,.pointer<|some ⟨J.tb,0,none⟩,v3,v4,v5,.pointer<|some ⟨r,0,none⟩,.pointer<|some ⟨u,0,none⟩,.int .i64 i,v9,v10,Z,v12,v13,v14,v15,v16,v17,v18,v19,v20,aF,aZ,a0,a8,a4,a5],[]⟩ [.inBlock 1,.inLoop kM,.inBlock 0]) cs) W)
  (v3 v4 v5 v9 v10 Z v12 v13 v14 v15 v16 v17 v19 v20 aF aZ a0 a4 a5:ay)(M:Nat->Prop)(W:ax)(hy:kV W (λb=>M b/\b≠r/\b≠u) y)(nz:LS p Ro s r u x M W):
  ET Tryz.prog false p.I Ph.oq Ro Stop M (G ((bH 180).at ⟨#[J.jE,.slice (some ⟨J.nb,J.no,none⟩) p.L J.nc,.pointer<|some ⟨J.tb,0,none⟩,v3,v4,v5,.pointer<|some ⟨r,0,none⟩,.pointer<|some ⟨u,0,none⟩,.int .i64 i,v9,v10,Z,v12,v13,v14,v15,v16,v17,x.val,v19,v20,aF,aZ,a0,y.val,a4,a5],[]⟩<|.inRegion iR [7,8,9]::[.inBlock 1,.inLoop kM,.inBlock 0]) cs) W:=by
 obtain⟨o,ho,bF,hd,hg⟩:∃o,iR[7]?=some o/\o.op=.buildSlice 241 2 #[(0,.tmp 18),(1,.tmp 24)]/\o.dst=some 25/\o.guard=none:=⟨_,rfl,rfl,rfl,rfl⟩;refine ET.oper ho lQ (by k_ne) λai a7 _=>⟨.slice (some ⟨ai.heap.size,0,none⟩) 2 2,ai.alloc<|.cells (x.cells++y.cells).toArray 208,?_,?_,?_⟩
 .unfold ad;simp;walk_nrm
  simp only[aX.val,aX.cells];go_simp
 .refine fH.alloc _ λe he=>?_
  have hm:=bL he;unfold ad at hm;simp only[bF]at hm;simp only[Act.eval,List.map_toArray,List.map_cons,List.map_nil,Array.getD_eq_getD_getElem?,List.getElem?_toArray,List.getElem?_cons_succ,List.getElem?_cons_zero,bz,aX.val]at hm;simp[go_sem]at hm
 rw[hd];walk_nrm
 have vy:=nz.rely a7;have Xh:=hy.keep (λ_ h=>h) λa B=>a7.block _<|.inl (hy.blk a B).2.1.1
 have sQ:=vy.alloc<|.cells (x.cells++y.cells).toArray 208;have oO:∀b,b<ai.heap.size->(ai.alloc<|.cells (x.cells++y.cells).toArray 208).heap[b]?=ai.heap[b]?:=λb hb=>aB _ _ _ hb
 have R:kV (ai.alloc<|.cells (x.cells++y.cells).toArray 208) (λb=>grow M ai (ai.alloc<|.cells (x.cells++y.cells).toArray 208) b/\b≠r/\b≠u) y:=Xh.keep (λb h=>⟨.inl h.1,h.2⟩) λa B=>oO _<|vy.lt _ (Xh.blk a B).2.1.1
 have U:=sQ.held;have hN:(ai.alloc<|.cells (x.cells++y.cells).toArray 208).heap[ai.heap.size]?=some (.cells (x.cells++y.cells).toArray 208 (0,0)):=heap_alloc_new _ _;have X_:grow M ai (ai.alloc<|.cells (x.cells++y.cells).toArray 208) ai.heap.size:=.inr ⟨afK _,by show _<(ai.heap.push _).size;simp⟩;have n6:r≠ai.heap.size:=λe=>by have:=vy.lt _ vy.m6;omega
 have n7:u≠ai.heap.size:=λe=>by have:=vy.lt _ vy.m7;omega
 generalize ai.alloc (.cells (x.cells++y.cells).toArray 208)=dN at sQ R U hN X_⊢;generalize grow M ai dN=sG at sQ R U X_⊢;generalize ai.heap.size=N at hN X_ n6 n7⊢;obtain⟨o,ho,bF,hd,hg⟩:∃o,iR[8]?=some o/\o.op=.call {callee:=.value<|.func 182,args:=#[.tmp 25,.func 183],argTypes:=#[241,246]}/\o.dst=some 26/\o.guard=none:=⟨_,rfl,rfl,rfl,rfl⟩;have a9:∀a,x.a=some a->(λb=>b=N\/(∃a,x.a=some a/\a.block=b)\/∃a,y.a=some a/\a.block=b) a.block:=λa B=>.inr<|.inl ⟨a,B,rfl⟩
 have bb:∀a,y.a=some a->(λb=>b=N\/(∃a,x.a=some a/\a.block=b)\/∃a,y.a=some a/\a.block=b) a.block:=λa B=>.inr<|.inr ⟨a,B,rfl⟩
 have Oj:∀(z:aX),(∀a,z.a=some a->(λb=>b=N\/(∃a,x.a=some a/\a.block=b)\/∃a,y.a=some a/\a.block=b) a.block)->∀v∈z.cells,aq ok (ul λb=>b=N\/(∃a,x.a=some a/\a.block=b)\/∃a,y.a=some a/\a.block=b) v v:=by
  intro z hz v hv;simp only[aX.cells,List.mem_cons,List.not_mem_nil,or_false]at hv;rcases hv with rfl|rfl|rfl|rfl
  .exact .bool _
  .exact .int _ _
  .exact .int _ _
  .cases bi:z.a with
   |none=>exact .dr _ _
   |some a=>exact .slice _ _ ⟨gi.2 ⟨hz a bi,rfl⟩,rfl,rfl⟩
 refine ET.Iy eV hP jq A2 ho lQ (by k_ne) bF Tryz.func182 aO rfl hJ.Xq.2.1 Gf (λb hb=>.inr hb) sQ.abA sQ.lt sQ.gl (λb=>b=N\/(∃a,x.a=some a/\a.block=b)\/∃a,y.a=some a/\a.block=b)
  (λT v w=>v=(J.pick x y).val/\∀b,b<T.heap.size->w.heap[b]?=(froze Ro T).heap[b]?) (λW v w τ d h=>h) ?_ ?_ ?_ ?_ ?_
 .rintro b (rfl|⟨a,B,rfl⟩|⟨a,B,rfl⟩)
  .exact .inl X_
  .exact .inl (U.blk a B).2.1.1
  .exact .inl (R.blk a B).2.1.1
 .intro T d8;refine⟨?_⟩;rintro b (rfl|⟨a,B,rfl⟩|⟨a,B,rfl⟩)
  .refine⟨_,_,(d8.block _<|.inl X_).trans hN,λv hv=>?_⟩;simp at hv;exact hv.elim (Oj x a9 v)<|Oj y bb v
  .obtain⟨_,h2,cs,e,h3,h4⟩:=U.blk a B;exact F_
  .obtain⟨_,h2,cs,e,h3,h4⟩:=R.blk a B;exact F_
 .intro v hv;simp[Act.eval]at hv;rcases hv with rfl|rfl
  .exact .slice _ _ ⟨gi.2 ⟨.inl rfl,rfl⟩,rfl,rfl⟩
  .exact .func (.func hJ.Xq.2.2) rfl (λi x x' h=>by simp at h) rfl (λi x x' h=>by simp at h)
 .intro T d8 _ τ d;walk_nrm
  obtain⟨z',h1,_⟩:=gI<|(d8.block _<|.inl X_).trans hN;refine(hJ.least (re (froze Ro T) τ d) N [x,y] z' aP h1 ?_).mono ?_
  .intro z hz;simp at hz;rcases hz with rfl|rfl
   .exact⟨sX (U.keep (λ_ _=>trivial) λa B=>d8.block _<|.inl (U.blk a B).2.1.1).row,U.small⟩
   .exact⟨sX (R.keep (λ_ _=>trivial) λa B=>d8.block _<|.inl (R.blk a B).2.1.1).row,R.small⟩
  .rintro e w' ⟨rfl,hb⟩;exact⟨_,rfl,rfl,λb dl=>hb.block b (by show b<(froze Ro T).heap.size;rw[jK];exact dl)⟩
 intro T v' M' W' d8 bI i' O;have D:=sQ.rely d8;have P2:=R.keep (λ_ h=>h) λa B=>d8.block _<|.inl (R.blk a B).2.1.1
 obtain⟨σ,v,V',hv,⟨rfl,bl⟩,hw,hS,vz,Zi⟩:=O.res;obtain⟨a',rfl,hn,B⟩:=AK hv;have bn:∀a,(J.pick x y).a=some a->(λb=>b=N\/(∃a,x.a=some a/\a.block=b)\/∃a,y.a=some a/\a.block=b) a.block:=by
  rcases J.pk x y with e|e<;>rw[e]<;>assumption
 have ea:a'=(J.pick x y).a:=by
  cases e:(J.pick x y).a with
  |none=>exact hn.1 e
  |some a=>
   obtain⟨d,h1,h2⟩:=B a e;have h3:=h2.blk;rw[hS _ (bn a e)]at h3;simp at h3;rw[h1];obtain⟨d1,d2,d3⟩:=d;have h4:=h2.off;have h5:=h2.spot;obtain⟨a1,a2,a3⟩:=a;simp only at h3 h4 h5;rw[h3,h4,h5]
 have ev:aX.val {J.pick x y with a:=a'}=(J.pick x y).val:=by rw[ea]
 rw[ev];have Y:∀b cs e,sG b->σ b=some b->T.heap[b]?=some (.cells cs e (0,0))->(∀v∈cs,∃n:Int,v=.int .i64 n)->W'.heap[b]?=T.heap[b]?:=by
  intro b cs e hm hs h3 h4;obtain⟨o,o',g1,g2,g3⟩:=hw.heap _ _ hs;obtain⟨z',f1,_⟩:=gI h3;rw[bl b (D.lt b hm),f1]at g1;exact ab5
 have Og:∀b,sG b->b≠N->W'.heap[b]?=T.heap[b]?:=by
  intro b hb bq;by_cases hs:(λb=>b=N\/(∃a,x.a=some a/\a.block=b)\/∃a,y.a=some a/\a.block=b) b
  .have nQ:=hS b hs;rcases hs with e|⟨a,B,rfl⟩|⟨a,B,rfl⟩
   .exact absurd e bq
   .obtain⟨_,_,cs,e,h3,h4⟩:=D.held.blk a B;exact Y _ cs e hb nQ h3 h4
   .obtain⟨_,_,cs,e,h3,h4⟩:=P2.blk a B;exact Y _ cs e hb nQ h3 h4
  .exact O.rest.block b ⟨hb,hs⟩
 have nx:∀a,x.a=some a->a.block≠N:=λa B e=>by
  obtain⟨_,_,cs,e',h3,h4⟩:=U.blk a B;exact XP
 have ny:∀a,y.a=some a->a.block≠N:=λa B e=>by
  obtain⟨_,_,cs,e',h3,h4⟩:=R.blk a B;exact XP
 have iP:=O.ro.size;have My:LS p Ro s r u x M' W':=by
  obtain⟨c,c1,c2⟩:=D.c6;refine⟨O.own _ D.m6,O.own _ D.m7,D.ne,⟨c,(Og _ D.m6 n6).trans c1,c2⟩,(Og _ D.m7 n7).trans D.c7,D.held.keep (λb hb=>⟨O.own _ hb.1,hb.2⟩) λa B=>Og _ (D.held.blk a B).2.1.1<|nx a B,D.keep.trans O.ro,λb hb=>⟨λhm=>?_,afL (D.sp b hb).2 iP⟩,D.JN,O.lt,afN D.gl iP,λb hm=>(O.new b hm).elim (D.nw b) λy=>afN D.keep.size y⟩;rcases O.new b hm with hm|hm
  .exact(D.sp b hb).1 hm
  .have:=(D.sp b hb).2;omega
 have PS:kV W' (λb=>M' b/\b≠r/\b≠u) (J.pick x y):=by
  rcases J.pk x y with e|e
  .rw[e];exact My.held
  .rw[e];exact(P2.keep (λb hb=>⟨O.own _ hb.1,hb.2⟩) λa B=>Og _ (P2.blk a B).2.1.1<|ny a B)
 rw[hd];walk_nrm
 obtain⟨o',I0,A6,bx,qp⟩:∃o,iR[9]?=some o/\o.op=.store 208 (.tmp 7) (.tmp 26)/\o.dst=none/\o.guard=none:=⟨_,rfl,rfl,rfl,rfl⟩;refine ET.none I0 (by simp[aV,qp]) (by k_ne) λtV ma _=>?_
 have C:=My.rely ma;have WW:=PS.keep (λ_ h=>h) λa B=>ma.block _<|.inl (PS.blk a B).2.1.1
 refine⟨tV.setRow u (J.pick x y).cells.toArray,(f9 A6 rfl rfl C.c7 rfl).1,?_,?_⟩
 .refine fH.row _ C.m7 λe he=>?_
  obtain⟨j,rfl⟩:=(f9 A6 rfl rfl C.c7 rfl).2 e<|mem_listed he;exact il C.m7
 rw[cR (ac _ _ _),bx];walk_nrm
 apply ET.rn;have a6:∀b,b≠u->(tV.setRow u (J.pick x y).cells.toArray).heap[b]?=tV.heap[b]?:=λb hb=>aI _ _ _ _ hb
 obtain⟨c,c1,c2⟩:=C.c6;exact hK _ _ _ _ _ _ _ _ _ _ _ _ _ _ _ _ _ _ _ _ _ _ _ ⟨C.m6,C.m7,C.ne,⟨c,(a6 _ C.ne).trans c1,c2⟩,bk _ _ _ _ _ _ C.c7,WW.keep (λ_ h=>h) λa B=>a6 _ (WW.blk a B).2.1.2.2,⟨λb hb=>(a6 b λe=>(C.sp b<|.inr hb).1<|e▸C.m7).trans<|C.keep.block b hb,by rw[ac];exact C.keep.size,C.keep.os,C.keep.out⟩,λb hb=>by rw[ac];exact C.sp b hb,C.JN,λb hb=>by rw[ac];exact C.lt b hb,by rw[ac];exact C.gl,C.nw⟩
def I' {p:Prop}(x9:p:=by
  unfold execOp;refine⟨?_,λe he=>by simp[go_sem,bF]at he⟩
  .simp;go_simp):p:=x9
def Vv (N:pE J afn p ok Ro s)(eV:dQ afn afn ok)(hP:dQ afn Tryz.prog ok)(jq:∀f,ok.fn f=true->ok.aN f=true)(A2:j9 afn c)(hi:i<p.L)
  (hK:∀(v3 v4 v5 v9 v10 aZ v12 v13 v14 v15 v16 v17 v18 v19 v20 U Y Z aF bb bi:ay) (y:aX) (M:Nat->Prop) (W:ax),J.Is i y->LS p Ro s r u (J.pick x y) M W->ET Tryz.prog false p.I Ph.oq Ro Stop M (G ((bH 180).at ⟨#[J.jE,ao (some ⟨J.nb,J.no,none⟩) p.L J.nc,aa<|some ⟨J.tb,0,none⟩,v3,v4,v5,aa<|some ⟨r,0,none⟩,aa<|some ⟨u,0,none⟩,be .i64 i,v9,v10,aZ,v12,v13,v14,v15,v16,v17,v18,v19,v20,U,Y,Z,aF,bb,bi],[]⟩ [.inBlock 1,.inLoop kM,.inBlock 0]) cs) W)
  (ho:EX .any iR l rest):
  ∀(l0 l1 l2 l3 l4 l5 O:Bool) (v3 v4 v5 v9 v10 aZ v12 v13 v14 v15 v16 v17 v18 v19 v20 U Y Z aF bb bi:ay) (M:Nat->Prop) (W:ax),l=#[l0,l1,l2,l3,l4,l5,O,false,false,false]->bC l1 l2 l3 l4 l5 O=true->
   (l0=true->v18=x.val)->(l1=true->v19=J.jE)->(l2=true->v20=ao (some ⟨J.nb,J.no,none⟩) p.L J.nc)->(l3=true->U=be .i64 i)->(l4=true->Y=aa (some ⟨J.nb,J.no+i,none⟩))->(l5=true->Z=J.iB i)->
   (O=true->∃y:aX,aF=y.val/\J.Is i y/\kV W (λb=>M b/\b≠r/\b≠u) y)->LS p Ro s r u x M W->
   ET Tryz.prog false p.I Ph.oq Ro Stop M (G ((bH 180).at ⟨#[J.jE,ao (some ⟨J.nb,J.no,none⟩) p.L J.nc,aa<|some ⟨J.tb,0,none⟩,v3,v4,v5,aa<|some ⟨r,0,none⟩,aa<|some ⟨u,0,none⟩,be .i64 i,v9,v10,aZ,v12,v13,v14,v15,v16,v17,v18,v19,v20,U,Y,Z,aF,bb,bi],[]⟩<|.inRegion iR rest::[.inBlock 1,.inLoop kM,.inBlock 0]) cs) W:=by
 induction ho with
 |nil h=>rintro l0 l1 l2 l3 l4 l5 O _ _ _ _ _ _ _ _ _ _ _ _ _ _ _ _ _ _ _ _ _ M W rfl hb;exact absurd h (Lt _ _ _ _ _ _ _ hb).1
 |@cons l q rest hq hr ih=>
  rintro l0 l1 l2 l3 l4 l5 O v3 v4 v5 v9 v10 aZ v12 v13 v14 v15 v16 v17 v18 v19 v20 U Y Z aF bb bi M W rfl hb h0 h1 T h3 h4 h5 h6 D;have hc:=bo.1 (Lt l0 l1 l2 l3 l4 l5 O hb).2 q hq;simp only[Bool.or_eq_true,Bool.and_eq_true,beq_iff_eq,Bool.not_eq_true']at hc;rcases hc with((((((⟨rfl,rfl⟩|⟨rfl,rfl⟩)|⟨rfl,rfl⟩)|⟨rfl,rfl⟩)|⟨⟨⟨rfl,rfl⟩,rfl⟩,rfl⟩)|⟨⟨rfl,rfl⟩,rfl⟩)|⟨⟨⟨rfl,rfl⟩,rfl⟩,rfl⟩)|⟨⟨rfl,rfl⟩,rfl⟩
  ·
   obtain⟨o,ho,bF,R,hg⟩:∃o,iR[0]?=some o/\o.op=.load 208 (.tmp 7)/\o.dst=some 18/\o.guard=none:=⟨_,rfl,rfl,rfl,rfl⟩;refine ET.val x.val ho lQ (by k_ne) (λai B _=>?_) ?_
   .have C:=D.rely B;refine⟨Aw bF rfl C.c7,λe he=>?_⟩;obtain⟨j,rfl⟩:=Ck bF rfl C.c7 e he;exact il D.m7
   .rw[R];walk_nrm
    exact ih true l1 l2 l3 l4 l5 O _ _ _ _ _ _ _ _ _ _ _ _ _ _ _ _ _ _ _ _ _ _ _ aP hb (λ_=>rfl) h1 T h3 h4 h5 h6 D
  .obtain⟨o,ho,bF,R,hg⟩:∃o,iR[1]?=some o/\o.op=.move (.tmp 0)/\o.dst=some 19/\o.guard=none:=⟨_,rfl,rfl,rfl,rfl⟩;refine ET.val (J.jE) ho lQ (by k_ne) (λai B _=>?_) ?_
   .exact I'
   .rw[R];walk_nrm
    exact ih l0 true l2 l3 l4 l5 O _ _ _ _ _ _ _ _ _ _ _ _ _ _ _ _ _ _ _ _ _ _ _ aP (bm1 _ _ _ _ _ hb) h0 (λ_=>rfl) T h3 h4 h5 h6 D
  .obtain⟨o,ho,bF,R,hg⟩:∃o,iR[2]?=some o/\o.op=.move (.tmp 1)/\o.dst=some 20/\o.guard=none:=⟨_,rfl,rfl,rfl,rfl⟩;refine ET.val (ao (some ⟨J.nb,J.no,none⟩) p.L J.nc) ho lQ (by k_ne) (λai B _=>?_) ?_
   .exact I'
   .rw[R];walk_nrm
    exact ih l0 l1 true l3 l4 l5 O _ _ _ _ _ _ _ _ _ _ _ _ _ _ _ _ _ _ _ _ _ _ _ aP (bm2 _ _ _ _ _ hb) h0 h1 (λ_=>rfl) h3 h4 h5 h6 D
  .obtain⟨o,ho,bF,R,hg⟩:∃o,iR[3]?=some o/\o.op=.move (.tmp 8)/\o.dst=some 21/\o.guard=none:=⟨_,rfl,rfl,rfl,rfl⟩;refine ET.val (be .i64 i) ho lQ (by k_ne) (λai B _=>?_) ?_
   .exact I'
   .rw[R];walk_nrm
    exact ih l0 l1 l2 true l4 l5 O _ _ _ _ _ _ _ _ _ _ _ _ _ _ _ _ _ _ _ _ _ _ _ aP (bm3 _ _ _ _ _ hb) h0 h1 T (λ_=>rfl) h4 h5 h6 D
  .obtain⟨o,ho,bF,R,hg⟩:∃o,iR[4]?=some o/\o.op=.indexAddr 210 (.tmp 20) (.tmp 21)/\o.dst=some 22/\o.guard=none:=⟨_,rfl,rfl,rfl,rfl⟩;obtain rfl:=T rfl;obtain rfl:=h3 rfl;refine ET.val (aa<|some ⟨J.nb,J.no+i,none⟩) ho lQ (by k_ne) (λai B _=>?_) ?_
   .have p8:(i:Int)<p.L:=by omega
    unfold ad;refine⟨?_,λe he=>?_⟩
    .simp;go_simp
    simp only[bF]at he;exact XM
   .rw[R];walk_nrm
    exact ih l0 l1 true true true l5 O _ _ _ _ _ _ _ _ _ _ _ _ _ _ _ _ _ _ _ _ _ _ _ aP (bm4 _ _ _ hb) h0 h1 T h3 (λ_=>rfl) h5 h6 D
  .obtain⟨o,ho,bF,R,hg⟩:∃o,iR[5]?=some o/\o.op=.load 102 (.tmp 22)/\o.dst=some 23/\o.guard=none:=⟨_,rfl,rfl,rfl,rfl⟩;obtain rfl:=h4 rfl;refine ET.val (J.iB i) ho lQ (by k_ne) (λai B _=>?_) ?_
   .have hc:ai.cell? ⟨J.nb,J.no+i,none⟩=some (J.iB i):=by
     rw[<-N.iJ i hi];simp only[au,(D.rely B).keep.block _ N.rnb]
    unfold ad;refine⟨?_,λe he=>?_⟩
    .simp;go_simp
    .simp[go_sem,bF,hc]at he;subst he;exact Cn N.rnb
   .rw[R];walk_nrm
    exact ih l0 l1 l2 l3 true true O _ _ _ _ _ _ _ _ _ _ _ _ _ _ _ _ _ _ _ _ _ _ _ aP (bm5 _ _ _ _ hb) h0 h1 T h3 h4 (λ_=>rfl) h6 D
  ·
   obtain⟨o,ho,bF,R,hg⟩:∃o,iR[6]?=some o/\o.op=.call {callee:=.value<|.func 201,args:=#[.tmp 19,.tmp 23],argTypes:=#[26,102]}/\o.dst=some 24/\o.guard=none:=⟨_,rfl,rfl,rfl,rfl⟩;obtain rfl:=h1 rfl;obtain rfl:=h5 rfl;obtain⟨rfl,rfl,rfl⟩:=bm6 _ _ _ hb;refine ET.Iy eV hP jq A2 ho lQ (by k_ne) bF Tryz.func201 aO rfl N.Xq.1 Gf (λb hb=>aE hb) D.abA D.lt D.gl (J.S i)
    (λai v w=>∃y:aX,v=y.val/\J.Is i y/\kV w (λb=>ai.heap.size<=b) y) (λW v w τ d ⟨y,e1,e2,e3⟩=>⟨y,e1,e2,e3.keep (λ_ h=>h) λ_ _=>rfl⟩) (λb hb=>aE<|N.sro i b hb) (λai B=>N.closed i hi ai (D.rely B).keep) ?_ ?_ ?_
   .intro v hv;simp[Act.eval]at hv;rcases hv with rfl|rfl
    .exact N.OG i hi
    .exact N.OH i hi
   .intro ai B _ τ d;walk_nrm
    refine(N.RL i hi Ro ai (D.rely B).keep τ d).mono ?_;rintro e w' ⟨y,rfl,e2,e3⟩;exact⟨_,rfl,y,rfl,e2,e3⟩
   intro ai v' M' W' B qy i' hB;have C:=D.rely B;obtain⟨σ,v,V',hv,⟨y,rfl,hy,hh⟩,hw,hS,vz,Zi⟩:=hB.res;obtain⟨a',rfl,hn,ha⟩:=AK hv;have bl:∀b,M b->¬J.S i b:=λb hb hs=>(C.sp b<|aE<|N.sro i b hs).1 hb
   have Og:∀b,M b->W'.heap[b]?=ai.heap[b]?:=λb hb=>hB.rest.block b ⟨hb,bl b hb⟩
   have bn:∀a d,y.a=some a->σ a.block=some d->ai.heap.size<=d:=λa d h1 T=>(vz _ _ T).elim (λe=>by
    have:=(hh.blk a h1).2.1;have:=(C.sp _<|aE<|N.sro i _ e.1).2;omega) id
   have bq:∀a d,y.a=some a->σ a.block=some d->M' d/\d≠r/\d≠u:=λa d h1 T=>by
    have hb:=bn a d h1 T;have O:=C.lt _ C.m6;have l7:=C.lt _ C.m7;refine⟨(Zi _ _ T).resolve_right λe=>?_,ab,ab⟩;have:=(C.sp d<|aE e.1).2;omega
   have iP:=hB.ro.size;have My:LS p Ro s r u x M' W':=by
    let⟨c,c1,c2⟩:=C.c6;refine⟨hB.own _ C.m6,hB.own _ C.m7,C.ne,⟨c,(Og _ C.m6).trans c1,c2⟩,(Og _ C.m7).trans C.c7,C.held.keep (λb hb=>⟨hB.own _ hb.1,hb.2⟩) λa ha=>Og _ (C.held.blk a ha).2.1.1,C.keep.trans hB.ro,λb hb=>⟨λhm=>?_,afL (C.sp b hb).2 iP⟩,C.JN,hB.lt,afN C.gl iP,λb hm=>(hB.new b hm).elim (C.nw b) λy=>afN C.keep.size y⟩;rcases hB.new b hm with hm|hm
    .exact(C.sp b hb).1 hm
    .have:=(C.sp b hb).2;omega
   rw[R];walk_nrm
   exact ih l0 true true true true true true _ _ _ _ _ _ _ _ _ _ _ _ _ _ _ _ _ _ _ _ _ _ _ aP rfl h0 h1 T h3 h4 h5 (λ_=>⟨_,rfl,N.ren i y a' hy hn,(Mt hw ⟨hh.row,hh.small,λa ha=>⟨(hh.blk a ha).1,trivial,(hh.blk a ha).2.2⟩,hh.full⟩ hn ha bq)⟩) My
  obtain⟨rfl,rfl,rfl,rfl,rfl⟩:=bm7 _ _ _ _ _ hb;obtain⟨y,rfl,hy,hh⟩:=h6 rfl;obtain rfl:=h0 rfl;obtain rfl:rest=[8,9]:=by
   have e1:(#[true,true,true,true,true,true,true,false,false,false]:Array Bool).setIfInBounds 7 true=#[true,true,true,true,true,true,true,true,false,false]:=aP;rw[e1]at hr;generalize hL:(#[true,true,true,true,true,true,true,true,false,false]:Array Bool)=L at hr;cases hr with
   |nil h=>subst hL;exact absurd h Yt
   |@cons _ q1 r1 nv pR=>
    subst hL;rw[show av .any iR #[true,true,true,true,true,true,true,true,false,false]=[8] from by decide +kernel]at nv;obtain rfl:=bv.1 nv;have e2:(#[true,true,true,true,true,true,true,true,false,false]:Array Bool).setIfInBounds 8 true=#[true,true,true,true,true,true,true,true,true,false]:=aP;rw[e2]at pR;generalize hL:(#[true,true,true,true,true,true,true,true,true,false]:Array Bool)=L at pR;cases pR with
    |nil h=>subst hL;exact absurd h Yt
    |@cons _ q2 r2 Mf Sv=>
     subst hL;rw[show av .any iR #[true,true,true,true,true,true,true,true,true,false]=[9] from by decide +kernel]at Mf;obtain rfl:=bv.1 Mf;have e3:(#[true,true,true,true,true,true,true,true,true,false]:Array Bool).setIfInBounds 9 true=#[true,true,true,true,true,true,true,true,true,true]:=aP;rw[e3]at Sv;generalize hL:(#[true,true,true,true,true,true,true,true,true,true]:Array Bool)=L at Sv;cases Sv with
     |nil h=>rfl
     |@cons _ q3 r3 V_ cf=>
      subst hL;exact absurd V_ (by rw[show av .any iR #[true,true,true,true,true,true,true,true,true,true]=[] from by decide +kernel];simp)
  exact Uz N eV hP jq A2 (λa0 a1 a2 a3 a4 a5 a6 a7 a8 a9 bx bI b3 b4 b5 b7 b9 cb cc cd ce M W h=>hK a0 a1 a2 a3 a4 a5 a6 a7 a8 a9 bx bI b3 b4 b5 b7 b9 cb cc cd ce y M W hy h) _ _ _ _ _ _ _ _ _ _ _ _ _ _ _ _ _ _ _ _ _ hh D
end
def mixed:Tryz.prog.follows .mixedOrders:=aO
section
variable [Gl]{J:Jb}{Ro:Nat->Prop}
def VE (Z:pE J afn p ok Ro s)(eV:dQ afn afn ok)(hP:dQ afn Tryz.prog ok)(jq:∀f,ok.fn f->ok.aN f)(A2:j9 afn c)(hL:p.L<4611686018427387904)
  (MA:∀seq x M W,yw J seq x->LS p Ro s r u x M W->W.cell? r=some (bB x.ok)->ET Tryz.prog false p.I Ph.oq Ro (p.BQ k seq) M (G (c0.finish x.val) cs) W) f:
  ∀lo (seq:List Nat) (x:aX) (M:Nat->Prop) (W:ax) (v3 v4 v5 v8 v9 v10 B v12 v13 v14 v15 v16 v17 v18 v19 v20 C D N O R T:ay),p.L<=lo+f->yw J seq x->LS p Ro s r u x M W->
   ET Tryz.prog false p.I Ph.oq Ro (p.kW k Ro f lo seq) M (G ((bH 180).at ⟨#[J.jE,ao (some ⟨J.nb,J.no,none⟩) p.L J.nc,aa J.tb,v3,v4,v5,aa r,aa u,v8,v9,v10,B,v12,v13,v14,v15,v16,v17,v18,v19,v20,C,D,N,O,R,T],[]⟩ [.code kM,.inLoop kM,.inBlock 0])<|c0::cs) W:=by
 induction f with
 |zero=>
  intro lo seq x M W v3 v4 v5 v8 v9 v10 B v12 v13 v14 v15 v16 v17 v18 v19 v20 C D N O R T Ss hb nz;obtain⟨g1,g2,hA,⟨hs,hB⟩,hC,hD⟩:=RU Z hL v3 v4 v5 v8 v9 v10 B v12 v13 v14 v15 v16 v17 v18 v19 v20 C D N O R T;refine hA _ _ _<|ET.stop λai U _=>⟨hs,λy h1 h2 h3=>⟨ab,g2 y,?_⟩⟩;rw[Z.prog];exact⟨hB ai y h2 h3,hD _ _ _ y x ab h2 (nz.rely<|U.trans<|(nz.rely U).tk<|be .i64<|y+1) λW' Y h5=>MA seq x M W' hb Y h5⟩
 |succ f ih=>
  intro lo seq x M W v3 v4 v5 v8 v9 v10 B v12 v13 v14 v15 v16 v17 v18 v19 v20 C D N O R T Ss hb nz;obtain⟨g1,g2,hA,⟨hs,hB⟩,hC,hD⟩:=RU Z hL v3 v4 v5 v8 v9 v10 B v12 v13 v14 v15 v16 v17 v18 v19 v20 C D N O R T;refine hA _ _ _<|ET.stop λai U _=>⟨hs,λy h1 h2 h3=>⟨g2 y,?_⟩⟩;rw[Z.prog];have hl:=nz.rely<|U.trans<|(nz.rely U).tk<|be .i64<|y+1;refine⟨hB ai y h2 h3,λY=>hD _ _ _ y x Y h2 hl λW' h5 h6=>MA seq x M W' hb h5 h6,λY=>hC _ _ _ y Y λa3 a4 a5 a8 a9 aF aZ a0 a1 a2 a6 a7 bb bi bl bn bq bx bF bI b7 cb=>ET.drawn mixed λorder ho=>?_⟩;have e:(bp iR.size false)=#[false,false,false,false,false,false,false,false,false,false]:=aO;refine Vv Z eV hP jq A2 Y ?_ ho false false false false false false false _ _ _ _ _ _ _ _ _ _ _ _ _ _ _ _ _ _ _ _ _ M _ rfl rfl (λh=>sK) (λh=>sK) (λh=>sK) (λh=>sK) (λh=>sK) (λh=>sK) (λh=>sK) hl;exact λb3 b4 b5 b9 In cc Dz cd T_ ce cf ch ci ck cl cn co cp cq ct cu z M' W' hz My=>ET.c (λ_=>stepG_inBlock)<|ET.c (λ_=>stepG_inLoop)<|ih (y+1) (seq++[y]) (J.pick x z) M' W' _ _ _ _ _ _ _ _ _ _ _ _ _ _ _ _ _ _ _ _ _ _ ab (hb.snoc hz) My
end
def aby:(Tryz.f180.name== "runtime.NumGoroutine")=false:=aO
section
variable [Gl]{J:Jb}{Ro:Nat->Prop}
def OI (B:pE J afn p ok Ro s)(eV:dQ afn afn ok)(hP:dQ afn Tryz.prog ok)(jq:∀f,ok.fn f->ok.aN f)(A2:j9 afn c)(hL:p.L<4611686018427387904)(Sr:k<4)(wC:Ro A)(aZ:s.heap[A]?=some (.cells #[be .i64 k] 3 (0,0)))(bb:p.Wg≠p.Bs)
  (FM:∀b,p.Sp b->¬Ro b)(aF:∀b,p.Sp b\/Ro b->b<s)(E4:Gl.n<=s)(ho:EX .any jo l rest):
  ∀R T U Y D (v6 v7 v8 v9 v10 N:ay) (W:ax),l=#[R,T,U,Y,false,D,false]->(R->v6=ao p.Bs 4 4)->(T->v7=be .i64 k)->(U->v8=J.jE)->(Y->v9=ao (some ⟨J.nb,J.no,none⟩) p.L J.nc)->(D->N=aa (some ⟨p.Bs,k*4,none⟩))->(D->R/\T)->
   aU Ro s W->s.heap.size<=W->
   ET Tryz.prog false p.I Ph.oq Ro (p.kW k Ro p.L 0 []) (λ_=>False) (G (aaw J p.Wg A v6 v7 v8 v9 v10 N rest) [bot]) W:=by
 induction ho with
 |nil h=>rintro R T U Y D v6 v7 v8 v9 v10 N W rfl;exact absurd h (yh _ _ _ _ _ _).1
 |@cons l q rest hq hr ih=>
  rintro R T U Y D v6 v7 v8 v9 v10 N W rfl Z h7 h8 h9 DV h5 hK iP;have hc:=bo.1 (yh R T U Y false D).2 q hq;simp at hc;rcases hc with((((⟨rfl,rfl⟩|⟨rfl,rfl⟩)|⟨rfl,rfl⟩)|⟨rfl,rfl⟩)|⟨⟨rfl,rfl⟩,rfl⟩)|⟨⟨⟨rfl,rfl⟩,rfl⟩,rfl⟩
  .obtain⟨o,ho,bF,O,hg⟩:∃o,jo[0]?=some o/\o.op=.load 241 (.tmp 4)/\o.dst=some 6/\o.guard=none:=⟨_,rfl,rfl,rfl,rfl⟩;refine ET.val (ao p.Bs 4 4) ho lQ (by k_ne) (λai C _=>?_) ?_
   .have hb:=fM<|(C.block _<|aE B.Xu).trans<|(hK.block _ B.Xu).trans B.Yp;unfold ad;refine⟨?_,λe he=>?_⟩
    .simp only[bF];go_simp
    simp[go_sem,bF,hb]at he;subst he;exact Cn B.Xu
   rw[O];walk_nrm
   exact ih true T U Y D _ _ _ _ _ _ _ aP (λ_=>rfl) h7 h8 h9 DV (λe=>⟨rfl,(h5 e).2⟩) hK iP
  .obtain⟨o,ho,bF,O,hg⟩:∃o,jo[1]?=some o/\o.op=.load 3 (.tmp 5)/\o.dst=some 7/\o.guard=none:=⟨_,rfl,rfl,rfl,rfl⟩;refine ET.val (be .i64 k) ho lQ (by k_ne) (λai C _=>?_) ?_
   .have hb:=fM<|(C.block _<|aE wC).trans<|(hK.block _ wC).trans aZ;exact acu
   .rw[O];walk_nrm
    exact ih R true U Y D _ _ _ _ _ _ _ aP Z (λ_=>rfl) h8 h9 DV (λe=>⟨(h5 e).1,rfl⟩) hK iP
  .obtain⟨o,ho,bF,O,hg⟩:∃o,jo[2]?=some o/\o.op=.load 26 (.tmp 1)/\o.dst=some 8/\o.guard=none:=⟨_,rfl,rfl,rfl,rfl⟩;refine ET.val (J.jE) ho lQ (by k_ne) (λai C _=>?_) ?_
   .have hb:=fM<|(C.block _<|aE B.rbl).trans<|(hK.block _ B.rbl).trans B.abo;unfold ad;refine⟨?_,λe he=>?_⟩
    .simp only[bF];go_simp
    .simp[go_sem,bF,hb]at he;subst he;exact Cn B.rbl
   .rw[O];walk_nrm
    exact ih R T true Y D _ _ _ _ _ _ _ aP Z h7 (λ_=>rfl) h9 DV h5 hK iP
  .obtain⟨o,ho,bF,O,hg⟩:∃o,jo[3]?=some o/\o.op=.load 210 (.tmp 2)/\o.dst=some 9/\o.guard=none:=⟨_,rfl,rfl,rfl,rfl⟩;refine ET.val (ao (some ⟨J.nb,J.no,none⟩) p.L J.nc) ho lQ (by k_ne) (λai C _=>?_) ?_
   .have hb:=fM<|(C.block _<|aE B.rbn).trans<|(hK.block _ B.rbn).trans B.abv;unfold ad;refine⟨?_,λe he=>?_⟩
    .simp only[bF];go_simp
    .simp[go_sem,bF,hb]at he;subst he;exact Cn B.rbn
   .rw[O];walk_nrm
    exact ih R T U true D _ _ _ _ _ _ _ aP Z h7 h8 (λ_=>rfl) DV h5 hK iP
  .obtain⟨o,ho,bF,O,hg⟩:∃o,jo[4]?=some o/\o.op=.call {callee:=.value<|.func 180,args:=#[.tmp 8,.tmp 9,.tmp 3],argTypes:=#[26,210,244]}/\o.dst=some 10/\o.guard=none:=⟨_,rfl,rfl,rfl,rfl⟩;obtain rfl:=h8 rfl;obtain rfl:=h9 rfl;refine ET.k rfl λ_ _ _=>goes_call ho lQ (by k_ne) bF Tryz.func180 aby rfl ⟨⟨rfl,λe he=>jc⟩,?_⟩;walk_nrm
   have en:∀n,Tryz.f180.ntmps-n=27-n:=λn=>rfl
   rw[en];walk_nrm
   rw[<-B.prog];apply Ty B (λ_=>False) W hK (λb hb=>⟨id,afL (aF b hb) iP⟩) FM (λb hb=>hb.elim) ab λb hb=>hb.elim;intro r u a0 a1 a2 a3 a4 a5 a6 a7 a8 a9 bi bl bn bq bx bI b3 b4 b5 b7 b9 cb M' W' nz;rw[B.prog];refine VE B eV hP jq A2 hL ?_ p.L 0 [] eY M' W' _ _ _ _ _ _ _ _ _ _ _ _ _ _ _ _ _ _ _ _ _ _ ab .nil nz;intro seq x M W hb hl hc;rw[Frame.finish_at,ho];simp[Option.bind_some,O];walk_nrm
   have:=S4 B Sr wC bb hb hr R T D v6 v7 J.jE (ao (some ⟨J.nb,J.no,none⟩) p.L J.nc) N M W r x.ok aP Z h7 DV hl.keep ((hl.keep.block _ wC).trans aZ) hl.m6 hc (hl.held.keep (λb h=>⟨h.1,h.2.1⟩) λ_ _=>rfl) (λb hb=>(hl.sp b<|aL hb).1) (λb hb=>afN B.base<|hl.nw b hb) h5;rw[B.prog]at this;exact this
  obtain⟨o,ho,bF,O,hg⟩:∃o,jo[5]?=some o/\o.op=.indexAddr 241 (.tmp 6) (.tmp 7)/\o.dst=some 11/\o.guard=none:=⟨_,rfl,rfl,rfl,rfl⟩;refine ET.val (aa<|some ⟨p.Bs,k*4,none⟩) ho lQ (by k_ne) (λai C _=>?_) ?_
  .rw[Z rfl,h7 rfl];unfold ad;refine⟨?_,λe he=>?_⟩
   .simp only[bF];go_simp
    omega
   simp[bF]at he;simp[go_sem]at he;rw[events_indexAt_slice _ _ _ _ _ _ (by go_simp) ab]at he;grind
  .rw[O];walk_nrm
   exact ih true true U Y true _ _ _ _ _ _ _ aP Z h7 h8 h9 (λ_=>rfl) (λ_=>⟨rfl,rfl⟩) hK iP
def X9 (D:pE J afn p ok Ro s)(N:dQ afn afn ok)(O:dQ afn Tryz.prog ok)(R:∀f,ok.fn f->ok.aN f)(T:j9 afn c)(U:p.L<4611686018427387904)(Y:k<4)(Z:Ro A)(B:s.heap[A]?=some (.cells #[be .i64 k] 3 (0,0)))(C:p.Wg≠p.Bs)
  (FM:∀b,p.Sp b->¬Ro b)(aF:∀b,p.Sp b\/Ro b->b<s)(E4:Gl.n<=s):
  ET p.P false p.I Ph.oq Ro (p.kW k Ro p.L 0 []) (λ_=>False) (born Tryz.prog<|call47 J p.Wg A) s:=by
 rw[D.prog];apply ET.c λw=>LY J p.Wg A w;apply ET.sr
 (refine ET.c (λ_=>stepG_defer rfl rfl (by k_ne) rfl) ?_;walk_nrm)
 apply ET.rn;refine ET.drawn mixed λorder ho=>?_
 have e:(bp jo.size false)=#[false,false,false,false,false,false,false]:=aO;change EX .any jo (bp jo.size false) order at ho;exact OI D N O R T U Y Z B C FM aF E4 ho false false false false false _ _ _ _ _ _ s rfl (λh=>sK) (λh=>sK) (λh=>sK) (λh=>sK) (λh=>sK) (λh=>sK) (aU.refl _ _) ab
end
