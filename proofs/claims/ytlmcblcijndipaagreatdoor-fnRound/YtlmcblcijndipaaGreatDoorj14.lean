import Derived.Test.YtlmcblcijndipaaGreatDoorj04
import Derived.Test.YtlmcblcijndipaaGreatDoorj13
set_option linter.unusedSimpArgs false
set_option linter.unusedVariables false
set_option maxHeartbeats 2000000
set_option maxRecDepth 100000
namespace Go.Proofs.YtlmcblcijndipaaGreatDoor
section
open Conc Conc.Lib ConcR.Gen RowKit
def mD (id:Nat):Code->Option (Array Oper)
 |.region i ops _=>if i==id then some ops else none
 |.seq a b=>(mD id a).or (mD id b)
 |.cond _ a b=>(mD id a).or (mD id b)
 |.block _ c=>mD id c
 |.loop c=>mD id c
 |.scope c=>mD id c
 |_=>none
def jJ:Code->Option Code
 |.seq a b=>(jJ a).or (jJ b)
 |.cond _ a b=>(jJ a).or (jJ b)
 |.block _ c=>jJ c
 |.loop c=>some c
 |.scope c=>jJ c
 |_=>none
section
variable {P:Program}{m:Bool}{I:World->Prop}{X:Event->Prop}{Ro:Nat->Prop}{Stop:(Nat->Prop)->Goroutine->World->Prop}{M:Nat->Prop}{W:World}
 {b:Frame}{a:Act}{k:List Item}{cs:List Frame}{ops:Array Oper}{i:Nat}{rest:List Nat}{o:Oper}
theorem oy {w w':World}{v:Value}(ho:ops[i]?=some o)(hw:Region.wanted o (yielded ops a.tmps)=true)(hk:b.kind≠.early)(hr:(execOp a.eval o).run P w=.ok (.value v) w'):
  stepG P m (G (b.at a (.inRegion ops (i::rest)::k)) cs) w=.go (G (b.at (a.put o.dst v) (.inRegion ops rest::k)) cs) w' (listed P b.fn a o w):=by
 have:=goes_oper_k (P:=P) (main:=m) (cs:=cs) (k:=k) (rest:=rest) (w:=w) (K:=λg' w'' es=>g'=G (b.at (a.put o.dst v) (.inRegion ops rest::k)) cs/\w''=w'/\es=listed P b.fn a o w) ho hw hk (λK' h=>by rw[hr];exact h _ _ ⟨rfl,rfl,rfl⟩);obtain⟨g',w'',es,h1,h2,h3,h4⟩:=goes_elim this;rw[h1,h2,h3,h4]
theorem ET.oper (ho:ops[i]?=some o)(hw:Region.wanted o (yielded ops a.tmps)=true)(hk:b.kind≠.early)
  (h:∀ai,aO (λb=>M b\/Ro b) W ai->I ai->∃v W',(execOp a.eval o).run P ai=.ok (.value v) W'/\ez X M Ro ai W' (listed P b.fn a o ai)/\ET P m I X Ro Stop (grow M ai W') (G (b.at (a.put o.dst v) (.inRegion ops rest::k)) cs) W'):
  ET P m I X Ro Stop M (G (b.at a (.inRegion ops (i::rest)::k)) cs) W:=
 ET.step rfl λai ab3 pg=>by
  obtain⟨v,W',h1,h2,h3⟩:=h ai ab3 pg;exact⟨_,_,_,oy ho hw hk h1,h2,h3⟩
theorem ET.val (v:Value)(ho:ops[i]?=some o)(hw:Region.wanted o (yielded ops a.tmps)=true)(hk:b.kind≠.early)
  (h:∀ai,aO (λb=>M b\/Ro b) W ai->I ai->(execOp a.eval o).run P ai=.ok (.value v) ai/\∀e∈(execOp a.eval o).events P ai #[],DO X M Ro e)
  (n:ET P m I X Ro Stop M (G (b.at (a.put o.dst v) (.inRegion ops rest::k)) cs) W):ET P m I X Ro Stop M (G (b.at a (.inRegion ops (i::rest)::k)) cs) W:=
 ET.oper ho hw hk λai ab3 pg=>⟨v,ai,(h ai ab3 pg).1,ez.stay λe he=>(h ai ab3 pg).2 e (mem_listed he),by rw[show grow M ai ai=M from cD rfl];exact n.rely ab3⟩
theorem ET.none (ho:ops[i]?=some o)(hw:Region.wanted o (yielded ops a.tmps)=true)(hk:b.kind≠.early)
  (h:∀ai,aO (λb=>M b\/Ro b) W ai->I ai->∃W',(execOp a.eval o).run P ai=.ok .skip W'/\ez X M Ro ai W' (listed P b.fn a o ai)/\ET P m I X Ro Stop (grow M ai W') (G (b.at (a.put o.dst undef) (.inRegion ops rest::k)) cs) W'):
  ET P m I X Ro Stop M (G (b.at a (.inRegion ops (i::rest)::k)) cs) W:=
 ET.step rfl λai ab3 pg=>by
  obtain⟨W',h1,h2,h3⟩:=h ai ab3 pg;exact⟨_,_,_,stepG_none ho hw hk h1,h2,h3⟩
theorem A2 {fn:Func}{todo:List Item}{c:Frame}{v:Value}{w:World}(hn:b.kind=.normal)(hd:a.defers=[])(hf:P.funcs[b.fn]?=some fn)(hr:(results fn a.tmps).run P w=.ok v w):
  stepG P m (G {b.at a todo with mode:=.returning} (c::cs)) w=.go (G (c.finish v) cs) w (seen P b.fn ((results fn a.tmps).events P w #[])):=by
 simp[G,stepG,unwind,doReturn,Frame.at,hn,hd,hf,hr,GStep.after]
theorem ET.AE {fn:Func}{todo:List Item}{c:Frame}(v:Value)(hn:b.kind=.normal)(hd:a.defers=[])(hf:P.funcs[b.fn]?=some fn)
  (h:∀ai,aO (λb=>M b\/Ro b) W ai->I ai->(results fn a.tmps).run P ai=.ok v ai/\∀e∈(results fn a.tmps).events P ai #[],DO X M Ro e)
  (n:ET P m I X Ro Stop M (G (c.finish v) cs) W):ET P m I X Ro Stop M (G {b.at a todo with mode:=.returning} (c::cs)) W:=
 ET.step rfl λai ab3 pg=>⟨_,_,_,A2 hn hd hf (h ai ab3 pg).1,ez.stay λe he=>(h ai ab3 pg).2 e (jC _ _ _ e he),by rw[show grow M ai ai=M from cD rfl];exact n.rely ab3⟩
theorem ez.row {g:Nat}(cs:Array Value)(ha:M g){es:Array Event}(h:∀e∈es,DO X M Ro e):ez X M Ro W (W.setRow g cs) es:=
 ⟨λb _ hm=>setRow_other _ _ _ _ (λe=>hm (e▸ha)),Nat.le_of_eq (setRow_size _ _ _).symm,rfl,rfl,rfl,λe he=>by rw[show grow M W (W.setRow g cs)=M from cD (setRow_size _ _ _)];exact h e he⟩
theorem vR {a:Addr}(h:Ro a.block):DO X M Ro ⟨.cell a,false,false⟩:=.inl ⟨rfl,a,rfl,.inr ⟨h,rfl⟩⟩
theorem ge {a:Addr}{w:Bool}(h:M a.block):DO X M Ro ⟨.cell a,w,false⟩:=.inl ⟨rfl,a,rfl,.inl h⟩
end
section
variable [Gl]
structure Jb where
 bl:Nat
 bn:Nat
 bb:Nat
 nb:Nat
 no:Nat
 nc:Nat
 tb:Nat
 iQ:Value
 gB:Nat->Value
 S:Nat->Nat->Prop
 Is:Nat->aN->Prop
 lt:aN->aN->Bool
 base:Nat
def Jb.pick (J:Jb)(x y:aN):aN:=if J.lt y x=true then y else x
def Jb.cR (J:Jb):List aN->aN
 |[]=>dQ
 |x::xs=>xs.foldl J.pick x
omit [Gl] in
theorem Jb.pk (J:Jb)(x y:aN):J.pick x y=x\/J.pick x y=y:=by
 unfold Jb.pick;split
 .exact .inr rfl
 .exact .inl rfl
inductive vn (J:Jb):List Nat->aN->Prop
 |nil:vn J [] dQ
 |snoc {seq:List Nat} {i:Nat} {x y:aN}:vn J seq x->J.Is i y->vn J (seq++[i]) (J.pick x y)
structure iH (W:World)(M:Nat->Prop)(x:aN):Prop where
 row:dX W x.a x.n x.g
 small:x.n<=1048576
 blk:∀a,x.a=some a->a.spot=none/\M a.block/\∃cs e,W.heap[a.block]?=some (.cells cs e (0,0))/\∀v∈cs,∃n:Int,v=.int .i64 n
 full:∀a,x.a=some a->a.off=0/\∃cs,W.heap[a.block]?=some (.cells cs 3 (0,0))/\cs.size=x.n
omit [Gl] in
theorem iH.keep {W W':World}{M M':Nat->Prop}{x:aN}(h:iH W M x)(hm:∀b,M b->M' b)(hk:∀a,x.a=some a->W'.heap[a.block]?=W.heap[a.block]?):iH W' M' x:=by
 refine⟨?_,h.small,λa ha=>?_,λa ha=>?_⟩
 .rcases h.row with e|⟨b,off,e,hr⟩
  .exact .inl e
  .refine .inr ⟨b,off,e,λi hi=>?_⟩;have:=hr i hi;simp only[World.cell?]at this⊢;rw[hk _ e];exact this
 .obtain⟨h1,h2,cs,e,h3,h4⟩:=h.blk a ha;exact⟨h1,hm _ h2,cs,e,(hk a ha).trans h3,h4⟩
 .obtain⟨h1,cs,h2,h3⟩:=h.full a ha;exact⟨h1,cs,(hk a ha).trans h2,h3⟩
def Gv (J:Jb)(seq:List Nat)(vs:List Value)(Mr:Nat->Prop)(W:World):Prop:=∃x:aN,vs=x.cells/\vn J seq x/\iH W Mr x/\∀b,Mr b->J.base<=b
structure me (J:Jb)(P0:Program)(p:Ph)(ok:Ctx)(Ro:Nat->Prop)(abV:World):Prop where
 prog:p.P=Tryz.prog
 ty:p.ty=210
 tk:p.tk=J.tb
 wd:p.wd=4
 n4:p.n=4
 Vq:p.Vq=177
 res:p.Rw=Gv J
 base:J.base<=abV
 XD:abV.heap[J.bl]?=some (.cells #[J.iQ] 23 (0,0))
 XO:abV.heap[J.bn]?=some (.cells #[.slice (some ⟨J.nb,J.no,none⟩) p.L J.nc] 179 (0,0))
 RE:abV.heap[J.bb]?=some (.cells #[.slice p.Bs 4 4] 211 (0,0))
 X4:Ro J.bl
 X5:Ro J.bn
 QX:Ro J.bb
 Zy:Ro J.nb
 gt:∀i,i<p.L->abV.cell? ⟨J.nb,J.no+i,none⟩=some (J.gB i)
 ZA:∀i b,J.S i b->Ro b
 closed:∀i,i<p.L->∀ai,aO Ro abV ai->qB ok (J.S i) ai
 Kg:∀i,i<p.L->ar ok (qW (J.S i)) J.iQ J.iQ
 Kh:∀i,i<p.L->ar ok (qW (J.S i)) (J.gB i) (J.gB i)
 MZ:∀i,i<p.L->∀(F:Nat->Prop) ai,aO Ro abV ai->∀τ d,Calls P0 189 #[J.iQ,J.gB i] (re (fc F ai) τ d) λe w'=>∃x:aN,e=.returned x.val/\J.Is i x/\iH w' (λb=>ai.heap.size<=b) x
 ren:∀i x a',J.Is i x->(x.a=none<->a'=none)->J.Is i {x with a:=a'}
 least:∀(V:World) (b:Nat) (xs:List aN) (z:Nat×Nat),xs.length<=1048576->V.heap[b]?=some (.cells (xs.flatMap aN.cells).toArray 177 z)->(∀x∈xs,dX V x.a x.n x.g/\x.n<=1048576)->
  Calls P0 160 #[.slice b xs.length xs.length,.func (.func 161) #[] #[]] V λe w'=>e=.returned (J.cR xs).val/\Below V V w'
 QU:ok.bI 189=true/\ok.bI 160=true/\ok.fn 161=true
theorem me.mono {J:Jb}{P0:Program}{p:Ph}{ok:Ctx}{Ro qk:Nat->Prop}{abV ai:World}(h:me J P0 p ok Ro abV)(hr:∀b,Ro b->qk b)(hk:aO Ro abV ai):me J P0 p ok qk ai:=
 ⟨h.prog,h.ty,h.tk,h.wd,h.n4,h.Vq,h.res,acn h.base hk.size,(hk.block _ h.X4).trans h.XD,(hk.block _ h.X5).trans h.XO,(hk.block _ h.QX).trans h.RE,hr _ h.X4,hr _ h.X5,hr _ h.QX,hr _ h.Zy,λi hi=>by rw[<-h.gt i hi];simp only[World.cell?,hk.block _ h.Zy],
  λi b hb=>hr _ (h.ZA i b hb),λi hi du ab4=>h.closed i hi du (hk.trans (ab4.mono hr)),h.Kg,h.Kh,λi hi F du ab4 τ d=>h.MZ i hi F du (hk.trans (ab4.mono hr)) τ d,h.ren,h.least,h.QU⟩
end
theorem lG {P:Program}(g o:Nat)(t:TypeId):∀(vs:List Value) (i:Nat) (cur:Array Value) (w:World) (es:Array Event),w.heap[g]?=some (.cells cur t (0,0))->o+i+vs.length<=cur.size->(∀v∈vs,v.oneCell'=true)->
  ∀ev∈(storeCells ⟨g,o,none⟩ vs i).events P w es,ev∈es\/∃j,i<=j/\j<i+vs.length/\ev=⟨.cell ⟨g,o+j,none⟩,true,false⟩
 |[],_,_,_,_,_,_,_=>λev h=>.inl (by simpa[storeCells]using h)
 |v::rest,i,cur,w,es,hg,hl,h1=>λev h=>by
  have hi:o+i<cur.size:=by simp at hl;omega
  have VW:(⟨g,o,none⟩:Addr).add i=⟨g,o+i,none⟩:=by unfold Addr.add;split<;>simp_all
  have hcell:w.cell? ⟨g,o+i,none⟩=some cur[o+i]:=by simp[World.cell?,hg,hi]
  have Ww:w.frozen? ⟨g,o+i,none⟩=false:=by simp[World.frozen?,hg]
  have dJ:(store ((⟨g,o,none⟩:Addr).add i) v).run P w=.ok () (w.setRow g (cur.setIfInBounds (o+i) v)):=by
   rw[VW,run_store P w _ v _ (h1 v aH),hcell];simp[Ww,setCell_eq_setRow w g (o+i) cur t (0,0) v hg]
  have lW:(store ((⟨g,o,none⟩:Addr).add i) v).events P w es=es.push ⟨.cell ⟨g,o+i,none⟩,true,false⟩:=by
   rw[VW,events_store P w es _ v _ (h1 v aH),hcell];simp only[Ww,Bool.false_eq_true,if_false];rfl
  simp only[storeCells,Sem.events_bind,dJ,Result.evThen_ok,lW]at h;rcases lG g o t rest (i+1) (cur.setIfInBounds (o+i) v) _ _ (setRow_heap w g cur _ t _ hg) (by simp at hl⊢;omega) (λx hx=>h1 x (by simp[hx])) ev h with h|⟨j,h2,h3,h4⟩
  .rcases Array.mem_push.1 h with h|h
   .exact .inl h
   .exact .inr ⟨i,ack _,aH,h⟩
  .exact .inr ⟨j,ab,cC,h4⟩
section
variable {a:Act}{o:Oper}{W:World}{g off:Nat}{cur:Array Value}{ty:TypeId}{t:aN}{x y:Operand}
theorem wW (bf:o.op=.store 177 x y)(ha:a.eval x=.pointer (some ⟨g,off,none⟩))(hy:a.eval y=t.val)(hg:W.heap[g]?=some (.cells cur ty (0,0)))(hl:off+4<=cur.size):
  (execOp a.eval o).run Tryz.prog W=.ok .skip (W.setRow g (cur.toList.take off++t.cells++cur.toList.drop (off+4)).toArray):=by
 have h:=run_storeCells_at (P:=Tryz.prog) g off ty t.cells 0 cur W hg (by simpa[aN.cells]using hl) (by simp[aN.cells,Value.oneCell']);rw[Nat.add_zero]at h;obtain⟨cs,h1,h2,h3⟩:∃cs,t.val=.agg cs/\cs.size=4/\cs.toList=t.cells:=⟨_,rfl,rfl,rfl⟩;unfold execOp;simp only[bf,ha,hy,h1];go_simp
 simp[aN.cells]
theorem yK (bf:o.op=.store 177 x y)(ha:a.eval x=.pointer (some ⟨g,off,none⟩))(hy:a.eval y=t.val)(hg:W.heap[g]?=some (.cells cur ty (0,0)))(hl:off+4<=cur.size):
  ∀e∈(execOp a.eval o).events Tryz.prog W #[],∃j,j<4/\e=⟨.cell ⟨g,off+j,none⟩,true,false⟩:=by
 intro e he;have h:=lG (P:=Tryz.prog) g off ty t.cells 0 cur W #[] hg (by simpa[aN.cells]using hl) (by simp[aN.cells,Value.oneCell']) e;obtain⟨cs,h1,h2,h3⟩:∃cs,t.val=.agg cs/\cs.size=4/\cs.toList=t.cells:=⟨_,rfl,rfl,rfl⟩;rw[<-h3]at h;unfold execOp at he;simp only[bf,ha,hy,h1]at he;simp[go_sem,h2]at he;rcases h he with x|⟨j,_,h5,h6⟩
 .simp at x
 .exact⟨j,by simpa[h2]using h5,h6⟩
theorem ft (bf:o.op=.store 177 x y)(ha:a.eval x=.pointer g)(hy:a.eval y=t.val)(hg:W.heap[g]?=some (.cells cur ty (0,0)))(hl:cur.size=4):
  (execOp a.eval o).run Tryz.prog W=.ok .skip (W.setRow g t.cells.toArray)/\∀e∈(execOp a.eval o).events Tryz.prog W #[],∃j,e=⟨.cell ⟨g,j,none⟩,true,false⟩:=by
 refine⟨?_,λe he=>?_⟩
 .rw[wW bf ha hy hg ab];have:cur.toList.drop (0+4)=[]:=cC;rw[this];simp
 .obtain⟨j,_,h⟩:=yK bf ha hy hg ab e he;exact⟨_,h⟩
theorem wV (bf:o.op=.load 177 x)(ha:a.eval x=.pointer g)(hg:W.heap[g]?=some (.cells t.cells.toArray ty (0,0))):(execOp a.eval o).run Tryz.prog W=.ok (.value t.val) W:=by
 have c0:W.cell? g=some (.bool t.ok):=BM;have c1:W.cell? ⟨g,1,none⟩=some (.int .i64 t.sum):=BM;have c2:W.cell? ⟨g,2,none⟩=some (.int .i64 t.most):=BM;have c3:W.cell? ⟨g,3,none⟩=some (.slice t.a t.n t.cap):=BM;unfold execOp;simp only[bf,ha,aN.val];go_simp
theorem yJ (bf:o.op=.load 177 x)(ha:a.eval x=.pointer g)(hg:W.heap[g]?=some (.cells t.cells.toArray ty (0,0))):∀e∈(execOp a.eval o).events Tryz.prog W #[],∃j,e=⟨.cell ⟨g,j,none⟩,false,false⟩:=by
 intro e he;have c0:W.cell? g=some (.bool t.ok):=BM;have c1:W.cell? ⟨g,1,none⟩=some (.int .i64 t.sum):=BM;have c2:W.cell? ⟨g,2,none⟩=some (.int .i64 t.most):=BM;have c3:W.cell? ⟨g,3,none⟩=some (.slice t.a t.n t.cap):=BM;unfold execOp at he;simp only[bf,ha]at he;simp[go_sem,c0,c1,c2,c3]at he;rcases he with rfl|rfl|rfl|rfl<;>exact⟨_,rfl⟩
end
noncomputable def bot:Frame:={(default:Frame)with fn:=Tryz.prog.funcs.size,defers:=[],mode:=.panicking [goexitEntry]}
noncomputable def zN:Code:=Tryz.f156.body.getD .skip
noncomputable def iB:Array Oper:=(mD 1 zN).getD #[]
noncomputable def vB:Code:=Tryz.f158.body.getD .skip
noncomputable def jI:Code:=(jJ vB).getD .skip
noncomputable def gN:Array Oper:=(mD 5 vB).getD #[]
def call47 (J:Jb)(Wg bi:Nat):Deferred:={target:=.fn (.func 156) #[.pointer Wg,.pointer J.bl,.pointer J.bn,.pointer J.tb,.pointer J.bb,.pointer bi],args:=#[]}
theorem HJ (J:Jb)(Wg bi:Nat)(w:World):stepG Tryz.prog false (born Tryz.prog (call47 J Wg bi)) w=
  .go (G ((baseD 156).at ⟨#[.pointer Wg,.pointer J.bl,.pointer J.bn,.pointer J.tb,.pointer J.bb,.pointer bi,undef,undef,undef,undef,undef,undef],[]⟩ [.code zN]) [bot]) w #[]:=by
 simp[born,call47,stepG,unwind,callDeferred,invoke,callFunc,Tryz.func156,Tryz.f156,seen,GStep.after,G,Frame.enter,Frame.at,baseD,bot,zN]
theorem I1 (T:Array Value)(todo:List Item):QuitsD Tryz.prog 2 0 (G {(baseD 156).at ⟨T,[]⟩ todo with mode:=.returning} [bot]):=by
 refine QuitsD.ctl (g':=G bot []) rfl (λw=>?_) ?_
 .simp[G,stepG,unwind,doReturn,results,Frame.at,baseD,bot,Tryz.func156,Tryz.f156,seen,GStep.after,goexitEntry]
 refine QuitsD.ctl (g':={G bot []with status:=.finished}) rfl (λw=>?_) ⟨rfl,rfl⟩;simp[G,stepG,unwind,bot,goexitEntry,Frame.catches];rfl
theorem Mh {cs:Array Value}{vs:List Value}{off o:Nat}(h4:vs.length=4)(h:off+4<=cs.size):
  (cs.toList.take off++vs++cs.toList.drop (off+4)).toArray[o]?=if off<=o/\o<off+4 then vs[o-off]? else cs[o]?:=by
 have hl:(cs.toList.take off).length=off:=cC;rw[List.getElem?_toArray,List.append_assoc];by_cases h1:o<off
 .rw[acx ab,if_neg ab,List.getElem?_take_of_lt h1];simp
 .rw[acy ab,hl];by_cases h2:o<off+4
  .rw[acx ab,if_pos ⟨ab,h2⟩]
  .rw[acy ab,if_neg ab,h4,List.getElem?_drop];simp only[Array.getElem?_toList];congr 1;omega
theorem ff {w:World}{b:Nat}{v:Value}{e:TypeId}{z:Nat×Nat}(h:w.heap[b]?=some (.cells #[v] e z)):w.cell? b=some v:=d_
section
variable [Gl]{J:Jb}{P0:Program}{p:Ph}{ok:Ctx}{Ro:Nat->Prop}{abV:World}{k bi:Nat}
noncomputable def VB (J:Jb)(Wg bi:Nat)(v6 v7 v8 v9 v10 v11:Value)(rest:List Nat):Frame:=
 (baseD 156).at ⟨#[.pointer Wg,.pointer J.bl,.pointer J.bn,.pointer J.tb,.pointer J.bb,.pointer bi,v6,v7,v8,v9,v10,v11],[dcall 157 #[.pointer Wg]]⟩ [.inRegion iB rest]
omit [Gl] in
theorem vf:∀l0 l1 l2 l3 l4 l5:Bool,Region.ready .any iB #[l0,l1,l2,l3,l4,l5,false]≠[]/\
  (Region.ready .any iB #[l0,l1,l2,l3,l4,l5,false]).all (λi=>(i==0&&!l0)||(i==1&&!l1)||(i==2&&!l2)||(i==3&&!l3)||(i==4&&!l4&&l2&&l3)||(i==5&&!l5&&l0&&l1)||(i==6&&l4&&l5))=true:=by
 decide +kernel
theorem NZ (hJ:me J P0 p ok Ro abV)(SX:k<4)(tA:Ro bi)(VV:p.Wg≠p.Bs){x:aN}{seq:List Nat}(hb:vn J seq x){l:Array Bool}{rest:List Nat}(ho:JZ .any iB l rest):
  ∀(l0 l1 l5:Bool) (v6 v7 v8 v9 v11:Value) (M:Nat->Prop) (W:World) (C:Nat) (u:Value),l=#[l0,l1,true,true,true,l5,false]->(l0=true->v6=.slice (some ⟨p.Bs,0,none⟩) 4 4)->(l1=true->v7=.int .i64 k)->(l5=true->v11=.pointer (some ⟨p.Bs,k*4,none⟩))->
   aO Ro abV W->W.heap[bi]?=some (.cells #[.int .i64 k] 3 (0,0))->M C->W.cell? ⟨C,0,none⟩=some u->iH W (λb=>M b/\b≠C) x->(∀b,p.Sp b->¬M b)->(∀b,M b->J.base<=b)->(l5=true->l0=true/\l1=true)->
   ET p.P false p.I Ph.mU Ro (p.yu k seq) M (G (VB J p.Wg bi v6 v7 v8 v9 x.val v11 rest) [bot]) W:=by
 induction ho with
 |nil h=>rintro l0 l1 l5 v6 v7 v8 v9 v11 M W C u rfl;exact absurd h (vf _ _ _ _ _ _).1
 |@cons l i rest hi hr ih=>
  rintro l0 l1 l5 v6 v7 v8 v9 v11 M W C u rfl h6 h7 Ac hK hI hC hu hx hM vb h5;have hc:=List.all_eq_true.1 (vf l0 l1 true true true l5).2 i hi;simp only[Bool.not_true,Bool.and_false,Bool.or_false,Bool.and_true,Bool.or_eq_true,Bool.and_eq_true,beq_iff_eq,Bool.not_eq_true']at hc;rcases hc with(((⟨rfl,rfl⟩|⟨rfl,rfl⟩)|hc)|⟨rfl,hc⟩)
  .obtain⟨o,ho,bf,hd,hg⟩:∃o,iB[0]?=some o/\o.op=.load 211 (.tmp 4)/\o.dst=some 6/\o.guard=none:=⟨_,rfl,rfl,rfl,rfl⟩;refine ET.val (.slice p.Bs 4 4) ho kD (by k_ne) (λai ab3 _=>?_) ?_
   .have hb:=(ff ((ab3.block _ (.inr hJ.QX)).trans ((hK.block _ hJ.QX).trans hJ.RE)));rw[hJ.prog];unfold execOp;refine⟨?_,λe he=>?_⟩
    .simp only[bf];go_simp
     done
    .simp[go_sem,bf,hb]at he;subst he;exact vR hJ.QX
   .rw[hd];walk_nrm
    exact ih true l1 l5 _ _ _ _ _ _ _ _ _ aH (λ_=>rfl) h7 Ac hK hI hC hu hx hM vb (λe=>⟨rfl,(h5 e).2⟩)
  .obtain⟨o,ho,bf,hd,hg⟩:∃o,iB[1]?=some o/\o.op=.load 3 (.tmp 5)/\o.dst=some 7/\o.guard=none:=⟨_,rfl,rfl,rfl,rfl⟩;refine ET.val (.int .i64 k) ho kD (by k_ne) (λai ab3 _=>?_) ?_
   .have hb:=ff ((ab3.block _ (.inr tA)).trans hI);rw[hJ.prog];unfold execOp;refine⟨?_,λe he=>?_⟩
    .simp only[bf];go_simp
    .simp[go_sem,bf,hb]at he;subst he;exact vR tA
   .rw[hd];walk_nrm
    exact ih l0 true l5 _ _ _ _ _ _ _ _ _ aH h6 (λ_=>rfl) Ac hK hI hC hu hx hM vb (λe=>⟨(h5 e).1,rfl⟩)
  .obtain⟨⟨⟨rfl,rfl⟩,rfl⟩,rfl⟩:=hc;obtain⟨o,ho,bf,hd,hg⟩:∃o,iB[5]?=some o/\o.op=.indexAddr 211 (.tmp 6) (.tmp 7)/\o.dst=some 11/\o.guard=none:=⟨_,rfl,rfl,rfl,rfl⟩;refine ET.val (.pointer (some ⟨p.Bs,k*4,none⟩)) ho kD (by k_ne) (λai ab3 _=>?_) ?_
   .rw[hJ.prog,h6 rfl,h7 rfl];unfold execOp;refine⟨?_,λe he=>?_⟩
    .simp only[bf];go_simp
     intro h;omega
    .have hu:=Tryz.underlying211;simp only[bf]at he;simp[go_sem]at he;rw[events_indexAt_slice _ _ _ _ _ _ (by go_simp) ab]at he;simp at he
   .rw[hd];walk_nrm
    exact ih true true true _ _ _ _ _ _ _ _ _ aH h6 h7 (λ_=>rfl) hK hI hC hu hx hM vb (λ_=>⟨rfl,rfl⟩)
  .obtain⟨o,ho,bf,hd,hg⟩:∃o,iB[6]?=some o/\o.op=.store 177 (.tmp 11) (.tmp 10)/\o.dst=none/\o.guard=none:=⟨_,rfl,rfl,rfl,rfl⟩;subst hc;refine ET.stop λai ab3 hW=>⟨rfl,λ⟨cs,hcs⟩=>?_⟩
   have iZ:k*4+4<=cs.size:=by rw[hcs.2,hJ.n4,hJ.wd];omega
   have hy:Act.eval ⟨#[.pointer p.Wg,.pointer J.bl,.pointer J.bn,.pointer J.tb,.pointer J.bb,.pointer bi,v6,v7,v8,v9,x.val,v11],[dcall 157 #[.pointer p.Wg]]⟩ (.tmp 10)=x.val:=rfl;have ha:Act.eval ⟨#[.pointer p.Wg,.pointer J.bl,.pointer J.bn,.pointer J.tb,.pointer J.bb,.pointer bi,v6,v7,v8,v9,x.val,v11],[dcall 157 #[.pointer p.Wg]]⟩ (.tmp 11)=.pointer (some ⟨p.Bs,k*4,none⟩):=Ac rfl;have dW:=wW bf ha hy hcs.1 iZ;have lW:=yK bf ha hy hcs.1 iZ;rw[<-hJ.prog]at dW lW;refine⟨_,_,_,x.cells,stepG_none ho kD (by k_ne) dW,?_,λe he=>?_,?_⟩
   .refine⟨setRow_size _ _ _,rfl,rfl,rfl,λb hb=>setRow_other _ _ _ _ hb,by rw[hJ.wd];rfl,λcs' K9=>?_⟩;obtain rfl:cs=cs':=by have:=hcs.1.symm.trans K9.1;simpa using this
    refine⟨_,⟨setRow_heap _ _ _ _ _ _ hcs.1,?_⟩,λo'=>?_⟩
    .rw[<-hcs.2];simp[aN.cells];omega
    .rw[Mh rfl iZ,hJ.wd,Nat.add_mul,Nat.one_mul]
   .obtain⟨j,hj,rfl⟩:=lW e (mem_listed he);refine⟨rfl,_,rfl,rfl,?_,?_⟩<;>rw[hJ.wd]<;>simp<;>omega
   .have XA:iH (ai.setRow p.Bs (cs.toList.take (k*4)++x.cells++cs.toList.drop (k*4+4)).toArray) (λb=>M b/\b≠C) x:=hx.keep (λ_ h=>h) λa ha=>by
     obtain⟨_,⟨h2,_⟩,_⟩:=hx.blk a ha;rw[setRow_other _ _ _ _ (λe=>hM _ (.inr (.inr e)) h2)];exact ab3.block _ (.inl h2)
    refine⟨λb=>M b/\b≠C,C,4,u,26,by rw[hJ.res];exact⟨x,rfl,hb,XA,λb cZ=>vb b cZ.1⟩,λb h=>h.1,hC,λh=>h.2 rfl,?_⟩;have Xy:Go.ConcN.Has C 0 u (ai.setRow p.Bs (cs.toList.take (k*4)++x.cells++cs.toList.drop (k*4+4)).toArray):=by
     show World.cell? _ _=_;rw[cell_setRow_other _ _ _ _ (λe=>hM _ (.inr (.inr e)) hC)];rw[<-hu];simp only[World.cell?,ab3.block C (.inl hC)]
    obtain⟨st,sm,hw⟩:=hW.1;have ug:Go.ConcN.WgLive p.ty p.Wg (ai.setRow p.Bs (cs.toList.take (k*4)++x.cells++cs.toList.drop (k*4+4)).toArray):=⟨st,sm,hw.of_block (setRow_other _ _ _ _ VV)⟩;obtain⟨e0,e1⟩:=h5 rfl;subst e0 e1;have S6:rest=[]:=by
     generalize hL:(#[true,true,true,true,true,true,false]:Array Bool).setIfInBounds 6 true=L at hr;have e:L=#[true,true,true,true,true,true,true]:=by rw[<-hL];simp
     subst e;cases hr with
     |nil=>rfl
     |cons h _=>exact absurd h (by rw[show Region.ready .any iB #[true,true,true,true,true,true,true]=[] from Kr];simp)
    subst S6;letI:Go.ConcR.Payload:=p.pl
    have hK':=And.intro ug Xy;generalize ai.setRow p.Bs (cs.toList.take (k*4)++x.cells++cs.toList.drop (k*4+4)).toArray=du at hK'⊢;rw[hd,hJ.prog];rw[hJ.ty]at hK'⊢;walk_nrm
    u_c stepG_region_end Go.ConcN.Gen.kn_rely hK'
    u_c stepG_end Go.ConcN.Gen.kn_rely hK'
    u_in Go.ConcN.Gen.kn_rely hK'
    rw[stepG_unwind_enter rfl Tryz.func157 (nm_done link) rfl];simp only[goes_go];refine⟨by u_nil,?_⟩;walk_nrmf Tryz.f157
    have hA:=@Go.ConcN.Gen.doneN p.pl link Tryz.prog zF (λ_ _=>False) (λ_ _=>False) p.Wg C 4 0 1 u;simp only[body_done,doneFn,Option.getD_some]at hA;exact hA rfl (I1 _ _) _ hK'
end
theorem IM {S:Nat->Prop}{w:World}{a:Addr}{v:Value}(h:¬S a.block):aO S w (w.setCell a v):=
 ⟨λb hb=>Below.heap_setCell w a v b (λe=>h (e▸hb)),Nat.le_of_eq (aside_setCell w a v).size.symm,rfl,rfl⟩
theorem EG (w:World)(es:Array Event):(Instr.build 177 #[]).events Tryz.prog w es=es:=bR
section
variable [Gl]{J:Jb}{P0:Program}{p:Ph}{ok:Ctx}{Ro:Nat->Prop}{abV:World}{Stop:(Nat->Prop)->Goroutine->World->Prop}{cs:List Frame}{k r6 b7:Nat}
structure LS (p:Ph)(Ro:Nat->Prop)(abV:World)(r6 b7:Nat)(x:aN)(M:Nat->Prop)(W:World):Prop where
 m6:M r6
 m7:M b7
 ne:r6≠b7
 c6:∃c:Array Value,W.heap[r6]?=some (.cells c 177 (0,0))/\c.size=4
 c7:W.heap[b7]?=some (.cells x.cells.toArray 177 (0,0))
 held:iH W (λb=>M b/\b≠r6/\b≠b7) x
 keep:aO Ro abV W
 sp:∀b,p.Sp b\/Ro b->¬M b/\b<W
 FN:∀b,p.Sp b->¬Ro b
 lt:∀b,M b->b<W
 gl:Gl.n<=W
 nw:∀b,M b->abV.heap.size<=b
theorem LS.rely {x:aN}{M:Nat->Prop}{W ai:World}(h:LS p Ro abV r6 b7 x M W)(k:aO (λb=>M b\/Ro b) W ai):LS p Ro abV r6 b7 x M ai:=by
 refine⟨h.m6,h.m7,h.ne,?_,(k.block _ (.inl h.m7)).trans h.c7,h.held.keep (λ_ x=>x) (λa ha=>k.block _ (.inl (h.held.blk a ha).2.1.1)),h.keep.trans (k.mono λ_ x=>.inr x),λb hb=>⟨(h.sp b hb).1,acl (h.sp b hb).2 k.size⟩,h.FN,λb hb=>acl (h.lt b hb) k.size,acn h.gl k.size,h.nw⟩;obtain⟨c,h1,h2⟩:=h.c6;exact⟨c,(k.block _ (.inl h.m6)).trans h1,h2⟩
theorem LS.tk {x:aN}{M:Nat->Prop}{W:World}(h:LS p Ro abV r6 b7 x M W)(v:Value):aO (λb=>M b\/Ro b) W (W.setCell p.tk v):=
 IM λe=>e.elim (h.sp _ (.inl (.inr (.inl rfl)))).1 (h.FN _ (.inr (.inl rfl)))
theorem Oi (hJ:me J P0 p ok Ro abV)(M:Nat->Prop)(W:World)(hk:aO Ro abV W)(Bh:∀b,p.Sp b\/Ro b->¬M b/\b<W)(Cn:∀b,p.Sp b->¬Ro b)(aI:∀b,M b->b<W)(DR:Gl.n<=W)(vb:∀b,M b->abV.heap.size<=b)
  (hL:∀(r6 b7:Nat) (v3 v4 v5 v8 v9 v10 v11 v12 v13 v14 v15 v16 v17 v18 v19 v20 v21 v22 v23 v24 v25 v26:Value) (M':Nat->Prop) (W':World),LS p Ro abV r6 b7 dQ M' W'->ET p.P false p.I Ph.mU Ro Stop M' (G ((base 158).at ⟨#[J.iQ,.slice (some ⟨J.nb,J.no,none⟩) p.L J.nc,.pointer J.tb,v3,v4,v5,.pointer r6,.pointer b7,v8,v9,v10,v11,v12,v13,v14,v15,v16,v17,v18,v19,v20,v21,v22,v23,v24,v25,v26],[]⟩ [.code jI,.inLoop jI,.inBlock 0]) cs) W'):
  ET p.P false p.I Ph.mU Ro Stop M (G ((base 158).at ⟨#[J.iQ,.slice (some ⟨J.nb,J.no,none⟩) p.L J.nc,.pointer J.tb,undef,undef,undef,undef,undef,undef,undef,undef,undef,undef,undef,undef,undef,undef,undef,undef,undef,undef,undef,undef,undef,undef,undef,undef],[]⟩ [.code vB]) cs) W:=by
 simp only[vB,Tryz.f158,Option.getD_some];apply ET.sr;refine ET.oper rfl rfl (by k_ne) λai ab3 _=>⟨.pointer (some ⟨ai.heap.size,0,none⟩),ai.alloc (.cells #[false,.int .i64 0,.int .i64 0,()] 177),?_,?_,?_⟩
 .rw[hJ.prog];go_simp
 .rw[hJ.prog];refine ez.alloc _ λe he=>?_
  have hm:=mem_listed he;simp[go_sem]at hm
 walk_nrm
 apply ET.ns;refine ET.val dQ.val rfl rfl (by k_ne) (λdu _ _=>?_) ?_
 .rw[hJ.prog];refine⟨?_,λe he=>?_⟩
  .go_simp
   first|(rw[run_build du 177 #[] dQ.cells.toArray bR];rfl)|rfl
  .first|(simp[go_sem]at he;done)|(simp[go_sem]at he;rw[EG]at he;simp at he)
 walk_nrm
 refine ET.oper rfl rfl (by k_ne) λdu ab4 _=>⟨.pointer (some ⟨du.heap.size,0,none⟩),du.alloc (.cells #[false,.int .i64 0,.int .i64 0,()] 177),?_,?_,?_⟩
 .rw[hJ.prog];go_simp
 .rw[hJ.prog];refine ez.alloc _ λe he=>?_
  have hm:=mem_listed he;simp[go_sem]at hm
 walk_nrm
 have z0:∀(w:World) (o:Obj),(w.alloc o).heap.size=w.heap.size+1:=λw o=>by show(w.heap.push o).size=_;simp
 have z1:=ab3.size;have z2:=ab4.size;rw[z0]at z2;have OC:grow M ai (ai.alloc (.cells #[false,.int .i64 0,.int .i64 0,()] 177)) ai.heap.size:=.inr ⟨ack _,by rw[z0];omega⟩;refine ET.none rfl rfl (by k_ne) λdq dx _=>?_
 have z3:=dx.size;rw[z0]at z3;have h7:dq.heap[du.heap.size]?=some (.cells #[false,.int .i64 0,.int .i64 0,()] 177 (0,0)):=(dx.block _ (.inl (.inr ⟨ack _,by rw[z0];omega⟩))).trans (heap_alloc_new _ _);have G_:grow (grow M ai (ai.alloc (.cells #[false,.int .i64 0,.int .i64 0,()] 177))) du (du.alloc (.cells #[false,.int .i64 0,.int .i64 0,()] 177)) du.heap.size:=.inr ⟨ack _,by rw[z0];omega⟩;refine⟨dq.setRow du.heap.size dQ.cells.toArray,by rw[hJ.prog];exact(ft rfl rfl rfl h7 rfl).1,?_,?_⟩
 .rw[hJ.prog];refine ez.row _ G_ λe he=>?_
  obtain⟨j,rfl⟩:=(ft (t:=dQ) rfl rfl rfl h7 rfl).2 e (mem_listed he);exact ge G_
 rw[cD (setRow_size _ _ _)];walk_nrm
 apply ET.rn;refine ET.c (λ_=>stepG_block) ?_;refine ET.c (λ_=>stepG_loop) ?_;refine hL ai.heap.size du.heap.size _ _ _ _ _ _ _ _ _ _ _ _ _ _ _ _ _ _ _ _ _ _ _ _ ⟨.inl OC,G_,ab,?_,setRow_heap _ _ _ _ _ _ h7,⟨.inl rfl,acp _,λa ha=>(by cases ha),λa ha=>(by cases ha)⟩,?_,λb hb=>?_,Cn,λb hb=>?_,?_,λb hb=>?_⟩
 .refine⟨_,(setRow_other _ _ _ _ ab).trans ((dx.block _ (.inl (.inl OC))).trans ((Below.heap_alloc _ _ _ ab).trans ((ab4.block _ (.inl OC)).trans (heap_alloc_new _ _)))),rfl⟩
 .refine⟨λb hb=>?_,by rw[setRow_size];have:=hk.size;omega,dx.os.trans (ab4.os.trans (ab3.os.trans hk.os)),dx.out.trans (ab4.out.trans (ab3.out.trans hk.out))⟩;have cZ:=Bh b (.inr hb);rw[setRow_other _ _ _ _ ab,dx.block _ (.inr hb),Below.heap_alloc _ _ _ ab,ab4.block _ (.inr hb),Below.heap_alloc _ _ _ ab,ab3.block _ (.inr hb)];exact hk.block b hb
 .have cZ:=Bh b hb;rw[setRow_size];refine⟨λx=>?_,ab⟩;rcases x with(x|⟨x,_⟩)|⟨x,_⟩
  .exact cZ.1 x
  .omega
  .omega
 .rw[setRow_size];rcases hb with(x|⟨_,x⟩)|⟨_,x⟩
  .have:=aI b x;omega
  .rw[z0]at x;omega
  .rw[z0]at x;omega
 .rw[setRow_size];omega
 .have:=hk.size;rcases hb with(x|⟨x,_⟩)|⟨x,_⟩
  .exact vb b x
  .omega
  .omega
end
end
section
open Conc Conc.Lib ConcR.Gen RowKit
open ConcR (rd wr)
theorem Ge:(Tryz.f230.name== "runtime.NumGoroutine")=false:=bR
theorem Gc:Tryz.f230.body.isNone=true:=bR
theorem Gf:Extern.findNext Tryz.f230=none:=bR
theorem Gd:Extern.find Tryz.f230=some (Extern.Atomic.update (Op.intArith .add) .i64 true):=bR
theorem Tv:(Tryz.f188.name== "runtime.NumGoroutine")=false:=bR
section
variable [Gl]{J:Jb}{P0:Program}{p:Ph}{ok:Ctx}{Ro:Nat->Prop}{abV:World}{c0:Frame}{cs:List Frame}{r6 b7:Nat}
theorem Na (hJ:me J P0 p ok Ro abV)(hL:p.L<4611686018427387904)(v3 v4 v5 v8 v9 v10 v11 v12 v13 v14 v15 v16 v17 v18 v19 v20 v21 v22 v23 v24 v25 v26:Value):
  ∃(g1:Goroutine) (g2:Nat->Goroutine),(∀(Stop:(Nat->Prop)->Goroutine->World->Prop) M W,ET Tryz.prog false p.I Ph.mU Ro Stop M g1 W->ET Tryz.prog false p.I Ph.mU Ro Stop M (G ((base 158).at ⟨#[J.iQ,.slice (some ⟨J.nb,J.no,none⟩) p.L J.nc,.pointer J.tb,v3,v4,v5,.pointer r6,.pointer b7,v8,v9,v10,v11,v12,v13,v14,v15,v16,v17,v18,v19,v20,v21,v22,v23,v24,v25,v26],[]⟩ [.code jI,.inLoop jI,.inBlock 0]) (c0::cs)) W)/\
   (g1.status=.running/\∀W x,x<4611686018427387904->p.jp W x->stepG Tryz.prog false g1 W=.go (g2 x) (W.setCell p.tk (.int .i64 (x+1))) #[rd p.tk,wr p.tk])/\
   (∀(Stop:(Nat->Prop)->Goroutine->World->Prop) M W x,x<p.L->(∀v3 v4 v5 v8 v9 v10 v11 v12 v13 v14 v15 v16 v17 v18 v19 v20 v21 v22 v23 v24 v25 v26:Value,ET Tryz.prog false p.I Ph.mU Ro Stop M (G ((base 158).at ⟨#[J.iQ,.slice (some ⟨J.nb,J.no,none⟩) p.L J.nc,.pointer (some ⟨J.tb,0,none⟩),v3,v4,v5,.pointer (some ⟨r6,0,none⟩),.pointer (some ⟨b7,0,none⟩),.int .i64 x,v9,v10,v11,v12,v13,v14,v15,v16,v17,v18,v19,v20,v21,v22,v23,v24,v25,v26],[]⟩ [.code (.region 5 gN true),.inBlock 1,.inLoop jI,.inBlock 0]) (c0::cs)) W)->ET Tryz.prog false p.I Ph.mU Ro Stop M (g2 x) W)/\
   (∀(Stop:(Nat->Prop)->Goroutine->World->Prop) M W x xt,p.L<=x->x<4611686018427387904->LS p Ro abV r6 b7 xt M W->(∀W',LS p Ro abV r6 b7 xt M W'->W'.cell? r6=some (.bool xt.ok)->ET Tryz.prog false p.I Ph.mU Ro Stop M (G (c0.finish xt.val) cs) W')->ET Tryz.prog false p.I Ph.mU Ro Stop M (g2 x) W):=by
 refine⟨?g1,?g2,?A,⟨?B0,?B⟩,?C,?D⟩
 case A=>
  intro Stop M W h;simp only[jI,vB,Tryz.f158,Option.getD_some,jJ,Option.or_some,Option.or_none,Option.none_or];refine ET.c (λ_=>stepG_block) ?_;apply ET.sr
  (refine ET.o rfl rfl (λ_ K hK=>?_);go_simp;refine hK _ _ rfl ?_;clear hK K;try w_num)
  (refine ET.k rfl (λ_ _ _=>goes_call rfl rfl (by k_ne) rfl Tryz.func188 Tv rfl ⟨⟨rfl,λe he=>(by simp at he)⟩,?_⟩);walk_nrmf Tryz.f188)
  apply ET.sr
  (refine ET.o rfl rfl (λ_ K hK=>?_);go_simp;refine hK _ _ rfl ?_;clear hK K;try w_num)
  apply ET.ns
  iterate 4 (refine ET.o rfl rfl (λ_ K hK=>?_);go_simp;refine hK _ _ rfl ?_;clear hK K;try w_num)
  exact h
 case B0=>rfl
 case B=>
  intro W x hx ht;have hw:IntKind.i64.wrap ((x:Int)+1)=x+1:=gH;have h1:=ht.1;have h2:=ht.2;rw[hJ.tk]at h1 h2⊢;refine(stepG_add_atomic rfl rfl (by k_ne) rfl Tryz.func230 Ge Gc Gf .i64 Gd rfl rfl h1 h2).trans ?_;rw[hw];rfl
 case C=>
  intro Stop M W x hx h;have hw:IntKind.i64.wrap ((x:Int)+1-1)=x:=gH;have hw':IntKind.i64.wrap (x:Int)=x:=gH;have hd:decide ((p.L:Int)<=x)=false:=decide_eq_false ab;have dB:¬((p.L:Int)<=x):=ab;walk_nrm
  (refine ET.o rfl rfl (λ_ K hK=>?_);go_simp;refine hK _ _ rfl ?_;clear hK K;try w_num)
  apply ET.rn;apply ET.rt
  (refine ET.k rfl (λ_ _ _=>goes_leave1 rfl rfl Tryz.func188 rfl ⟨⟨rfl,λe he=>(by simp at he)⟩,?_⟩);walk_nrm)
  iterate 2 (refine ET.o rfl rfl (λ_ K hK=>?_);go_simp;refine hK _ _ rfl ?_;clear hK K;try w_num)
  apply ET.rn;apply ET.sq;apply ET.sr
  iterate 4 (refine ET.o rfl rfl (λ_ K hK=>?_);go_simp;refine hK _ _ rfl ?_;clear hK K;try w_num)
  apply ET.rn;refine ET.gp rfl ?_;apply ET.sk;exact h _ _ _ undef _ _ _ _ _ _ _ _ _ _ _ _ _ _ _ _ _ _
 case D=>
  intro Stop M W x xt hx Zs n8 h;have hw:IntKind.i64.wrap ((x:Int)+1-1)=x:=gH;have hw':IntKind.i64.wrap (x:Int)=x:=gH;have hd:decide ((p.L:Int)<=x)=true:=decide_eq_true ab;have dB:(p.L:Int)<=x:=ab;walk_nrm
  (refine ET.o rfl rfl (λ_ K hK=>?_);go_simp;refine hK _ _ rfl ?_;clear hK K;try w_num)
  apply ET.rn;apply ET.rt
  (refine ET.k rfl (λ_ _ _=>goes_leave1 rfl rfl Tryz.func188 rfl ⟨⟨rfl,λe he=>(by simp at he)⟩,?_⟩);walk_nrm)
  iterate 2 (refine ET.o rfl rfl (λ_ K hK=>?_);go_simp;refine hK _ _ rfl ?_;clear hK K;try w_num)
  apply ET.rn;apply ET.sq;apply ET.sr
  iterate 4 (refine ET.o rfl rfl (λ_ K hK=>?_);go_simp;refine hK _ _ rfl ?_;clear hK K;try w_num)
  apply ET.rn;refine ET.kH rfl ?_;apply ET.sr;refine ET.val xt.val rfl rfl (by k_ne) (λai ab3 _=>?_) ?_
  .have cK:=n8.rely ab3;refine⟨wV rfl rfl cK.c7,λe he=>?_⟩;obtain⟨j,rfl⟩:=yJ (t:=xt) rfl rfl cK.c7 e he;exact ge n8.m7
  walk_nrm
  refine ET.none rfl rfl (by k_ne) λai ab3 _=>?_
  have cK:=n8.rely ab3;obtain⟨c,We,hcs⟩:=cK.c6;refine⟨ai.setRow r6 xt.cells.toArray,(ft rfl rfl rfl We hcs).1,?_,?_⟩
  .refine ez.row _ n8.m6 λe he=>?_
   obtain⟨j,rfl⟩:=(ft (t:=xt) rfl rfl rfl We hcs).2 e (mem_listed he);exact ge n8.m6
  rw[cD (setRow_size _ _ _)];have Qv:LS p Ro abV r6 b7 xt M (ai.setRow r6 xt.cells.toArray):=by
   have ho:∀b,b≠r6->(ai.setRow r6 xt.cells.toArray).heap[b]?=ai.heap[b]?:=λb hb=>setRow_other _ _ _ _ hb
   refine⟨cK.m6,cK.m7,cK.ne,⟨_,setRow_heap _ _ _ _ _ _ We,rfl⟩,(ho _ (Ne.symm cK.ne)).trans cK.c7,cK.held.keep (λ_ x=>x) (λa ha=>ho _ (cK.held.blk a ha).2.1.2.1),⟨λb hb=>(ho b (λe=>(cK.sp b (.inr hb)).1 (e▸cK.m6))).trans (cK.keep.block b hb),by rw[setRow_size];exact cK.keep.size,cK.keep.os,cK.keep.out⟩,λb hb=>by rw[setRow_size];exact cK.sp b hb,cK.FN,λb hb=>by rw[setRow_size];exact cK.lt b hb,by rw[setRow_size];exact cK.gl,cK.nw⟩
  have h6:(ai.setRow r6 xt.cells.toArray).heap[r6]?=some (.cells xt.cells.toArray 177 (0,0)):=setRow_heap _ _ _ _ _ _ We;generalize ai.setRow r6 xt.cells.toArray=du at Qv h6⊢;clear cK We hcs ab3;walk_nrm
  apply ET.rn;apply ET.rt;refine ET.AE xt.val rfl rfl Tryz.func158 (λdq dx _=>?_) (h du Qv (by simp[World.cell?,h6,aN.cells]));have YO:=(dx.block _ (.inl n8.m6)).trans h6;have c0:dq.cell? r6=some (.bool xt.ok):=BL;have c1:dq.cell? ⟨r6,1,none⟩=some (.int .i64 xt.sum):=BL;have c2:dq.cell? ⟨r6,2,none⟩=some (.int .i64 xt.most):=BL;have c3:dq.cell? ⟨r6,3,none⟩=some (.slice xt.a xt.n xt.cap):=BL;refine⟨?_,λe he=>?_⟩
  .simp[results,Tryz.f158,go_sem,aN.val,c0,c1,c2,c3]
  .simp[results,Tryz.f158,go_sem,c0,c1,c2,c3]at he;rcases he with rfl|rfl|rfl|rfl<;>exact ge n8.m6
end
end
section
open Conc Conc.Lib ConcR.Gen RowKit
theorem Hc:∀l0 l1 l2 l3 l4 l5 l6:Bool,((!l6||(l1&&l5))&&(!l5||l4)&&(!l4||(l2&&l3)))=true->Region.ready .any gN #[l0,l1,l2,l3,l4,l5,l6,false,false,false]≠[]/\
  (Region.ready .any gN #[l0,l1,l2,l3,l4,l5,l6,false,false,false]).all (λi=>(i==0&&!l0)||(i==1&&!l1)||(i==2&&!l2)||(i==3&&!l3)||(i==4&&!l4&&l2&&l3)||(i==5&&!l5&&l4)||(i==6&&!l6&&l1&&l5)||(i==7&&l0&&l6))=true:=by
 decide +kernel
section
variable [Gl]{ok:Ctx}{σ:Ren}
theorem xp {x:aN}{v':Value}(h:ar ok σ x.val v'):∃a',v'=aN.val {x with a:=a'}/\(x.a=none<->a'=none)/\∀a,x.a=some a->∃d,a'=some d/\dC σ a d:=by
 unfold aN.val at h;generalize hx:Value.agg #[.bool x.ok,.int .i64 x.sum,.int .i64 x.most,.slice x.a x.n x.cap]=v at h;cases h<;>cases hx
 rename_i xs' hs hv;obtain⟨l⟩:=xs';obtain⟨y0,y1,y2,y3,rfl⟩:∃y0 y1 y2 y3,l=[y0,y1,y2,y3]:=by
  rcases l with _|⟨y0,_|⟨y1,_|⟨y2,_|⟨y3,_|⟨y4,l⟩⟩⟩⟩⟩<;>simp at hs
  exact⟨_,_,_,_,rfl⟩
 have h0:=hv 0 _ y0 rfl rfl;have h1:=hv 1 _ y1 rfl rfl;have h2:=hv 2 _ y2 rfl rfl;have h3:=hv 3 _ y3 rfl rfl;cases h0;cases h1;cases h2;generalize Tj:x.a=xa at h3;cases h3 with
 |dg=>exact⟨none,by simp[aN.val],aH,λa ha=>by cases ha⟩
 |@slice a a' _ _ ha=>exact⟨some a',by simp[aN.val],aH,λa ha'=>by cases ha';exact⟨_,rfl,ha⟩⟩
theorem Iw {V' W':World}{M':Nat->Prop}{x:aN}{a':Option Addr}(hw:bJ ok false σ V' W')(hx:iH V' (λ_=>True) x)(hn:x.a=none<->a'=none)(ha:∀a,x.a=some a->∃d,a'=some d/\dC σ a d)(hM:∀a d,x.a=some a->σ a.block=some d->M' d):iH W' M' {x with a:=a'}:=by
 have key:∀a d,x.a=some a->a'=some d->dC σ a d->∃cs cs' e,V'.heap[a.block]?=some (.cells cs e (0,0))/\W'.heap[d.block]?=some (.cells cs' e (0,0))/\aA ok σ cs cs'/\∀v∈cs,∃n:Int,v=.int .i64 n:=by
  intro a d h1 h2 h3;obtain⟨_,_,cs,e,h4,h5⟩:=hx.blk a h1;obtain⟨o,o',g1,g2,g3⟩:=hw.heap _ _ h3.blk;rw[h4]at g1;cases g1;cases g3 with
  |cells hv hz=>
   rcases hz with hz|⟨hz,_⟩
   .exact⟨cs,_,e,h4,by rw[g2,hz];rfl,hv,h5⟩
   .cases hz
 refine⟨?_,hx.small,λd hd=>?_,λd hd=>?_⟩
 .rcases hx.row with e|⟨b,off,e,hr⟩
  .exact .inl e
  .obtain⟨d,h1,h2⟩:=ha _ e;obtain⟨cs,cs',e',h3,h4,h5,h6⟩:=key _ d e h1 h2;refine .inr ⟨d.block,off,?_,λi hi=>?_⟩
   .obtain⟨db,dof,ds⟩:=d;have o1:=h2.off;have o2:=h2.spot;simp only at o1 o2;subst o1 o2;exact h1
   .have hc:=hr i hi;simp only[World.cell?,h3]at hc;obtain⟨v',g1,g2⟩:=h5.get hc;cases g2;simp only[World.cell?,h4];exact g1
 .replace hd:a'=some d:=hd;have h0:x.a≠none:=λe=>by have:=hn.1 e;rw[hd]at this;cases this
  obtain⟨a,h1⟩:=Option.ne_none_iff_exists'.1 h0;obtain⟨d',h2,h3⟩:=ha a h1;rw[hd]at h2;cases h2;obtain⟨cs,cs',e',h4,h5,h6,h7⟩:=key a d h1 hd h3;refine⟨by rw[h3.spot];exact(hx.blk a h1).1,hM a _ h1 h3.blk,cs',e',h5,λv hv=>?_⟩;obtain⟨j,hj⟩:=Array.mem_iff_getElem?.1 hv;have aI:j<cs.size:=by rw[h6.size];exact(acm.1 hj).1
  have hj':cs[j]?=some cs[j]:=acs aI;obtain⟨n,Cg⟩:=h7 cs[j] (Array.getElem_mem aI);have:=h6.at_ j _ _ hj' hj;rw[Cg]at this;cases this;exact⟨n,rfl⟩
 .replace hd:a'=some d:=hd;have h0:x.a≠none:=λe=>by have:=hn.1 e;rw[hd]at this;cases this
  obtain⟨a,h1⟩:=Option.ne_none_iff_exists'.1 h0;obtain⟨d',h2,h3⟩:=ha a h1;rw[hd]at h2;cases h2;obtain⟨f1,g_,f2,f3⟩:=hx.full a h1;obtain⟨cs,cs',e',h4,h5,h6,h7⟩:=key a d h1 hd h3;rw[f2]at h4;simp only[Option.some.injEq,Obj.cells.injEq]at h4;obtain⟨e1,e2,_⟩:=h4;subst e1 e2;exact⟨by rw[h3.off];exact f1,cs',h5,by rw[<-h6.size];exact f3⟩
end
theorem qY {F:Nat->Prop}{W:World}{a:Option Addr}{n:Nat}{g:Nat->Int}{τ:Nat->Question->Nat}{d:Nat}(h:dX W a n g):dX (re (fc F W) τ d) a n g:=by
 rcases h with h|⟨b,off,e,hr⟩
 .exact .inl h
 .exact .inr ⟨b,off,e,λi hi=>(qG F W _).trans (hr i hi)⟩
def bC (l1 l2 l3 l4 l5 l6:Bool):Bool:=(!l6||(l1&&l5))&&(!l5||l4)&&(!l4||(l2&&l3))
theorem bm1:∀l2 l3 l4 l5 l6:Bool,bC false l2 l3 l4 l5 l6=true->bC true l2 l3 l4 l5 l6=true:=bK
theorem bm2:∀l1 l3 l4 l5 l6:Bool,bC l1 false l3 l4 l5 l6=true->bC l1 true l3 l4 l5 l6=true:=bK
theorem bm3:∀l1 l2 l4 l5 l6:Bool,bC l1 l2 false l4 l5 l6=true->bC l1 l2 true l4 l5 l6=true:=bK
theorem bm4:∀l1 l5 l6:Bool,bC l1 true true false l5 l6=true->bC l1 true true true l5 l6=true:=bK
theorem bm5:∀l1 l2 l3 l6:Bool,bC l1 l2 l3 true false l6=true->bC l1 l2 l3 true true l6=true:=bK
theorem bm6:∀l2 l3 l4:Bool,bC true l2 l3 l4 true false=true->l2=true/\l3=true/\l4=true:=bK
theorem bm7:∀l1 l2 l3 l4 l5:Bool,bC l1 l2 l3 l4 l5 true=true->l1=true/\l2=true/\l3=true/\l4=true/\l5=true:=bK
section
variable [Gl]{J:Jb}{P0:Program}{p:Ph}{ok:Ctx}{c:Frame}{Ro:Nat->Prop}{abV:World}{Stop:(Nat->Prop)->Goroutine->World->Prop}{cs:List Frame}{r6 b7 i:Nat}
theorem LS.XU {x:aN}{M:Nat->Prop}{W:World}(h:LS p Ro abV r6 b7 x M W):xD (λb=>p.Sp b\/Ro b) M W:=⟨λb hb=>(h.sp b hb).1,λb hb=>(h.sp b hb).2⟩
theorem LS.alloc {x:aN}{M:Nat->Prop}{W:World}(h:LS p Ro abV r6 b7 x M W)(o:Obj):LS p Ro abV r6 b7 x (grow M W (W.alloc o)) (W.alloc o):=by
 have z:(W.alloc o).heap.size=W.heap.size+1:=by show(W.heap.push o).size=_;simp
 have hb:∀b,b<W.heap.size->(W.alloc o).heap[b]?=W.heap[b]?:=λb hb=>Below.heap_alloc _ _ _ hb
 obtain⟨c,c1,c2⟩:=h.c6;refine⟨.inl h.m6,.inl h.m7,h.ne,⟨c,(hb _ (h.lt _ h.m6)).trans c1,c2⟩,(hb _ (h.lt _ h.m7)).trans h.c7,h.held.keep (λb x=>⟨.inl x.1,x.2⟩) (λa ha=>hb _ (h.lt _ (h.held.blk a ha).2.1.1)),⟨λb x=>(hb b (h.sp b (.inr x)).2).trans (h.keep.block b x),by rw[z];have:=h.keep.size;omega,h.keep.os,h.keep.out⟩,λb x=>⟨λy=>y.elim (h.sp b x).1 λy=>by have:=(h.sp b x).2;omega,by rw[z];have:=(h.sp b x).2;omega⟩,h.FN,λb x=>x.elim (λy=>by rw[z];have:=h.lt b y;omega) And.right,by rw[z];have:=h.gl;omega,λb x=>x.elim (h.nw b) λy=>acn h.keep.size y.1⟩
omit [Gl] in
theorem CC:Gg (λb=>p.Sp b\/Ro b) p.I:=λw w' h hi=>p.O0 w w' (λb hb=>h b (.inl hb)) hi
theorem OZ (hJ:me J P0 p ok Ro abV)(eh:dE P0 P0 ok)(hP:dE P0 Tryz.prog ok)(gY:∀f,ok.fn f=true->ok.bI f=true)(xH:jl P0 c){x y:aN}
  (hK:∀(v3 v4 v5 v9 v10 v11 v12 v13 v14 v15 v16 v17 v18 v19 v20 v21 v22 v23 v24 v25 v26:Value) (M:Nat->Prop) (W:World),LS p Ro abV r6 b7 (J.pick x y) M W->ET Tryz.prog false p.I Ph.mU Ro Stop M (G ((base 158).at ⟨#[J.iQ,.slice (some ⟨J.nb,J.no,none⟩) p.L J.nc,.pointer (some ⟨J.tb,0,none⟩),v3,v4,v5,.pointer (some ⟨r6,0,none⟩),.pointer (some ⟨b7,0,none⟩),.int .i64 i,v9,v10,v11,v12,v13,v14,v15,v16,v17,v18,v19,v20,v21,v22,v23,v24,v25,v26],[]⟩ [.inBlock 1,.inLoop jI,.inBlock 0]) cs) W)
  (v3 v4 v5 v9 v10 v11 v12 v13 v14 v15 v16 v17 v19 v20 v21 v22 v23 v25 v26:Value)(M:Nat->Prop)(W:World)(hy:iH W (λb=>M b/\b≠r6/\b≠b7) y)(n8:LS p Ro abV r6 b7 x M W):
  ET Tryz.prog false p.I Ph.mU Ro Stop M (G ((base 158).at ⟨#[J.iQ,.slice (some ⟨J.nb,J.no,none⟩) p.L J.nc,.pointer (some ⟨J.tb,0,none⟩),v3,v4,v5,.pointer (some ⟨r6,0,none⟩),.pointer (some ⟨b7,0,none⟩),.int .i64 i,v9,v10,v11,v12,v13,v14,v15,v16,v17,x.val,v19,v20,v21,v22,v23,y.val,v25,v26],[]⟩ (.inRegion gN [7,8,9]::[.inBlock 1,.inLoop jI,.inBlock 0])) cs) W:=by
 obtain⟨o,ho,bf,hd,hg⟩:∃o,gN[7]?=some o/\o.op=.buildSlice 211 2 #[(0,.tmp 18),(1,.tmp 24)]/\o.dst=some 25/\o.guard=none:=⟨_,rfl,rfl,rfl,rfl⟩;refine ET.oper ho kD (by k_ne) λai ab3 _=>⟨.slice (some ⟨ai.heap.size,0,none⟩) 2 2,ai.alloc (.cells (x.cells++y.cells).toArray 177),?_,?_,?_⟩
 .unfold execOp;simp only[bf];walk_nrm
  simp only[aN.val,aN.cells];go_simp
 .refine ez.alloc _ λe he=>?_
  have hm:=mem_listed he;unfold execOp at hm;simp only[bf]at hm;simp only[Act.eval,List.map_toArray,List.map_cons,List.map_nil,Array.getD_eq_getD_getElem?,List.getElem?_toArray,List.getElem?_cons_succ,List.getElem?_cons_zero,Option.getD_some,aN.val]at hm;simp[go_sem]at hm
 rw[hd];walk_nrm
 have qM:=n8.rely ab3;have Ly:iH ai (λb=>M b/\b≠r6/\b≠b7) y:=hy.keep (λ_ h=>h) λa ha=>ab3.block _ (.inl (hy.blk a ha).2.1.1)
 clear n8 hy ab3 ho bf hd hg o;have qN:=qM.alloc (.cells (x.cells++y.cells).toArray 177);have oq:∀b,b<ai.heap.size->(ai.alloc (.cells (x.cells++y.cells).toArray 177)).heap[b]?=ai.heap[b]?:=λb hb=>Below.heap_alloc _ _ _ hb
 have qq:iH (ai.alloc (.cells (x.cells++y.cells).toArray 177)) (λb=>grow M ai (ai.alloc (.cells (x.cells++y.cells).toArray 177)) b/\b≠r6/\b≠b7) y:=Ly.keep (λb h=>⟨.inl h.1,h.2⟩) λa ha=>oq _ (qM.lt _ (Ly.blk a ha).2.1.1)
 have uh:=qN.held;have hN:(ai.alloc (.cells (x.cells++y.cells).toArray 177)).heap[ai.heap.size]?=some (.cells (x.cells++y.cells).toArray 177 (0,0)):=heap_alloc_new _ _;have Uv:grow M ai (ai.alloc (.cells (x.cells++y.cells).toArray 177)) ai.heap.size:=.inr ⟨ack _,by show _<(ai.heap.push _).size;simp⟩;have n6:r6≠ai.heap.size:=λe=>by have:=qM.lt _ qM.m6;omega
 have n7:b7≠ai.heap.size:=λe=>by have:=qM.lt _ qM.m7;omega
 generalize ai.alloc (.cells (x.cells++y.cells).toArray 177)=du at qN qq uh hN Uv⊢;generalize grow M ai du=oD at qN qq uh Uv⊢;generalize ai.heap.size=N at hN Uv n6 n7⊢;clear oq qM Ly;obtain⟨o,ho,bf,hd,hg⟩:∃o,gN[8]?=some o/\o.op=.call {callee:=.value (.func 160),args:=#[.tmp 25,.func 161],argTypes:=#[211,216]}/\o.dst=some 26/\o.guard=none:=⟨_,rfl,rfl,rfl,rfl⟩;have Y2:∀a,x.a=some a->(λb=>b=N\/(∃a,x.a=some a/\a.block=b)\/∃a,y.a=some a/\a.block=b) a.block:=λa ha=>.inr (.inl ⟨a,ha,rfl⟩)
 have hSy:∀a,y.a=some a->(λb=>b=N\/(∃a,x.a=some a/\a.block=b)\/∃a,y.a=some a/\a.block=b) a.block:=λa ha=>.inr (.inr ⟨a,ha,rfl⟩)
 have UQ:∀(z:aN),(∀a,z.a=some a->(λb=>b=N\/(∃a,x.a=some a/\a.block=b)\/∃a,y.a=some a/\a.block=b) a.block)->∀v∈z.cells,ar ok (qW (λb=>b=N\/(∃a,x.a=some a/\a.block=b)\/∃a,y.a=some a/\a.block=b)) v v:=by
  intro z hz v hv;simp only[aN.cells,List.mem_cons,List.not_mem_nil,or_false]at hv;rcases hv with rfl|rfl|rfl|rfl
  .exact .bool _
  .exact .int _ _
  .exact .int _ _
  .cases hza:z.a with
   |none=>exact .dg _ _
   |some a=>exact .slice _ _ ⟨fD.2 ⟨hz a hza,rfl⟩,rfl,rfl⟩
 refine ET.Ew eh hP gY xH ho kD (by k_ne) bf Tryz.func160 bR rfl hJ.QU.2.1 CC (λb hb=>.inr hb) qN.XU qN.lt qN.gl (λb=>b=N\/(∃a,x.a=some a/\a.block=b)\/∃a,y.a=some a/\a.block=b)
  (λdq v w=>v=(J.pick x y).val/\∀b,b<dq.heap.size->w.heap[b]?=(fc Ro dq).heap[b]?) (λW v w τ d h=>h) ?_ ?_ ?_ ?_ ?_
 .rintro b (rfl|⟨a,ha,rfl⟩|⟨a,ha,rfl⟩)
  .exact .inl Uv
  .exact .inl (uh.blk a ha).2.1.1
  .exact .inl (qq.blk a ha).2.1.1
 .intro dq dx;refine⟨?_⟩;rintro b (rfl|⟨a,ha,rfl⟩|⟨a,ha,rfl⟩)
  .refine⟨_,_,(dx.block _ (.inl Uv)).trans hN,λv hv=>?_⟩;simp only[List.mem_toArray,List.mem_append]at hv;exact hv.elim (UQ x Y2 v) (UQ y hSy v)
  .obtain⟨_,h2,cs,e,h3,h4⟩:=uh.blk a ha;exact⟨cs,e,(dx.block _ (.inl h2.1)).trans h3,λv hv=>by obtain⟨n,rfl⟩:=h4 v hv;exact .int _ _⟩
  .obtain⟨_,h2,cs,e,h3,h4⟩:=qq.blk a ha;exact⟨cs,e,(dx.block _ (.inl h2.1)).trans h3,λv hv=>by obtain⟨n,rfl⟩:=h4 v hv;exact .int _ _⟩
 .intro v hv;simp[Act.eval]at hv;rcases hv with rfl|rfl
  .exact .slice _ _ ⟨fD.2 ⟨.inl rfl,rfl⟩,rfl,rfl⟩
  .exact .func (.func hJ.QU.2.2) rfl (λi x x' h=>by simp at h) rfl (λi x x' h=>by simp at h)
 .intro dq dx _ τ d;walk_nrm
  obtain⟨z',h1,_⟩:=fP (F:=Ro) ((dx.block _ (.inl Uv)).trans hN);refine(hJ.least (re (fc Ro dq) τ d) N [x,y] z' aH h1 ?_).mono ?_
  .intro z hz;simp only[List.mem_cons,List.not_mem_nil,or_false]at hz;rcases hz with rfl|rfl
   .exact⟨qY (uh.keep (M':=λ_=>True) (λ_ _=>trivial) λa ha=>dx.block _ (.inl (uh.blk a ha).2.1.1)).row,uh.small⟩
   .exact⟨qY (qq.keep (M':=λ_=>True) (λ_ _=>trivial) λa ha=>dx.block _ (.inl (qq.blk a ha).2.1.1)).row,qq.small⟩
  .rintro e w' ⟨rfl,hb⟩;exact⟨_,rfl,rfl,λb cZ=>hb.block b (by show b<(fc Ro dq).heap.size;rw[iY];exact cZ)⟩
 .intro dq v' M' W' dx aaE i' hB;have ir:=qN.rely dx;have Lz:iH dq (λb=>oD b/\b≠r6/\b≠b7) y:=qq.keep (λ_ h=>h) λa ha=>dx.block _ (.inl (qq.blk a ha).2.1.1)
  obtain⟨σ,v,V',hv,⟨rfl,V0⟩,hw,hS,se,Ld⟩:=hB.res;obtain⟨a',rfl,hn,ha⟩:=xp hv;have hpS:∀a,(J.pick x y).a=some a->(λb=>b=N\/(∃a,x.a=some a/\a.block=b)\/∃a,y.a=some a/\a.block=b) a.block:=by
   rcases J.pk x y with e|e<;>rw[e]<;>assumption
  have ea:a'=(J.pick x y).a:=by
   cases e:(J.pick x y).a with
   |none=>exact hn.1 e
   |some a=>
    obtain⟨d,h1,h2⟩:=ha a e;have h3:=h2.blk;rw[hS _ (hpS a e)]at h3;simp only[Option.some.injEq]at h3;rw[h1];obtain⟨d1,d2,d3⟩:=d;have h4:=h2.off;have h5:=h2.spot;obtain⟨a1,a2,a3⟩:=a;simp only at h3 h4 h5;rw[h3,h4,h5]
  have ev:aN.val {J.pick x y with a:=a'}=(J.pick x y).val:=by rw[ea]
  rw[ev];have same:∀b cs e,oD b->σ b=some b->dq.heap[b]?=some (.cells cs e (0,0))->(∀v∈cs,∃n:Int,v=.int .i64 n)->W'.heap[b]?=dq.heap[b]?:=by
   intro b cs e hm hs h3 h4;obtain⟨o,o',g1,g2,g3⟩:=hw.heap _ _ hs;obtain⟨z',f1,_⟩:=fP (F:=Ro) h3;rw[V0 b (ir.lt b hm),f1]at g1;cases g1;cases g3 with
   |@cells _ c' _ _ z'' hv hz=>
    replace hz:=hz.resolve_right (λh=>by cases h.1);have:c'=cs:=by
     refine Array.ext hv.size.symm λj h1 h2=>?_
     obtain⟨n,Cg⟩:=h4 cs[j] (Array.getElem_mem h2);have:=hv.at_ j _ _ (acs h2) (acs h1);rw[Cg]at this⊢;generalize c'[j]=w at this;cases this;rfl
    rw[g2,h3,this,hz];rfl
  have GJ:∀b,oD b->b≠N->W'.heap[b]?=dq.heap[b]?:=by
   intro b hb hne;by_cases hs:(λb=>b=N\/(∃a,x.a=some a/\a.block=b)\/∃a,y.a=some a/\a.block=b) b
   .have lZ:=hS b hs;rcases hs with e|⟨a,ha,rfl⟩|⟨a,ha,rfl⟩
    .exact absurd e hne
    .obtain⟨_,_,cs,e,h3,h4⟩:=ir.held.blk a ha;exact same _ cs e hb lZ h3 h4
    .obtain⟨_,_,cs,e,h3,h4⟩:=Lz.blk a ha;exact same _ cs e hb lZ h3 h4
   .exact hB.rest.block b ⟨hb,hs⟩
  have nx:∀a,x.a=some a->a.block≠N:=λa ha e=>by
   obtain⟨_,_,cs,e',h3,h4⟩:=uh.blk a ha;rw[e,hN]at h3;cases h3;obtain⟨n,hn⟩:=h4 (.bool x.ok) (by simp[aN.cells]);cases hn
  have ny:∀a,y.a=some a->a.block≠N:=λa ha e=>by
   obtain⟨_,_,cs,e',h3,h4⟩:=qq.blk a ha;rw[e,hN]at h3;cases h3;obtain⟨n,hn⟩:=h4 (.bool x.ok) (by simp[aN.cells]);cases hn
  have iZ:dq.heap.size<=W':=hB.ro.size;have Ix:LS p Ro abV r6 b7 x M' W':=by
   obtain⟨c,c1,c2⟩:=ir.c6;refine⟨hB.own _ ir.m6,hB.own _ ir.m7,ir.ne,⟨c,(GJ _ ir.m6 n6).trans c1,c2⟩,(GJ _ ir.m7 n7).trans ir.c7,ir.held.keep (λb hb=>⟨hB.own _ hb.1,hb.2⟩) (λa ha=>GJ _ (ir.held.blk a ha).2.1.1 (nx a ha)),ir.keep.trans hB.ro,λb hb=>⟨λhm=>?_,acl (ir.sp b hb).2 iZ⟩,ir.FN,hB.lt,acn ir.gl iZ,λb hm=>(hB.new b hm).elim (ir.nw b) λy=>acn ir.keep.size y⟩;rcases hB.new b hm with hm|hm
   .exact(ir.sp b hb).1 hm
   .have:=(ir.sp b hb).2;omega
  have E8:iH W' (λb=>M' b/\b≠r6/\b≠b7) y:=Lz.keep (λb hb=>⟨hB.own _ hb.1,hb.2⟩) (λa ha=>GJ _ (Lz.blk a ha).2.1.1 (ny a ha));have Ns:iH W' (λb=>M' b/\b≠r6/\b≠b7) (J.pick x y):=by
   rcases J.pk x y with e|e
   .rw[e];exact Ix.held
   .rw[e];exact E8
  rw[hd];walk_nrm
  clear GJ same hw hS se Ld hv hn ha ea ev V0 hpS;obtain⟨o',Lj,qR,La,rV⟩:∃o,gN[9]?=some o/\o.op=.store 177 (.tmp 7) (.tmp 26)/\o.dst=none/\o.guard=none:=⟨_,rfl,rfl,rfl,rfl⟩;refine ET.none Lj (by simp[Region.wanted,rV]) (by k_ne) λqe jS _=>?_
  have gq:=Ix.rely jS;have QF:iH qe (λb=>M' b/\b≠r6/\b≠b7) (J.pick x y):=Ns.keep (λ_ h=>h) λa ha=>jS.block _ (.inl (Ns.blk a ha).2.1.1)
  refine⟨qe.setRow b7 (J.pick x y).cells.toArray,(ft qR rfl rfl gq.c7 rfl).1,?_,?_⟩
  .refine ez.row _ gq.m7 λe he=>?_
   obtain⟨j,rfl⟩:=(ft (t:=J.pick x y) qR rfl rfl gq.c7 rfl).2 e (mem_listed he);exact ge gq.m7
  rw[cD (setRow_size _ _ _),La];walk_nrm
  apply ET.rn;have V8:∀b,b≠b7->(qe.setRow b7 (J.pick x y).cells.toArray).heap[b]?=qe.heap[b]?:=λb hb=>setRow_other _ _ _ _ hb
  obtain⟨c,c1,c2⟩:=gq.c6;exact hK _ _ _ _ _ _ _ _ _ _ _ _ _ _ _ _ _ _ _ _ _ _ _ ⟨gq.m6,gq.m7,gq.ne,⟨c,(V8 _ gq.ne).trans c1,c2⟩,setRow_heap _ _ _ _ _ _ gq.c7,QF.keep (λ_ h=>h) (λa ha=>V8 _ (QF.blk a ha).2.1.2.2),⟨λb hb=>(V8 b (λe=>(gq.sp b (.inr hb)).1 (e▸gq.m7))).trans (gq.keep.block b hb),by rw[setRow_size];exact gq.keep.size,gq.keep.os,gq.keep.out⟩,λb hb=>by rw[setRow_size];exact gq.sp b hb,gq.FN,λb hb=>by rw[setRow_size];exact gq.lt b hb,by rw[setRow_size];exact gq.gl,gq.nw⟩
theorem PK (hJ:me J P0 p ok Ro abV)(eh:dE P0 P0 ok)(hP:dE P0 Tryz.prog ok)(gY:∀f,ok.fn f=true->ok.bI f=true)(xH:jl P0 c)(hi:i<p.L){x:aN}
  (hK:∀(v3 v4 v5 v9 v10 v11 v12 v13 v14 v15 v16 v17 v18 v19 v20 v21 v22 v23 v24 v25 v26:Value) (y:aN) (M:Nat->Prop) (W:World),J.Is i y->LS p Ro abV r6 b7 (J.pick x y) M W->ET Tryz.prog false p.I Ph.mU Ro Stop M (G ((base 158).at ⟨#[J.iQ,.slice (some ⟨J.nb,J.no,none⟩) p.L J.nc,.pointer (some ⟨J.tb,0,none⟩),v3,v4,v5,.pointer (some ⟨r6,0,none⟩),.pointer (some ⟨b7,0,none⟩),.int .i64 i,v9,v10,v11,v12,v13,v14,v15,v16,v17,v18,v19,v20,v21,v22,v23,v24,v25,v26],[]⟩ [.inBlock 1,.inLoop jI,.inBlock 0]) cs) W)
  {l:Array Bool}{rest:List Nat}(ho:JZ .any gN l rest):
  ∀(l0 l1 l2 l3 l4 l5 l6:Bool) (v3 v4 v5 v9 v10 v11 v12 v13 v14 v15 v16 v17 v18 v19 v20 v21 v22 v23 v24 v25 v26:Value) (M:Nat->Prop) (W:World),l=#[l0,l1,l2,l3,l4,l5,l6,false,false,false]->bC l1 l2 l3 l4 l5 l6=true->
   (l0=true->v18=x.val)->(l1=true->v19=J.iQ)->(l2=true->v20=.slice (some ⟨J.nb,J.no,none⟩) p.L J.nc)->(l3=true->v21=.int .i64 i)->(l4=true->v22=.pointer (some ⟨J.nb,J.no+i,none⟩))->(l5=true->v23=J.gB i)->
   (l6=true->∃y:aN,v24=y.val/\J.Is i y/\iH W (λb=>M b/\b≠r6/\b≠b7) y)->LS p Ro abV r6 b7 x M W->
   ET Tryz.prog false p.I Ph.mU Ro Stop M (G ((base 158).at ⟨#[J.iQ,.slice (some ⟨J.nb,J.no,none⟩) p.L J.nc,.pointer (some ⟨J.tb,0,none⟩),v3,v4,v5,.pointer (some ⟨r6,0,none⟩),.pointer (some ⟨b7,0,none⟩),.int .i64 i,v9,v10,v11,v12,v13,v14,v15,v16,v17,v18,v19,v20,v21,v22,v23,v24,v25,v26],[]⟩ (.inRegion gN rest::[.inBlock 1,.inLoop jI,.inBlock 0])) cs) W:=by
 induction ho with
 |nil h=>rintro l0 l1 l2 l3 l4 l5 l6 _ _ _ _ _ _ _ _ _ _ _ _ _ _ _ _ _ _ _ _ _ M W rfl hb;exact absurd h (Hc _ _ _ _ _ _ _ hb).1
 |@cons l q rest hq hr ih=>
  rintro l0 l1 l2 l3 l4 l5 l6 v3 v4 v5 v9 v10 v11 v12 v13 v14 v15 v16 v17 v18 v19 v20 v21 v22 v23 v24 v25 v26 M W rfl hb h0 h1 h2 h3 h4 h5 h6 n8;have hc:=List.all_eq_true.1 (Hc l0 l1 l2 l3 l4 l5 l6 hb).2 q hq;simp only[Bool.or_eq_true,Bool.and_eq_true,beq_iff_eq,Bool.not_eq_true']at hc;rcases hc with((((((⟨rfl,rfl⟩|⟨rfl,rfl⟩)|⟨rfl,rfl⟩)|⟨rfl,rfl⟩)|⟨⟨⟨rfl,rfl⟩,rfl⟩,rfl⟩)|⟨⟨rfl,rfl⟩,rfl⟩)|⟨⟨⟨rfl,rfl⟩,rfl⟩,rfl⟩)|⟨⟨rfl,rfl⟩,rfl⟩
  ·
   obtain⟨o,ho,bf,hd,hg⟩:∃o,gN[0]?=some o/\o.op=.load 177 (.tmp 7)/\o.dst=some 18/\o.guard=none:=⟨_,rfl,rfl,rfl,rfl⟩;refine ET.val x.val ho kD (by k_ne) (λai ab3 _=>?_) ?_
   .have cK:=n8.rely ab3;refine⟨wV bf rfl cK.c7,λe he=>?_⟩;obtain⟨j,rfl⟩:=yJ (t:=x) bf rfl cK.c7 e he;exact ge n8.m7
   .rw[hd];walk_nrm
    exact ih true l1 l2 l3 l4 l5 l6 _ _ _ _ _ _ _ _ _ _ _ _ _ _ _ _ _ _ _ _ _ _ _ aH hb (λ_=>rfl) h1 h2 h3 h4 h5 h6 n8
  .obtain⟨o,ho,bf,hd,hg⟩:∃o,gN[1]?=some o/\o.op=.move (.tmp 0)/\o.dst=some 19/\o.guard=none:=⟨_,rfl,rfl,rfl,rfl⟩;refine ET.val (J.iQ) ho kD (by k_ne) (λai ab3 _=>?_) ?_
   .unfold execOp;refine⟨?_,λe he=>?_⟩
    .simp only[bf];go_simp
    .simp[go_sem,bf]at he
   .rw[hd];walk_nrm
    exact ih l0 true l2 l3 l4 l5 l6 _ _ _ _ _ _ _ _ _ _ _ _ _ _ _ _ _ _ _ _ _ _ _ aH (bm1 _ _ _ _ _ hb) h0 (λ_=>rfl) h2 h3 h4 h5 h6 n8
  .obtain⟨o,ho,bf,hd,hg⟩:∃o,gN[2]?=some o/\o.op=.move (.tmp 1)/\o.dst=some 20/\o.guard=none:=⟨_,rfl,rfl,rfl,rfl⟩;refine ET.val (.slice (some ⟨J.nb,J.no,none⟩) p.L J.nc) ho kD (by k_ne) (λai ab3 _=>?_) ?_
   .unfold execOp;refine⟨?_,λe he=>?_⟩
    .simp only[bf];go_simp
    .simp[go_sem,bf]at he
   .rw[hd];walk_nrm
    exact ih l0 l1 true l3 l4 l5 l6 _ _ _ _ _ _ _ _ _ _ _ _ _ _ _ _ _ _ _ _ _ _ _ aH (bm2 _ _ _ _ _ hb) h0 h1 (λ_=>rfl) h3 h4 h5 h6 n8
  .obtain⟨o,ho,bf,hd,hg⟩:∃o,gN[3]?=some o/\o.op=.move (.tmp 8)/\o.dst=some 21/\o.guard=none:=⟨_,rfl,rfl,rfl,rfl⟩;refine ET.val (.int .i64 i) ho kD (by k_ne) (λai ab3 _=>?_) ?_
   .unfold execOp;refine⟨?_,λe he=>?_⟩
    .simp only[bf];go_simp
    .simp[go_sem,bf]at he
   .rw[hd];walk_nrm
    exact ih l0 l1 l2 true l4 l5 l6 _ _ _ _ _ _ _ _ _ _ _ _ _ _ _ _ _ _ _ _ _ _ _ aH (bm3 _ _ _ _ _ hb) h0 h1 h2 (λ_=>rfl) h4 h5 h6 n8
  .obtain⟨o,ho,bf,hd,hg⟩:∃o,gN[4]?=some o/\o.op=.indexAddr 179 (.tmp 20) (.tmp 21)/\o.dst=some 22/\o.guard=none:=⟨_,rfl,rfl,rfl,rfl⟩;obtain rfl:=h2 rfl;obtain rfl:=h3 rfl;refine ET.val (.pointer (some ⟨J.nb,J.no+i,none⟩)) ho kD (by k_ne) (λai ab3 _=>?_) ?_
   .have ox:(i:Int)<p.L:=by omega
    unfold execOp;refine⟨?_,λe he=>?_⟩
    .simp only[bf];go_simp
    .simp only[bf]at he;simp[go_sem]at he;rw[events_indexAt_slice _ _ _ _ _ _ (by go_simp) ab]at he;simp at he
   .rw[hd];walk_nrm
    exact ih l0 l1 true true true l5 l6 _ _ _ _ _ _ _ _ _ _ _ _ _ _ _ _ _ _ _ _ _ _ _ aH (bm4 _ _ _ hb) h0 h1 h2 h3 (λ_=>rfl) h5 h6 n8
  .obtain⟨o,ho,bf,hd,hg⟩:∃o,gN[5]?=some o/\o.op=.load 183 (.tmp 22)/\o.dst=some 23/\o.guard=none:=⟨_,rfl,rfl,rfl,rfl⟩;obtain rfl:=h4 rfl;refine ET.val (J.gB i) ho kD (by k_ne) (λai ab3 _=>?_) ?_
   .have hc:ai.cell? ⟨J.nb,J.no+i,none⟩=some (J.gB i):=by
     rw[<-hJ.gt i hi];simp only[World.cell?,(n8.rely ab3).keep.block _ hJ.Zy]
    unfold execOp;refine⟨?_,λe he=>?_⟩
    .simp only[bf];go_simp
    .simp[go_sem,bf,hc]at he;subst he;exact vR hJ.Zy
   .rw[hd];walk_nrm
    exact ih l0 l1 l2 l3 true true l6 _ _ _ _ _ _ _ _ _ _ _ _ _ _ _ _ _ _ _ _ _ _ _ aH (bm5 _ _ _ _ hb) h0 h1 h2 h3 h4 (λ_=>rfl) h6 n8
  ·
   obtain⟨o,ho,bf,hd,hg⟩:∃o,gN[6]?=some o/\o.op=.call {callee:=.value (.func 189),args:=#[.tmp 19,.tmp 23],argTypes:=#[23,183]}/\o.dst=some 24/\o.guard=none:=⟨_,rfl,rfl,rfl,rfl⟩;obtain rfl:=h1 rfl;obtain rfl:=h5 rfl;obtain⟨rfl,rfl,rfl⟩:=bm6 _ _ _ hb;refine ET.Ew eh hP gY xH ho kD (by k_ne) bf Tryz.func189 bR rfl hJ.QU.1 CC (λb hb=>.inr hb) n8.XU n8.lt n8.gl (J.S i)
    (λai v w=>∃y:aN,v=y.val/\J.Is i y/\iH w (λb=>ai.heap.size<=b) y) (λW v w τ d ⟨y,e1,e2,e3⟩=>⟨y,e1,e2,e3.keep (λ_ h=>h) (λ_ _=>rfl)⟩) (λb hb=>.inr (hJ.ZA i b hb)) (λai ab3=>hJ.closed i hi ai (n8.rely ab3).keep) ?_ ?_ ?_
   .intro v hv;simp[Act.eval]at hv;rcases hv with rfl|rfl
    .exact hJ.Kg i hi
    .exact hJ.Kh i hi
   .intro ai ab3 _ τ d;walk_nrm
    refine(hJ.MZ i hi Ro ai (n8.rely ab3).keep τ d).mono ?_;rintro e w' ⟨y,rfl,e2,e3⟩;exact⟨_,rfl,y,rfl,e2,e3⟩
   .intro ai v' M' W' ab3 pg i' hB;have cK:=n8.rely ab3;obtain⟨σ,v,V',hv,⟨y,rfl,hy,hh⟩,hw,hS,se,Ld⟩:=hB.res;obtain⟨a',rfl,hn,ha⟩:=xp hv;have Xo:∀b,M b->¬J.S i b:=λb hb hs=>(cK.sp b (.inr (hJ.ZA i b hs))).1 hb
    have GJ:∀b,M b->W'.heap[b]?=ai.heap[b]?:=λb hb=>hB.rest.block b ⟨hb,Xo b hb⟩
    have U_:∀a d,y.a=some a->σ a.block=some d->ai.heap.size<=d:=λa d h1 h2=>(se _ _ h2).elim (λe=>by
     have:=(hh.blk a h1).2.1;have:=(cK.sp _ (.inr (hJ.ZA i _ e.1))).2;omega) id
    have hM':∀a d,y.a=some a->σ a.block=some d->M' d/\d≠r6/\d≠b7:=λa d h1 h2=>by
     have hb:=U_ a d h1 h2;have l6:=cK.lt _ cK.m6;have l7:=cK.lt _ cK.m7;refine⟨(Ld _ _ h2).resolve_right λe=>?_,ab,ab⟩;have:=(cK.sp d (.inr e.1)).2;omega
    have hH:=Iw hw ⟨hh.row,hh.small,λa ha=>⟨(hh.blk a ha).1,trivial,(hh.blk a ha).2.2⟩,hh.full⟩ hn ha hM';have iZ:ai.heap.size<=W':=hB.ro.size;have Ix:LS p Ro abV r6 b7 x M' W':=by
     obtain⟨c,c1,c2⟩:=cK.c6;refine⟨hB.own _ cK.m6,hB.own _ cK.m7,cK.ne,⟨c,(GJ _ cK.m6).trans c1,c2⟩,(GJ _ cK.m7).trans cK.c7,cK.held.keep (λb hb=>⟨hB.own _ hb.1,hb.2⟩) (λa ha=>GJ _ (cK.held.blk a ha).2.1.1),cK.keep.trans hB.ro,λb hb=>⟨λhm=>?_,acl (cK.sp b hb).2 iZ⟩,cK.FN,hB.lt,acn cK.gl iZ,λb hm=>(hB.new b hm).elim (cK.nw b) λy=>acn cK.keep.size y⟩;rcases hB.new b hm with hm|hm
     .exact(cK.sp b hb).1 hm
     .have:=(cK.sp b hb).2;omega
    rw[hd];walk_nrm
    exact ih l0 true true true true true true _ _ _ _ _ _ _ _ _ _ _ _ _ _ _ _ _ _ _ _ _ _ _ aH rfl h0 h1 h2 h3 h4 h5 (λ_=>⟨_,rfl,hJ.ren i y a' hy hn,hH⟩) Ix
  .obtain⟨rfl,rfl,rfl,rfl,rfl⟩:=bm7 _ _ _ _ _ hb;obtain⟨y,rfl,hy,hh⟩:=h6 rfl;obtain rfl:=h0 rfl;obtain rfl:rest=[8,9]:=by
    have e1:(#[true,true,true,true,true,true,true,false,false,false]:Array Bool).setIfInBounds 7 true=#[true,true,true,true,true,true,true,true,false,false]:=aH;rw[e1]at hr;clear ih hK;generalize hL:(#[true,true,true,true,true,true,true,true,false,false]:Array Bool)=L at hr;cases hr with
    |nil h=>subst hL;exact absurd h Kr
    |@cons _ q1 r1 qi qj=>
     subst hL;rw[show Region.ready .any gN #[true,true,true,true,true,true,true,true,false,false]=[8] from by decide +kernel]at qi;obtain rfl:=List.mem_singleton.1 qi;have e2:(#[true,true,true,true,true,true,true,true,false,false]:Array Bool).setIfInBounds 8 true=#[true,true,true,true,true,true,true,true,true,false]:=aH;rw[e2]at qj;generalize hL:(#[true,true,true,true,true,true,true,true,true,false]:Array Bool)=L at qj;cases qj with
     |nil h=>subst hL;exact absurd h Kr
     |@cons _ q2 r2 VF UM=>
      subst hL;rw[show Region.ready .any gN #[true,true,true,true,true,true,true,true,true,false]=[9] from by decide +kernel]at VF;obtain rfl:=List.mem_singleton.1 VF;have e3:(#[true,true,true,true,true,true,true,true,true,false]:Array Bool).setIfInBounds 9 true=#[true,true,true,true,true,true,true,true,true,true]:=aH;rw[e3]at UM;generalize hL:(#[true,true,true,true,true,true,true,true,true,true]:Array Bool)=L at UM;cases UM with
      |nil h=>rfl
      |@cons _ q3 r3 YN Xj=>
       subst hL;exact absurd YN (by rw[show Region.ready .any gN #[true,true,true,true,true,true,true,true,true,true]=[] from by decide +kernel];simp)
   exact OZ hJ eh hP gY xH (λa0 a1 a2 a3 a4 a5 a6 a7 a8 a9 Yy Z3 a12 Z4 Z5 Z6 Z7 a17 Z8 Z9 a20 M W h=>hK a0 a1 a2 a3 a4 a5 a6 a7 a8 a9 Yy Z3 a12 Z4 Z5 Z6 Z7 a17 Z8 Z9 a20 y M W hy h) _ _ _ _ _ _ _ _ _ _ _ _ _ _ _ _ _ _ _ _ _ hh n8
end
theorem mixed:Tryz.prog.follows .mixedOrders=true:=bR
section
variable [Gl]{J:Jb}{P0:Program}{p:Ph}{ok:Ctx}{c c0:Frame}{Ro:Nat->Prop}{abV:World}{cs:List Frame}{k r6 b7 bi:Nat}
theorem PR (hJ:me J P0 p ok Ro abV)(eh:dE P0 P0 ok)(hP:dE P0 Tryz.prog ok)(gY:∀f,ok.fn f=true->ok.bI f=true)(xH:jl P0 c)(hL:p.L<4611686018427387904)
  (Iz:∀seq x M W,vn J seq x->LS p Ro abV r6 b7 x M W->W.cell? r6=some (.bool x.ok)->ET Tryz.prog false p.I Ph.mU Ro (p.yu k seq) M (G (c0.finish x.val) cs) W)(f:Nat):
  ∀(lo:Nat) (seq:List Nat) (x:aN) (M:Nat->Prop) (W:World) (v3 v4 v5 v8 v9 v10 v11 v12 v13 v14 v15 v16 v17 v18 v19 v20 v21 v22 v23 v24 v25 v26:Value),p.L<=lo+f->vn J seq x->LS p Ro abV r6 b7 x M W->
   ET Tryz.prog false p.I Ph.mU Ro (p.jO k Ro f lo seq) M (G ((base 158).at ⟨#[J.iQ,.slice (some ⟨J.nb,J.no,none⟩) p.L J.nc,.pointer J.tb,v3,v4,v5,.pointer r6,.pointer b7,v8,v9,v10,v11,v12,v13,v14,v15,v16,v17,v18,v19,v20,v21,v22,v23,v24,v25,v26],[]⟩ [.code jI,.inLoop jI,.inBlock 0]) (c0::cs)) W:=by
 induction f with
 |zero=>
  intro lo seq x M W v3 v4 v5 v8 v9 v10 v11 v12 v13 v14 v15 v16 v17 v18 v19 v20 v21 v22 v23 v24 v25 v26 UH hb n8;obtain⟨g1,g2,hA,⟨hs,hB⟩,hC,hD⟩:=Na (r6:=r6) (b7:=b7) (c0:=c0) (cs:=cs) hJ hL v3 v4 v5 v8 v9 v10 v11 v12 v13 v14 v15 v16 v17 v18 v19 v20 v21 v22 v23 v24 v25 v26;refine hA _ _ _ (ET.stop λai ab3 _=>⟨hs,λy h1 h2 h3=>⟨ab,g2 y,?_⟩⟩);rw[hJ.prog];have hl:=n8.rely (ab3.trans ((n8.rely ab3).tk (.int .i64 (y+1))));exact⟨hB ai y h2 h3,hD _ _ _ y x ab h2 hl λW' h4 h5=>Iz seq x M W' hb h4 h5⟩
 |succ f ih=>
  intro lo seq x M W v3 v4 v5 v8 v9 v10 v11 v12 v13 v14 v15 v16 v17 v18 v19 v20 v21 v22 v23 v24 v25 v26 UH hb n8;obtain⟨g1,g2,hA,⟨hs,hB⟩,hC,hD⟩:=Na (r6:=r6) (b7:=b7) (c0:=c0) (cs:=cs) hJ hL v3 v4 v5 v8 v9 v10 v11 v12 v13 v14 v15 v16 v17 v18 v19 v20 v21 v22 v23 v24 v25 v26;refine hA _ _ _ (ET.stop λai ab3 _=>⟨hs,λy h1 h2 h3=>⟨g2 y,?_⟩⟩);rw[hJ.prog];have hl:=n8.rely (ab3.trans ((n8.rely ab3).tk (.int .i64 (y+1))));refine⟨hB ai y h2 h3,λh4=>hD _ _ _ y x h4 h2 hl λW' h5 h6=>Iz seq x M W' hb h5 h6,λh4=>hC _ _ _ y h4 ?_⟩;intro a3 a4 a5 a8 a9 Yy Z3 a12 Z4 Z5 Z6 Z7 a17 Z8 Z9 a20 a21 a22 a23 a24 a25 a26;refine ET.drawn mixed λorder ho=>?_
  have e:(Array.replicate gN.size false)=#[false,false,false,false,false,false,false,false,false,false]:=bR;rw[e]at ho;refine PK hJ eh hP gY xH h4 ?_ ho false false false false false false false _ _ _ _ _ _ _ _ _ _ _ _ _ _ _ _ _ _ _ _ _ M _ rfl rfl (λh=>qh) (λh=>qh) (λh=>qh) (λh=>qh) (λh=>qh) (λh=>qh) (λh=>qh) hl;intro b3 b4 b5 b9 Kj Vl JG Vm Uo Yz b16 Vn b18 b19 b20 b21 b22 b23 b24 b25 b26 z M' W' hz Ix;refine ET.c (λ_=>stepG_inBlock) (ET.c (λ_=>stepG_inLoop) ?_);exact ih (y+1) (seq++[y]) (J.pick x z) M' W' _ _ _ _ _ _ _ _ _ _ _ _ _ _ _ _ _ _ _ _ _ _ ab (hb.snoc hz) Ix
end
theorem XR:(Tryz.f158.name== "runtime.NumGoroutine")=false:=bR
section
variable [Gl]{J:Jb}{P0:Program}{p:Ph}{ok:Ctx}{c:Frame}{Ro:Nat->Prop}{abV:World}{k bi:Nat}
theorem Kk (hJ:me J P0 p ok Ro abV)(eh:dE P0 P0 ok)(hP:dE P0 Tryz.prog ok)(gY:∀f,ok.fn f=true->ok.bI f=true)(xH:jl P0 c)(hL:p.L<4611686018427387904)(SX:k<4)(tA:Ro bi)(Zc:abV.heap[bi]?=some (.cells #[.int .i64 k] 3 (0,0)))(VV:p.Wg≠p.Bs)
  (Cn:∀b,p.Sp b->¬Ro b)(aI:∀b,p.Sp b\/Ro b->b<abV)(DR:Gl.n<=abV){l:Array Bool}{rest:List Nat}(ho:JZ .any iB l rest):
  ∀(l0 l1 l2 l3 l5:Bool) (v6 v7 v8 v9 v10 v11:Value) (W:World),l=#[l0,l1,l2,l3,false,l5,false]->(l0=true->v6=.slice (some ⟨p.Bs,0,none⟩) 4 4)->(l1=true->v7=.int .i64 k)->(l2=true->v8=J.iQ)->(l3=true->v9=.slice (some ⟨J.nb,J.no,none⟩) p.L J.nc)->(l5=true->v11=.pointer (some ⟨p.Bs,k*4,none⟩))->(l5=true->l0=true/\l1=true)->
   aO Ro abV W->abV.heap.size<=W->
   ET Tryz.prog false p.I Ph.mU Ro (p.jO k Ro p.L 0 []) (λ_=>False) (G (VB J p.Wg bi v6 v7 v8 v9 v10 v11 rest) [bot]) W:=by
 induction ho with
 |nil h=>rintro l0 l1 l2 l3 l5 v6 v7 v8 v9 v10 v11 W rfl;exact absurd h (vf _ _ _ _ _ _).1
 |@cons l q rest hq hr ih=>
  rintro l0 l1 l2 l3 l5 v6 v7 v8 v9 v10 v11 W rfl h6 h7 h8 h9 Ac h5 hK iZ;have hc:=List.all_eq_true.1 (vf l0 l1 l2 l3 false l5).2 q hq;simp only[Bool.or_eq_true,Bool.and_eq_true,beq_iff_eq,Bool.not_eq_true',Bool.false_eq_true,and_false,false_and,or_false,and_true]at hc;rcases hc with((((⟨rfl,rfl⟩|⟨rfl,rfl⟩)|⟨rfl,rfl⟩)|⟨rfl,rfl⟩)|⟨⟨rfl,rfl⟩,rfl⟩)|⟨⟨⟨rfl,rfl⟩,rfl⟩,rfl⟩
  .obtain⟨o,ho,bf,hd,hg⟩:∃o,iB[0]?=some o/\o.op=.load 211 (.tmp 4)/\o.dst=some 6/\o.guard=none:=⟨_,rfl,rfl,rfl,rfl⟩;refine ET.val (.slice p.Bs 4 4) ho kD (by k_ne) (λai ab3 _=>?_) ?_
   .have hb:=ff ((ab3.block _ (.inr hJ.QX)).trans ((hK.block _ hJ.QX).trans hJ.RE));unfold execOp;refine⟨?_,λe he=>?_⟩
    .simp only[bf];go_simp
    .simp[go_sem,bf,hb]at he;subst he;exact vR hJ.QX
   .rw[hd];walk_nrm
    exact ih true l1 l2 l3 l5 _ _ _ _ _ _ _ aH (λ_=>rfl) h7 h8 h9 Ac (λe=>⟨rfl,(h5 e).2⟩) hK iZ
  .obtain⟨o,ho,bf,hd,hg⟩:∃o,iB[1]?=some o/\o.op=.load 3 (.tmp 5)/\o.dst=some 7/\o.guard=none:=⟨_,rfl,rfl,rfl,rfl⟩;refine ET.val (.int .i64 k) ho kD (by k_ne) (λai ab3 _=>?_) ?_
   .have hb:=ff ((ab3.block _ (.inr tA)).trans ((hK.block _ tA).trans Zc));unfold execOp;refine⟨?_,λe he=>?_⟩
    .simp only[bf];go_simp
    .simp[go_sem,bf,hb]at he;subst he;exact vR tA
   .rw[hd];walk_nrm
    exact ih l0 true l2 l3 l5 _ _ _ _ _ _ _ aH h6 (λ_=>rfl) h8 h9 Ac (λe=>⟨(h5 e).1,rfl⟩) hK iZ
  .obtain⟨o,ho,bf,hd,hg⟩:∃o,iB[2]?=some o/\o.op=.load 23 (.tmp 1)/\o.dst=some 8/\o.guard=none:=⟨_,rfl,rfl,rfl,rfl⟩;refine ET.val (J.iQ) ho kD (by k_ne) (λai ab3 _=>?_) ?_
   .have hb:=ff ((ab3.block _ (.inr hJ.X4)).trans ((hK.block _ hJ.X4).trans hJ.XD));unfold execOp;refine⟨?_,λe he=>?_⟩
    .simp only[bf];go_simp
    .simp[go_sem,bf,hb]at he;subst he;exact vR hJ.X4
   .rw[hd];walk_nrm
    exact ih l0 l1 true l3 l5 _ _ _ _ _ _ _ aH h6 h7 (λ_=>rfl) h9 Ac h5 hK iZ
  .obtain⟨o,ho,bf,hd,hg⟩:∃o,iB[3]?=some o/\o.op=.load 179 (.tmp 2)/\o.dst=some 9/\o.guard=none:=⟨_,rfl,rfl,rfl,rfl⟩;refine ET.val (.slice (some ⟨J.nb,J.no,none⟩) p.L J.nc) ho kD (by k_ne) (λai ab3 _=>?_) ?_
   .have hb:=ff ((ab3.block _ (.inr hJ.X5)).trans ((hK.block _ hJ.X5).trans hJ.XO));unfold execOp;refine⟨?_,λe he=>?_⟩
    .simp only[bf];go_simp
    .simp[go_sem,bf,hb]at he;subst he;exact vR hJ.X5
   .rw[hd];walk_nrm
    exact ih l0 l1 l2 true l5 _ _ _ _ _ _ _ aH h6 h7 h8 (λ_=>rfl) Ac h5 hK iZ
  .obtain⟨o,ho,bf,hd,hg⟩:∃o,iB[4]?=some o/\o.op=.call {callee:=.value (.func 158),args:=#[.tmp 8,.tmp 9,.tmp 3],argTypes:=#[23,179,214]}/\o.dst=some 10/\o.guard=none:=⟨_,rfl,rfl,rfl,rfl⟩;obtain rfl:=h8 rfl;obtain rfl:=h9 rfl;refine ET.k rfl (λ_ _ _=>goes_call ho kD (by k_ne) bf Tryz.func158 XR rfl ⟨⟨rfl,λe he=>zO⟩,?_⟩);walk_nrm
   have en:∀n,Tryz.f158.ntmps-n=27-n:=λn=>rfl
   rw[en];walk_nrm
   rw[<-hJ.prog];refine Oi hJ (λ_=>False) W hK (λb hb=>⟨id,acl (aI b hb) iZ⟩) Cn (λb hb=>hb.elim) (acn DR iZ) (λb hb=>hb.elim) ?_;intro r6 b7 a0 a1 a2 a3 a4 a5 a6 a7 a8 a9 Yy Z3 a12 Z4 Z5 Z6 Z7 a17 Z8 Z9 a20 a21 M' W' n8;rw[hJ.prog];refine PR hJ eh hP gY xH hL ?_ p.L 0 [] dQ M' W' _ _ _ _ _ _ _ _ _ _ _ _ _ _ _ _ _ _ _ _ _ _ ab .nil n8;intro seq x M W hb hl hc;rw[Frame.finish_at,ho];simp only[Option.bind_some,hd];walk_nrm
   have:=NZ hJ SX tA VV hb hr l0 l1 l5 v6 v7 J.iQ (.slice (some ⟨J.nb,J.no,none⟩) p.L J.nc) v11 M W r6 x.ok aH h6 h7 Ac hl.keep ((hl.keep.block _ tA).trans Zc) hl.m6 hc (hl.held.keep (λb h=>⟨h.1,h.2.1⟩) λ_ _=>rfl) (λb hb=>(hl.sp b (.inl hb)).1) (λb hb=>acn hJ.base (hl.nw b hb)) h5;rw[hJ.prog]at this;exact this
  .obtain⟨o,ho,bf,hd,hg⟩:∃o,iB[5]?=some o/\o.op=.indexAddr 211 (.tmp 6) (.tmp 7)/\o.dst=some 11/\o.guard=none:=⟨_,rfl,rfl,rfl,rfl⟩;refine ET.val (.pointer (some ⟨p.Bs,k*4,none⟩)) ho kD (by k_ne) (λai ab3 _=>?_) ?_
   .rw[h6 rfl,h7 rfl];unfold execOp;refine⟨?_,λe he=>?_⟩
    .simp only[bf];go_simp
     intro h;omega
    .simp only[bf]at he;simp[go_sem]at he;rw[events_indexAt_slice _ _ _ _ _ _ (by go_simp) ab]at he;simp at he
   .rw[hd];walk_nrm
    exact ih true true l2 l3 true _ _ _ _ _ _ _ aH h6 h7 h8 h9 (λ_=>rfl) (λ_=>⟨rfl,rfl⟩) hK iZ
theorem Rh (hJ:me J P0 p ok Ro abV)(eh:dE P0 P0 ok)(hP:dE P0 Tryz.prog ok)(gY:∀f,ok.fn f=true->ok.bI f=true)(xH:jl P0 c)(hL:p.L<4611686018427387904)(SX:k<4)(tA:Ro bi)(Zc:abV.heap[bi]?=some (.cells #[.int .i64 k] 3 (0,0)))(VV:p.Wg≠p.Bs)
  (Cn:∀b,p.Sp b->¬Ro b)(aI:∀b,p.Sp b\/Ro b->b<abV)(DR:Gl.n<=abV):
  ET p.P false p.I Ph.mU Ro (p.jO k Ro p.L 0 []) (λ_=>False) (born Tryz.prog (call47 J p.Wg bi)) abV:=by
 rw[hJ.prog];refine ET.c (λw=>HJ J p.Wg bi w) ?_;simp only[zN,Tryz.f156,Option.getD_some];apply ET.sr
 (refine ET.c (λ_=>stepG_defer rfl rfl (by k_ne) rfl) ?_;walk_nrm)
 apply ET.rn;refine ET.drawn mixed λorder ho=>?_
 have e:(Array.replicate iB.size false)=#[false,false,false,false,false,false,false]:=bR;change JZ .any iB (Array.replicate iB.size false) order at ho;rw[e]at ho;exact Kk hJ eh hP gY xH hL SX tA Zc VV Cn aI DR ho false false false false false _ _ _ _ _ _ abV rfl (λh=>qh) (λh=>qh) (λh=>qh) (λh=>qh) (λh=>qh) (λh=>qh) (aO.refl _ _) (ack _)
end
end
