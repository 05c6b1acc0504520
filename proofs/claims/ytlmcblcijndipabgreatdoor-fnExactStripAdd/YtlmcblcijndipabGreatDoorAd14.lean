import Derived.Test.YtlmcblcijndipabGreatDoorAd09
import Derived.Test.YtlmcblcijndipabGreatDoorAd13
set_option linter.unusedSimpArgs false
set_option linter.unusedVariables false
set_option maxHeartbeats 2000000
set_option maxRecDepth 100000
namespace Go.Proofs.YtlmcblcijndipabGreatDoor
section
open Go Go.Conc Go.RowKit Go.Conc.Lib Go.ConcR.Gen
def gU (id:Nat):Code->Option (Array Oper)
 |.region i ops _=>if i==id then some ops else none
 |.seq a b=>(gU id a).or (gU id b)
 |.cond _ a b=>(gU id a).or (gU id b)
 |.block _ c=>gU id c
 |.loop c=>gU id c
 |.scope c=>gU id c
 |_=>none
def ft:Code->Option Code
 |.seq a b=>(ft a).or (ft b)
 |.cond _ a b=>(ft a).or (ft b)
 |.block _ c=>ft c
 |.loop c=>some c
 |.scope c=>ft c
 |_=>none
section
variable {P:Program}{m:Bool}{I:World->Prop}{X:Event->Prop}{Ro:Nat->Prop}{Stop:(Nat->Prop)->Goroutine->World->Prop}{M:Nat->Prop}{W:World}
 {b:Frame}{a:Act}{k:List Item}{cs:List Frame}{ops:Array Oper}{i:Nat}{rest:List Nat}{o:Oper}
theorem jf {w w':World}{v:Value}(ho:ops[i]?=some o)(hw:Region.wanted o (yielded ops a.tmps)=true)(hk:b.kind≠.early)(hr:(execOp a.eval o).run P w=.ok (.value v) w'):
  stepG P m (G (b.at a (.inRegion ops (i::rest)::k)) cs) w=.go (G (b.at (a.put o.dst v) (.inRegion ops rest::k)) cs) w' (listed P b.fn a o w):=by
 have:=goes_oper_k (P:=P) (main:=m) (cs:=cs) (k:=k) (rest:=rest) (w:=w) (K:=λg' w'' es=>g'=G (b.at (a.put o.dst v) (.inRegion ops rest::k)) cs/\w''=w'/\es=listed P b.fn a o w) ho hw hk (λK' h=>by rw[hr];exact h _ _ ⟨rfl,rfl,rfl⟩);obtain⟨g',w'',es,h1,h2,h3,h4⟩:=goes_elim this;rw[h1,h2,h3,h4]
theorem ET.oper (ho:ops[i]?=some o)(hw:Region.wanted o (yielded ops a.tmps)=true)(hk:b.kind≠.early)
  (h:∀Fe,ax (λb=>M b\/Ro b) W Fe->I Fe->∃v W',(execOp a.eval o).run P Fe=.ok (.value v) W'/\bT X M Ro Fe W' (listed P b.fn a o Fe)/\ET P m I X Ro Stop (grow M Fe W') (G (b.at (a.put o.dst v) (.inRegion ops rest::k)) cs) W'):
  ET P m I X Ro Stop M (G (b.at a (.inRegion ops (i::rest)::k)) cs) W:=
 ET.step rfl λFe FO FK=>by
  obtain⟨v,W',h1,h2,h3⟩:=h Fe FO FK;exact⟨_,_,_,jf ho hw hk h1,h2,h3⟩
theorem ET.val (v:Value)(ho:ops[i]?=some o)(hw:Region.wanted o (yielded ops a.tmps)=true)(hk:b.kind≠.early)
  (h:∀Fe,ax (λb=>M b\/Ro b) W Fe->I Fe->(execOp a.eval o).run P Fe=.ok (.value v) Fe/\∀e∈(execOp a.eval o).events P Fe #[],uw X M Ro e)
  (n:ET P m I X Ro Stop M (G (b.at (a.put o.dst v) (.inRegion ops rest::k)) cs) W):ET P m I X Ro Stop M (G (b.at a (.inRegion ops (i::rest)::k)) cs) W:=
 ET.oper ho hw hk λFe FO FK=>⟨v,Fe,(h Fe FO FK).1,bT.stay λe he=>(h Fe FO FK).2 e (mem_listed he),by rw[show grow M Fe Fe=M from aW rfl];exact n.rely FO⟩
theorem ET.none (ho:ops[i]?=some o)(hw:Region.wanted o (yielded ops a.tmps)=true)(hk:b.kind≠.early)
  (h:∀Fe,ax (λb=>M b\/Ro b) W Fe->I Fe->∃W',(execOp a.eval o).run P Fe=.ok .skip W'/\bT X M Ro Fe W' (listed P b.fn a o Fe)/\ET P m I X Ro Stop (grow M Fe W') (G (b.at (a.put o.dst undef) (.inRegion ops rest::k)) cs) W'):
  ET P m I X Ro Stop M (G (b.at a (.inRegion ops (i::rest)::k)) cs) W:=
 ET.step rfl λFe FO FK=>by
  obtain⟨W',h1,h2,h3⟩:=h Fe FO FK;exact⟨_,_,_,stepG_none ho hw hk h1,h2,h3⟩
theorem rz {fn:Func}{todo:List Item}{c:Frame}{v:Value}{w:World}(hn:b.kind=.normal)(hd:a.defers=[])(hf:P.funcs[b.fn]?=some fn)(hr:(results fn a.tmps).run P w=.ok v w):
  stepG P m (G {b.at a todo with mode:=.returning} (c::cs)) w=.go (G (c.finish v) cs) w (seen P b.fn ((results fn a.tmps).events P w #[])):=by
 simp[G,stepG,unwind,doReturn,Frame.at,hn,hd,hf,hr,GStep.after]
theorem ET.leaveE {fn:Func}{todo:List Item}{c:Frame}(v:Value)(hn:b.kind=.normal)(hd:a.defers=[])(hf:P.funcs[b.fn]?=some fn)
  (h:∀Fe,ax (λb=>M b\/Ro b) W Fe->I Fe->(results fn a.tmps).run P Fe=.ok v Fe/\∀e∈(results fn a.tmps).events P Fe #[],uw X M Ro e)
  (n:ET P m I X Ro Stop M (G (c.finish v) cs) W):ET P m I X Ro Stop M (G {b.at a todo with mode:=.returning} (c::cs)) W:=
 ET.step rfl λFe FO FK=>⟨_,_,_,rz hn hd hf (h Fe FO FK).1,bT.stay λe he=>(h Fe FO FK).2 e (fe _ _ _ e he),by rw[show grow M Fe Fe=M from aW rfl];exact n.rely FO⟩
theorem bT.row {g:Nat}(cs:Array Value)(ha:M g){es:Array Event}(h:∀e∈es,uw X M Ro e):bT X M Ro W (W.setRow g cs) es:=
 ⟨λb _ hm=>setRow_other _ _ _ _ (λe=>hm (e▸ha)),Nat.le_of_eq (setRow_size _ _ _).symm,rfl,rfl,rfl,λe he=>by rw[show grow M W (W.setRow g cs)=M from aW (setRow_size _ _ _)];exact h e he⟩
theorem n8 {a:Addr}(h:Ro a.block):uw X M Ro ⟨.cell a,false,false⟩:=.inl ⟨rfl,a,rfl,.inr ⟨h,rfl⟩⟩
theorem dq {a:Addr}{w:Bool}(h:M a.block):uw X M Ro ⟨.cell a,w,false⟩:=.inl ⟨rfl,a,rfl,.inl h⟩
end
section
variable [Gl]
structure Jb where
 bl:Nat
 bn:Nat
 bb:Nat
 nb:Nat
 no:Nat
 nc:Nat
 tb:Nat
 listv:Value
 turnv:Nat->Value
 S:Nat->Nat->Prop
 Is:Nat->TryV->Prop
 lt:TryV->TryV->Bool
 base:Nat
def Jb.pick (J:Jb)(x y:TryV):TryV:=if J.lt y x=true then y else x
def Jb.leastL (J:Jb):List TryV->TryV
 |[]=>noTry
 |x::xs=>xs.foldl J.pick x
omit [Gl] in
theorem Jb.pk (J:Jb)(x y:TryV):J.pick x y=x\/J.pick x y=y:=by
 unfold Jb.pick;split
 .exact .inr rfl
 .exact .inl rfl
inductive n9 (J:Jb):List Nat->TryV->Prop
 |nil:n9 J [] noTry
 |snoc {seq:List Nat} {i:Nat} {x y:TryV}:n9 J seq x->J.Is i y->n9 J (seq++[i]) (J.pick x y)
structure eE (W:World)(M:Nat->Prop)(x:TryV):Prop where
 row:bH W x.a x.n x.g
 small:x.n<=1048576
 blk:∀a,x.a=some a->a.spot=none/\M a.block/\∃cs e,W.heap[a.block]?=some (.cells cs e (0,0))/\∀v∈cs,∃n:Int,v=.int .i64 n
 full:∀a,x.a=some a->a.off=0/\∃cs,W.heap[a.block]?=some (.cells cs 3 (0,0))/\cs.size=x.n
omit [Gl] in
theorem eE.keep {W W':World}{M M':Nat->Prop}{x:TryV}(h:eE W M x)(hm:∀b,M b->M' b)(hk:∀a,x.a=some a->W'.heap[a.block]?=W.heap[a.block]?):eE W' M' x:=by
 refine⟨?_,h.small,λa ha=>?_,λa ha=>?_⟩
 .rcases h.row with e|⟨b,off,e,hr⟩
  .exact .inl e
  .refine .inr ⟨b,off,e,λi hi=>?_⟩;have:=hr i hi;simp only[World.cell?]at this⊢;rw[hk _ e];exact this
 .obtain⟨h1,h2,cs,e,h3,h4⟩:=h.blk a ha;exact⟨h1,hm _ h2,cs,e,(hk a ha).trans h3,h4⟩
 .obtain⟨h1,cs,h2,h3⟩:=h.full a ha;exact⟨h1,cs,(hk a ha).trans h2,h3⟩
def wA (J:Jb)(seq:List Nat)(vs:List Value)(Mr:Nat->Prop)(W:World):Prop:=∃x:TryV,vs=x.cells/\n9 J seq x/\eE W Mr x/\∀b,Mr b->J.base<=b
structure gX (J:Jb)(P0:Program)(p:Ph)(ok:Ctx)(Ro:Nat->Prop)(Fd:World):Prop where
 prog:p.P=Tryz.prog
 ty:p.ty=255
 tk:p.tk=⟨J.tb,0,none⟩
 wd:p.wd=4
 n4:p.n=4
 bty:p.bty=222
 res:p.Res=wA J
 base:J.base<=Fd.heap.size
 lbox:Fd.heap[J.bl]?=some (.cells #[J.listv] 30 (0,0))
 nbox:Fd.heap[J.bn]?=some (.cells #[.slice (some ⟨J.nb,J.no,none⟩) p.L J.nc] 224 (0,0))
 bbox:Fd.heap[J.bb]?=some (.cells #[.slice (some ⟨p.Bs,0,none⟩) 4 4] 256 (0,0))
 rbl:Ro J.bl
 rbn:Ro J.bn
 rbb:Ro J.bb
 rnb:Ro J.nb
 near:∀i,i<p.L->Fd.cell? ⟨J.nb,J.no+i,none⟩=some (J.turnv i)
 sro:∀i b,J.S i b->Ro b
 closed:∀i,i<p.L->∀Fe,ax Ro Fd Fe->kw ok (J.S i) Fe
 argl:∀i,i<p.L->aj ok (ku (J.S i)) J.listv J.listv
 argt:∀i,i<p.L->aj ok (ku (J.S i)) (J.turnv i) (J.turnv i)
 try_:∀i,i<p.L->∀(F:Nat->Prop) Fe,ax Ro Fd Fe->∀τ d,Calls P0 227 #[J.listv,J.turnv i] (re (cJ F Fe) τ d) λe w'=>∃x:TryV,e=.returned x.val/\J.Is i x/\eE w' (λb=>Fe.heap.size<=b) x
 ren:∀i x a',J.Is i x->(x.a=none<->a'=none)->J.Is i {x with a:=a'}
 least:∀(V:World) (b:Nat) (xs:List TryV) (z:Nat×Nat),xs.length<=1048576->V.heap[b]?=some (.cells (xs.flatMap TryV.cells).toArray 222 z)->(∀x∈xs,bH V x.a x.n x.g/\x.n<=1048576)->
  Calls P0 203 #[.slice (some ⟨b,0,none⟩) xs.length xs.length,.func (.func 204) #[] #[]] V λe w'=>e=.returned (J.leastL xs).val/\Below V.heap.size V w'
 okf:ok.inn 227=true/\ok.inn 203=true/\ok.fn 204=true
theorem gX.mono {J:Jb}{P0:Program}{p:Ph}{ok:Ctx}{Ro Ro':Nat->Prop}{Fd Fe:World}(h:gX J P0 p ok Ro Fd)(hr:∀b,Ro b->Ro' b)(hk:ax Ro Fd Fe):gX J P0 p ok Ro' Fe:=
 ⟨h.prog,h.ty,h.tk,h.wd,h.n4,h.bty,h.res,Gq h.base hk.size,(hk.block _ h.rbl).trans h.lbox,(hk.block _ h.rbn).trans h.nbox,(hk.block _ h.rbb).trans h.bbox,hr _ h.rbl,hr _ h.rbn,hr _ h.rbb,hr _ h.rnb,λi hi=>by rw[<-h.near i hi];simp only[World.cell?,hk.block _ h.rnb],
  λi b hb=>hr _ (h.sro i b hb),λi hi Ff FP=>h.closed i hi Ff (hk.trans (FP.mono hr)),h.argl,h.argt,λi hi F Ff FP τ d=>h.try_ i hi F Ff (hk.trans (FP.mono hr)) τ d,h.ren,h.least,h.okf⟩
end
theorem gC {P:Program}(g o:Nat)(t:TypeId):∀(vs:List Value) (i:Nat) (cur:Array Value) (w:World) (es:Array Event),w.heap[g]?=some (.cells cur t (0,0))->o+i+vs.length<=cur.size->(∀v∈vs,v.oneCell'=true)->
  ∀ev∈(storeCells ⟨g,o,none⟩ vs i).events P w es,ev∈es\/∃j,i<=j/\j<i+vs.length/\ev=⟨.cell ⟨g,o+j,none⟩,true,false⟩
 |[],_,_,_,_,_,_,_=>λev h=>.inl (by simpa[storeCells]using h)
 |v::rest,i,cur,w,es,hg,hl,h1=>λev h=>by
  have hi:o+i<cur.size:=by simp at hl;omega
  have hadd:(⟨g,o,none⟩:Addr).add i=⟨g,o+i,none⟩:=by unfold Addr.add;split<;>simp_all
  have hcell:w.cell? ⟨g,o+i,none⟩=some cur[o+i]:=by simp[World.cell?,hg,hi]
  have hfro:w.frozen? ⟨g,o+i,none⟩=false:=by simp[World.frozen?,hg]
  have hst:(store ((⟨g,o,none⟩:Addr).add i) v).run P w=.ok () (w.setRow g (cur.setIfInBounds (o+i) v)):=by
   rw[hadd,run_store P w _ v _ (h1 v (by simp)),hcell];simp[hfro,setCell_eq_setRow w g (o+i) cur t (0,0) v hg]
  have hev:(store ((⟨g,o,none⟩:Addr).add i) v).events P w es=es.push ⟨.cell ⟨g,o+i,none⟩,true,false⟩:=by
   rw[hadd,events_store P w es _ v _ (h1 v (by simp)),hcell];simp only[hfro,Bool.false_eq_true,if_false];rfl
  simp only[storeCells,Sem.events_bind,hst,Result.evThen_ok,hev]at h;rcases gC g o t rest (i+1) (cur.setIfInBounds (o+i) v) _ _ (setRow_heap w g cur _ t _ hg) (by simp at hl⊢;omega) (λx hx=>h1 x (by simp[hx])) ev h with h|⟨j,h2,h3,h4⟩
  .rcases Array.mem_push.1 h with h|h
   .exact .inl h
   .exact .inr ⟨i,Gm _,by simp,h⟩
  .exact .inr ⟨j,by omega,by simp;omega,h4⟩
section
variable {a:Act}{o:Oper}{W:World}{g off:Nat}{cur:Array Value}{ty:TypeId}{t:TryV}{x y:Operand}
theorem oa (hop:o.op=.store 222 x y)(ha:a.eval x=.pointer (some ⟨g,off,none⟩))(hy:a.eval y=t.val)(hg:W.heap[g]?=some (.cells cur ty (0,0)))(hl:off+4<=cur.size):
  (execOp a.eval o).run Tryz.prog W=.ok .skip (W.setRow g (cur.toList.take off++t.cells++cur.toList.drop (off+4)).toArray):=by
 have h:=run_storeCells_at (P:=Tryz.prog) g off ty t.cells 0 cur W hg (by simpa[TryV.cells]using hl) (by simp[TryV.cells,Value.oneCell']);rw[Nat.add_zero]at h;obtain⟨cs,h1,h2,h3⟩:∃cs,t.val=.agg cs/\cs.size=4/\cs.toList=t.cells:=⟨_,rfl,rfl,rfl⟩;unfold execOp;simp only[hop,ha,hy,h1];go_simp
 simp[TryV.cells]
theorem qf (hop:o.op=.store 222 x y)(ha:a.eval x=.pointer (some ⟨g,off,none⟩))(hy:a.eval y=t.val)(hg:W.heap[g]?=some (.cells cur ty (0,0)))(hl:off+4<=cur.size):
  ∀e∈(execOp a.eval o).events Tryz.prog W #[],∃j,j<4/\e=⟨.cell ⟨g,off+j,none⟩,true,false⟩:=by
 intro e he;have h:=gC (P:=Tryz.prog) g off ty t.cells 0 cur W #[] hg (by simpa[TryV.cells]using hl) (by simp[TryV.cells,Value.oneCell']) e;obtain⟨cs,h1,h2,h3⟩:∃cs,t.val=.agg cs/\cs.size=4/\cs.toList=t.cells:=⟨_,rfl,rfl,rfl⟩;rw[<-h3]at h;unfold execOp at he;simp only[hop,ha,hy,h1]at he;simp[go_sem,h2]at he;rcases h he with x|⟨j,_,h5,h6⟩
 .simp at x
 .exact⟨j,by simpa[h2]using h5,h6⟩
theorem cQ (hop:o.op=.store 222 x y)(ha:a.eval x=.pointer (some ⟨g,0,none⟩))(hy:a.eval y=t.val)(hg:W.heap[g]?=some (.cells cur ty (0,0)))(hl:cur.size=4):
  (execOp a.eval o).run Tryz.prog W=.ok .skip (W.setRow g t.cells.toArray)/\∀e∈(execOp a.eval o).events Tryz.prog W #[],∃j,e=⟨.cell ⟨g,j,none⟩,true,false⟩:=by
 refine⟨?_,λe he=>?_⟩
 .rw[oa hop ha hy hg (by omega)];have:cur.toList.drop (0+4)=[]:=by simp;omega
  rw[this];simp
 .obtain⟨j,_,h⟩:=qf hop ha hy hg (by omega) e he;exact⟨_,h⟩
theorem ob (hop:o.op=.load 222 x)(ha:a.eval x=.pointer (some ⟨g,0,none⟩))(hg:W.heap[g]?=some (.cells t.cells.toArray ty (0,0))):(execOp a.eval o).run Tryz.prog W=.ok (.value t.val) W:=by
 have c0:W.cell? ⟨g,0,none⟩=some (.bool t.ok):=by simp[World.cell?,hg,TryV.cells]
 have c1:W.cell? ⟨g,1,none⟩=some (.int .i64 t.sum):=by simp[World.cell?,hg,TryV.cells]
 have c2:W.cell? ⟨g,2,none⟩=some (.int .i64 t.most):=by simp[World.cell?,hg,TryV.cells]
 have c3:W.cell? ⟨g,3,none⟩=some (.slice t.a t.n t.cap):=by simp[World.cell?,hg,TryV.cells]
 unfold execOp;simp only[hop,ha,TryV.val];go_simp
theorem qg (hop:o.op=.load 222 x)(ha:a.eval x=.pointer (some ⟨g,0,none⟩))(hg:W.heap[g]?=some (.cells t.cells.toArray ty (0,0))):∀e∈(execOp a.eval o).events Tryz.prog W #[],∃j,e=⟨.cell ⟨g,j,none⟩,false,false⟩:=by
 intro e he;have c0:W.cell? ⟨g,0,none⟩=some (.bool t.ok):=by simp[World.cell?,hg,TryV.cells]
 have c1:W.cell? ⟨g,1,none⟩=some (.int .i64 t.sum):=by simp[World.cell?,hg,TryV.cells]
 have c2:W.cell? ⟨g,2,none⟩=some (.int .i64 t.most):=by simp[World.cell?,hg,TryV.cells]
 have c3:W.cell? ⟨g,3,none⟩=some (.slice t.a t.n t.cap):=by simp[World.cell?,hg,TryV.cells]
 unfold execOp at he;simp only[hop,ha]at he;simp[go_sem,c0,c1,c2,c3]at he;rcases he with rfl|rfl|rfl|rfl<;>exact⟨_,rfl⟩
end
noncomputable def bot:Frame:={(default:Frame)with fn:=Tryz.prog.funcs.size,defers:=[],mode:=.panicking [goexitEntry]}
noncomputable def rA:Code:=Tryz.f199.body.getD .skip
noncomputable def eh:Array Oper:=(gU 1 rA).getD #[]
noncomputable def od:Code:=Tryz.f201.body.getD .skip
noncomputable def fu:Code:=(ft od).getD .skip
noncomputable def dJ:Array Oper:=(gU 5 od).getD #[]
def call47 (J:Jb)(Wg bi:Nat):Deferred:={target:=.fn (.func 199) #[.pointer (some ⟨Wg,0,none⟩),.pointer (some ⟨J.bl,0,none⟩),.pointer (some ⟨J.bn,0,none⟩),.pointer (some ⟨J.tb,0,none⟩),.pointer (some ⟨J.bb,0,none⟩),.pointer (some ⟨bi,0,none⟩)],args:=#[]}
theorem xH (J:Jb)(Wg bi:Nat)(w:World):stepG Tryz.prog false (born Tryz.prog (call47 J Wg bi)) w=
  .go (G ((baseD 199).at ⟨#[.pointer (some ⟨Wg,0,none⟩),.pointer (some ⟨J.bl,0,none⟩),.pointer (some ⟨J.bn,0,none⟩),.pointer (some ⟨J.tb,0,none⟩),.pointer (some ⟨J.bb,0,none⟩),.pointer (some ⟨bi,0,none⟩),undef,undef,undef,undef,undef,undef],[]⟩ [.code rA]) [bot]) w #[]:=by
 simp[born,call47,stepG,unwind,callDeferred,invoke,callFunc,Tryz.func199,Tryz.f199,seen,GStep.after,G,Frame.enter,Frame.at,baseD,bot,rA]
theorem xI (T:Array Value)(todo:List Item):QuitsD Tryz.prog 2 0 (G {(baseD 199).at ⟨T,[]⟩ todo with mode:=.returning} [bot]):=by
 refine QuitsD.ctl (g':=G bot []) rfl (λw=>?_) ?_
 .simp[G,stepG,unwind,doReturn,results,Frame.at,baseD,bot,Tryz.func199,Tryz.f199,seen,GStep.after,goexitEntry]
 refine QuitsD.ctl (g':={G bot []with status:=.finished}) rfl (λw=>?_) ⟨rfl,rfl⟩;simp[G,stepG,unwind,bot,goexitEntry,Frame.catches];rfl
theorem zx {cs:Array Value}{vs:List Value}{off o:Nat}(h4:vs.length=4)(h:off+4<=cs.size):
  (cs.toList.take off++vs++cs.toList.drop (off+4)).toArray[o]?=if off<=o/\o<off+4 then vs[o-off]? else cs[o]?:=by
 have hl:(cs.toList.take off).length=off:=by simp;omega
 rw[List.getElem?_toArray,List.append_assoc];by_cases h1:o<off
 .rw[Gy (by omega),if_neg (by omega),List.getElem?_take_of_lt h1];simp
 .rw[Gz (by omega),hl];by_cases h2:o<off+4
  .rw[Gy (by omega),if_pos ⟨by omega,h2⟩]
  .rw[Gz (by omega),if_neg (by omega),h4,List.getElem?_drop];simp only[Array.getElem?_toList];congr 1;omega
theorem cK {w:World}{b:Nat}{v:Value}{e:TypeId}{z:Nat×Nat}(h:w.heap[b]?=some (.cells #[v] e z)):w.cell? ⟨b,0,none⟩=some v:=by simp[World.cell?,h]
section
variable [Gl]{J:Jb}{P0:Program}{p:Ph}{ok:Ctx}{Ro:Nat->Prop}{Fd:World}{k bi:Nat}
noncomputable def DV (J:Jb)(Wg bi:Nat)(v6 v7 v8 v9 v10 v11:Value)(rest:List Nat):Frame:=
 (baseD 199).at ⟨#[.pointer (some ⟨Wg,0,none⟩),.pointer (some ⟨J.bl,0,none⟩),.pointer (some ⟨J.bn,0,none⟩),.pointer (some ⟨J.tb,0,none⟩),.pointer (some ⟨J.bb,0,none⟩),.pointer (some ⟨bi,0,none⟩),v6,v7,v8,v9,v10,v11],[dcall 200 #[.pointer (some ⟨Wg,0,none⟩)]]⟩ [.inRegion eh rest]
omit [Gl] in
theorem nq:∀l0 l1 l2 l3 l4 l5:Bool,Region.ready .any eh #[l0,l1,l2,l3,l4,l5,false]≠[]/\
  (Region.ready .any eh #[l0,l1,l2,l3,l4,l5,false]).all (λi=>(i==0&&!l0)||(i==1&&!l1)||(i==2&&!l2)||(i==3&&!l3)||(i==4&&!l4&&l2&&l3)||(i==5&&!l5&&l0&&l1)||(i==6&&l4&&l5))=true:=by
 decide +kernel
theorem A5 (hJ:gX J P0 p ok Ro Fd)(hk4:k<4)(hbi:Ro bi)(hWB:p.Wg≠p.Bs){x:TryV}{seq:List Nat}(hb:n9 J seq x){l:Array Bool}{rest:List Nat}(ho:wy .any eh l rest):
  ∀(l0 l1 l5:Bool) (v6 v7 v8 v9 v11:Value) (M:Nat->Prop) (W:World) (C:Nat) (u:Value),l=#[l0,l1,true,true,true,l5,false]->(l0=true->v6=.slice (some ⟨p.Bs,0,none⟩) 4 4)->(l1=true->v7=.int .i64 k)->(l5=true->v11=.pointer (some ⟨p.Bs,k*4,none⟩))->
   ax Ro Fd W->W.heap[bi]?=some (.cells #[.int .i64 k] 3 (0,0))->M C->W.cell? ⟨C,0,none⟩=some u->eE W (λb=>M b/\b≠C) x->(∀b,p.Sp b->¬M b)->(∀b,M b->J.base<=b)->(l5=true->l0=true/\l1=true)->
   ET p.P false p.I Ph.noX Ro (p.AtPut k seq) M (G (DV J p.Wg bi v6 v7 v8 v9 x.val v11 rest) [bot]) W:=by
 induction ho with
 |nil h=>rintro l0 l1 l5 v6 v7 v8 v9 v11 M W C u rfl;exact absurd h (nq _ _ _ _ _ _).1
 |@cons l i rest hi hr ih=>
  rintro l0 l1 l5 v6 v7 v8 v9 v11 M W C u rfl h6 h7 h11 hK hI hC hu hx hM hnw h5;have hc:=List.all_eq_true.1 (nq l0 l1 true true true l5).2 i hi;simp only[Bool.not_true,Bool.and_false,Bool.or_false,Bool.and_true,Bool.or_eq_true,Bool.and_eq_true,beq_iff_eq,Bool.not_eq_true']at hc;rcases hc with(((⟨rfl,rfl⟩|⟨rfl,rfl⟩)|hc)|⟨rfl,hc⟩)
  .obtain⟨o,ho,hop,hd,hg⟩:∃o,eh[0]?=some o/\o.op=.load 256 (.tmp 4)/\o.dst=some 6/\o.guard=none:=⟨_,rfl,rfl,rfl,rfl⟩;refine ET.val (.slice (some ⟨p.Bs,0,none⟩) 4 4) ho (by simp[Region.wanted,hg]) (by k_ne) (λFe FO _=>?_) ?_
   .have hb:=(cK ((FO.block _ (.inr hJ.rbb)).trans ((hK.block _ hJ.rbb).trans hJ.bbox)));rw[hJ.prog];unfold execOp;refine⟨?_,λe he=>?_⟩
    .simp only[hop];go_simp
     done
    .simp[go_sem,hop,hb]at he;subst he;exact n8 hJ.rbb
   .rw[hd];walk_nrm
    exact ih true l1 l5 _ _ _ _ _ _ _ _ _ (by simp) (λ_=>rfl) h7 h11 hK hI hC hu hx hM hnw (λe=>⟨rfl,(h5 e).2⟩)
  .obtain⟨o,ho,hop,hd,hg⟩:∃o,eh[1]?=some o/\o.op=.load 3 (.tmp 5)/\o.dst=some 7/\o.guard=none:=⟨_,rfl,rfl,rfl,rfl⟩;refine ET.val (.int .i64 k) ho (by simp[Region.wanted,hg]) (by k_ne) (λFe FO _=>?_) ?_
   .have hb:=cK ((FO.block _ (.inr hbi)).trans hI);rw[hJ.prog];unfold execOp;refine⟨?_,λe he=>?_⟩
    .simp only[hop];go_simp
    .simp[go_sem,hop,hb]at he;subst he;exact n8 hbi
   .rw[hd];walk_nrm
    exact ih l0 true l5 _ _ _ _ _ _ _ _ _ (by simp) h6 (λ_=>rfl) h11 hK hI hC hu hx hM hnw (λe=>⟨(h5 e).1,rfl⟩)
  .obtain⟨⟨⟨rfl,rfl⟩,rfl⟩,rfl⟩:=hc;obtain⟨o,ho,hop,hd,hg⟩:∃o,eh[5]?=some o/\o.op=.indexAddr 256 (.tmp 6) (.tmp 7)/\o.dst=some 11/\o.guard=none:=⟨_,rfl,rfl,rfl,rfl⟩;refine ET.val (.pointer (some ⟨p.Bs,k*4,none⟩)) ho (by simp[Region.wanted,hg]) (by k_ne) (λFe FO _=>?_) ?_
   .rw[hJ.prog,h6 rfl,h7 rfl];unfold execOp;refine⟨?_,λe he=>?_⟩
    .simp only[hop];go_simp
     intro h;omega
    .have hu:=Tryz.underlying256;simp only[hop]at he;simp[go_sem]at he;rw[events_indexAt_slice _ _ _ _ _ _ (by go_simp) (by omega)]at he;simp at he
   .rw[hd];walk_nrm
    exact ih true true true _ _ _ _ _ _ _ _ _ (by simp) h6 h7 (λ_=>rfl) hK hI hC hu hx hM hnw (λ_=>⟨rfl,rfl⟩)
  .obtain⟨o,ho,hop,hd,hg⟩:∃o,eh[6]?=some o/\o.op=.store 222 (.tmp 11) (.tmp 10)/\o.dst=none/\o.guard=none:=⟨_,rfl,rfl,rfl,rfl⟩;subst hc;refine ET.stop λFe FO hW=>⟨rfl,λ⟨cs,hcs⟩=>?_⟩
   have hsz:k*4+4<=cs.size:=by rw[hcs.2,hJ.n4,hJ.wd];omega
   have hy:Act.eval ⟨#[.pointer (some ⟨p.Wg,0,none⟩),.pointer (some ⟨J.bl,0,none⟩),.pointer (some ⟨J.bn,0,none⟩),.pointer (some ⟨J.tb,0,none⟩),.pointer (some ⟨J.bb,0,none⟩),.pointer (some ⟨bi,0,none⟩),v6,v7,v8,v9,x.val,v11],[dcall 200 #[.pointer (some ⟨p.Wg,0,none⟩)]]⟩ (.tmp 10)=x.val:=rfl;have ha:Act.eval ⟨#[.pointer (some ⟨p.Wg,0,none⟩),.pointer (some ⟨J.bl,0,none⟩),.pointer (some ⟨J.bn,0,none⟩),.pointer (some ⟨J.tb,0,none⟩),.pointer (some ⟨J.bb,0,none⟩),.pointer (some ⟨bi,0,none⟩),v6,v7,v8,v9,x.val,v11],[dcall 200 #[.pointer (some ⟨p.Wg,0,none⟩)]]⟩ (.tmp 11)=.pointer (some ⟨p.Bs,k*4,none⟩):=h11 rfl;have hrun:=oa hop ha hy hcs.1 hsz;have hev:=qf hop ha hy hcs.1 hsz;rw[<-hJ.prog]at hrun hev;refine⟨_,_,_,x.cells,stepG_none ho (by simp[Region.wanted,hg]) (by k_ne) hrun,?_,λe he=>?_,?_⟩
   .refine⟨setRow_size _ _ _,rfl,rfl,rfl,λb hb=>setRow_other _ _ _ _ hb,by rw[hJ.wd];rfl,λcs' hcs'=>?_⟩;obtain rfl:cs=cs':=by have:=hcs.1.symm.trans hcs'.1;simpa using this
    refine⟨_,⟨setRow_heap _ _ _ _ _ _ hcs.1,?_⟩,λo'=>?_⟩
    .rw[<-hcs.2];simp[TryV.cells];omega
    .rw[zx rfl hsz,hJ.wd,Nat.add_mul,Nat.one_mul]
   .obtain⟨j,hj,rfl⟩:=hev e (mem_listed he);refine⟨rfl,_,rfl,rfl,?_,?_⟩<;>rw[hJ.wd]<;>simp<;>omega
   .have FE:eE (Fe.setRow p.Bs (cs.toList.take (k*4)++x.cells++cs.toList.drop (k*4+4)).toArray) (λb=>M b/\b≠C) x:=hx.keep (λ_ h=>h) λa ha=>by
     obtain⟨_,⟨h2,_⟩,_⟩:=hx.blk a ha;rw[setRow_other _ _ _ _ (λe=>hM _ (.inr (.inr e)) h2)];exact FO.block _ (.inl h2)
    refine⟨λb=>M b/\b≠C,C,4,u,26,by rw[hJ.res];exact⟨x,rfl,hb,FE,λb hb'=>hnw b hb'.1⟩,λb h=>h.1,hC,λh=>h.2 rfl,?_⟩;have hu1:Go.ConcN.Has C 0 u (Fe.setRow p.Bs (cs.toList.take (k*4)++x.cells++cs.toList.drop (k*4+4)).toArray):=by
     show World.cell? _ _=_;rw[cell_setRow_other _ _ _ _ (λe=>hM _ (.inr (.inr e)) hC)];rw[<-hu];simp only[World.cell?,FO.block C (.inl hC)]
    obtain⟨st,sm,hw⟩:=hW.1;have FD:Go.ConcN.WgLive p.ty p.Wg (Fe.setRow p.Bs (cs.toList.take (k*4)++x.cells++cs.toList.drop (k*4+4)).toArray):=⟨st,sm,hw.of_block (setRow_other _ _ _ _ hWB)⟩;obtain⟨e0,e1⟩:=h5 rfl;subst e0 e1;have hnil:rest=[]:=by
     generalize hL:(#[true,true,true,true,true,true,false]:Array Bool).setIfInBounds 6 true=L at hr;have e:L=#[true,true,true,true,true,true,true]:=by rw[<-hL];simp
     subst e;cases hr with
     |nil=>rfl
     |cons h _=>exact absurd h (by rw[show Region.ready .any eh #[true,true,true,true,true,true,true]=[] from by decide +kernel];simp)
    subst hnil;letI:Go.ConcR.Payload:=p.pl
    have hK':=And.intro FD hu1;generalize Fe.setRow p.Bs (cs.toList.take (k*4)++x.cells++cs.toList.drop (k*4+4)).toArray=Ff at hK'⊢;rw[hd,hJ.prog];rw[hJ.ty]at hK'⊢;walk_nrm
    u_c stepG_region_end Go.ConcN.Gen.kn_rely hK'
    u_c stepG_end Go.ConcN.Gen.kn_rely hK'
    u_in Go.ConcN.Gen.kn_rely hK'
    rw[stepG_unwind_enter rfl Tryz.func200 (nm_done link) rfl];simp only[goes_go];refine⟨by u_nil,?_⟩;walk_nrmf Tryz.f200
    have hA:=@Go.ConcN.Gen.doneN p.pl link Tryz.prog qe (λ_ _=>False) (λ_ _=>False) p.Wg C 4 0 1 u;simp only[body_done,doneFn,Option.getD_some]at hA;exact hA rfl (xI _ _) _ hK'
end
theorem xJ {S:Nat->Prop}{w:World}{a:Addr}{v:Value}(h:¬S a.block):ax S w (w.setCell a v):=
 ⟨λb hb=>Below.heap_setCell w a v b (λe=>h (e▸hb)),Nat.le_of_eq (aside_setCell w a v).size.symm,rfl,rfl⟩
theorem va (w:World)(es:Array Event):(Instr.build 222 #[]).events Tryz.prog w es=es:=by kernel_rfl
section
variable [Gl]{J:Jb}{P0:Program}{p:Ph}{ok:Ctx}{Ro:Nat->Prop}{Fd:World}{Stop:(Nat->Prop)->Goroutine->World->Prop}{cs:List Frame}{k r6 b7:Nat}
structure LS (p:Ph)(Ro:Nat->Prop)(Fd:World)(r6 b7:Nat)(x:TryV)(M:Nat->Prop)(W:World):Prop where
 m6:M r6
 m7:M b7
 ne:r6≠b7
 c6:∃c:Array Value,W.heap[r6]?=some (.cells c 222 (0,0))/\c.size=4
 c7:W.heap[b7]?=some (.cells x.cells.toArray 222 (0,0))
 held:eE W (λb=>M b/\b≠r6/\b≠b7) x
 keep:ax Ro Fd W
 sp:∀b,p.Sp b\/Ro b->¬M b/\b<W.heap.size
 spro:∀b,p.Sp b->¬Ro b
 lt:∀b,M b->b<W.heap.size
 gl:Gl.n<=W.heap.size
 nw:∀b,M b->Fd.heap.size<=b
theorem LS.rely {x:TryV}{M:Nat->Prop}{W Fe:World}(h:LS p Ro Fd r6 b7 x M W)(k:ax (λb=>M b\/Ro b) W Fe):LS p Ro Fd r6 b7 x M Fe:=by
 refine⟨h.m6,h.m7,h.ne,?_,(k.block _ (.inl h.m7)).trans h.c7,h.held.keep (λ_ x=>x) (λa ha=>k.block _ (.inl (h.held.blk a ha).2.1.1)),h.keep.trans (k.mono λ_ x=>.inr x),λb hb=>⟨(h.sp b hb).1,Gn (h.sp b hb).2 k.size⟩,h.spro,λb hb=>Gn (h.lt b hb) k.size,Gq h.gl k.size,h.nw⟩;obtain⟨c,h1,h2⟩:=h.c6;exact⟨c,(k.block _ (.inl h.m6)).trans h1,h2⟩
theorem LS.tk {x:TryV}{M:Nat->Prop}{W:World}(h:LS p Ro Fd r6 b7 x M W)(v:Value):ax (λb=>M b\/Ro b) W (W.setCell p.tk v):=
 xJ λe=>e.elim (h.sp _ (.inl (.inr (.inl rfl)))).1 (h.spro _ (.inr (.inl rfl)))
theorem A6 (hJ:gX J P0 p ok Ro Fd)(M:Nat->Prop)(W:World)(hk:ax Ro Fd W)(hsp:∀b,p.Sp b\/Ro b->¬M b/\b<W.heap.size)(hspro:∀b,p.Sp b->¬Ro b)(hlt:∀b,M b->b<W.heap.size)(hgl:Gl.n<=W.heap.size)(hnw:∀b,M b->Fd.heap.size<=b)
  (hL:∀(r6 b7:Nat) (v3 v4 v5 v8 v9 v10 v11 v12 v13 v14 v15 v16 v17 v18 v19 v20 v21 v22 v23 v24 v25 v26:Value) (M':Nat->Prop) (W':World),LS p Ro Fd r6 b7 noTry M' W'->ET p.P false p.I Ph.noX Ro Stop M' (G ((base 201).at ⟨#[J.listv,.slice (some ⟨J.nb,J.no,none⟩) p.L J.nc,.pointer (some ⟨J.tb,0,none⟩),v3,v4,v5,.pointer (some ⟨r6,0,none⟩),.pointer (some ⟨b7,0,none⟩),v8,v9,v10,v11,v12,v13,v14,v15,v16,v17,v18,v19,v20,v21,v22,v23,v24,v25,v26],[]⟩ [.code fu,.inLoop fu,.inBlock 0]) cs) W'):
  ET p.P false p.I Ph.noX Ro Stop M (G ((base 201).at ⟨#[J.listv,.slice (some ⟨J.nb,J.no,none⟩) p.L J.nc,.pointer (some ⟨J.tb,0,none⟩),undef,undef,undef,undef,undef,undef,undef,undef,undef,undef,undef,undef,undef,undef,undef,undef,undef,undef,undef,undef,undef,undef,undef,undef],[]⟩ [.code od]) cs) W:=by
 simp only[od,Tryz.f201,Option.getD_some];apply ET.sq;apply ET.rg;refine ET.oper rfl rfl (by k_ne) λFe FO _=>⟨.pointer (some ⟨Fe.heap.size,0,none⟩),Fe.alloc (.cells #[.bool false,.int .i64 0,.int .i64 0,.slice none 0 0] 222),?_,?_,?_⟩
 .rw[hJ.prog];go_simp
 .rw[hJ.prog];refine bT.alloc _ λe he=>?_
  have hm:=mem_listed he;simp[go_sem]at hm
 walk_nrm
 apply ET.rn;apply ET.sq;apply ET.rg;refine ET.val noTry.val rfl rfl (by k_ne) (λFf _ _=>?_) ?_
 .rw[hJ.prog];refine⟨?_,λe he=>?_⟩
  .go_simp
   first|(rw[run_build Ff 222 #[] noTry.cells.toArray (by kernel_rfl)];rfl)|rfl
  .first|(simp[go_sem]at he;done)|(simp[go_sem]at he;rw[va]at he;simp at he)
 walk_nrm
 refine ET.oper rfl rfl (by k_ne) λFf FP _=>⟨.pointer (some ⟨Ff.heap.size,0,none⟩),Ff.alloc (.cells #[.bool false,.int .i64 0,.int .i64 0,.slice none 0 0] 222),?_,?_,?_⟩
 .rw[hJ.prog];go_simp
 .rw[hJ.prog];refine bT.alloc _ λe he=>?_
  have hm:=mem_listed he;simp[go_sem]at hm
 walk_nrm
 have z0:∀(w:World) (o:Obj),(w.alloc o).heap.size=w.heap.size+1:=λw o=>by show(w.heap.push o).size=_;simp
 have z1:=FO.size;have z2:=FP.size;rw[z0]at z2;have hM1:grow M Fe (Fe.alloc (.cells #[.bool false,.int .i64 0,.int .i64 0,.slice none 0 0] 222)) Fe.heap.size:=.inr ⟨Gm _,by rw[z0];omega⟩;refine ET.none rfl rfl (by k_ne) λFg FQ _=>?_
 have z3:=FQ.size;rw[z0]at z3;have h7:Fg.heap[Ff.heap.size]?=some (.cells #[.bool false,.int .i64 0,.int .i64 0,.slice none 0 0] 222 (0,0)):=(FQ.block _ (.inl (.inr ⟨Gm _,by rw[z0];omega⟩))).trans (heap_alloc_new _ _);have hM7:grow (grow M Fe (Fe.alloc (.cells #[.bool false,.int .i64 0,.int .i64 0,.slice none 0 0] 222))) Ff (Ff.alloc (.cells #[.bool false,.int .i64 0,.int .i64 0,.slice none 0 0] 222)) Ff.heap.size:=.inr ⟨Gm _,by rw[z0];omega⟩;refine⟨Fg.setRow Ff.heap.size noTry.cells.toArray,by rw[hJ.prog];exact(cQ rfl rfl rfl h7 rfl).1,?_,?_⟩
 .rw[hJ.prog];refine bT.row _ hM7 λe he=>?_
  obtain⟨j,rfl⟩:=(cQ (t:=noTry) rfl rfl rfl h7 rfl).2 e (mem_listed he);exact dq hM7
 rw[aW (setRow_size _ _ _)];walk_nrm
 apply ET.rn;refine ET.c (λ_=>stepG_block) ?_;refine ET.c (λ_=>stepG_loop) ?_;refine hL Fe.heap.size Ff.heap.size _ _ _ _ _ _ _ _ _ _ _ _ _ _ _ _ _ _ _ _ _ _ _ _ ⟨.inl hM1,hM7,by omega,?_,setRow_heap _ _ _ _ _ _ h7,⟨.inl rfl,Gs _,λa ha=>(by cases ha),λa ha=>(by cases ha)⟩,?_,λb hb=>?_,hspro,λb hb=>?_,?_,λb hb=>?_⟩
 .refine⟨_,(setRow_other _ _ _ _ (by omega)).trans ((FQ.block _ (.inl (.inl hM1))).trans ((Below.heap_alloc _ _ _ (by omega)).trans ((FP.block _ (.inl hM1)).trans (heap_alloc_new _ _)))),rfl⟩
 .refine⟨λb hb=>?_,by rw[setRow_size];have:=hk.size;omega,FQ.os.trans (FP.os.trans (FO.os.trans hk.os)),FQ.out.trans (FP.out.trans (FO.out.trans hk.out))⟩;have hb':=hsp b (.inr hb);rw[setRow_other _ _ _ _ (by omega),FQ.block _ (.inr hb),Below.heap_alloc _ _ _ (by omega),FP.block _ (.inr hb),Below.heap_alloc _ _ _ (by omega),FO.block _ (.inr hb)];exact hk.block b hb
 .have hb':=hsp b hb;rw[setRow_size];refine⟨λx=>?_,by omega⟩;rcases x with(x|⟨x,_⟩)|⟨x,_⟩
  .exact hb'.1 x
  .omega
  .omega
 .rw[setRow_size];rcases hb with(x|⟨_,x⟩)|⟨_,x⟩
  .have:=hlt b x;omega
  .rw[z0]at x;omega
  .rw[z0]at x;omega
 .rw[setRow_size];omega
 .have:=hk.size;rcases hb with(x|⟨x,_⟩)|⟨x,_⟩
  .exact hnw b x
  .omega
  .omega
end
end
section
open Go Go.Conc Go.RowKit Go.Conc.Lib Go.ConcR.Gen
open Go.ConcR (rd wr)
theorem vb:(Tryz.f244.name== "runtime.NumGoroutine")=false:=by kernel_rfl
theorem vc:Tryz.f244.body.isNone=true:=by kernel_rfl
theorem vd:Extern.findNext Tryz.f244=none:=by kernel_rfl
theorem ve:Extern.find Tryz.f244=some (Extern.Atomic.update (Op.intArith .add) .i64 true):=by kernel_rfl
theorem Db:(Tryz.f226.name== "runtime.NumGoroutine")=false:=by kernel_rfl
section
variable [Gl]{J:Jb}{P0:Program}{p:Ph}{ok:Ctx}{Ro:Nat->Prop}{Fd:World}{c0:Frame}{cs:List Frame}{r6 b7:Nat}
theorem zy (hJ:gX J P0 p ok Ro Fd)(hL:p.L<4611686018427387904)(v3 v4 v5 v8 v9 v10 v11 v12 v13 v14 v15 v16 v17 v18 v19 v20 v21 v22 v23 v24 v25 v26:Value):
  ∃(g1:Goroutine) (g2:Nat->Goroutine),(∀(Stop:(Nat->Prop)->Goroutine->World->Prop) M W,ET Tryz.prog false p.I Ph.noX Ro Stop M g1 W->ET Tryz.prog false p.I Ph.noX Ro Stop M (G ((base 201).at ⟨#[J.listv,.slice (some ⟨J.nb,J.no,none⟩) p.L J.nc,.pointer (some ⟨J.tb,0,none⟩),v3,v4,v5,.pointer (some ⟨r6,0,none⟩),.pointer (some ⟨b7,0,none⟩),v8,v9,v10,v11,v12,v13,v14,v15,v16,v17,v18,v19,v20,v21,v22,v23,v24,v25,v26],[]⟩ [.code fu,.inLoop fu,.inBlock 0]) (c0::cs)) W)/\
   (g1.status=.running/\∀W x,x<4611686018427387904->p.TkAt W x->stepG Tryz.prog false g1 W=.go (g2 x) (W.setCell p.tk (.int .i64 (x+1))) #[rd p.tk,wr p.tk])/\
   (∀(Stop:(Nat->Prop)->Goroutine->World->Prop) M W x,x<p.L->(∀v3 v4 v5 v8 v9 v10 v11 v12 v13 v14 v15 v16 v17 v18 v19 v20 v21 v22 v23 v24 v25 v26:Value,ET Tryz.prog false p.I Ph.noX Ro Stop M (G ((base 201).at ⟨#[J.listv,.slice (some ⟨J.nb,J.no,none⟩) p.L J.nc,.pointer (some ⟨J.tb,0,none⟩),v3,v4,v5,.pointer (some ⟨r6,0,none⟩),.pointer (some ⟨b7,0,none⟩),.int .i64 x,v9,v10,v11,v12,v13,v14,v15,v16,v17,v18,v19,v20,v21,v22,v23,v24,v25,v26],[]⟩ [.code (.region 5 dJ true),.inBlock 1,.inLoop fu,.inBlock 0]) (c0::cs)) W)->ET Tryz.prog false p.I Ph.noX Ro Stop M (g2 x) W)/\
   (∀(Stop:(Nat->Prop)->Goroutine->World->Prop) M W x xt,p.L<=x->x<4611686018427387904->LS p Ro Fd r6 b7 xt M W->(∀W',LS p Ro Fd r6 b7 xt M W'->W'.cell? ⟨r6,0,none⟩=some (.bool xt.ok)->ET Tryz.prog false p.I Ph.noX Ro Stop M (G (c0.finish xt.val) cs) W')->ET Tryz.prog false p.I Ph.noX Ro Stop M (g2 x) W):=by
 refine⟨?g1,?g2,?A,⟨?B0,?B⟩,?C,?D⟩
 case A=>
  intro Stop M W h;simp only[fu,od,Tryz.f201,Option.getD_some,ft,Option.or_some,Option.or_none,Option.none_or];refine ET.c (λ_=>stepG_block) ?_;apply ET.sq;apply ET.rg
  (refine ET.o rfl rfl (by k_ne) (λ_ K hK=>?_);go_simp;refine hK _ _ rfl (by simp[go_sem, *]) ?_;clear hK K;try w_num)
  (refine ET.k rfl (λ_ _ _=>goes_call rfl rfl (by k_ne) rfl Tryz.func226 Db rfl ⟨⟨rfl,λe he=>(by simp at he)⟩,?_⟩);walk_nrmf Tryz.f226)
  apply ET.sq;apply ET.rg
  (refine ET.o rfl rfl (by k_ne) (λ_ K hK=>?_);go_simp;refine hK _ _ rfl (by simp[go_sem, *]) ?_;clear hK K;try w_num)
  apply ET.rn;apply ET.sq;apply ET.rg
  iterate 4 (refine ET.o rfl rfl (by k_ne) (λ_ K hK=>?_);go_simp;refine hK _ _ rfl (by simp[go_sem, *]) ?_;clear hK K;try w_num)
  exact h
 case B0=>rfl
 case B=>
  intro W x hx ht;have hw:IntKind.i64.wrap ((x:Int)+1)=x+1:=by rw[IntKind.wrap_i64];omega
  have h1:=ht.1;have h2:=ht.2;rw[hJ.tk]at h1 h2⊢;refine(stepG_add_atomic rfl rfl (by k_ne) rfl Tryz.func244 vb vc vd .i64 ve rfl rfl h1 h2).trans ?_;rw[hw];rfl
 case C=>
  intro Stop M W x hx h;have hw:IntKind.i64.wrap ((x:Int)+1-1)=x:=by rw[IntKind.wrap_i64];omega
  have hw':IntKind.i64.wrap (x:Int)=x:=by rw[IntKind.wrap_i64];omega
  have hd:decide ((p.L:Int)<=x)=false:=decide_eq_false (by omega);have hx':¬((p.L:Int)<=x):=by omega
  walk_nrm
  (refine ET.o rfl rfl (by k_ne) (λ_ K hK=>?_);go_simp;refine hK _ _ rfl (by simp[go_sem, *]) ?_;clear hK K;try w_num)
  apply ET.rn;apply ET.rt
  (refine ET.k rfl (λ_ _ _=>goes_leave1 rfl rfl Tryz.func226 rfl ⟨⟨rfl,λe he=>(by simp at he)⟩,?_⟩);walk_nrm)
  iterate 2 (refine ET.o rfl rfl (by k_ne) (λ_ K hK=>?_);go_simp;refine hK _ _ rfl (by simp[go_sem, *]) ?_;clear hK K;try w_num)
  apply ET.rn;apply ET.sq;apply ET.sq;apply ET.rg
  iterate 4 (refine ET.o rfl rfl (by k_ne) (λ_ K hK=>?_);go_simp;refine hK _ _ rfl (by simp[go_sem, *]) ?_;clear hK K;try w_num)
  apply ET.rn;refine ET.condF rfl ?_;apply ET.sk;exact h _ _ _ undef _ _ _ _ _ _ _ _ _ _ _ _ _ _ _ _ _ _
 case D=>
  intro Stop M W x xt hx hx2 hls h;have hw:IntKind.i64.wrap ((x:Int)+1-1)=x:=by rw[IntKind.wrap_i64];omega
  have hw':IntKind.i64.wrap (x:Int)=x:=by rw[IntKind.wrap_i64];omega
  have hd:decide ((p.L:Int)<=x)=true:=decide_eq_true (by omega);have hx':(p.L:Int)<=x:=by omega
  walk_nrm
  (refine ET.o rfl rfl (by k_ne) (λ_ K hK=>?_);go_simp;refine hK _ _ rfl (by simp[go_sem, *]) ?_;clear hK K;try w_num)
  apply ET.rn;apply ET.rt
  (refine ET.k rfl (λ_ _ _=>goes_leave1 rfl rfl Tryz.func226 rfl ⟨⟨rfl,λe he=>(by simp at he)⟩,?_⟩);walk_nrm)
  iterate 2 (refine ET.o rfl rfl (by k_ne) (λ_ K hK=>?_);go_simp;refine hK _ _ rfl (by simp[go_sem, *]) ?_;clear hK K;try w_num)
  apply ET.rn;apply ET.sq;apply ET.sq;apply ET.rg
  iterate 4 (refine ET.o rfl rfl (by k_ne) (λ_ K hK=>?_);go_simp;refine hK _ _ rfl (by simp[go_sem, *]) ?_;clear hK K;try w_num)
  apply ET.rn;refine ET.condT rfl ?_;apply ET.sq;apply ET.rg;refine ET.val xt.val rfl rfl (by k_ne) (λFe FO _=>?_) ?_
  .have Fw:=hls.rely FO;refine⟨ob rfl rfl Fw.c7,λe he=>?_⟩;obtain⟨j,rfl⟩:=qg (t:=xt) rfl rfl Fw.c7 e he;exact dq hls.m7
  walk_nrm
  refine ET.none rfl rfl (by k_ne) λFe FO _=>?_
  have Fw:=hls.rely FO;obtain⟨c,hc6,hcs⟩:=Fw.c6;refine⟨Fe.setRow r6 xt.cells.toArray,(cQ rfl rfl rfl hc6 hcs).1,?_,?_⟩
  .refine bT.row _ hls.m6 λe he=>?_
   obtain⟨j,rfl⟩:=(cQ (t:=xt) rfl rfl rfl hc6 hcs).2 e (mem_listed he);exact dq hls.m6
  rw[aW (setRow_size _ _ _)];have Fx:LS p Ro Fd r6 b7 xt M (Fe.setRow r6 xt.cells.toArray):=by
   have ho:∀b,b≠r6->(Fe.setRow r6 xt.cells.toArray).heap[b]?=Fe.heap[b]?:=λb hb=>setRow_other _ _ _ _ hb
   refine⟨Fw.m6,Fw.m7,Fw.ne,⟨_,setRow_heap _ _ _ _ _ _ hc6,rfl⟩,(ho _ (Ne.symm Fw.ne)).trans Fw.c7,Fw.held.keep (λ_ x=>x) (λa ha=>ho _ (Fw.held.blk a ha).2.1.2.1),⟨λb hb=>(ho b (λe=>(Fw.sp b (.inr hb)).1 (e▸Fw.m6))).trans (Fw.keep.block b hb),by rw[setRow_size];exact Fw.keep.size,Fw.keep.os,Fw.keep.out⟩,λb hb=>by rw[setRow_size];exact Fw.sp b hb,Fw.spro,λb hb=>by rw[setRow_size];exact Fw.lt b hb,by rw[setRow_size];exact Fw.gl,Fw.nw⟩
  have h6:(Fe.setRow r6 xt.cells.toArray).heap[r6]?=some (.cells xt.cells.toArray 222 (0,0)):=setRow_heap _ _ _ _ _ _ hc6;generalize Fe.setRow r6 xt.cells.toArray=Ff at Fx h6⊢;clear Fw hc6 hcs FO;walk_nrm
  apply ET.rn;apply ET.rt;refine ET.leaveE xt.val rfl rfl Tryz.func201 (λFg FQ _=>?_) (h Ff Fx (by simp[World.cell?,h6,TryV.cells]));have h6':=(FQ.block _ (.inl hls.m6)).trans h6;have c0:Fg.cell? ⟨r6,0,none⟩=some (.bool xt.ok):=by simp[World.cell?,h6',TryV.cells]
  have c1:Fg.cell? ⟨r6,1,none⟩=some (.int .i64 xt.sum):=by simp[World.cell?,h6',TryV.cells]
  have c2:Fg.cell? ⟨r6,2,none⟩=some (.int .i64 xt.most):=by simp[World.cell?,h6',TryV.cells]
  have c3:Fg.cell? ⟨r6,3,none⟩=some (.slice xt.a xt.n xt.cap):=by simp[World.cell?,h6',TryV.cells]
  refine⟨?_,λe he=>?_⟩
  .simp[results,Tryz.f201,go_sem,TryV.val,c0,c1,c2,c3]
  .simp[results,Tryz.f201,go_sem,c0,c1,c2,c3]at he;rcases he with rfl|rfl|rfl|rfl<;>exact dq hls.m6
end
end
section
open Go Go.Conc Go.RowKit Go.Conc.Lib Go.ConcR.Gen
theorem wC:∀l0 l1 l2 l3 l4 l5 l6:Bool,((!l6||(l1&&l5))&&(!l5||l4)&&(!l4||(l2&&l3)))=true->Region.ready .any dJ #[l0,l1,l2,l3,l4,l5,l6,false,false,false]≠[]/\
  (Region.ready .any dJ #[l0,l1,l2,l3,l4,l5,l6,false,false,false]).all (λi=>(i==0&&!l0)||(i==1&&!l1)||(i==2&&!l2)||(i==3&&!l3)||(i==4&&!l4&&l2&&l3)||(i==5&&!l5&&l4)||(i==6&&!l6&&l1&&l5)||(i==7&&l0&&l6))=true:=by
 decide +kernel
section
variable [Gl]{ok:Ctx}{σ:Ren}
theorem oe {x:TryV}{v':Value}(h:aj ok σ x.val v'):∃a',v'=TryV.val {x with a:=a'}/\(x.a=none<->a'=none)/\∀a,x.a=some a->∃d,a'=some d/\bm σ a d:=by
 unfold TryV.val at h;generalize hx:Value.agg #[.bool x.ok,.int .i64 x.sum,.int .i64 x.most,.slice x.a x.n x.cap]=v at h;cases h<;>cases hx
 rename_i xs' hs hv;obtain⟨l⟩:=xs';obtain⟨y0,y1,y2,y3,rfl⟩:∃y0 y1 y2 y3,l=[y0,y1,y2,y3]:=by
  rcases l with _|⟨y0,_|⟨y1,_|⟨y2,_|⟨y3,_|⟨y4,l⟩⟩⟩⟩⟩<;>simp at hs
  exact⟨_,_,_,_,rfl⟩
 have h0:=hv 0 _ y0 rfl rfl;have h1:=hv 1 _ y1 rfl rfl;have h2:=hv 2 _ y2 rfl rfl;have h3:=hv 3 _ y3 rfl rfl;cases h0;cases h1;cases h2;generalize hxa:x.a=xa at h3;cases h3 with
 |slice0=>exact⟨none,by simp[TryV.val],by simp,λa ha=>by cases ha⟩
 |@slice a a' _ _ ha=>exact⟨some a',by simp[TryV.val],by simp,λa ha'=>by cases ha';exact⟨_,rfl,ha⟩⟩
theorem xK {V' W':World}{M':Nat->Prop}{x:TryV}{a':Option Addr}(hw:aH ok false σ V' W')(hx:eE V' (λ_=>True) x)(hn:x.a=none<->a'=none)(ha:∀a,x.a=some a->∃d,a'=some d/\bm σ a d)(hM:∀a d,x.a=some a->σ a.block=some d->M' d):eE W' M' {x with a:=a'}:=by
 have key:∀a d,x.a=some a->a'=some d->bm σ a d->∃cs cs' e,V'.heap[a.block]?=some (.cells cs e (0,0))/\W'.heap[d.block]?=some (.cells cs' e (0,0))/\am ok σ cs cs'/\∀v∈cs,∃n:Int,v=.int .i64 n:=by
  intro a d h1 h2 h3;obtain⟨_,_,cs,e,h4,h5⟩:=hx.blk a h1;obtain⟨o,o',g1,g2,g3⟩:=hw.heap _ _ h3.blk;rw[h4]at g1;cases g1;cases g3 with
  |cells hv hz=>
   rcases hz with hz|⟨hz,_⟩
   .exact⟨cs,_,e,h4,by rw[g2,hz];rfl,hv,h5⟩
   .cases hz
 refine⟨?_,hx.small,λd hd=>?_,λd hd=>?_⟩
 .rcases hx.row with e|⟨b,off,e,hr⟩
  .exact .inl e
  .obtain⟨d,h1,h2⟩:=ha _ e;obtain⟨cs,cs',e',h3,h4,h5,h6⟩:=key _ d e h1 h2;refine .inr ⟨d.block,off,?_,λi hi=>?_⟩
   .obtain⟨db,dof,ds⟩:=d;have o1:=h2.off;have o2:=h2.spot;simp only at o1 o2;subst o1 o2;exact h1
   .have hc:=hr i hi;simp only[World.cell?,h3]at hc;obtain⟨v',g1,g2⟩:=h5.get hc;cases g2;simp only[World.cell?,h4];exact g1
 .replace hd:a'=some d:=hd;have h0:x.a≠none:=λe=>by have:=hn.1 e;rw[hd]at this;cases this
  obtain⟨a,h1⟩:=Option.ne_none_iff_exists'.1 h0;obtain⟨d',h2,h3⟩:=ha a h1;rw[hd]at h2;cases h2;obtain⟨cs,cs',e',h4,h5,h6,h7⟩:=key a d h1 hd h3;refine⟨by rw[h3.spot];exact(hx.blk a h1).1,hM a _ h1 h3.blk,cs',e',h5,λv hv=>?_⟩;obtain⟨j,hj⟩:=Array.mem_iff_getElem?.1 hv;have hlt:j<cs.size:=by rw[h6.size];exact(Gp.1 hj).1
  have hj':cs[j]?=some cs[j]:=Gu hlt;obtain⟨n,hn'⟩:=h7 cs[j] (Array.getElem_mem hlt);have:=h6.at_ j _ _ hj' hj;rw[hn']at this;cases this;exact⟨n,rfl⟩
 .replace hd:a'=some d:=hd;have h0:x.a≠none:=λe=>by have:=hn.1 e;rw[hd]at this;cases this
  obtain⟨a,h1⟩:=Option.ne_none_iff_exists'.1 h0;obtain⟨d',h2,h3⟩:=ha a h1;rw[hd]at h2;cases h2;obtain⟨f1,cs0,f2,f3⟩:=hx.full a h1;obtain⟨cs,cs',e',h4,h5,h6,h7⟩:=key a d h1 hd h3;rw[f2]at h4;simp only[Option.some.injEq,Obj.cells.injEq]at h4;obtain⟨e1,e2,_⟩:=h4;subst e1 e2;exact⟨by rw[h3.off];exact f1,cs',h5,by rw[<-h6.size];exact f3⟩
end
theorem ky {F:Nat->Prop}{W:World}{a:Option Addr}{n:Nat}{g:Nat->Int}{τ:Nat->Question->Nat}{d:Nat}(h:bH W a n g):bH (re (cJ F W) τ d) a n g:=by
 rcases h with h|⟨b,off,e,hr⟩
 .exact .inl h
 .exact .inr ⟨b,off,e,λi hi=>(kv F W _).trans (hr i hi)⟩
def bC (l1 l2 l3 l4 l5 l6:Bool):Bool:=(!l6||(l1&&l5))&&(!l5||l4)&&(!l4||(l2&&l3))
theorem EL:∀l2 l3 l4 l5 l6:Bool,bC false l2 l3 l4 l5 l6=true->bC true l2 l3 l4 l5 l6=true:=by decide
theorem EM:∀l1 l3 l4 l5 l6:Bool,bC l1 false l3 l4 l5 l6=true->bC l1 true l3 l4 l5 l6=true:=by decide
theorem EO:∀l1 l2 l4 l5 l6:Bool,bC l1 l2 false l4 l5 l6=true->bC l1 l2 true l4 l5 l6=true:=by decide
theorem EP:∀l1 l5 l6:Bool,bC l1 true true false l5 l6=true->bC l1 true true true l5 l6=true:=by decide
theorem EQ:∀l1 l2 l3 l6:Bool,bC l1 l2 l3 true false l6=true->bC l1 l2 l3 true true l6=true:=by decide
theorem ER:∀l2 l3 l4:Bool,bC true l2 l3 l4 true false=true->l2=true/\l3=true/\l4=true:=by decide
theorem ES:∀l1 l2 l3 l4 l5:Bool,bC l1 l2 l3 l4 l5 true=true->l1=true/\l2=true/\l3=true/\l4=true/\l5=true:=by decide
section
variable [Gl]{J:Jb}{P0:Program}{p:Ph}{ok:Ctx}{c:Frame}{Ro:Nat->Prop}{Fd:World}{Stop:(Nat->Prop)->Goroutine->World->Prop}{cs:List Frame}{r6 b7 i:Nat}
theorem LS.nosp {x:TryV}{M:Nat->Prop}{W:World}(h:LS p Ro Fd r6 b7 x M W):pH (λb=>p.Sp b\/Ro b) M W:=⟨λb hb=>(h.sp b hb).1,λb hb=>(h.sp b hb).2⟩
theorem LS.alloc {x:TryV}{M:Nat->Prop}{W:World}(h:LS p Ro Fd r6 b7 x M W)(o:Obj):LS p Ro Fd r6 b7 x (grow M W (W.alloc o)) (W.alloc o):=by
 have z:(W.alloc o).heap.size=W.heap.size+1:=by show(W.heap.push o).size=_;simp
 have hb:∀b,b<W.heap.size->(W.alloc o).heap[b]?=W.heap[b]?:=λb hb=>Below.heap_alloc _ _ _ hb
 obtain⟨c,c1,c2⟩:=h.c6;refine⟨.inl h.m6,.inl h.m7,h.ne,⟨c,(hb _ (h.lt _ h.m6)).trans c1,c2⟩,(hb _ (h.lt _ h.m7)).trans h.c7,h.held.keep (λb x=>⟨.inl x.1,x.2⟩) (λa ha=>hb _ (h.lt _ (h.held.blk a ha).2.1.1)),⟨λb x=>(hb b (h.sp b (.inr x)).2).trans (h.keep.block b x),by rw[z];have:=h.keep.size;omega,h.keep.os,h.keep.out⟩,λb x=>⟨λy=>y.elim (h.sp b x).1 λy=>by have:=(h.sp b x).2;omega,by rw[z];have:=(h.sp b x).2;omega⟩,h.spro,λb x=>x.elim (λy=>by rw[z];have:=h.lt b y;omega) And.right,by rw[z];have:=h.gl;omega,λb x=>x.elim (h.nw b) λy=>Gq h.keep.size y.1⟩
omit [Gl] in
theorem tB:ww (λb=>p.Sp b\/Ro b) p.I:=λw w' h hi=>p.local_I w w' (λb hb=>h b (.inl hb)) hi
theorem A7 (hJ:gX J P0 p ok Ro Fd)(hP0:bq P0 P0 ok)(hP:bq P0 Tryz.prog ok)(hin:∀f,ok.fn f=true->ok.inn f=true)(hFl:ff P0 c){x y:TryV}
  (hK:∀(v3 v4 v5 v9 v10 v11 v12 v13 v14 v15 v16 v17 v18 v19 v20 v21 v22 v23 v24 v25 v26:Value) (M:Nat->Prop) (W:World),LS p Ro Fd r6 b7 (J.pick x y) M W->ET Tryz.prog false p.I Ph.noX Ro Stop M (G ((base 201).at ⟨#[J.listv,.slice (some ⟨J.nb,J.no,none⟩) p.L J.nc,.pointer (some ⟨J.tb,0,none⟩),v3,v4,v5,.pointer (some ⟨r6,0,none⟩),.pointer (some ⟨b7,0,none⟩),.int .i64 i,v9,v10,v11,v12,v13,v14,v15,v16,v17,v18,v19,v20,v21,v22,v23,v24,v25,v26],[]⟩ [.inBlock 1,.inLoop fu,.inBlock 0]) cs) W)
  (v3 v4 v5 v9 v10 v11 v12 v13 v14 v15 v16 v17 v19 v20 v21 v22 v23 v25 v26:Value)(M:Nat->Prop)(W:World)(hy:eE W (λb=>M b/\b≠r6/\b≠b7) y)(hls:LS p Ro Fd r6 b7 x M W):
  ET Tryz.prog false p.I Ph.noX Ro Stop M (G ((base 201).at ⟨#[J.listv,.slice (some ⟨J.nb,J.no,none⟩) p.L J.nc,.pointer (some ⟨J.tb,0,none⟩),v3,v4,v5,.pointer (some ⟨r6,0,none⟩),.pointer (some ⟨b7,0,none⟩),.int .i64 i,v9,v10,v11,v12,v13,v14,v15,v16,v17,x.val,v19,v20,v21,v22,v23,y.val,v25,v26],[]⟩ (.inRegion dJ [7,8,9]::[.inBlock 1,.inLoop fu,.inBlock 0])) cs) W:=by
 obtain⟨o,ho,hop,hd,hg⟩:∃o,dJ[7]?=some o/\o.op=.buildSlice 256 2 #[(0,.tmp 18),(1,.tmp 24)]/\o.dst=some 25/\o.guard=none:=⟨_,rfl,rfl,rfl,rfl⟩;refine ET.oper ho (by simp[Region.wanted,hg]) (by k_ne) λFe FO _=>⟨.slice (some ⟨Fe.heap.size,0,none⟩) 2 2,Fe.alloc (.cells (x.cells++y.cells).toArray 222),?_,?_,?_⟩
 .unfold execOp;simp only[hop];walk_nrm
  simp only[TryV.val,TryV.cells];go_simp
 .refine bT.alloc _ λe he=>?_
  have hm:=mem_listed he;unfold execOp at hm;simp only[hop]at hm;simp only[Act.eval,List.map_toArray,List.map_cons,List.map_nil,Array.getD_eq_getD_getElem?,List.getElem?_toArray,List.getElem?_cons_succ,List.getElem?_cons_zero,Option.getD_some,TryV.val]at hm;simp[go_sem]at hm
 rw[hd];walk_nrm
 have hls1:=hls.rely FO;have FG:eE Fe (λb=>M b/\b≠r6/\b≠b7) y:=hy.keep (λ_ h=>h) λa ha=>FO.block _ (.inl (hy.blk a ha).2.1.1)
 clear hls hy FO ho hop hd hg o;have hls2:=hls1.alloc (.cells (x.cells++y.cells).toArray 222);have hbl:∀b,b<Fe.heap.size->(Fe.alloc (.cells (x.cells++y.cells).toArray 222)).heap[b]?=Fe.heap[b]?:=λb hb=>Below.heap_alloc _ _ _ hb
 have FH:eE (Fe.alloc (.cells (x.cells++y.cells).toArray 222)) (λb=>grow M Fe (Fe.alloc (.cells (x.cells++y.cells).toArray 222)) b/\b≠r6/\b≠b7) y:=FG.keep (λb h=>⟨.inl h.1,h.2⟩) λa ha=>hbl _ (hls1.lt _ (FG.blk a ha).2.1.1)
 have FF:=hls2.held;have hN:(Fe.alloc (.cells (x.cells++y.cells).toArray 222)).heap[Fe.heap.size]?=some (.cells (x.cells++y.cells).toArray 222 (0,0)):=heap_alloc_new _ _;have hMN:grow M Fe (Fe.alloc (.cells (x.cells++y.cells).toArray 222)) Fe.heap.size:=.inr ⟨Gm _,by show _<(Fe.heap.push _).size;simp⟩;have n6:r6≠Fe.heap.size:=λe=>by have:=hls1.lt _ hls1.m6;omega
 have n7:b7≠Fe.heap.size:=λe=>by have:=hls1.lt _ hls1.m7;omega
 generalize Fe.alloc (.cells (x.cells++y.cells).toArray 222)=Ff at hls2 FH FF hN hMN⊢;generalize grow M Fe Ff=E4 at hls2 FH FF hMN⊢;generalize Fe.heap.size=N at hN hMN n6 n7⊢;clear hbl hls1 FG;obtain⟨o,ho,hop,hd,hg⟩:∃o,dJ[8]?=some o/\o.op=.call {callee:=.value (.func 203),args:=#[.tmp 25,.func 204],argTypes:=#[256,261]}/\o.dst=some 26/\o.guard=none:=⟨_,rfl,rfl,rfl,rfl⟩;have hSx:∀a,x.a=some a->(λb=>b=N\/(∃a,x.a=some a/\a.block=b)\/∃a,y.a=some a/\a.block=b) a.block:=λa ha=>.inr (.inl ⟨a,ha,rfl⟩)
 have hSy:∀a,y.a=some a->(λb=>b=N\/(∃a,x.a=some a/\a.block=b)\/∃a,y.a=some a/\a.block=b) a.block:=λa ha=>.inr (.inr ⟨a,ha,rfl⟩)
 have hsl:∀(z:TryV),(∀a,z.a=some a->(λb=>b=N\/(∃a,x.a=some a/\a.block=b)\/∃a,y.a=some a/\a.block=b) a.block)->∀v∈z.cells,aj ok (ku (λb=>b=N\/(∃a,x.a=some a/\a.block=b)\/∃a,y.a=some a/\a.block=b)) v v:=by
  intro z hz v hv;simp only[TryV.cells,List.mem_cons,List.not_mem_nil,or_false]at hv;rcases hv with rfl|rfl|rfl|rfl
  .exact .bool _
  .exact .int _ _
  .exact .int _ _
  .cases hza:z.a with
   |none=>exact .slice0 _ _
   |some a=>exact .slice _ _ ⟨cW.2 ⟨hz a hza,rfl⟩,rfl,rfl⟩
 refine ET.callOp hP0 hP hin hFl ho (by simp[Region.wanted,hg]) (by k_ne) hop Tryz.func203 (by kernel_rfl) rfl hJ.okf.2.1 tB (λb hb=>.inr hb) hls2.nosp hls2.lt hls2.gl (λb=>b=N\/(∃a,x.a=some a/\a.block=b)\/∃a,y.a=some a/\a.block=b)
  (λFg v w=>v=(J.pick x y).val/\∀b,b<Fg.heap.size->w.heap[b]?=(cJ Ro Fg).heap[b]?) (λW v w τ d h=>h) ?_ ?_ ?_ ?_ ?_
 .rintro b (rfl|⟨a,ha,rfl⟩|⟨a,ha,rfl⟩)
  .exact .inl hMN
  .exact .inl (FF.blk a ha).2.1.1
  .exact .inl (FH.blk a ha).2.1.1
 .intro Fg FQ;refine⟨?_⟩;rintro b (rfl|⟨a,ha,rfl⟩|⟨a,ha,rfl⟩)
  .refine⟨_,_,(FQ.block _ (.inl hMN)).trans hN,λv hv=>?_⟩;simp only[List.mem_toArray,List.mem_append]at hv;exact hv.elim (hsl x hSx v) (hsl y hSy v)
  .obtain⟨_,h2,cs,e,h3,h4⟩:=FF.blk a ha;exact⟨cs,e,(FQ.block _ (.inl h2.1)).trans h3,λv hv=>by obtain⟨n,rfl⟩:=h4 v hv;exact .int _ _⟩
  .obtain⟨_,h2,cs,e,h3,h4⟩:=FH.blk a ha;exact⟨cs,e,(FQ.block _ (.inl h2.1)).trans h3,λv hv=>by obtain⟨n,rfl⟩:=h4 v hv;exact .int _ _⟩
 .intro v hv;simp[Act.eval]at hv;rcases hv with rfl|rfl
  .exact .slice _ _ ⟨cW.2 ⟨.inl rfl,rfl⟩,rfl,rfl⟩
  .exact .func (.func hJ.okf.2.2) rfl (λi x x' h=>by simp at h) rfl (λi x x' h=>by simp at h)
 .intro Fg FQ _ τ d;walk_nrm
  obtain⟨z',h1,_⟩:=dl (F:=Ro) ((FQ.block _ (.inl hMN)).trans hN);refine(hJ.least (re (cJ Ro Fg) τ d) N [x,y] z' (by simp) h1 ?_).mono ?_
  .intro z hz;simp only[List.mem_cons,List.not_mem_nil,or_false]at hz;rcases hz with rfl|rfl
   .exact⟨ky (FF.keep (M':=λ_=>True) (λ_ _=>trivial) λa ha=>FQ.block _ (.inl (FF.blk a ha).2.1.1)).row,FF.small⟩
   .exact⟨ky (FH.keep (M':=λ_=>True) (λ_ _=>trivial) λa ha=>FQ.block _ (.inl (FH.blk a ha).2.1.1)).row,FH.small⟩
  .rintro e w' ⟨rfl,hb⟩;exact⟨_,rfl,rfl,λb hb'=>hb.block b (by show b<(cJ Ro Fg).heap.size;rw[eO];exact hb')⟩
 .intro Fg v' M' W' FQ FL i' hB;have Fy:=hls2.rely FQ;have hy3:eE Fg (λb=>E4 b/\b≠r6/\b≠b7) y:=FH.keep (λ_ h=>h) λa ha=>FQ.block _ (.inl (FH.blk a ha).2.1.1)
  obtain⟨σ,v,V',hv,⟨rfl,hbe⟩,hw,hS,hnew,hers⟩:=hB.res;obtain⟨a',rfl,hn,ha⟩:=oe hv;have hpS:∀a,(J.pick x y).a=some a->(λb=>b=N\/(∃a,x.a=some a/\a.block=b)\/∃a,y.a=some a/\a.block=b) a.block:=by
   rcases J.pk x y with e|e<;>rw[e]<;>assumption
  have ea:a'=(J.pick x y).a:=by
   cases e:(J.pick x y).a with
   |none=>exact hn.1 e
   |some a=>
    obtain⟨d,h1,h2⟩:=ha a e;have h3:=h2.blk;rw[hS _ (hpS a e)]at h3;simp only[Option.some.injEq]at h3;rw[h1];obtain⟨d1,d2,d3⟩:=d;have h4:=h2.off;have h5:=h2.spot;obtain⟨a1,a2,a3⟩:=a;simp only at h3 h4 h5;rw[h3,h4,h5]
  have ev:TryV.val {J.pick x y with a:=a'}=(J.pick x y).val:=by rw[ea]
  rw[ev];have same:∀b cs e,E4 b->σ b=some b->Fg.heap[b]?=some (.cells cs e (0,0))->(∀v∈cs,∃n:Int,v=.int .i64 n)->W'.heap[b]?=Fg.heap[b]?:=by
   intro b cs e hm hs h3 h4;obtain⟨o,o',g1,g2,g3⟩:=hw.heap _ _ hs;obtain⟨z',f1,_⟩:=dl (F:=Ro) h3;rw[hbe b (Fy.lt b hm),f1]at g1;cases g1;cases g3 with
   |@cells _ c' _ _ z'' hv hz=>
    replace hz:=hz.resolve_right (λh=>by cases h.1);have:c'=cs:=by
     refine Array.ext hv.size.symm λj h1 h2=>?_
     obtain⟨n,hn'⟩:=h4 cs[j] (Array.getElem_mem h2);have:=hv.at_ j _ _ (Gu h2) (Gu h1);rw[hn']at this⊢;generalize c'[j]=w at this;cases this;rfl
    rw[g2,h3,this,hz];rfl
  have hko:∀b,E4 b->b≠N->W'.heap[b]?=Fg.heap[b]?:=by
   intro b hb hne;by_cases hs:(λb=>b=N\/(∃a,x.a=some a/\a.block=b)\/∃a,y.a=some a/\a.block=b) b
   .have hs':=hS b hs;rcases hs with e|⟨a,ha,rfl⟩|⟨a,ha,rfl⟩
    .exact absurd e hne
    .obtain⟨_,_,cs,e,h3,h4⟩:=Fy.held.blk a ha;exact same _ cs e hb hs' h3 h4
    .obtain⟨_,_,cs,e,h3,h4⟩:=hy3.blk a ha;exact same _ cs e hb hs' h3 h4
   .exact hB.rest.block b ⟨hb,hs⟩
  have nx:∀a,x.a=some a->a.block≠N:=λa ha e=>by
   obtain⟨_,_,cs,e',h3,h4⟩:=FF.blk a ha;rw[e,hN]at h3;cases h3;obtain⟨n,hn⟩:=h4 (.bool x.ok) (by simp[TryV.cells]);cases hn
  have ny:∀a,y.a=some a->a.block≠N:=λa ha e=>by
   obtain⟨_,_,cs,e',h3,h4⟩:=FH.blk a ha;rw[e,hN]at h3;cases h3;obtain⟨n,hn⟩:=h4 (.bool x.ok) (by simp[TryV.cells]);cases hn
  have hsz:Fg.heap.size<=W'.heap.size:=hB.ro.size;have hls':LS p Ro Fd r6 b7 x M' W':=by
   obtain⟨c,c1,c2⟩:=Fy.c6;refine⟨hB.own _ Fy.m6,hB.own _ Fy.m7,Fy.ne,⟨c,(hko _ Fy.m6 n6).trans c1,c2⟩,(hko _ Fy.m7 n7).trans Fy.c7,Fy.held.keep (λb hb=>⟨hB.own _ hb.1,hb.2⟩) (λa ha=>hko _ (Fy.held.blk a ha).2.1.1 (nx a ha)),Fy.keep.trans hB.ro,λb hb=>⟨λhm=>?_,Gn (Fy.sp b hb).2 hsz⟩,Fy.spro,hB.lt,Gq Fy.gl hsz,λb hm=>(hB.new b hm).elim (Fy.nw b) λy=>Gq Fy.keep.size y⟩;rcases hB.new b hm with hm|hm
   .exact(Fy.sp b hb).1 hm
   .have:=(Fy.sp b hb).2;omega
  have hy':eE W' (λb=>M' b/\b≠r6/\b≠b7) y:=hy3.keep (λb hb=>⟨hB.own _ hb.1,hb.2⟩) (λa ha=>hko _ (hy3.blk a ha).2.1.1 (ny a ha));have hp':eE W' (λb=>M' b/\b≠r6/\b≠b7) (J.pick x y):=by
   rcases J.pk x y with e|e
   .rw[e];exact hls'.held
   .rw[e];exact hy'
  rw[hd];walk_nrm
  clear hko same hw hS hnew hers hv hn ha ea ev hbe hpS;obtain⟨o',ho',hop',hd',hg'⟩:∃o,dJ[9]?=some o/\o.op=.store 222 (.tmp 7) (.tmp 26)/\o.dst=none/\o.guard=none:=⟨_,rfl,rfl,rfl,rfl⟩;refine ET.none ho' (by simp[Region.wanted,hg']) (by k_ne) λW4 FR _=>?_
  have hl4:=hls'.rely FR;have hp4:eE W4 (λb=>M' b/\b≠r6/\b≠b7) (J.pick x y):=hp'.keep (λ_ h=>h) λa ha=>FR.block _ (.inl (hp'.blk a ha).2.1.1)
  refine⟨W4.setRow b7 (J.pick x y).cells.toArray,(cQ hop' rfl rfl hl4.c7 rfl).1,?_,?_⟩
  .refine bT.row _ hl4.m7 λe he=>?_
   obtain⟨j,rfl⟩:=(cQ (t:=J.pick x y) hop' rfl rfl hl4.c7 rfl).2 e (mem_listed he);exact dq hl4.m7
  rw[aW (setRow_size _ _ _),hd'];walk_nrm
  apply ET.rn;have hbo:∀b,b≠b7->(W4.setRow b7 (J.pick x y).cells.toArray).heap[b]?=W4.heap[b]?:=λb hb=>setRow_other _ _ _ _ hb
  obtain⟨c,c1,c2⟩:=hl4.c6;exact hK _ _ _ _ _ _ _ _ _ _ _ _ _ _ _ _ _ _ _ _ _ _ _ ⟨hl4.m6,hl4.m7,hl4.ne,⟨c,(hbo _ hl4.ne).trans c1,c2⟩,setRow_heap _ _ _ _ _ _ hl4.c7,hp4.keep (λ_ h=>h) (λa ha=>hbo _ (hp4.blk a ha).2.1.2.2),⟨λb hb=>(hbo b (λe=>(hl4.sp b (.inr hb)).1 (e▸hl4.m7))).trans (hl4.keep.block b hb),by rw[setRow_size];exact hl4.keep.size,hl4.keep.os,hl4.keep.out⟩,λb hb=>by rw[setRow_size];exact hl4.sp b hb,hl4.spro,λb hb=>by rw[setRow_size];exact hl4.lt b hb,by rw[setRow_size];exact hl4.gl,hl4.nw⟩
theorem A8 (hJ:gX J P0 p ok Ro Fd)(hP0:bq P0 P0 ok)(hP:bq P0 Tryz.prog ok)(hin:∀f,ok.fn f=true->ok.inn f=true)(hFl:ff P0 c)(hi:i<p.L){x:TryV}
  (hK:∀(v3 v4 v5 v9 v10 v11 v12 v13 v14 v15 v16 v17 v18 v19 v20 v21 v22 v23 v24 v25 v26:Value) (y:TryV) (M:Nat->Prop) (W:World),J.Is i y->LS p Ro Fd r6 b7 (J.pick x y) M W->ET Tryz.prog false p.I Ph.noX Ro Stop M (G ((base 201).at ⟨#[J.listv,.slice (some ⟨J.nb,J.no,none⟩) p.L J.nc,.pointer (some ⟨J.tb,0,none⟩),v3,v4,v5,.pointer (some ⟨r6,0,none⟩),.pointer (some ⟨b7,0,none⟩),.int .i64 i,v9,v10,v11,v12,v13,v14,v15,v16,v17,v18,v19,v20,v21,v22,v23,v24,v25,v26],[]⟩ [.inBlock 1,.inLoop fu,.inBlock 0]) cs) W)
  {l:Array Bool}{rest:List Nat}(ho:wy .any dJ l rest):
  ∀(l0 l1 l2 l3 l4 l5 l6:Bool) (v3 v4 v5 v9 v10 v11 v12 v13 v14 v15 v16 v17 v18 v19 v20 v21 v22 v23 v24 v25 v26:Value) (M:Nat->Prop) (W:World),l=#[l0,l1,l2,l3,l4,l5,l6,false,false,false]->bC l1 l2 l3 l4 l5 l6=true->
   (l0=true->v18=x.val)->(l1=true->v19=J.listv)->(l2=true->v20=.slice (some ⟨J.nb,J.no,none⟩) p.L J.nc)->(l3=true->v21=.int .i64 i)->(l4=true->v22=.pointer (some ⟨J.nb,J.no+i,none⟩))->(l5=true->v23=J.turnv i)->
   (l6=true->∃y:TryV,v24=y.val/\J.Is i y/\eE W (λb=>M b/\b≠r6/\b≠b7) y)->LS p Ro Fd r6 b7 x M W->
   ET Tryz.prog false p.I Ph.noX Ro Stop M (G ((base 201).at ⟨#[J.listv,.slice (some ⟨J.nb,J.no,none⟩) p.L J.nc,.pointer (some ⟨J.tb,0,none⟩),v3,v4,v5,.pointer (some ⟨r6,0,none⟩),.pointer (some ⟨b7,0,none⟩),.int .i64 i,v9,v10,v11,v12,v13,v14,v15,v16,v17,v18,v19,v20,v21,v22,v23,v24,v25,v26],[]⟩ (.inRegion dJ rest::[.inBlock 1,.inLoop fu,.inBlock 0])) cs) W:=by
 induction ho with
 |nil h=>rintro l0 l1 l2 l3 l4 l5 l6 _ _ _ _ _ _ _ _ _ _ _ _ _ _ _ _ _ _ _ _ _ M W rfl hb;exact absurd h (wC _ _ _ _ _ _ _ hb).1
 |@cons l q rest hq hr ih=>
  rintro l0 l1 l2 l3 l4 l5 l6 v3 v4 v5 v9 v10 v11 v12 v13 v14 v15 v16 v17 v18 v19 v20 v21 v22 v23 v24 v25 v26 M W rfl hb h0 h1 h2 h3 h4 h5 h6 hls;have hc:=List.all_eq_true.1 (wC l0 l1 l2 l3 l4 l5 l6 hb).2 q hq;simp only[Bool.or_eq_true,Bool.and_eq_true,beq_iff_eq,Bool.not_eq_true']at hc;rcases hc with((((((⟨rfl,rfl⟩|⟨rfl,rfl⟩)|⟨rfl,rfl⟩)|⟨rfl,rfl⟩)|⟨⟨⟨rfl,rfl⟩,rfl⟩,rfl⟩)|⟨⟨rfl,rfl⟩,rfl⟩)|⟨⟨⟨rfl,rfl⟩,rfl⟩,rfl⟩)|⟨⟨rfl,rfl⟩,rfl⟩
  ·
   obtain⟨o,ho,hop,hd,hg⟩:∃o,dJ[0]?=some o/\o.op=.load 222 (.tmp 7)/\o.dst=some 18/\o.guard=none:=⟨_,rfl,rfl,rfl,rfl⟩;refine ET.val x.val ho (by simp[Region.wanted,hg]) (by k_ne) (λFe FO _=>?_) ?_
   .have Fw:=hls.rely FO;refine⟨ob hop rfl Fw.c7,λe he=>?_⟩;obtain⟨j,rfl⟩:=qg (t:=x) hop rfl Fw.c7 e he;exact dq hls.m7
   .rw[hd];walk_nrm
    exact ih true l1 l2 l3 l4 l5 l6 _ _ _ _ _ _ _ _ _ _ _ _ _ _ _ _ _ _ _ _ _ _ _ (by simp) hb (λ_=>rfl) h1 h2 h3 h4 h5 h6 hls
  .obtain⟨o,ho,hop,hd,hg⟩:∃o,dJ[1]?=some o/\o.op=.move (.tmp 0)/\o.dst=some 19/\o.guard=none:=⟨_,rfl,rfl,rfl,rfl⟩;refine ET.val (J.listv) ho (by simp[Region.wanted,hg]) (by k_ne) (λFe FO _=>?_) ?_
   .unfold execOp;refine⟨?_,λe he=>?_⟩
    .simp only[hop];go_simp
    .simp[go_sem,hop]at he
   .rw[hd];walk_nrm
    exact ih l0 true l2 l3 l4 l5 l6 _ _ _ _ _ _ _ _ _ _ _ _ _ _ _ _ _ _ _ _ _ _ _ (by simp) (EL _ _ _ _ _ hb) h0 (λ_=>rfl) h2 h3 h4 h5 h6 hls
  .obtain⟨o,ho,hop,hd,hg⟩:∃o,dJ[2]?=some o/\o.op=.move (.tmp 1)/\o.dst=some 20/\o.guard=none:=⟨_,rfl,rfl,rfl,rfl⟩;refine ET.val (.slice (some ⟨J.nb,J.no,none⟩) p.L J.nc) ho (by simp[Region.wanted,hg]) (by k_ne) (λFe FO _=>?_) ?_
   .unfold execOp;refine⟨?_,λe he=>?_⟩
    .simp only[hop];go_simp
    .simp[go_sem,hop]at he
   .rw[hd];walk_nrm
    exact ih l0 l1 true l3 l4 l5 l6 _ _ _ _ _ _ _ _ _ _ _ _ _ _ _ _ _ _ _ _ _ _ _ (by simp) (EM _ _ _ _ _ hb) h0 h1 (λ_=>rfl) h3 h4 h5 h6 hls
  .obtain⟨o,ho,hop,hd,hg⟩:∃o,dJ[3]?=some o/\o.op=.move (.tmp 8)/\o.dst=some 21/\o.guard=none:=⟨_,rfl,rfl,rfl,rfl⟩;refine ET.val (.int .i64 i) ho (by simp[Region.wanted,hg]) (by k_ne) (λFe FO _=>?_) ?_
   .unfold execOp;refine⟨?_,λe he=>?_⟩
    .simp only[hop];go_simp
    .simp[go_sem,hop]at he
   .rw[hd];walk_nrm
    exact ih l0 l1 l2 true l4 l5 l6 _ _ _ _ _ _ _ _ _ _ _ _ _ _ _ _ _ _ _ _ _ _ _ (by simp) (EO _ _ _ _ _ hb) h0 h1 h2 (λ_=>rfl) h4 h5 h6 hls
  .obtain⟨o,ho,hop,hd,hg⟩:∃o,dJ[4]?=some o/\o.op=.indexAddr 224 (.tmp 20) (.tmp 21)/\o.dst=some 22/\o.guard=none:=⟨_,rfl,rfl,rfl,rfl⟩;obtain rfl:=h2 rfl;obtain rfl:=h3 rfl;refine ET.val (.pointer (some ⟨J.nb,J.no+i,none⟩)) ho (by simp[Region.wanted,hg]) (by k_ne) (λFe FO _=>?_) ?_
   .have hi':(i:Int)<p.L:=by omega
    unfold execOp;refine⟨?_,λe he=>?_⟩
    .simp only[hop];go_simp
    .simp only[hop]at he;simp[go_sem]at he;rw[events_indexAt_slice _ _ _ _ _ _ (by go_simp) (by omega)]at he;simp at he
   .rw[hd];walk_nrm
    exact ih l0 l1 true true true l5 l6 _ _ _ _ _ _ _ _ _ _ _ _ _ _ _ _ _ _ _ _ _ _ _ (by simp) (EP _ _ _ hb) h0 h1 h2 h3 (λ_=>rfl) h5 h6 hls
  .obtain⟨o,ho,hop,hd,hg⟩:∃o,dJ[5]?=some o/\o.op=.load 164 (.tmp 22)/\o.dst=some 23/\o.guard=none:=⟨_,rfl,rfl,rfl,rfl⟩;obtain rfl:=h4 rfl;refine ET.val (J.turnv i) ho (by simp[Region.wanted,hg]) (by k_ne) (λFe FO _=>?_) ?_
   .have hc:Fe.cell? ⟨J.nb,J.no+i,none⟩=some (J.turnv i):=by
     rw[<-hJ.near i hi];simp only[World.cell?,(hls.rely FO).keep.block _ hJ.rnb]
    unfold execOp;refine⟨?_,λe he=>?_⟩
    .simp only[hop];go_simp
    .simp[go_sem,hop,hc]at he;subst he;exact n8 hJ.rnb
   .rw[hd];walk_nrm
    exact ih l0 l1 l2 l3 true true l6 _ _ _ _ _ _ _ _ _ _ _ _ _ _ _ _ _ _ _ _ _ _ _ (by simp) (EQ _ _ _ _ hb) h0 h1 h2 h3 h4 (λ_=>rfl) h6 hls
  ·
   obtain⟨o,ho,hop,hd,hg⟩:∃o,dJ[6]?=some o/\o.op=.call {callee:=.value (.func 227),args:=#[.tmp 19,.tmp 23],argTypes:=#[30,164]}/\o.dst=some 24/\o.guard=none:=⟨_,rfl,rfl,rfl,rfl⟩;obtain rfl:=h1 rfl;obtain rfl:=h5 rfl;obtain⟨rfl,rfl,rfl⟩:=ER _ _ _ hb;refine ET.callOp hP0 hP hin hFl ho (by simp[Region.wanted,hg]) (by k_ne) hop Tryz.func227 (by kernel_rfl) rfl hJ.okf.1 tB (λb hb=>.inr hb) hls.nosp hls.lt hls.gl (J.S i)
    (λFe v w=>∃y:TryV,v=y.val/\J.Is i y/\eE w (λb=>Fe.heap.size<=b) y) (λW v w τ d ⟨y,e1,e2,e3⟩=>⟨y,e1,e2,e3.keep (λ_ h=>h) (λ_ _=>rfl)⟩) (λb hb=>.inr (hJ.sro i b hb)) (λFe FO=>hJ.closed i hi Fe (hls.rely FO).keep) ?_ ?_ ?_
   .intro v hv;simp[Act.eval]at hv;rcases hv with rfl|rfl
    .exact hJ.argl i hi
    .exact hJ.argt i hi
   .intro Fe FO _ τ d;walk_nrm
    refine(hJ.try_ i hi Ro Fe (hls.rely FO).keep τ d).mono ?_;rintro e w' ⟨y,rfl,e2,e3⟩;exact⟨_,rfl,y,rfl,e2,e3⟩
   .intro Fe v' M' W' FO FK i' hB;have Fw:=hls.rely FO;obtain⟨σ,v,V',hv,⟨y,rfl,hy,hh⟩,hw,hS,hnew,hers⟩:=hB.res;obtain⟨a',rfl,hn,ha⟩:=oe hv;have hsn:∀b,M b->¬J.S i b:=λb hb hs=>(Fw.sp b (.inr (hJ.sro i b hs))).1 hb
    have hko:∀b,M b->W'.heap[b]?=Fe.heap[b]?:=λb hb=>hB.rest.block b ⟨hb,hsn b hb⟩
    have hbig:∀a d,y.a=some a->σ a.block=some d->Fe.heap.size<=d:=λa d h1 h2=>(hnew _ _ h2).elim (λe=>by
     have:=(hh.blk a h1).2.1;have:=(Fw.sp _ (.inr (hJ.sro i _ e.1))).2;omega) id
    have hM':∀a d,y.a=some a->σ a.block=some d->M' d/\d≠r6/\d≠b7:=λa d h1 h2=>by
     have hb:=hbig a d h1 h2;have l6:=Fw.lt _ Fw.m6;have l7:=Fw.lt _ Fw.m7;refine⟨(hers _ _ h2).resolve_right λe=>?_,by omega,by omega⟩;have:=(Fw.sp d (.inr e.1)).2;omega
    have hH:=xK hw ⟨hh.row,hh.small,λa ha=>⟨(hh.blk a ha).1,trivial,(hh.blk a ha).2.2⟩,hh.full⟩ hn ha hM';have hsz:Fe.heap.size<=W'.heap.size:=hB.ro.size;have hls':LS p Ro Fd r6 b7 x M' W':=by
     obtain⟨c,c1,c2⟩:=Fw.c6;refine⟨hB.own _ Fw.m6,hB.own _ Fw.m7,Fw.ne,⟨c,(hko _ Fw.m6).trans c1,c2⟩,(hko _ Fw.m7).trans Fw.c7,Fw.held.keep (λb hb=>⟨hB.own _ hb.1,hb.2⟩) (λa ha=>hko _ (Fw.held.blk a ha).2.1.1),Fw.keep.trans hB.ro,λb hb=>⟨λhm=>?_,Gn (Fw.sp b hb).2 hsz⟩,Fw.spro,hB.lt,Gq Fw.gl hsz,λb hm=>(hB.new b hm).elim (Fw.nw b) λy=>Gq Fw.keep.size y⟩;rcases hB.new b hm with hm|hm
     .exact(Fw.sp b hb).1 hm
     .have:=(Fw.sp b hb).2;omega
    rw[hd];walk_nrm
    exact ih l0 true true true true true true _ _ _ _ _ _ _ _ _ _ _ _ _ _ _ _ _ _ _ _ _ _ _ (by simp) rfl h0 h1 h2 h3 h4 h5 (λ_=>⟨_,rfl,hJ.ren i y a' hy hn,hH⟩) hls'
  .obtain⟨rfl,rfl,rfl,rfl,rfl⟩:=ES _ _ _ _ _ hb;obtain⟨y,rfl,hy,hh⟩:=h6 rfl;obtain rfl:=h0 rfl;obtain rfl:rest=[8,9]:=by
    have e1:(#[true,true,true,true,true,true,true,false,false,false]:Array Bool).setIfInBounds 7 true=#[true,true,true,true,true,true,true,true,false,false]:=by simp
    rw[e1]at hr;clear ih hK;generalize hL:(#[true,true,true,true,true,true,true,true,false,false]:Array Bool)=L at hr;cases hr with
    |nil h=>subst hL;exact absurd h (by decide +kernel)
    |@cons _ q1 r1 h1' hr1=>
     subst hL;rw[show Region.ready .any dJ #[true,true,true,true,true,true,true,true,false,false]=[8] from by decide +kernel]at h1';obtain rfl:=List.mem_singleton.1 h1';have e2:(#[true,true,true,true,true,true,true,true,false,false]:Array Bool).setIfInBounds 8 true=#[true,true,true,true,true,true,true,true,true,false]:=by simp
     rw[e2]at hr1;generalize hL:(#[true,true,true,true,true,true,true,true,true,false]:Array Bool)=L at hr1;cases hr1 with
     |nil h=>subst hL;exact absurd h (by decide +kernel)
     |@cons _ q2 r2 h2' hr2=>
      subst hL;rw[show Region.ready .any dJ #[true,true,true,true,true,true,true,true,true,false]=[9] from by decide +kernel]at h2';obtain rfl:=List.mem_singleton.1 h2';have e3:(#[true,true,true,true,true,true,true,true,true,false]:Array Bool).setIfInBounds 9 true=#[true,true,true,true,true,true,true,true,true,true]:=by simp
      rw[e3]at hr2;generalize hL:(#[true,true,true,true,true,true,true,true,true,true]:Array Bool)=L at hr2;cases hr2 with
      |nil h=>rfl
      |@cons _ q3 r3 h3' hr3=>
       subst hL;exact absurd h3' (by rw[show Region.ready .any dJ #[true,true,true,true,true,true,true,true,true,true]=[] from by decide +kernel];simp)
   exact A7 hJ hP0 hP hin hFl (λa0 a1 a2 a3 a4 a5 a6 a7 a8 a9 a10 a11 a12 a13 a14 a15 a16 a17 a18 a19 a20 M W h=>hK a0 a1 a2 a3 a4 a5 a6 a7 a8 a9 a10 a11 a12 a13 a14 a15 a16 a17 a18 a19 a20 y M W hy h) _ _ _ _ _ _ _ _ _ _ _ _ _ _ _ _ _ _ _ _ _ hh hls
end
theorem mixed:Tryz.prog.follows .mixedOrders=true:=by kernel_rfl
section
variable [Gl]{J:Jb}{P0:Program}{p:Ph}{ok:Ctx}{c c0:Frame}{Ro:Nat->Prop}{Fd:World}{cs:List Frame}{k r6 b7 bi:Nat}
theorem A9 (hJ:gX J P0 p ok Ro Fd)(hP0:bq P0 P0 ok)(hP:bq P0 Tryz.prog ok)(hin:∀f,ok.fn f=true->ok.inn f=true)(hFl:ff P0 c)(hL:p.L<4611686018427387904)
  (hret:∀seq x M W,n9 J seq x->LS p Ro Fd r6 b7 x M W->W.cell? ⟨r6,0,none⟩=some (.bool x.ok)->ET Tryz.prog false p.I Ph.noX Ro (p.AtPut k seq) M (G (c0.finish x.val) cs) W)(f:Nat):
  ∀(lo:Nat) (seq:List Nat) (x:TryV) (M:Nat->Prop) (W:World) (v3 v4 v5 v8 v9 v10 v11 v12 v13 v14 v15 v16 v17 v18 v19 v20 v21 v22 v23 v24 v25 v26:Value),p.L<=lo+f->n9 J seq x->LS p Ro Fd r6 b7 x M W->
   ET Tryz.prog false p.I Ph.noX Ro (p.AtFetch k Ro f lo seq) M (G ((base 201).at ⟨#[J.listv,.slice (some ⟨J.nb,J.no,none⟩) p.L J.nc,.pointer (some ⟨J.tb,0,none⟩),v3,v4,v5,.pointer (some ⟨r6,0,none⟩),.pointer (some ⟨b7,0,none⟩),v8,v9,v10,v11,v12,v13,v14,v15,v16,v17,v18,v19,v20,v21,v22,v23,v24,v25,v26],[]⟩ [.code fu,.inLoop fu,.inBlock 0]) (c0::cs)) W:=by
 induction f with
 |zero=>
  intro lo seq x M W v3 v4 v5 v8 v9 v10 v11 v12 v13 v14 v15 v16 v17 v18 v19 v20 v21 v22 v23 v24 v25 v26 hlo hb hls;obtain⟨g1,g2,hA,⟨hs,hB⟩,hC,hD⟩:=zy (r6:=r6) (b7:=b7) (c0:=c0) (cs:=cs) hJ hL v3 v4 v5 v8 v9 v10 v11 v12 v13 v14 v15 v16 v17 v18 v19 v20 v21 v22 v23 v24 v25 v26;refine hA _ _ _ (ET.stop λFe FO _=>⟨hs,λy h1 h2 h3=>⟨by omega,g2 y,?_⟩⟩);rw[hJ.prog];have hl:=hls.rely (FO.trans ((hls.rely FO).tk (.int .i64 (y+1))));exact⟨hB Fe y h2 h3,hD _ _ _ y x (by omega) h2 hl λW' h4 h5=>hret seq x M W' hb h4 h5⟩
 |succ f ih=>
  intro lo seq x M W v3 v4 v5 v8 v9 v10 v11 v12 v13 v14 v15 v16 v17 v18 v19 v20 v21 v22 v23 v24 v25 v26 hlo hb hls;obtain⟨g1,g2,hA,⟨hs,hB⟩,hC,hD⟩:=zy (r6:=r6) (b7:=b7) (c0:=c0) (cs:=cs) hJ hL v3 v4 v5 v8 v9 v10 v11 v12 v13 v14 v15 v16 v17 v18 v19 v20 v21 v22 v23 v24 v25 v26;refine hA _ _ _ (ET.stop λFe FO _=>⟨hs,λy h1 h2 h3=>⟨g2 y,?_⟩⟩);rw[hJ.prog];have hl:=hls.rely (FO.trans ((hls.rely FO).tk (.int .i64 (y+1))));refine⟨hB Fe y h2 h3,λh4=>hD _ _ _ y x h4 h2 hl λW' h5 h6=>hret seq x M W' hb h5 h6,λh4=>hC _ _ _ y h4 ?_⟩;intro a3 a4 a5 a8 a9 a10 a11 a12 a13 a14 a15 a16 a17 a18 a19 a20 a21 a22 a23 a24 a25 a26;refine ET.drawn mixed λorder ho=>?_
  have e:(Array.replicate dJ.size false)=#[false,false,false,false,false,false,false,false,false,false]:=by kernel_rfl
  rw[e]at ho;refine A8 hJ hP0 hP hin hFl h4 ?_ ho false false false false false false false _ _ _ _ _ _ _ _ _ _ _ _ _ _ _ _ _ _ _ _ _ M _ rfl rfl (λh=>by cases h) (λh=>by cases h) (λh=>by cases h) (λh=>by cases h) (λh=>by cases h) (λh=>by cases h) (λh=>by cases h) hl;intro b3 b4 b5 b9 b10 b11 b12 b13 b14 b15 b16 b17 b18 b19 b20 b21 b22 b23 b24 b25 b26 z M' W' hz hls';refine ET.c (λ_=>stepG_inBlock) (ET.c (λ_=>stepG_inLoop) ?_);exact ih (y+1) (seq++[y]) (J.pick x z) M' W' _ _ _ _ _ _ _ _ _ _ _ _ _ _ _ _ _ _ _ _ _ _ (by omega) (hb.snoc hz) hls'
end
theorem DW:(Tryz.f201.name== "runtime.NumGoroutine")=false:=by kernel_rfl
section
variable [Gl]{J:Jb}{P0:Program}{p:Ph}{ok:Ctx}{c:Frame}{Ro:Nat->Prop}{Fd:World}{k bi:Nat}
theorem zz (hJ:gX J P0 p ok Ro Fd)(hP0:bq P0 P0 ok)(hP:bq P0 Tryz.prog ok)(hin:∀f,ok.fn f=true->ok.inn f=true)(hFl:ff P0 c)(hL:p.L<4611686018427387904)(hk4:k<4)(hbi:Ro bi)(hib:Fd.heap[bi]?=some (.cells #[.int .i64 k] 3 (0,0)))(hWB:p.Wg≠p.Bs)
  (hspro:∀b,p.Sp b->¬Ro b)(hlt:∀b,p.Sp b\/Ro b->b<Fd.heap.size)(hgl:Gl.n<=Fd.heap.size){l:Array Bool}{rest:List Nat}(ho:wy .any eh l rest):
  ∀(l0 l1 l2 l3 l5:Bool) (v6 v7 v8 v9 v10 v11:Value) (W:World),l=#[l0,l1,l2,l3,false,l5,false]->(l0=true->v6=.slice (some ⟨p.Bs,0,none⟩) 4 4)->(l1=true->v7=.int .i64 k)->(l2=true->v8=J.listv)->(l3=true->v9=.slice (some ⟨J.nb,J.no,none⟩) p.L J.nc)->(l5=true->v11=.pointer (some ⟨p.Bs,k*4,none⟩))->(l5=true->l0=true/\l1=true)->
   ax Ro Fd W->Fd.heap.size<=W.heap.size->
   ET Tryz.prog false p.I Ph.noX Ro (p.AtFetch k Ro p.L 0 []) (λ_=>False) (G (DV J p.Wg bi v6 v7 v8 v9 v10 v11 rest) [bot]) W:=by
 induction ho with
 |nil h=>rintro l0 l1 l2 l3 l5 v6 v7 v8 v9 v10 v11 W rfl;exact absurd h (nq _ _ _ _ _ _).1
 |@cons l q rest hq hr ih=>
  rintro l0 l1 l2 l3 l5 v6 v7 v8 v9 v10 v11 W rfl h6 h7 h8 h9 h11 h5 hK hsz;have hc:=List.all_eq_true.1 (nq l0 l1 l2 l3 false l5).2 q hq;simp only[Bool.or_eq_true,Bool.and_eq_true,beq_iff_eq,Bool.not_eq_true',Bool.false_eq_true,and_false,false_and,or_false,and_true]at hc;rcases hc with((((⟨rfl,rfl⟩|⟨rfl,rfl⟩)|⟨rfl,rfl⟩)|⟨rfl,rfl⟩)|⟨⟨rfl,rfl⟩,rfl⟩)|⟨⟨⟨rfl,rfl⟩,rfl⟩,rfl⟩
  .obtain⟨o,ho,hop,hd,hg⟩:∃o,eh[0]?=some o/\o.op=.load 256 (.tmp 4)/\o.dst=some 6/\o.guard=none:=⟨_,rfl,rfl,rfl,rfl⟩;refine ET.val (.slice (some ⟨p.Bs,0,none⟩) 4 4) ho (by simp[Region.wanted,hg]) (by k_ne) (λFe FO _=>?_) ?_
   .have hb:=cK ((FO.block _ (.inr hJ.rbb)).trans ((hK.block _ hJ.rbb).trans hJ.bbox));unfold execOp;refine⟨?_,λe he=>?_⟩
    .simp only[hop];go_simp
    .simp[go_sem,hop,hb]at he;subst he;exact n8 hJ.rbb
   .rw[hd];walk_nrm
    exact ih true l1 l2 l3 l5 _ _ _ _ _ _ _ (by simp) (λ_=>rfl) h7 h8 h9 h11 (λe=>⟨rfl,(h5 e).2⟩) hK hsz
  .obtain⟨o,ho,hop,hd,hg⟩:∃o,eh[1]?=some o/\o.op=.load 3 (.tmp 5)/\o.dst=some 7/\o.guard=none:=⟨_,rfl,rfl,rfl,rfl⟩;refine ET.val (.int .i64 k) ho (by simp[Region.wanted,hg]) (by k_ne) (λFe FO _=>?_) ?_
   .have hb:=cK ((FO.block _ (.inr hbi)).trans ((hK.block _ hbi).trans hib));unfold execOp;refine⟨?_,λe he=>?_⟩
    .simp only[hop];go_simp
    .simp[go_sem,hop,hb]at he;subst he;exact n8 hbi
   .rw[hd];walk_nrm
    exact ih l0 true l2 l3 l5 _ _ _ _ _ _ _ (by simp) h6 (λ_=>rfl) h8 h9 h11 (λe=>⟨(h5 e).1,rfl⟩) hK hsz
  .obtain⟨o,ho,hop,hd,hg⟩:∃o,eh[2]?=some o/\o.op=.load 30 (.tmp 1)/\o.dst=some 8/\o.guard=none:=⟨_,rfl,rfl,rfl,rfl⟩;refine ET.val (J.listv) ho (by simp[Region.wanted,hg]) (by k_ne) (λFe FO _=>?_) ?_
   .have hb:=cK ((FO.block _ (.inr hJ.rbl)).trans ((hK.block _ hJ.rbl).trans hJ.lbox));unfold execOp;refine⟨?_,λe he=>?_⟩
    .simp only[hop];go_simp
    .simp[go_sem,hop,hb]at he;subst he;exact n8 hJ.rbl
   .rw[hd];walk_nrm
    exact ih l0 l1 true l3 l5 _ _ _ _ _ _ _ (by simp) h6 h7 (λ_=>rfl) h9 h11 h5 hK hsz
  .obtain⟨o,ho,hop,hd,hg⟩:∃o,eh[3]?=some o/\o.op=.load 224 (.tmp 2)/\o.dst=some 9/\o.guard=none:=⟨_,rfl,rfl,rfl,rfl⟩;refine ET.val (.slice (some ⟨J.nb,J.no,none⟩) p.L J.nc) ho (by simp[Region.wanted,hg]) (by k_ne) (λFe FO _=>?_) ?_
   .have hb:=cK ((FO.block _ (.inr hJ.rbn)).trans ((hK.block _ hJ.rbn).trans hJ.nbox));unfold execOp;refine⟨?_,λe he=>?_⟩
    .simp only[hop];go_simp
    .simp[go_sem,hop,hb]at he;subst he;exact n8 hJ.rbn
   .rw[hd];walk_nrm
    exact ih l0 l1 l2 true l5 _ _ _ _ _ _ _ (by simp) h6 h7 h8 (λ_=>rfl) h11 h5 hK hsz
  .obtain⟨o,ho,hop,hd,hg⟩:∃o,eh[4]?=some o/\o.op=.call {callee:=.value (.func 201),args:=#[.tmp 8,.tmp 9,.tmp 3],argTypes:=#[30,224,259]}/\o.dst=some 10/\o.guard=none:=⟨_,rfl,rfl,rfl,rfl⟩;obtain rfl:=h8 rfl;obtain rfl:=h9 rfl;refine ET.k rfl (λ_ _ _=>goes_call ho (by simp[Region.wanted,hg]) (by k_ne) hop Tryz.func201 DW rfl ⟨⟨rfl,λe he=>(by simp at he)⟩,?_⟩);walk_nrm
   have en:∀n,Tryz.f201.ntmps-n=27-n:=λn=>rfl
   rw[en];walk_nrm
   rw[<-hJ.prog];refine A6 hJ (λ_=>False) W hK (λb hb=>⟨id,Gn (hlt b hb) hsz⟩) hspro (λb hb=>hb.elim) (Gq hgl hsz) (λb hb=>hb.elim) ?_;intro r6 b7 a0 a1 a2 a3 a4 a5 a6 a7 a8 a9 a10 a11 a12 a13 a14 a15 a16 a17 a18 a19 a20 a21 M' W' hls;rw[hJ.prog];refine A9 hJ hP0 hP hin hFl hL ?_ p.L 0 [] noTry M' W' _ _ _ _ _ _ _ _ _ _ _ _ _ _ _ _ _ _ _ _ _ _ (by omega) .nil hls;intro seq x M W hb hl hc;rw[Frame.finish_at,ho];simp only[Option.bind_some,hd];walk_nrm
   have:=A5 hJ hk4 hbi hWB hb hr l0 l1 l5 v6 v7 J.listv (.slice (some ⟨J.nb,J.no,none⟩) p.L J.nc) v11 M W r6 (.bool x.ok) (by simp) h6 h7 h11 hl.keep ((hl.keep.block _ hbi).trans hib) hl.m6 hc (hl.held.keep (λb h=>⟨h.1,h.2.1⟩) λ_ _=>rfl) (λb hb=>(hl.sp b (.inl hb)).1) (λb hb=>Gq hJ.base (hl.nw b hb)) h5;rw[hJ.prog]at this;exact this
  .obtain⟨o,ho,hop,hd,hg⟩:∃o,eh[5]?=some o/\o.op=.indexAddr 256 (.tmp 6) (.tmp 7)/\o.dst=some 11/\o.guard=none:=⟨_,rfl,rfl,rfl,rfl⟩;refine ET.val (.pointer (some ⟨p.Bs,k*4,none⟩)) ho (by simp[Region.wanted,hg]) (by k_ne) (λFe FO _=>?_) ?_
   .rw[h6 rfl,h7 rfl];unfold execOp;refine⟨?_,λe he=>?_⟩
    .simp only[hop];go_simp
     intro h;omega
    .simp only[hop]at he;simp[go_sem]at he;rw[events_indexAt_slice _ _ _ _ _ _ (by go_simp) (by omega)]at he;simp at he
   .rw[hd];walk_nrm
    exact ih true true l2 l3 true _ _ _ _ _ _ _ (by simp) h6 h7 h8 h9 (λ_=>rfl) (λ_=>⟨rfl,rfl⟩) hK hsz
theorem Dc (hJ:gX J P0 p ok Ro Fd)(hP0:bq P0 P0 ok)(hP:bq P0 Tryz.prog ok)(hin:∀f,ok.fn f=true->ok.inn f=true)(hFl:ff P0 c)(hL:p.L<4611686018427387904)(hk4:k<4)(hbi:Ro bi)(hib:Fd.heap[bi]?=some (.cells #[.int .i64 k] 3 (0,0)))(hWB:p.Wg≠p.Bs)
  (hspro:∀b,p.Sp b->¬Ro b)(hlt:∀b,p.Sp b\/Ro b->b<Fd.heap.size)(hgl:Gl.n<=Fd.heap.size):
  ET p.P false p.I Ph.noX Ro (p.AtFetch k Ro p.L 0 []) (λ_=>False) (born Tryz.prog (call47 J p.Wg bi)) Fd:=by
 rw[hJ.prog];refine ET.c (λw=>xH J p.Wg bi w) ?_;simp only[rA,Tryz.f199,Option.getD_some];apply ET.sq;apply ET.rg
 (refine ET.c (λ_=>stepG_defer rfl rfl (by k_ne) rfl) ?_;walk_nrm)
 apply ET.rn;refine ET.drawn mixed λorder ho=>?_
 have e:(Array.replicate eh.size false)=#[false,false,false,false,false,false,false]:=by kernel_rfl
 change wy .any eh (Array.replicate eh.size false) order at ho;rw[e]at ho;exact zz hJ hP0 hP hin hFl hL hk4 hbi hib hWB hspro hlt hgl ho false false false false false _ _ _ _ _ _ Fd rfl (λh=>by cases h) (λh=>by cases h) (λh=>by cases h) (λh=>by cases h) (λh=>by cases h) (λh=>by cases h) (ax.refl _ _) (Gm _)
end
end
