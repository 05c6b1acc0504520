import Derived.Test.YtlmcblcijndipaaGreatDoorj04
import Derived.Test.YtlmcblcijndipaaGreatDoorj13
set_option linter.defProp false
set_option linter.unusedSimpArgs false
set_option linter.unusedVariables false
set_option maxHeartbeats 2000000
set_option maxRecDepth 100000
namespace Go.Proofs.YtlmcblcijndipaaGreatDoor
open Conc Conc.Lib ConcR.Gen RowKit
variable {Stop:(Nat->Prop)->Goroutine->World->Prop}{a:Addr}{l:Array Bool}{ok:Ctx}{c c0:Frame}{fn:Func}{cs:List Frame}{todo:List Item}{rest:List Nat}{b7 bi g i k off r6:Nat}{M M':Nat->Prop}{o:Oper}{p:Ph}{P P0:Program}{v:Value}{W W' acF ah w:World}{x:aN}
def nl (id:Nat):Code->Option (Array Oper)
 |.region i ops _=>if i==id then some ops else none
 |.seq a b=>(nl id a).or (nl id b)
 |.cond _ a b=>(nl id a).or (nl id b)
 |.block _ c=>nl id c
 |.loop c=>nl id c
 |.scope c=>nl id c
 |_=>none
def jW:Code->Option Code
 |.seq a b=>(jW a).or (jW b)
 |.cond _ a b=>(jW a).or (jW b)
 |.block _ c=>jW c
 |.loop c=>some c
 |.scope c=>jW c
 |_=>none
section
variable {m:Bool}{I:World->Prop}{X:Event->Prop}{Ro:Nat->Prop}
 {b:Frame}{a:Act}{k:List Item}{ops:Array Oper}
def pq {w':World}(ho:ops[i]?=some o)(hw:Region.wanted o (yielded ops a.tmps)=true)(hk:b.kind≠.early)(hr:(execOp a.eval o).run P w=.ok (.value v) w'):
  stepG P m (G (b.at a<|.inRegion ops (i::rest)::k) cs) w=.go (G (b.at (a.put o.dst v)<|.inRegion ops rest::k) cs) w' (listed P b.fn a o w):=by
 have:=goes_oper_k (P:=P) (main:=m) (cs:=cs) (k:=k) (rest:=rest) (w:=w) (K:=λg' w'' es=>g'=G (b.at (a.put o.dst v)<|.inRegion ops rest::k) cs/\w''=w'/\es=listed P b.fn a o w) ho hw hk (λK' h=>by rw[hr];exact h _ _ ⟨rfl,rfl,rfl⟩);let⟨g',w'',es,h1,h2,h3,h4⟩:=goes_elim this;rw[h1,h2,h3,h4]
def ET.oper (ho:ops[i]?=some o)(hw:Region.wanted o (yielded ops a.tmps)=true)(hk:b.kind≠.early)
  (h:∀ah,aO (λb=>M b\/Ro b) W ah->I ah->∃v W',(execOp a.eval o).run P ah=.ok (.value v) W'/\eU X M Ro ah W' (listed P b.fn a o ah)/\ET P m I X Ro Stop (grow M ah W') (G (b.at (a.put o.dst v)<|.inRegion ops rest::k) cs) W'):
  ET P m I X Ro Stop M (G (b.at a<|.inRegion ops (i::rest)::k) cs) W:=
 ET.step rfl λah acN pP=>by
  let⟨v,W',h1,h2,h3⟩:=h ah acN pP;exact⟨_,_,_,pq ho hw hk h1,h2,h3⟩
def ET.val (v:Value)(ho:ops[i]?=some o)(hw:Region.wanted o (yielded ops a.tmps)=true)(hk:b.kind≠.early)
  (h:∀ah,aO (λb=>M b\/Ro b) W ah->I ah->(execOp a.eval o).run P ah=.ok (.value v) ah/\∀e∈(execOp a.eval o).events P ah #[],FX X M Ro e)
  (n:ET P m I X Ro Stop M (G (b.at (a.put o.dst v)<|.inRegion ops rest::k) cs) W):ET P m I X Ro Stop M (G (b.at a<|.inRegion ops (i::rest)::k) cs) W:=
 ET.oper ho hw hk λah acN pP=>⟨v,ah,(h ah acN pP).1,eU.stay λe he=>(h ah acN pP).2 e<|mem_listed he,by rw[show grow M ah ah=M from cK rfl];exact n.rely acN⟩
def ET.none (ho:ops[i]?=some o)(hw:Region.wanted o (yielded ops a.tmps)=true)(hk:b.kind≠.early)
  (h:∀ah,aO (λb=>M b\/Ro b) W ah->I ah->∃W',(execOp a.eval o).run P ah=.ok .skip W'/\eU X M Ro ah W' (listed P b.fn a o ah)/\ET P m I X Ro Stop (grow M ah W') (G (b.at (a.put o.dst undef)<|.inRegion ops rest::k) cs) W'):
  ET P m I X Ro Stop M (G (b.at a<|.inRegion ops (i::rest)::k) cs) W:=
 ET.step rfl λah acN pP=>by
  let⟨W',h1,h2,h3⟩:=h ah acN pP;exact⟨_,_,_,stepG_none ho hw hk h1,h2,h3⟩
def Dc (hn:b.kind=.normal)(hd:a.defers=[])(hf:P.funcs[b.fn]?=some fn)(hr:(results fn a.tmps).run P w=.ok v w):
  stepG P m (G {b.at a todo with mode:=.returning}<|c::cs) w=.go (G (c.finish v) cs) w (seen P b.fn<|(results fn a.tmps).events P w #[]):=by
 simp[G,stepG,unwind,doReturn,Frame.at,hn,hd,hf,hr,GStep.after]
def ET.CI (v:Value)(hn:b.kind=.normal)(hd:a.defers=[])(hf:P.funcs[b.fn]?=some fn)
  (h:∀ah,aO (λb=>M b\/Ro b) W ah->I ah->(results fn a.tmps).run P ah=.ok v ah/\∀e∈(results fn a.tmps).events P ah #[],FX X M Ro e)
  (n:ET P m I X Ro Stop M (G (c.finish v) cs) W):ET P m I X Ro Stop M (G {b.at a todo with mode:=.returning}<|c::cs) W:=
 ET.step rfl λah acN pP=>⟨_,_,_,Dc hn hd hf (h ah acN pP).1,eU.stay λe he=>(h ah acN pP).2 e<|jP _ _ _ e he,by rw[show grow M ah ah=M from cK rfl];exact n.rely acN⟩
def eU.row (cs:Array Value)(ha:M g){es:Array Event}(h:∀e∈es,FX X M Ro e):eU X M Ro W (W.setRow g cs) es:=
 ⟨λb _ hm=>setRow_other _ _ _ _ λe=>hm<|e▸ha,Nat.le_of_eq (setRow_size _ _ _).symm,rfl,rfl,rfl,λe he=>by rw[show grow M W (W.setRow g cs)=M from cK (setRow_size _ _ _)];exact h e he⟩
def xh {a:Addr}(h:Ro a.block):FX X M Ro ⟨.cell a,false,false⟩:=.inl ⟨rfl,a,rfl,.inr ⟨h,rfl⟩⟩
def gM {a:Addr}{w:Bool}(h:M a.block):FX X M Ro ⟨.cell a,w,false⟩:=.inl ⟨rfl,a,rfl,.inl h⟩
end
section
variable [Gl]
structure Jb where
 bl:Nat
 bn:Nat
 bb:Nat
 nb:Nat
 no:Nat
 nc:Nat
 tb:Nat
 jg:Value
 gX:Nat->Value
 S:Nat->Nat->Prop
 Is:Nat->aN->Prop
 lt:aN->aN->Bool
 base:Nat
def Jb.pick (J:Jb)(x y:aN):aN:=if J.lt y x=true then y else x
def Jb.cV (J:Jb):List aN->aN
 |[]=>ep
 |x::xs=>xs.foldl J.pick x
omit [Gl] in
def Jb.pk (J:Jb)(x y:aN):J.pick x y=x\/J.pick x y=y:=by
 unfold Jb.pick;split
 .exact .inr rfl
 .exact .inl rfl
inductive wI (J:Jb):List Nat->aN->Prop
 |nil:wI J [] ep
 |snoc {seq:List Nat} {i:Nat} {x y:aN}:wI J seq x->J.Is i y->wI J (seq++[i]) (J.pick x y)
structure iY (W:World)(M:Nat->Prop)(x:aN):Prop where
 row:eA W x.a x.n x.g
 small:x.n<=1048576
 blk:∀a,x.a=some a->a.spot=none/\M a.block/\∃cs e,W.heap[a.block]?=some (.cells cs e (0,0))/\∀v∈cs,∃n:Int,v=.int .i64 n
 full:∀a,x.a=some a->a.off=0/\∃cs,W.heap[a.block]?=some (.cells cs 3 (0,0))/\cs.size=x.n
omit [Gl] in
def iY.keep (h:iY W M x)(hm:∀b,M b->M' b)(hk:∀a,x.a=some a->W'.heap[a.block]?=W.heap[a.block]?):iY W' M' x:=by
 refine⟨?_,h.small,λa ha=>?_,λa ha=>?_⟩
 .rcases h.row with e|⟨b,off,e,hr⟩
  .exact .inl e
  .refine .inr ⟨b,off,e,λi hi=>?_⟩;have:=hr i hi;simp only[World.cell?]at this⊢;rw[hk _ e];exact this
 .let⟨h1,h2,cs,e,h3,h4⟩:=h.blk a ha;exact⟨h1,hm _ h2,cs,e,(hk a ha).trans h3,h4⟩
 .let⟨h1,cs,h2,h3⟩:=h.full a ha;exact⟨h1,cs,(hk a ha).trans h2,h3⟩
def IY (J:Jb)(seq:List Nat)(vs:List Value)(Mr:Nat->Prop)(W:World):Prop:=∃x:aN,vs=x.cells/\wI J seq x/\iY W Mr x/\∀b,Mr b->J.base<=b
structure mQ (J:Jb)(P0:Program)(p:Ph)(ok:Ctx)(Ro:Nat->Prop)(acF:World):Prop where
 prog:p.P=Tryz.prog
 ty:p.ty=210
 tk:p.tk=J.tb
 wd:p.wd=4
 n4:p.n=4
 Ys:p.Ys=177
 res:p.Ur=IY J
 base:J.base<=acF
 o_:acF.heap[J.bl]?=some (.cells #[J.jg] 23 (0,0))
 A':acF.heap[J.bn]?=some (.cells #[.slice (some ⟨J.nb,J.no,none⟩) p.L J.nc] 179 (0,0))
 Uw:acF.heap[J.bb]?=some (.cells #[.slice p.Bs 4 4] 211 (0,0))
 O':Ro J.bl
 O_:Ro J.bn
 TY:Ro J.bb
 rnb:Ro J.nb
 fF:∀i,i<p.L->acF.cell? ⟨J.nb,J.no+i,none⟩=some (J.gX i)
 sro:∀i b,J.S i b->Ro b
 closed:∀i,i<p.L->∀ah,aO Ro acF ah->rm ok (J.S i) ah
 ME:∀i,i<p.L->aw ok (rR<|J.S i) J.jg J.jg
 MF:∀i,i<p.L->aw ok (rR<|J.S i) (J.gX i) (J.gX i)
 Pw:∀i,i<p.L->∀(F:Nat->Prop) ah,aO Ro acF ah->∀τ d,Calls P0 189 #[J.jg,J.gX i] (re (fu F ah) τ d) λe w'=>∃x:aN,e=.returned x.val/\J.Is i x/\iY w' (λb=>ah.heap.size<=b) x
 ren:∀i x a',J.Is i x->(x.a=none<->a'=none)->J.Is i {x with a:=a'}
 least:∀(V:World) (b:Nat) (xs:List aN) (z:Nat×Nat),xs.length<=1048576->V.heap[b]?=some (.cells (xs.flatMap aN.cells).toArray 177 z)->(∀x∈xs,eA V x.a x.n x.g/\x.n<=1048576)->
  Calls P0 160 #[.slice b xs.length xs.length,.func (.func 161) #[] #[]] V λe w'=>e=.returned (J.cV xs).val/\Below V V w'
 TV:ok.aX 189=true/\ok.aX 160=true/\ok.fn 161=true
def mQ.mono {J:Jb}{Ro qO:Nat->Prop}(h:mQ J P0 p ok Ro acF)(hr:∀b,Ro b->qO b)(hk:aO Ro acF ah):mQ J P0 p ok qO ah:=
 ⟨h.prog,h.ty,h.tk,h.wd,h.n4,h.Ys,h.res,ac6 h.base hk.size,(hk.block _ h.O').trans h.o_,(hk.block _ h.O_).trans h.A',(hk.block _ h.TY).trans h.Uw,hr _ h.O',hr _ h.O_,hr _ h.TY,hr _ h.rnb,λi hi=>by rw[<-h.fF i hi];simp only[World.cell?,hk.block _ h.rnb],
  λi b hb=>hr _<|h.sro i b hb,λi hi dx acO=>h.closed i hi dx<|hk.trans<|acO.mono hr,h.ME,h.MF,λi hi F dx acO τ d=>h.Pw i hi F dx (hk.trans<|acO.mono hr) τ d,h.ren,h.least,h.TV⟩
end
def mq (g o:Nat)(t:TypeId):∀(vs:List Value) (i:Nat) (cur:Array Value) (w:World) (es:Array Event),w.heap[g]?=some (.cells cur t (0,0))->o+i+vs.length<=cur.size->(∀v∈vs,v.oneCell'=true)->
  ∀ev∈(storeCells ⟨g,o,none⟩ vs i).events P w es,ev∈es\/∃j,i<=j/\j<i+vs.length/\ev=⟨.cell ⟨g,o+j,none⟩,true,false⟩
 |[],_,_,_,_,_,_,_=>λev h=>.inl (by simpa[storeCells]using h)
 |v::rest,i,cur,w,es,hg,hl,h1=>λev h=>by
  have hi:o+i<cur.size:=by simp at hl;omega
  have YZ:(⟨g,o,none⟩:Addr).add i=⟨g,o+i,none⟩:=by unfold Addr.add;split<;>simp_all
  have hcell:w.cell? ⟨g,o+i,none⟩=some cur[o+i]:=by simp[World.cell?,hg,hi]
  have Zj:w.frozen? ⟨g,o+i,none⟩=false:=by simp[World.frozen?,hg]
  have de:(store ((⟨g,o,none⟩:Addr).add i) v).run P w=.ok () (w.setRow g<|cur.setIfInBounds (o+i) v):=by
   rw[YZ,run_store P w _ v _ (h1 v aG),hcell];simp[Zj,setCell_eq_setRow w g (o+i) cur t (0,0) v hg]
  have mK:(store ((⟨g,o,none⟩:Addr).add i) v).events P w es=es.push ⟨.cell ⟨g,o+i,none⟩,true,false⟩:=by
   rw[YZ,events_store P w es _ v _ (h1 v aG),hcell];simp only[Zj,Bool.false_eq_true,if_false];rfl
  simp only[storeCells,Sem.events_bind,de,Result.evThen_ok,mK]at h;rcases mq g o t rest (i+1) (cur.setIfInBounds (o+i) v) _ _ (setRow_heap w g cur _ t _ hg) (by simp at hl⊢;omega) (λx hx=>h1 x<|by simp[hx]) ev h with h|⟨j,h2,h3,h4⟩
  .rcases Array.mem_push.1 h with h|h
   .exact .inl h
   .exact .inr ⟨i,ac3 _,aG,h⟩
  .exact .inr ⟨j,ab,cH,h4⟩
section
variable {a:Act}{cur:Array Value}{ty:TypeId}{t:aN}{x y:Operand}
def yH (bp:o.op=.store 177 x y)(ha:a.eval x=.pointer (some ⟨g,off,none⟩))(hy:a.eval y=t.val)(hg:W.heap[g]?=some (.cells cur ty (0,0)))(hl:off+4<=cur.size):
  (execOp a.eval o).run Tryz.prog W=.ok .skip (W.setRow g (cur.toList.take off++t.cells++cur.toList.drop (off+4)).toArray):=by
 have h:=run_storeCells_at (P:=Tryz.prog) g off ty t.cells 0 cur W hg (by simpa[aN.cells]using hl) (by simp[aN.cells,Value.oneCell']);rw[Nat.add_zero]at h;obtain⟨cs,h1,h2,h3⟩:∃cs,t.val=.agg cs/\cs.size=4/\cs.toList=t.cells:=⟨_,rfl,rfl,rfl⟩;unfold execOp;simp only[bp,ha,hy,h1];go_simp
 simp[aN.cells]
def Av (bp:o.op=.store 177 x y)(ha:a.eval x=.pointer (some ⟨g,off,none⟩))(hy:a.eval y=t.val)(hg:W.heap[g]?=some (.cells cur ty (0,0)))(hl:off+4<=cur.size):
  ∀e∈(execOp a.eval o).events Tryz.prog W #[],∃j,j<4/\e=⟨.cell ⟨g,off+j,none⟩,true,false⟩:=by
 intro e he;have h:=mq (P:=Tryz.prog) g off ty t.cells 0 cur W #[] hg (by simpa[aN.cells]using hl) (by simp[aN.cells,Value.oneCell']) e;obtain⟨cs,h1,h2,h3⟩:∃cs,t.val=.agg cs/\cs.size=4/\cs.toList=t.cells:=⟨_,rfl,rfl,rfl⟩;rw[<-h3]at h;unfold execOp at he;simp only[bp,ha,hy,h1]at he;simp[go_sem,h2]at he;rcases h he with x|⟨j,_,h5,h6⟩
 .simp at x
 .exact⟨j,by simpa[h2]using h5,h6⟩
def fJ (bp:o.op=.store 177 x y)(ha:a.eval x=.pointer g)(hy:a.eval y=t.val)(hg:W.heap[g]?=some (.cells cur ty (0,0)))(hl:cur.size=4):
  (execOp a.eval o).run Tryz.prog W=.ok .skip (W.setRow g t.cells.toArray)/\∀e∈(execOp a.eval o).events Tryz.prog W #[],∃j,e=⟨.cell ⟨g,j,none⟩,true,false⟩:=by
 refine⟨?_,λe he=>?_⟩
 .rw[yH bp ha hy hg ab];have:cur.toList.drop (0+4)=[]:=cH;rw[this];simp
 .let⟨j,_,h⟩:=Av bp ha hy hg ab e he;exact⟨_,h⟩
def yG (bp:o.op=.load 177 x)(ha:a.eval x=.pointer g)(hg:W.heap[g]?=some (.cells t.cells.toArray ty (0,0))):(execOp a.eval o).run Tryz.prog W=.ok (.value t.val) W:=by
 have c0:W.cell? g=some (.bool t.ok):=DV;have c1:W.cell? ⟨g,1,none⟩=some (.int .i64 t.sum):=DV;have c2:W.cell? ⟨g,2,none⟩=some (.int .i64 t.most):=DV;have c3:W.cell? ⟨g,3,none⟩=some (.slice t.a t.n t.cap):=DV;unfold execOp;simp only[bp,ha,aN.val];go_simp
def Au (bp:o.op=.load 177 x)(ha:a.eval x=.pointer g)(hg:W.heap[g]?=some (.cells t.cells.toArray ty (0,0))):∀e∈(execOp a.eval o).events Tryz.prog W #[],∃j,e=⟨.cell ⟨g,j,none⟩,false,false⟩:=by
 intro e he;have c0:W.cell? g=some (.bool t.ok):=DV;have c1:W.cell? ⟨g,1,none⟩=some (.int .i64 t.sum):=DV;have c2:W.cell? ⟨g,2,none⟩=some (.int .i64 t.most):=DV;have c3:W.cell? ⟨g,3,none⟩=some (.slice t.a t.n t.cap):=DV;unfold execOp at he;simp only[bp,ha]at he;simp[go_sem,c0,c1,c2,c3]at he;rcases he with rfl|rfl|rfl|rfl<;>exact⟨_,rfl⟩
end
noncomputable def bot:Frame:={(default:Frame)with fn:=Tryz.prog.funcs.size,defers:=[],mode:=.panicking [goexitEntry]}
noncomputable def BI:Code:=Tryz.f156.body.getD .skip
noncomputable def iP:Array Oper:=(nl 1 BI).getD #[]
noncomputable def wT:Code:=Tryz.f158.body.getD .skip
noncomputable def jV:Code:=(jW wT).getD .skip
noncomputable def ip:Array Oper:=(nl 5 wT).getD #[]
def call47 (J:Jb)(Wg bi:Nat):Deferred:={target:=.fn (.func 156) #[.pointer Wg,.pointer J.bl,.pointer J.bn,.pointer J.tb,.pointer J.bb,.pointer bi],args:=#[]}
def Ke (J:Jb)(Wg bi:Nat)(w:World):stepG Tryz.prog false (born Tryz.prog<|call47 J Wg bi) w=
  .go (G ((baseD 156).at ⟨#[.pointer Wg,.pointer J.bl,.pointer J.bn,.pointer J.tb,.pointer J.bb,.pointer bi,ud,ud,ud,ud,ud,ud],[]⟩ [.code BI]) [bot]) w #[]:=by
 simp[born,call47,stepG,unwind,callDeferred,invoke,callFunc,Tryz.func156,Tryz.f156,seen,GStep.after,G,Frame.enter,Frame.at,baseD,bot,BI]
def Lh (T:Array Value)(todo:List Item):QuitsD Tryz.prog 2 0 (G {(baseD 156).at ⟨T,[]⟩ todo with mode:=.returning} [bot]):=by
 refine QuitsD.ctl (g':=G bot []) rfl (λw=>?_) ?_
 .simp[G,stepG,unwind,doReturn,results,Frame.at,baseD,bot,Tryz.func156,Tryz.f156,seen,GStep.after,goexitEntry]
 refine QuitsD.ctl (g':={G bot []with status:=.finished}) rfl (λw=>?_) ⟨rfl,rfl⟩;simp[G,stepG,unwind,bot,goexitEntry,Frame.catches];rfl
def OX {cs:Array Value}{vs:List Value}{o:Nat}(h4:vs.length=4)(h:off+4<=cs.size):
  (cs.toList.take off++vs++cs.toList.drop (off+4)).toArray[o]?=if off<=o/\o<off+4 then vs[o-off]? else cs[o]?:=by
 have hl:(cs.toList.take off).length=off:=cH;rw[List.getElem?_toArray,List.append_assoc];by_cases h1:o<off
 .rw[adf ab,if_neg ab,List.getElem?_take_of_lt h1];simp
 .rw[adg ab,hl];by_cases h2:o<off+4
  .rw[adf ab,if_pos ⟨ab,h2⟩]
  .rw[adg ab,if_neg ab,h4,List.getElem?_drop];simp only[Array.getElem?_toList];congr 1;omega
def fx {b:Nat}{e:TypeId}{z:Nat×Nat}(h:w.heap[b]?=some (.cells #[v] e z)):w.cell? b=some v:=aay
section
variable [Gl]{J:Jb}{Ro:Nat->Prop}
noncomputable def YF (J:Jb)(Wg bi:Nat)(v6 v7 v8 v9 v10 v11:Value)(rest:List Nat):Frame:=
 (baseD 156).at ⟨#[.pointer Wg,.pointer J.bl,.pointer J.bn,.pointer J.tb,.pointer J.bb,.pointer bi,v6,v7,v8,v9,v10,v11],[dcall 157 #[.pointer Wg]]⟩ [.inRegion iP rest]
omit [Gl] in
def wx:∀l0 l1 l2 l3 l4 l5:Bool,Region.ready .any iP #[l0,l1,l2,l3,l4,l5,false]≠[]/\
  (Region.ready .any iP #[l0,l1,l2,l3,l4,l5,false]).all (λi=>(i==0&&!l0)||(i==1&&!l1)||(i==2&&!l2)||(i==3&&!l3)||(i==4&&!l4&&l2&&l3)||(i==5&&!l5&&l0&&l1)||(i==6&&l4&&l5))=true:=by
 decide +kernel
def Qz (hJ:mQ J P0 p ok Ro acF)(VG:k<4)(uk:Ro bi)(YY:p.Wg≠p.Bs){seq:List Nat}(hb:wI J seq x)(ho:FW .any iP l rest):
  ∀(l0 l1 l5:Bool) (v6 v7 v8 v9 v11:Value) (M:Nat->Prop) (W:World) (C:Nat) (u:Value),l=#[l0,l1,true,true,true,l5,false]->(l0=true->v6=.slice (some ⟨p.Bs,0,none⟩) 4 4)->(l1=true->v7=.int .i64 k)->(l5=true->v11=.pointer (some ⟨p.Bs,k*4,none⟩))->
   aO Ro acF W->W.heap[bi]?=some (.cells #[.int .i64 k] 3 (0,0))->M C->W.cell? ⟨C,0,none⟩=some u->iY W (λb=>M b/\b≠C) x->(∀b,p.Sp b->¬M b)->(∀b,M b->J.base<=b)->(l5=true->l0=true/\l1=true)->
   ET p.P false p.I Ph.nO Ro (p.zY k seq) M (G (YF J p.Wg bi v6 v7 v8 v9 x.val v11 rest) [bot]) W:=by
 induction ho with
 |nil h=>rintro l0 l1 l5 v6 v7 v8 v9 v11 M W C u rfl;exact absurd h (wx _ _ _ _ _ _).1
 |@cons l i rest hi hr ih=>
  rintro l0 l1 l5 v6 v7 v8 v9 v11 M W C u rfl h6 h7 Cc hK hI hC hu hx hM Ji h5;have hc:=List.all_eq_true.1 (wx l0 l1 true true true l5).2 i hi;simp only[Bool.not_true,Bool.and_false,Bool.or_false,Bool.and_true,Bool.or_eq_true,Bool.and_eq_true,beq_iff_eq,Bool.not_eq_true']at hc;rcases hc with(((⟨rfl,rfl⟩|⟨rfl,rfl⟩)|hc)|⟨rfl,hc⟩)
  .obtain⟨o,ho,bp,hd,hg⟩:∃o,iP[0]?=some o/\o.op=.load 211 (.tmp 4)/\o.dst=some 6/\o.guard=none:=⟨_,rfl,rfl,rfl,rfl⟩;refine ET.val (.slice p.Bs 4 4) ho kU (by k_ne) (λah acN _=>?_) ?_
   .have hb:=(fx<|(acN.block _<|.inr hJ.TY).trans<|(hK.block _ hJ.TY).trans hJ.Uw);rw[hJ.prog];unfold execOp;refine⟨?_,λe he=>?_⟩
    .simp only[bp];go_simp
     done
    .simp[go_sem,bp,hb]at he;subst he;exact xh hJ.TY
   .rw[hd];walk_nrm
    exact ih true l1 l5 _ _ _ _ _ _ _ _ _ aG (λ_=>rfl) h7 Cc hK hI hC hu hx hM Ji λe=>⟨rfl,(h5 e).2⟩
  .obtain⟨o,ho,bp,hd,hg⟩:∃o,iP[1]?=some o/\o.op=.load 3 (.tmp 5)/\o.dst=some 7/\o.guard=none:=⟨_,rfl,rfl,rfl,rfl⟩;refine ET.val (.int .i64 k) ho kU (by k_ne) (λah acN _=>?_) ?_
   .have hb:=fx<|(acN.block _<|.inr uk).trans hI;rw[hJ.prog];unfold execOp;refine⟨?_,λe he=>?_⟩
    .simp only[bp];go_simp
    .simp[go_sem,bp,hb]at he;subst he;exact xh uk
   .rw[hd];walk_nrm
    exact ih l0 true l5 _ _ _ _ _ _ _ _ _ aG h6 (λ_=>rfl) Cc hK hI hC hu hx hM Ji λe=>⟨(h5 e).1,rfl⟩
  .obtain⟨⟨⟨rfl,rfl⟩,rfl⟩,rfl⟩:=hc;obtain⟨o,ho,bp,hd,hg⟩:∃o,iP[5]?=some o/\o.op=.indexAddr 211 (.tmp 6) (.tmp 7)/\o.dst=some 11/\o.guard=none:=⟨_,rfl,rfl,rfl,rfl⟩;refine ET.val (.pointer<|some ⟨p.Bs,k*4,none⟩) ho kU (by k_ne) (λah acN _=>?_) ?_
   .rw[hJ.prog,h6 rfl,h7 rfl];unfold execOp;refine⟨?_,λe he=>?_⟩
    .simp only[bp];go_simp
     intro h;omega
    .have hu:=Tryz.underlying211;simp only[bp]at he;simp[go_sem]at he;rw[events_indexAt_slice _ _ _ _ _ _ (by go_simp) ab]at he;simp at he
   .rw[hd];walk_nrm
    exact ih true true true _ _ _ _ _ _ _ _ _ aG h6 h7 (λ_=>rfl) hK hI hC hu hx hM Ji λ_=>⟨rfl,rfl⟩
  .obtain⟨o,ho,bp,hd,hg⟩:∃o,iP[6]?=some o/\o.op=.store 177 (.tmp 11) (.tmp 10)/\o.dst=none/\o.guard=none:=⟨_,rfl,rfl,rfl,rfl⟩;subst hc;refine ET.stop λah acN hW=>⟨rfl,λ⟨cs,hcs⟩=>?_⟩
   have jw:k*4+4<=cs.size:=by rw[hcs.2,hJ.n4,hJ.wd];omega
   have hy:Act.eval ⟨#[.pointer p.Wg,.pointer J.bl,.pointer J.bn,.pointer J.tb,.pointer J.bb,.pointer bi,v6,v7,v8,v9,x.val,v11],[dcall 157 #[.pointer p.Wg]]⟩ (.tmp 10)=x.val:=rfl;have ha:Act.eval ⟨#[.pointer p.Wg,.pointer J.bl,.pointer J.bn,.pointer J.tb,.pointer J.bb,.pointer bi,v6,v7,v8,v9,x.val,v11],[dcall 157 #[.pointer p.Wg]]⟩ (.tmp 11)=.pointer (some ⟨p.Bs,k*4,none⟩):=Cc rfl;have eb:=yH bp ha hy hcs.1 jw;have mK:=Av bp ha hy hcs.1 jw;rw[<-hJ.prog]at eb mK;refine⟨_,_,_,x.cells,stepG_none ho kU (by k_ne) eb,?_,λe he=>?_,?_⟩
   .refine⟨setRow_size _ _ _,rfl,rfl,rfl,λb hb=>setRow_other _ _ _ _ hb,by rw[hJ.wd];rfl,λcs' GU=>?_⟩;obtain rfl:cs=cs':=by have:=hcs.1.symm.trans GU.1;simpa using this
    refine⟨_,⟨setRow_heap _ _ _ _ _ _ hcs.1,?_⟩,λo'=>?_⟩
    .rw[<-hcs.2];simp[aN.cells];omega
    .rw[OX rfl jw,hJ.wd,Nat.add_mul,Nat.one_mul]
   .obtain⟨j,hj,rfl⟩:=mK e<|mem_listed he;refine⟨rfl,_,rfl,rfl,?_,?_⟩<;>rw[hJ.wd]<;>simp<;>omega
   .have h_:iY (ah.setRow p.Bs (cs.toList.take (k*4)++x.cells++cs.toList.drop (k*4+4)).toArray) (λb=>M b/\b≠C) x:=hx.keep (λ_ h=>h) λa ha=>by
     let⟨_,⟨h2,_⟩,_⟩:=hx.blk a ha;rw[setRow_other _ _ _ _ (λe=>hM _ (.inr<|.inr e) h2)];exact acN.block _<|.inl h2
    refine⟨λb=>M b/\b≠C,C,4,u,26,by rw[hJ.res];exact⟨x,rfl,hb,h_,λb dt=>Ji b dt.1⟩,λb h=>h.1,hC,λh=>h.2 rfl,?_⟩;have e_:Go.ConcN.Has C 0 u (ah.setRow p.Bs (cs.toList.take (k*4)++x.cells++cs.toList.drop (k*4+4)).toArray):=by
     show World.cell? _ _=_;rw[cell_setRow_other _ _ _ _ (λe=>hM _ (.inr<|.inr e) hC)];rw[<-hu];simp only[World.cell?,acN.block C (.inl hC)]
    let⟨st,sm,hw⟩:=hW.1;have uY:Go.ConcN.WgLive p.ty p.Wg (ah.setRow p.Bs (cs.toList.take (k*4)++x.cells++cs.toList.drop (k*4+4)).toArray):=⟨st,sm,hw.of_block<|setRow_other _ _ _ _ YY⟩;let⟨e0,e1⟩:=h5 rfl;subst e0 e1;have Rx:rest=[]:=by
     generalize hL:(#[true,true,true,true,true,true,false]:Array Bool).setIfInBounds 6 true=L at hr;have e:L=#[true,true,true,true,true,true,true]:=by rw[<-hL];simp
     subst e;cases hr with
     |nil=>rfl
     |cons h _=>exact absurd h (by rw[show Region.ready .any iP #[true,true,true,true,true,true,true]=[] from MQ];simp)
    subst Rx;letI:Go.ConcR.Payload:=p.pl
    have hK':=And.intro uY e_;generalize ah.setRow p.Bs (cs.toList.take (k*4)++x.cells++cs.toList.drop (k*4+4)).toArray=dx at hK'⊢;rw[hd,hJ.prog];rw[hJ.ty]at hK'⊢;walk_nrm
    u_c stepG_region_end Go.ConcN.Gen.kn_rely hK'
    u_c stepG_end Go.ConcN.Gen.kn_rely hK'
    u_in Go.ConcN.Gen.kn_rely hK'
    rw[stepG_unwind_enter rfl Tryz.func157 (nm_done link) rfl];simp only[goes_go];refine⟨by u_nil,?_⟩;walk_nrmf Tryz.f157
    have hA:=@Go.ConcN.Gen.doneN p.pl link Tryz.prog Bu (λ_ _=>False) (λ_ _=>False) p.Wg C 4 0 1 u;simp only[body_done,doneFn,Option.getD_some]at hA;exact hA rfl (Lh _ _) _ hK'
end
def KY {S:Nat->Prop}(h:¬S a.block):aO S w (w.setCell a v):=
 ⟨λb hb=>Below.heap_setCell w a v b λe=>h<|e▸hb,Nat.le_of_eq (aside_setCell w a v).size.symm,rfl,rfl⟩
def GG (w:World)(es:Array Event):(Instr.build 177 #[]).events Tryz.prog w es=es:=bj
section
variable [Gl]{J:Jb}{Ro:Nat->Prop}
structure LS (p:Ph)(Ro:Nat->Prop)(acF:World)(r6 b7:Nat)(x:aN)(M:Nat->Prop)(W:World):Prop where
 m6:M r6
 m7:M b7
 ne:r6≠b7
 c6:∃c:Array Value,W.heap[r6]?=some (.cells c 177 (0,0))/\c.size=4
 c7:W.heap[b7]?=some (.cells x.cells.toArray 177 (0,0))
 held:iY W (λb=>M b/\b≠r6/\b≠b7) x
 keep:aO Ro acF W
 sp:∀b,p.Sp b\/Ro b->¬M b/\b<W
 Ic:∀b,p.Sp b->¬Ro b
 lt:∀b,M b->b<W
 gl:Gl.n<=W
 nw:∀b,M b->acF.heap.size<=b
def LS.rely (h:LS p Ro acF r6 b7 x M W)(k:aO (λb=>M b\/Ro b) W ah):LS p Ro acF r6 b7 x M ah:=by
 refine⟨h.m6,h.m7,h.ne,?_,(k.block _<|.inl h.m7).trans h.c7,h.held.keep (λ_ x=>x) λa ha=>k.block _<|.inl (h.held.blk a ha).2.1.1,h.keep.trans<|k.mono λ_ x=>.inr x,λb hb=>⟨(h.sp b hb).1,ac4 (h.sp b hb).2 k.size⟩,h.Ic,λb hb=>ac4 (h.lt b hb) k.size,ac6 h.gl k.size,h.nw⟩;let⟨c,h1,h2⟩:=h.c6;exact⟨c,(k.block _<|.inl h.m6).trans h1,h2⟩
def LS.tk (h:LS p Ro acF r6 b7 x M W)(v:Value):aO (λb=>M b\/Ro b) W (W.setCell p.tk v):=
 KY λe=>e.elim (h.sp _<|.inl<|.inr<|.inl rfl).1<|h.Ic _<|.inr<|.inl rfl
def QU (hJ:mQ J P0 p ok Ro acF)(M:Nat->Prop)(W:World)(hk:aO Ro acF W)(DD:∀b,p.Sp b\/Ro b->¬M b/\b<W)(Em:∀b,p.Sp b->¬Ro b)(ay:∀b,M b->b<W)(F0:Gl.n<=W)(Ji:∀b,M b->acF.heap.size<=b)
  (hL:∀(r6 b7:Nat) (v3 v4 v5 v8 v9 v10 v11 v12 v13 v14 v15 v16 v17 v18 v19 v20 v21 v22 v23 v24 v25 v26:Value) (M':Nat->Prop) (W':World),LS p Ro acF r6 b7 ep M' W'->ET p.P false p.I Ph.nO Ro Stop M' (G ((base 158).at ⟨#[J.jg,.slice (some ⟨J.nb,J.no,none⟩) p.L J.nc,.pointer J.tb,v3,v4,v5,.pointer r6,.pointer b7,v8,v9,v10,v11,v12,v13,v14,v15,v16,v17,v18,v19,v20,v21,v22,v23,v24,v25,v26],[]⟩ [.code jV,.inLoop jV,.inBlock 0]) cs) W'):
  ET p.P false p.I Ph.nO Ro Stop M (G ((base 158).at ⟨#[J.jg,.slice (some ⟨J.nb,J.no,none⟩) p.L J.nc,.pointer J.tb,ud,ud,ud,ud,ud,ud,ud,ud,ud,ud,ud,ud,ud,ud,ud,ud,ud,ud,ud,ud,ud,ud,ud,ud],[]⟩ [.code wT]) cs) W:=by
 simp only[wT,Tryz.f158,Option.getD_some];apply ET.sr;refine ET.oper rfl rfl (by k_ne) λah acN _=>⟨.pointer<|some ⟨ah.heap.size,0,none⟩,ah.alloc<|.cells #[false,(0:Int),(0:Int),()] 177,?_,?_,?_⟩
 .rw[hJ.prog];go_simp
 .rw[hJ.prog];refine eU.alloc _ λe he=>?_
  have hm:=mem_listed he;simp[go_sem]at hm
 walk_nrm
 apply ET.ns;refine ET.val ep.val rfl rfl (by k_ne) (λdx _ _=>?_) ?_
 .rw[hJ.prog];refine⟨?_,λe he=>?_⟩
  .go_simp
   first|(rw[run_build dx 177 #[] ep.cells.toArray bj];rfl)|rfl
  .first|(simp[go_sem]at he;done)|(simp[go_sem]at he;rw[GG]at he;simp at he)
 walk_nrm
 refine ET.oper rfl rfl (by k_ne) λdx acO _=>⟨.pointer<|some ⟨dx.heap.size,0,none⟩,dx.alloc<|.cells #[false,(0:Int),(0:Int),()] 177,?_,?_,?_⟩
 .rw[hJ.prog];go_simp
 .rw[hJ.prog];refine eU.alloc _ λe he=>?_
  have hm:=mem_listed he;simp[go_sem]at hm
 walk_nrm
 have z0:∀(w:World) (o:Obj),(w.alloc o).heap.size=w.heap.size+1:=λw o=>by show(w.heap.push o).size=_;simp
 have z1:=acN.size;have z2:=acO.size;rw[z0]at z2;have Re:grow M ah (ah.alloc<|.cells #[false,(0:Int),(0:Int),()] 177) ah.heap.size:=.inr ⟨ac3 _,by rw[z0];omega⟩;refine ET.none rfl rfl (by k_ne) λdv dz _=>?_
 have z3:=dz.size;rw[z0]at z3;have h7:dv.heap[dx.heap.size]?=some (.cells #[false,(0:Int),(0:Int),()] 177 (0,0)):=(dz.block _<|.inl<|.inr ⟨ac3 _,by rw[z0];omega⟩).trans<|heap_alloc_new _ _;have hM7:grow (grow M ah<|ah.alloc<|.cells #[false,(0:Int),(0:Int),()] 177) dx (dx.alloc<|.cells #[false,(0:Int),(0:Int),()] 177) dx.heap.size:=.inr ⟨ac3 _,by rw[z0];omega⟩;refine⟨dv.setRow dx.heap.size ep.cells.toArray,by rw[hJ.prog];exact(fJ rfl rfl rfl h7 rfl).1,?_,?_⟩
 .rw[hJ.prog];refine eU.row _ hM7 λe he=>?_
  obtain⟨j,rfl⟩:=(fJ (t:=ep) rfl rfl rfl h7 rfl).2 e<|mem_listed he;exact gM hM7
 rw[cK (setRow_size _ _ _)];walk_nrm
 apply ET.rn;refine ET.c (λ_=>stepG_block) ?_;refine ET.c (λ_=>stepG_loop) ?_;refine hL ah.heap.size dx.heap.size _ _ _ _ _ _ _ _ _ _ _ _ _ _ _ _ _ _ _ _ _ _ _ _ ⟨.inl Re,hM7,ab,?_,setRow_heap _ _ _ _ _ _ h7,⟨.inl rfl,ac8 _,λa ha=>(by cases ha),λa ha=>(by cases ha)⟩,?_,λb hb=>?_,Em,λb hb=>?_,?_,λb hb=>?_⟩
 .refine⟨_,(setRow_other _ _ _ _ ab).trans<|(dz.block _<|.inl<|.inl Re).trans<|(Below.heap_alloc _ _ _ ab).trans<|(acO.block _<|.inl Re).trans<|heap_alloc_new _ _,rfl⟩
 .refine⟨λb hb=>?_,by rw[setRow_size];have:=hk.size;omega,dz.os.trans<|acO.os.trans<|acN.os.trans hk.os,dz.out.trans<|acO.out.trans<|acN.out.trans hk.out⟩;have dt:=DD b<|.inr hb;rw[setRow_other _ _ _ _ ab,dz.block _ (.inr hb),Below.heap_alloc _ _ _ ab,acO.block _ (.inr hb),Below.heap_alloc _ _ _ ab,acN.block _ (.inr hb)];exact hk.block b hb
 .have dt:=DD b hb;rw[setRow_size];refine⟨λx=>?_,ab⟩;rcases x with(x|⟨x,_⟩)|⟨x,_⟩
  .exact dt.1 x
  .omega
  .omega
 .rw[setRow_size];rcases hb with(x|⟨_,x⟩)|⟨_,x⟩
  .have:=ay b x;omega
  .rw[z0]at x;omega
  .rw[z0]at x;omega
 .rw[setRow_size];omega
 .have:=hk.size;rcases hb with(x|⟨x,_⟩)|⟨x,_⟩
  .exact Ji b x
  .omega
  .omega
end
section
open ConcR (rd wr)
def II:(Tryz.f230.name== "runtime.NumGoroutine")=false:=bj
def IF:Tryz.f230.body.isNone=true:=bj
def IJ:Extern.findNext Tryz.f230=none:=bj
def IG:Extern.find Tryz.f230=some (Extern.Atomic.update (Op.intArith .add) .i64 true):=bj
def Wh:(Tryz.f188.name== "runtime.NumGoroutine")=false:=bj
section
variable [Gl]{J:Jb}{Ro:Nat->Prop}
def PB (hJ:mQ J P0 p ok Ro acF)(hL:p.L<4611686018427387904)(v3 v4 v5 v8 v9 v10 v11 v12 v13 v14 v15 v16 v17 v18 v19 v20 v21 v22 v23 v24 v25 v26:Value):
  ∃(g1:Goroutine) (g2:Nat->Goroutine),(∀(Stop:(Nat->Prop)->Goroutine->World->Prop) M W,ET Tryz.prog false p.I Ph.nO Ro Stop M g1 W->ET Tryz.prog false p.I Ph.nO Ro Stop M (G ((base 158).at ⟨#[J.jg,.slice (some ⟨J.nb,J.no,none⟩) p.L J.nc,.pointer J.tb,v3,v4,v5,.pointer r6,.pointer b7,v8,v9,v10,v11,v12,v13,v14,v15,v16,v17,v18,v19,v20,v21,v22,v23,v24,v25,v26],[]⟩ [.code jV,.inLoop jV,.inBlock 0])<|c0::cs) W)/\
   (g1.status=.running/\∀W x,x<4611686018427387904->p.jD W x->stepG Tryz.prog false g1 W=.go (g2 x) (W.setCell p.tk<|.int .i64<|x+1) #[rd p.tk,wr p.tk])/\
   (∀(Stop:(Nat->Prop)->Goroutine->World->Prop) M W x,x<p.L->(∀v3 v4 v5 v8 v9 v10 v11 v12 v13 v14 v15 v16 v17 v18 v19 v20 v21 v22 v23 v24 v25 v26:Value,ET Tryz.prog false p.I Ph.nO Ro Stop M (G ((base 158).at ⟨#[J.jg,.slice (some ⟨J.nb,J.no,none⟩) p.L J.nc,.pointer<|some ⟨J.tb,0,none⟩,v3,v4,v5,.pointer<|some ⟨r6,0,none⟩,.pointer<|some ⟨b7,0,none⟩,.int .i64 x,v9,v10,v11,v12,v13,v14,v15,v16,v17,v18,v19,v20,v21,v22,v23,v24,v25,v26],[]⟩ [.code (.region 5 ip true),.inBlock 1,.inLoop jV,.inBlock 0])<|c0::cs) W)->ET Tryz.prog false p.I Ph.nO Ro Stop M (g2 x) W)/\
   (∀(Stop:(Nat->Prop)->Goroutine->World->Prop) M W x xt,p.L<=x->x<4611686018427387904->LS p Ro acF r6 b7 xt M W->(∀W',LS p Ro acF r6 b7 xt M W'->W'.cell? r6=some (.bool xt.ok)->ET Tryz.prog false p.I Ph.nO Ro Stop M (G (c0.finish xt.val) cs) W')->ET Tryz.prog false p.I Ph.nO Ro Stop M (g2 x) W):=by
 refine⟨?g1,?g2,?A,⟨?B0,?B⟩,?C,?D⟩
 case A=>
  intro Stop M W h;simp only[jV,wT,Tryz.f158,Option.getD_some,jW,Option.or_some,Option.or_none,Option.none_or];refine ET.c (λ_=>stepG_block) ?_;apply ET.sr;refine ET.z ?_
  (refine ET.k rfl λ_ _ _=>goes_call rfl rfl (by k_ne) rfl Tryz.func188 Wh rfl ⟨⟨rfl,λe he=>ic⟩,?_⟩;walk_nrmf Tryz.f188)
  apply ET.sr;refine ET.z ?_;apply ET.ns;refine ET.z ?_;refine ET.z ?_;refine ET.z ?_;refine ET.z ?_;exact h
 case B0=>rfl
 case B=>
  intro W x hx ht;have hw:IntKind.i64.wrap ((x:Int)+1)=x+1:=ia;have h1:=ht.1;have h2:=ht.2;rw[hJ.tk]at h1 h2⊢;refine(stepG_add_atomic rfl rfl (by k_ne) rfl Tryz.func230 II IF IJ .i64 IG rfl rfl h1 h2).trans ?_;rw[hw];rfl
 case C=>
  intro Stop M W x hx h;have hw:IntKind.i64.wrap ((x:Int)+1-1)=x:=ia;have hw':IntKind.i64.wrap (x:Int)=x:=ia;have hd:decide ((p.L:Int)<=x)=false:=decide_eq_false ab;have dK:¬((p.L:Int)<=x):=ab;walk_nrm
  refine ET.z ?_;apply ET.rn;apply ET.rt
  (refine ET.k rfl λ_ _ _=>goes_leave1 rfl rfl Tryz.func188 rfl ⟨⟨rfl,λe he=>ic⟩,?_⟩;walk_nrm)
  refine ET.z ?_;refine ET.z ?_;apply ET.rn;apply ET.sq;apply ET.sr;refine ET.z ?_;refine ET.z ?_;refine ET.z ?_;refine ET.z ?_;apply ET.rn;refine ET.gP rfl ?_;apply ET.sk;exact h _ _ _ undef _ _ _ _ _ _ _ _ _ _ _ _ _ _ _ _ _ _
 case D=>
  intro Stop M W x xt hx hx2 ma h;have hw:IntKind.i64.wrap ((x:Int)+1-1)=x:=ia;have hw':IntKind.i64.wrap (x:Int)=x:=ia;have hd:decide ((p.L:Int)<=x)=true:=decide_eq_true ab;have dK:(p.L:Int)<=x:=ab;walk_nrm
  refine ET.z ?_;apply ET.rn;apply ET.rt
  (refine ET.k rfl λ_ _ _=>goes_leave1 rfl rfl Tryz.func188 rfl ⟨⟨rfl,λe he=>ic⟩,?_⟩;walk_nrm)
  refine ET.z ?_;refine ET.z ?_;apply ET.rn;apply ET.sq;apply ET.sr;refine ET.z ?_;refine ET.z ?_;refine ET.z ?_;refine ET.z ?_;apply ET.rn;refine ET.kV rfl ?_;apply ET.sr;refine ET.val xt.val rfl rfl (by k_ne) (λah acN _=>?_) ?_
  .have cO:=ma.rely acN;refine⟨yG rfl rfl cO.c7,λe he=>?_⟩;obtain⟨j,rfl⟩:=Au (t:=xt) rfl rfl cO.c7 e he;exact gM ma.m7
  walk_nrm
  refine ET.none rfl rfl (by k_ne) λah acN _=>?_
  have cO:=ma.rely acN;let⟨c,Y7,hcs⟩:=cO.c6;refine⟨ah.setRow r6 xt.cells.toArray,(fJ rfl rfl rfl Y7 hcs).1,?_,?_⟩
  .refine eU.row _ ma.m6 λe he=>?_
   obtain⟨j,rfl⟩:=(fJ (t:=xt) rfl rfl rfl Y7 hcs).2 e<|mem_listed he;exact gM ma.m6
  rw[cK (setRow_size _ _ _)];have Tm:LS p Ro acF r6 b7 xt M (ah.setRow r6 xt.cells.toArray):=by
   have ho:∀b,b≠r6->(ah.setRow r6 xt.cells.toArray).heap[b]?=ah.heap[b]?:=λb hb=>setRow_other _ _ _ _ hb
   refine⟨cO.m6,cO.m7,cO.ne,⟨_,setRow_heap _ _ _ _ _ _ Y7,rfl⟩,(ho _<|Ne.symm cO.ne).trans cO.c7,cO.held.keep (λ_ x=>x) λa ha=>ho _ (cO.held.blk a ha).2.1.2.1,⟨λb hb=>(ho b λe=>(cO.sp b<|.inr hb).1<|e▸cO.m6).trans<|cO.keep.block b hb,by rw[setRow_size];exact cO.keep.size,cO.keep.os,cO.keep.out⟩,λb hb=>by rw[setRow_size];exact cO.sp b hb,cO.Ic,λb hb=>by rw[setRow_size];exact cO.lt b hb,by rw[setRow_size];exact cO.gl,cO.nw⟩
  have h6:(ah.setRow r6 xt.cells.toArray).heap[r6]?=some (.cells xt.cells.toArray 177 (0,0)):=setRow_heap _ _ _ _ _ _ Y7;generalize ah.setRow r6 xt.cells.toArray=dx at Tm h6⊢;clear cO Y7 hcs acN;walk_nrm
  apply ET.rn;apply ET.rt;refine ET.CI xt.val rfl rfl Tryz.func158 (λdv dz _=>?_) (h dx Tm<|by simp[World.cell?,h6,aN.cells]);have h6':=(dz.block _<|.inl ma.m6).trans h6;have c0:dv.cell? r6=some (.bool xt.ok):=DU;have c1:dv.cell? ⟨r6,1,none⟩=some (.int .i64 xt.sum):=DU;have c2:dv.cell? ⟨r6,2,none⟩=some (.int .i64 xt.most):=DU;have c3:dv.cell? ⟨r6,3,none⟩=some (.slice xt.a xt.n xt.cap):=DU;refine⟨?_,λe he=>?_⟩
  .simp[results,Tryz.f158,go_sem,aN.val,c0,c1,c2,c3]
  .simp[results,Tryz.f158,go_sem,c0,c1,c2,c3]at he;rcases he with rfl|rfl|rfl|rfl<;>exact gM ma.m6
end
end
def JL:∀l0 l1 l2 l3 l4 l5 l6:Bool,((!l6||(l1&&l5))&&(!l5||l4)&&(!l4||(l2&&l3)))=true->Region.ready .any ip #[l0,l1,l2,l3,l4,l5,l6,false,false,false]≠[]/\
  (Region.ready .any ip #[l0,l1,l2,l3,l4,l5,l6,false,false,false]).all (λi=>(i==0&&!l0)||(i==1&&!l1)||(i==2&&!l2)||(i==3&&!l3)||(i==4&&!l4&&l2&&l3)||(i==5&&!l5&&l4)||(i==6&&!l6&&l1&&l5)||(i==7&&l0&&l6))=true:=by
 decide +kernel
section
variable [Gl]{σ:Ren}
def yU {v':Value}(h:aw ok σ x.val v'):∃a',v'=aN.val {x with a:=a'}/\(x.a=none<->a'=none)/\∀a,x.a=some a->∃d,a'=some d/\dI σ a d:=by
 unfold aN.val at h;generalize hx:Value.agg #[.bool x.ok,.int .i64 x.sum,.int .i64 x.most,.slice x.a x.n x.cap]=v at h;cases h<;>cases hx
 rename_i xs' hs hv;let⟨l⟩:=xs';obtain⟨y0,y1,y2,y3,rfl⟩:∃y0 y1 y2 y3,l=[y0,y1,y2,y3]:=by
  rcases l with _|⟨y0,_|⟨y1,_|⟨y2,_|⟨y3,_|⟨y4,l⟩⟩⟩⟩⟩<;>simp at hs
  exact⟨_,_,_,_,rfl⟩
 have h0:=hv 0 _ y0 rfl rfl;have h1:=hv 1 _ y1 rfl rfl;have h2:=hv 2 _ y2 rfl rfl;have h3:=hv 3 _ y3 rfl rfl;cases h0;cases h1;cases h2;generalize VU:x.a=xa at h3;cases h3 with
 |dH=>exact⟨none,by simp[aN.val],aG,λa ha=>by cases ha⟩
 |@slice a a' _ _ ha=>exact⟨some a',by simp[aN.val],aG,λa ha'=>by cases ha';exact⟨_,rfl,ha⟩⟩
def KF {V':World}{a':Option Addr}(hw:bN ok false σ V' W')(hx:iY V' (λ_=>True) x)(hn:x.a=none<->a'=none)(ha:∀a,x.a=some a->∃d,a'=some d/\dI σ a d)(hM:∀a d,x.a=some a->σ a.block=some d->M' d):iY W' M' {x with a:=a'}:=by
 have key:∀a d,x.a=some a->a'=some d->dI σ a d->∃cs cs' e,V'.heap[a.block]?=some (.cells cs e (0,0))/\W'.heap[d.block]?=some (.cells cs' e (0,0))/\ax ok σ cs cs'/\∀v∈cs,∃n:Int,v=.int .i64 n:=by
  intro a d h1 h2 h3;let⟨_,_,cs,e,h4,h5⟩:=hx.blk a h1;let⟨o,o',g1,g2,g3⟩:=hw.heap _ _ h3.blk;rw[h4]at g1;cases g1;cases g3 with
  |cells hv hz=>
   rcases hz with hz|⟨hz,_⟩
   .exact⟨cs,_,e,h4,by rw[g2,hz];rfl,hv,h5⟩
   .cases hz
 refine⟨?_,hx.small,λd hd=>?_,λd hd=>?_⟩
 .rcases hx.row with e|⟨b,off,e,hr⟩
  .exact .inl e
  .let⟨d,h1,h2⟩:=ha _ e;let⟨cs,cs',e',h3,h4,h5,h6⟩:=key _ d e h1 h2;refine .inr ⟨d.block,off,?_,λi hi=>?_⟩
   .let⟨db,dof,ds⟩:=d;have o1:=h2.off;have o2:=h2.spot;simp only at o1 o2;subst o1 o2;exact h1
   .have hc:=hr i hi;simp only[World.cell?,h3]at hc;let⟨v',g1,g2⟩:=h5.get hc;cases g2;simp only[World.cell?,h4];exact g1
 .replace hd:a'=some d:=hd;have h0:x.a≠none:=λe=>by have:=hn.1 e;rw[hd]at this;cases this
  let⟨a,h1⟩:=Option.ne_none_iff_exists'.1 h0;let⟨d',h2,h3⟩:=ha a h1;rw[hd]at h2;cases h2;let⟨cs,cs',e',h4,h5,h6,h7⟩:=key a d h1 hd h3;refine⟨by rw[h3.spot];exact(hx.blk a h1).1,hM a _ h1 h3.blk,cs',e',h5,λv hv=>?_⟩;let⟨j,hj⟩:=Array.mem_iff_getElem?.1 hv;have ay:j<cs.size:=by rw[h6.size];exact(ac5.1 hj).1
  have hj':cs[j]?=some cs[j]:=ada ay;let⟨n,P2⟩:=h7 cs[j]<|Array.getElem_mem ay;have:=h6.at_ j _ _ hj' hj;rw[P2]at this;cases this;exact⟨n,rfl⟩
 .replace hd:a'=some d:=hd;have h0:x.a≠none:=λe=>by have:=hn.1 e;rw[hd]at this;cases this
  let⟨a,h1⟩:=Option.ne_none_iff_exists'.1 h0;let⟨d',h2,h3⟩:=ha a h1;rw[hd]at h2;cases h2;let⟨f1,cs0,f2,f3⟩:=hx.full a h1;let⟨cs,cs',e',h4,h5,h6,h7⟩:=key a d h1 hd h3;rw[f2]at h4;simp only[Option.some.injEq,Obj.cells.injEq]at h4;let⟨e1,e2,_⟩:=h4;subst e1 e2;exact⟨by rw[h3.off];exact f1,cs',h5,by rw[<-h6.size];exact f3⟩
end
def rV {F:Nat->Prop}{a:Option Addr}{n:Nat}{g:Nat->Int}{τ:Nat->Question->Nat}{d:Nat}(h:eA W a n g):eA (re (fu F W) τ d) a n g:=by
 rcases h with h|⟨b,off,e,hr⟩
 .exact .inl h
 .exact .inr ⟨b,off,e,λi hi=>(rD F W _).trans<|hr i hi⟩
def bC (l1 l2 l3 l4 l5 l6:Bool):Bool:=(!l6||(l1&&l5))&&(!l5||l4)&&(!l4||(l2&&l3))
def bm1:∀l2 l3 l4 l5 l6:Bool,bC false l2 l3 l4 l5 l6=true->bC true l2 l3 l4 l5 l6=true:=bd
def bm2:∀l1 l3 l4 l5 l6:Bool,bC l1 false l3 l4 l5 l6=true->bC l1 true l3 l4 l5 l6=true:=bd
def bm3:∀l1 l2 l4 l5 l6:Bool,bC l1 l2 false l4 l5 l6=true->bC l1 l2 true l4 l5 l6=true:=bd
def bm4:∀l1 l5 l6:Bool,bC l1 true true false l5 l6=true->bC l1 true true true l5 l6=true:=bd
def bm5:∀l1 l2 l3 l6:Bool,bC l1 l2 l3 true false l6=true->bC l1 l2 l3 true true l6=true:=bd
def bm6:∀l2 l3 l4:Bool,bC true l2 l3 l4 true false=true->l2=true/\l3=true/\l4=true:=bd
def bm7:∀l1 l2 l3 l4 l5:Bool,bC l1 l2 l3 l4 l5 true=true->l1=true/\l2=true/\l3=true/\l4=true/\l5=true:=bd
section
variable [Gl]{J:Jb}{Ro:Nat->Prop}
def LS.E' (h:LS p Ro acF r6 b7 x M W):zh (λb=>p.Sp b\/Ro b) M W:=⟨λb hb=>(h.sp b hb).1,λb hb=>(h.sp b hb).2⟩
def LS.alloc (h:LS p Ro acF r6 b7 x M W)(o:Obj):LS p Ro acF r6 b7 x (grow M W<|W.alloc o) (W.alloc o):=by
 have z:(W.alloc o).heap.size=W.heap.size+1:=by show(W.heap.push o).size=_;simp
 have hb:∀b,b<W.heap.size->(W.alloc o).heap[b]?=W.heap[b]?:=λb hb=>Below.heap_alloc _ _ _ hb
 let⟨c,c1,c2⟩:=h.c6;refine⟨.inl h.m6,.inl h.m7,h.ne,⟨c,(hb _<|h.lt _ h.m6).trans c1,c2⟩,(hb _<|h.lt _ h.m7).trans h.c7,h.held.keep (λb x=>⟨.inl x.1,x.2⟩) λa ha=>hb _<|h.lt _ (h.held.blk a ha).2.1.1,⟨λb x=>(hb b (h.sp b<|.inr x).2).trans<|h.keep.block b x,by rw[z];have:=h.keep.size;omega,h.keep.os,h.keep.out⟩,λb x=>⟨λy=>y.elim (h.sp b x).1 λy=>by have:=(h.sp b x).2;omega,by rw[z];have:=(h.sp b x).2;omega⟩,h.Ic,λb x=>x.elim (λy=>by rw[z];have:=h.lt b y;omega) And.right,by rw[z];have:=h.gl;omega,λb x=>x.elim (h.nw b) λy=>ac6 h.keep.size y.1⟩
omit [Gl] in
def EF:IK (λb=>p.Sp b\/Ro b) p.I:=λw w' h hi=>p.RF w w' (λb hb=>h b<|.inl hb) hi
def RE (hJ:mQ J P0 p ok Ro acF)(eL:dL P0 P0 ok)(hP:dL P0 Tryz.prog ok)(iA:∀f,ok.fn f=true->ok.aX f=true)(zp:jA P0 c){y:aN}
  (hK:∀(v3 v4 v5 v9 v10 v11 v12 v13 v14 v15 v16 v17 v18 v19 v20 v21 v22 v23 v24 v25 v26:Value) (M:Nat->Prop) (W:World),LS p Ro acF r6 b7 (J.pick x y) M W->ET Tryz.prog false p.I Ph.nO Ro Stop M (G ((base 158).at ⟨#[J.jg,.slice (some ⟨J.nb,J.no,none⟩) p.L J.nc,.pointer<|some ⟨J.tb,0,none⟩,v3,v4,v5,.pointer<|some ⟨r6,0,none⟩,.pointer<|some ⟨b7,0,none⟩,.int .i64 i,v9,v10,v11,v12,v13,v14,v15,v16,v17,v18,v19,v20,v21,v22,v23,v24,v25,v26],[]⟩ [.inBlock 1,.inLoop jV,.inBlock 0]) cs) W)
  (v3 v4 v5 v9 v10 v11 v12 v13 v14 v15 v16 v17 v19 v20 v21 v22 v23 v25 v26:Value)(M:Nat->Prop)(W:World)(hy:iY W (λb=>M b/\b≠r6/\b≠b7) y)(ma:LS p Ro acF r6 b7 x M W):
  ET Tryz.prog false p.I Ph.nO Ro Stop M (G ((base 158).at ⟨#[J.jg,.slice (some ⟨J.nb,J.no,none⟩) p.L J.nc,.pointer<|some ⟨J.tb,0,none⟩,v3,v4,v5,.pointer<|some ⟨r6,0,none⟩,.pointer<|some ⟨b7,0,none⟩,.int .i64 i,v9,v10,v11,v12,v13,v14,v15,v16,v17,x.val,v19,v20,v21,v22,v23,y.val,v25,v26],[]⟩<|.inRegion ip [7,8,9]::[.inBlock 1,.inLoop jV,.inBlock 0]) cs) W:=by
 obtain⟨o,ho,bp,hd,hg⟩:∃o,ip[7]?=some o/\o.op=.buildSlice 211 2 #[(0,.tmp 18),(1,.tmp 24)]/\o.dst=some 25/\o.guard=none:=⟨_,rfl,rfl,rfl,rfl⟩;refine ET.oper ho kU (by k_ne) λah acN _=>⟨.slice (some ⟨ah.heap.size,0,none⟩) 2 2,ah.alloc<|.cells (x.cells++y.cells).toArray 177,?_,?_,?_⟩
 .unfold execOp;simp only[bp];walk_nrm
  simp only[aN.val,aN.cells];go_simp
 .refine eU.alloc _ λe he=>?_
  have hm:=mem_listed he;unfold execOp at hm;simp only[bp]at hm;simp only[Act.eval,List.map_toArray,List.map_cons,List.map_nil,Array.getD_eq_getD_getElem?,List.getElem?_toArray,List.getElem?_cons_succ,List.getElem?_cons_zero,Option.getD_some,aN.val]at hm;simp[go_sem]at hm
 rw[hd];walk_nrm
 have rG:=ma.rely acN;have N8:iY ah (λb=>M b/\b≠r6/\b≠b7) y:=hy.keep (λ_ h=>h) λa ha=>acN.block _<|.inl (hy.blk a ha).2.1.1
 clear ma hy acN ho bp hd hg o;have rH:=rG.alloc<|.cells (x.cells++y.cells).toArray 177;have pa:∀b,b<ah.heap.size->(ah.alloc<|.cells (x.cells++y.cells).toArray 177).heap[b]?=ah.heap[b]?:=λb hb=>Below.heap_alloc _ _ _ hb
 have qW:iY (ah.alloc<|.cells (x.cells++y.cells).toArray 177) (λb=>grow M ah (ah.alloc<|.cells (x.cells++y.cells).toArray 177) b/\b≠r6/\b≠b7) y:=N8.keep (λb h=>⟨.inl h.1,h.2⟩) λa ha=>pa _<|rG.lt _ (N8.blk a ha).2.1.1
 have uZ:=rH.held;have hN:(ah.alloc<|.cells (x.cells++y.cells).toArray 177).heap[ah.heap.size]?=some (.cells (x.cells++y.cells).toArray 177 (0,0)):=heap_alloc_new _ _;have Xu:grow M ah (ah.alloc<|.cells (x.cells++y.cells).toArray 177) ah.heap.size:=.inr ⟨ac3 _,by show _<(ah.heap.push _).size;simp⟩;have n6:r6≠ah.heap.size:=λe=>by have:=rG.lt _ rG.m6;omega
 have n7:b7≠ah.heap.size:=λe=>by have:=rG.lt _ rG.m7;omega
 generalize ah.alloc (.cells (x.cells++y.cells).toArray 177)=dx at rH qW uZ hN Xu⊢;generalize grow M ah dx=px at rH qW uZ Xu⊢;generalize ah.heap.size=N at hN Xu n6 n7⊢;clear pa rG N8;obtain⟨o,ho,bp,hd,hg⟩:∃o,ip[8]?=some o/\o.op=.call {callee:=.value<|.func 160,args:=#[.tmp 25,.func 161],argTypes:=#[211,216]}/\o.dst=some 26/\o.guard=none:=⟨_,rfl,rfl,rfl,rfl⟩;have hSx:∀a,x.a=some a->(λb=>b=N\/(∃a,x.a=some a/\a.block=b)\/∃a,y.a=some a/\a.block=b) a.block:=λa ha=>.inr<|.inl ⟨a,ha,rfl⟩
 have hSy:∀a,y.a=some a->(λb=>b=N\/(∃a,x.a=some a/\a.block=b)\/∃a,y.a=some a/\a.block=b) a.block:=λa ha=>.inr<|.inr ⟨a,ha,rfl⟩
 have XL:∀(z:aN),(∀a,z.a=some a->(λb=>b=N\/(∃a,x.a=some a/\a.block=b)\/∃a,y.a=some a/\a.block=b) a.block)->∀v∈z.cells,aw ok (rR λb=>b=N\/(∃a,x.a=some a/\a.block=b)\/∃a,y.a=some a/\a.block=b) v v:=by
  intro z hz v hv;simp only[aN.cells,List.mem_cons,List.not_mem_nil,or_false]at hv;rcases hv with rfl|rfl|rfl|rfl
  .exact .bool _
  .exact .int _ _
  .exact .int _ _
  .cases hza:z.a with
   |none=>exact .dH _ _
   |some a=>exact .slice _ _ ⟨fR.2 ⟨hz a hza,rfl⟩,rfl,rfl⟩
 refine ET.Gw eL hP iA zp ho kU (by k_ne) bp Tryz.func160 bj rfl hJ.TV.2.1 EF (λb hb=>.inr hb) rH.E' rH.lt rH.gl (λb=>b=N\/(∃a,x.a=some a/\a.block=b)\/∃a,y.a=some a/\a.block=b)
  (λdv v w=>v=(J.pick x y).val/\∀b,b<dv.heap.size->w.heap[b]?=(fu Ro dv).heap[b]?) (λW v w τ d h=>h) ?_ ?_ ?_ ?_ ?_
 .rintro b (rfl|⟨a,ha,rfl⟩|⟨a,ha,rfl⟩)
  .exact .inl Xu
  .exact .inl (uZ.blk a ha).2.1.1
  .exact .inl (qW.blk a ha).2.1.1
 .intro dv dz;refine⟨?_⟩;rintro b (rfl|⟨a,ha,rfl⟩|⟨a,ha,rfl⟩)
  .refine⟨_,_,(dz.block _<|.inl Xu).trans hN,λv hv=>?_⟩;simp only[List.mem_toArray,List.mem_append]at hv;exact hv.elim (XL x hSx v)<|XL y hSy v
  .let⟨_,h2,cs,e,h3,h4⟩:=uZ.blk a ha;exact⟨cs,e,(dz.block _<|.inl h2.1).trans h3,λv hv=>by obtain⟨n,rfl⟩:=h4 v hv;exact .int _ _⟩
  .let⟨_,h2,cs,e,h3,h4⟩:=qW.blk a ha;exact⟨cs,e,(dz.block _<|.inl h2.1).trans h3,λv hv=>by obtain⟨n,rfl⟩:=h4 v hv;exact .int _ _⟩
 .intro v hv;simp[Act.eval]at hv;rcases hv with rfl|rfl
  .exact .slice _ _ ⟨fR.2 ⟨.inl rfl,rfl⟩,rfl,rfl⟩
  .exact .func (.func hJ.TV.2.2) rfl (λi x x' h=>by simp at h) rfl (λi x x' h=>by simp at h)
 .intro dv dz _ τ d;walk_nrm
  let⟨z',h1,_⟩:=gn (F:=Ro)<|(dz.block _<|.inl Xu).trans hN;refine(hJ.least (re (fu Ro dv) τ d) N [x,y] z' aG h1 ?_).mono ?_
  .intro z hz;simp only[List.mem_cons,List.not_mem_nil,or_false]at hz;rcases hz with rfl|rfl
   .exact⟨rV (uZ.keep (M':=λ_=>True) (λ_ _=>trivial) λa ha=>dz.block _<|.inl (uZ.blk a ha).2.1.1).row,uZ.small⟩
   .exact⟨rV (qW.keep (M':=λ_=>True) (λ_ _=>trivial) λa ha=>dz.block _<|.inl (qW.blk a ha).2.1.1).row,qW.small⟩
  .rintro e w' ⟨rfl,hb⟩;exact⟨_,rfl,rfl,λb dt=>hb.block b (by show b<(fu Ro dv).heap.size;rw[jl];exact dt)⟩
 .intro dv v' M' W' dz abp i' hB;have iL:=rH.rely dz;have N9:iY dv (λb=>px b/\b≠r6/\b≠b7) y:=qW.keep (λ_ h=>h) λa ha=>dz.block _ (.inl (qW.blk a ha).2.1.1)
  obtain⟨σ,v,V',hv,⟨rfl,Y2⟩,hw,hS,pi,NG⟩:=hB.res;obtain⟨a',rfl,hn,ha⟩:=yU hv;have hpS:∀a,(J.pick x y).a=some a->(λb=>b=N\/(∃a,x.a=some a/\a.block=b)\/∃a,y.a=some a/\a.block=b) a.block:=by
   rcases J.pk x y with e|e<;>rw[e]<;>assumption
  have ea:a'=(J.pick x y).a:=by
   cases e:(J.pick x y).a with
   |none=>exact hn.1 e
   |some a=>
    let⟨d,h1,h2⟩:=ha a e;have h3:=h2.blk;rw[hS _ (hpS a e)]at h3;simp only[Option.some.injEq]at h3;rw[h1];let⟨d1,d2,d3⟩:=d;have h4:=h2.off;have h5:=h2.spot;let⟨a1,a2,a3⟩:=a;simp only at h3 h4 h5;rw[h3,h4,h5]
  have ev:aN.val {J.pick x y with a:=a'}=(J.pick x y).val:=by rw[ea]
  rw[ev];have same:∀b cs e,px b->σ b=some b->dv.heap[b]?=some (.cells cs e (0,0))->(∀v∈cs,∃n:Int,v=.int .i64 n)->W'.heap[b]?=dv.heap[b]?:=by
   intro b cs e hm hs h3 h4;let⟨o,o',g1,g2,g3⟩:=hw.heap _ _ hs;let⟨z',f1,_⟩:=gn (F:=Ro) h3;rw[Y2 b (iL.lt b hm),f1]at g1;cases g1;cases g3 with
   |@cells _ c' _ _ z'' hv hz=>
    replace hz:=hz.resolve_right (λh=>by cases h.1);have:c'=cs:=by
     refine Array.ext hv.size.symm λj h1 h2=>?_
     let⟨n,P2⟩:=h4 cs[j]<|Array.getElem_mem h2;have:=hv.at_ j _ _ (ada h2)<|ada h1;rw[P2]at this⊢;generalize c'[j]=w at this;cases this;rfl
    rw[g2,h3,this,hz];rfl
  have Jd:∀b,px b->b≠N->W'.heap[b]?=dv.heap[b]?:=by
   intro b hb hne;by_cases hs:(λb=>b=N\/(∃a,x.a=some a/\a.block=b)\/∃a,y.a=some a/\a.block=b) b
   .have mL:=hS b hs;rcases hs with e|⟨a,ha,rfl⟩|⟨a,ha,rfl⟩
    .exact absurd e hne
    .let⟨_,_,cs,e,h3,h4⟩:=iL.held.blk a ha;exact same _ cs e hb mL h3 h4
    .let⟨_,_,cs,e,h3,h4⟩:=N9.blk a ha;exact same _ cs e hb mL h3 h4
   .exact hB.rest.block b ⟨hb,hs⟩
  have nx:∀a,x.a=some a->a.block≠N:=λa ha e=>by
   let⟨_,_,cs,e',h3,h4⟩:=uZ.blk a ha;rw[e,hN]at h3;cases h3;let⟨n,hn⟩:=h4 (.bool x.ok) (by simp[aN.cells]);cases hn
  have ny:∀a,y.a=some a->a.block≠N:=λa ha e=>by
   let⟨_,_,cs,e',h3,h4⟩:=qW.blk a ha;rw[e,hN]at h3;cases h3;let⟨n,hn⟩:=h4 (.bool x.ok) (by simp[aN.cells]);cases hn
  have jw:dv.heap.size<=W':=hB.ro.size;have KH:LS p Ro acF r6 b7 x M' W':=by
   let⟨c,c1,c2⟩:=iL.c6;refine⟨hB.own _ iL.m6,hB.own _ iL.m7,iL.ne,⟨c,(Jd _ iL.m6 n6).trans c1,c2⟩,(Jd _ iL.m7 n7).trans iL.c7,iL.held.keep (λb hb=>⟨hB.own _ hb.1,hb.2⟩) λa ha=>Jd _ (iL.held.blk a ha).2.1.1<|nx a ha,iL.keep.trans hB.ro,λb hb=>⟨λhm=>?_,ac4 (iL.sp b hb).2 jw⟩,iL.Ic,hB.lt,ac6 iL.gl jw,λb hm=>(hB.new b hm).elim (iL.nw b) λy=>ac6 iL.keep.size y⟩;rcases hB.new b hm with hm|hm
   .exact(iL.sp b hb).1 hm
   .have:=(iL.sp b hb).2;omega
  have G7:iY W' (λb=>M' b/\b≠r6/\b≠b7) y:=N9.keep (λb hb=>⟨hB.own _ hb.1,hb.2⟩) λa ha=>Jd _ (N9.blk a ha).2.1.1<|ny a ha;have P4:iY W' (λb=>M' b/\b≠r6/\b≠b7) (J.pick x y):=by
   rcases J.pk x y with e|e
   .rw[e];exact KH.held
   .rw[e];exact G7
  rw[hd];walk_nrm
  clear Jd same hw hS pi NG hv hn ha ea ev Y2 hpS;obtain⟨o',NN,rO,Zd,qM⟩:∃o,ip[9]?=some o/\o.op=.store 177 (.tmp 7) (.tmp 26)/\o.dst=none/\o.guard=none:=⟨_,rfl,rfl,rfl,rfl⟩;refine ET.none NN (by simp[Region.wanted,qM]) (by k_ne) λqI ku _=>?_
  have gQ:=KH.rely ku;have TD:iY qI (λb=>M' b/\b≠r6/\b≠b7) (J.pick x y):=P4.keep (λ_ h=>h) λa ha=>ku.block _<|.inl (P4.blk a ha).2.1.1
  refine⟨qI.setRow b7 (J.pick x y).cells.toArray,(fJ rO rfl rfl gQ.c7 rfl).1,?_,?_⟩
  .refine eU.row _ gQ.m7 λe he=>?_
   obtain⟨j,rfl⟩:=(fJ (t:=J.pick x y) rO rfl rfl gQ.c7 rfl).2 e<|mem_listed he;exact gM gQ.m7
  rw[cK (setRow_size _ _ _),Zd];walk_nrm
  apply ET.rn;have hbo:∀b,b≠b7->(qI.setRow b7 (J.pick x y).cells.toArray).heap[b]?=qI.heap[b]?:=λb hb=>setRow_other _ _ _ _ hb
  let⟨c,c1,c2⟩:=gQ.c6;exact hK _ _ _ _ _ _ _ _ _ _ _ _ _ _ _ _ _ _ _ _ _ _ _ ⟨gQ.m6,gQ.m7,gQ.ne,⟨c,(hbo _ gQ.ne).trans c1,c2⟩,setRow_heap _ _ _ _ _ _ gQ.c7,TD.keep (λ_ h=>h) λa ha=>hbo _ (TD.blk a ha).2.1.2.2,⟨λb hb=>(hbo b λe=>(gQ.sp b<|.inr hb).1<|e▸gQ.m7).trans<|gQ.keep.block b hb,by rw[setRow_size];exact gQ.keep.size,gQ.keep.os,gQ.keep.out⟩,λb hb=>by rw[setRow_size];exact gQ.sp b hb,gQ.Ic,λb hb=>by rw[setRow_size];exact gQ.lt b hb,by rw[setRow_size];exact gQ.gl,gQ.nw⟩
def So (hJ:mQ J P0 p ok Ro acF)(eL:dL P0 P0 ok)(hP:dL P0 Tryz.prog ok)(iA:∀f,ok.fn f=true->ok.aX f=true)(zp:jA P0 c)(hi:i<p.L)
  (hK:∀(v3 v4 v5 v9 v10 v11 v12 v13 v14 v15 v16 v17 v18 v19 v20 v21 v22 v23 v24 v25 v26:Value) (y:aN) (M:Nat->Prop) (W:World),J.Is i y->LS p Ro acF r6 b7 (J.pick x y) M W->ET Tryz.prog false p.I Ph.nO Ro Stop M (G ((base 158).at ⟨#[J.jg,.slice (some ⟨J.nb,J.no,none⟩) p.L J.nc,.pointer<|some ⟨J.tb,0,none⟩,v3,v4,v5,.pointer<|some ⟨r6,0,none⟩,.pointer<|some ⟨b7,0,none⟩,.int .i64 i,v9,v10,v11,v12,v13,v14,v15,v16,v17,v18,v19,v20,v21,v22,v23,v24,v25,v26],[]⟩ [.inBlock 1,.inLoop jV,.inBlock 0]) cs) W)
  (ho:FW .any ip l rest):
  ∀(l0 l1 l2 l3 l4 l5 l6:Bool) (v3 v4 v5 v9 v10 v11 v12 v13 v14 v15 v16 v17 v18 v19 v20 v21 v22 v23 v24 v25 v26:Value) (M:Nat->Prop) (W:World),l=#[l0,l1,l2,l3,l4,l5,l6,false,false,false]->bC l1 l2 l3 l4 l5 l6=true->
   (l0=true->v18=x.val)->(l1=true->v19=J.jg)->(l2=true->v20=.slice (some ⟨J.nb,J.no,none⟩) p.L J.nc)->(l3=true->v21=.int .i64 i)->(l4=true->v22=.pointer (some ⟨J.nb,J.no+i,none⟩))->(l5=true->v23=J.gX i)->
   (l6=true->∃y:aN,v24=y.val/\J.Is i y/\iY W (λb=>M b/\b≠r6/\b≠b7) y)->LS p Ro acF r6 b7 x M W->
   ET Tryz.prog false p.I Ph.nO Ro Stop M (G ((base 158).at ⟨#[J.jg,.slice (some ⟨J.nb,J.no,none⟩) p.L J.nc,.pointer<|some ⟨J.tb,0,none⟩,v3,v4,v5,.pointer<|some ⟨r6,0,none⟩,.pointer<|some ⟨b7,0,none⟩,.int .i64 i,v9,v10,v11,v12,v13,v14,v15,v16,v17,v18,v19,v20,v21,v22,v23,v24,v25,v26],[]⟩<|.inRegion ip rest::[.inBlock 1,.inLoop jV,.inBlock 0]) cs) W:=by
 induction ho with
 |nil h=>rintro l0 l1 l2 l3 l4 l5 l6 _ _ _ _ _ _ _ _ _ _ _ _ _ _ _ _ _ _ _ _ _ M W rfl hb;exact absurd h (JL _ _ _ _ _ _ _ hb).1
 |@cons l q rest hq hr ih=>
  rintro l0 l1 l2 l3 l4 l5 l6 v3 v4 v5 v9 v10 v11 v12 v13 v14 v15 v16 v17 v18 v19 v20 v21 v22 v23 v24 v25 v26 M W rfl hb h0 h1 h2 h3 h4 h5 h6 ma;have hc:=List.all_eq_true.1 (JL l0 l1 l2 l3 l4 l5 l6 hb).2 q hq;simp only[Bool.or_eq_true,Bool.and_eq_true,beq_iff_eq,Bool.not_eq_true']at hc;rcases hc with((((((⟨rfl,rfl⟩|⟨rfl,rfl⟩)|⟨rfl,rfl⟩)|⟨rfl,rfl⟩)|⟨⟨⟨rfl,rfl⟩,rfl⟩,rfl⟩)|⟨⟨rfl,rfl⟩,rfl⟩)|⟨⟨⟨rfl,rfl⟩,rfl⟩,rfl⟩)|⟨⟨rfl,rfl⟩,rfl⟩
  ·
   obtain⟨o,ho,bp,hd,hg⟩:∃o,ip[0]?=some o/\o.op=.load 177 (.tmp 7)/\o.dst=some 18/\o.guard=none:=⟨_,rfl,rfl,rfl,rfl⟩;refine ET.val x.val ho kU (by k_ne) (λah acN _=>?_) ?_
   .have cO:=ma.rely acN;refine⟨yG bp rfl cO.c7,λe he=>?_⟩;obtain⟨j,rfl⟩:=Au (t:=x) bp rfl cO.c7 e he;exact gM ma.m7
   .rw[hd];walk_nrm
    exact ih true l1 l2 l3 l4 l5 l6 _ _ _ _ _ _ _ _ _ _ _ _ _ _ _ _ _ _ _ _ _ _ _ aG hb (λ_=>rfl) h1 h2 h3 h4 h5 h6 ma
  .obtain⟨o,ho,bp,hd,hg⟩:∃o,ip[1]?=some o/\o.op=.move (.tmp 0)/\o.dst=some 19/\o.guard=none:=⟨_,rfl,rfl,rfl,rfl⟩;refine ET.val (J.jg) ho kU (by k_ne) (λah acN _=>?_) ?_
   .unfold execOp;refine⟨?_,λe he=>?_⟩
    .simp only[bp];go_simp
    .simp[go_sem,bp]at he
   .rw[hd];walk_nrm
    exact ih l0 true l2 l3 l4 l5 l6 _ _ _ _ _ _ _ _ _ _ _ _ _ _ _ _ _ _ _ _ _ _ _ aG (bm1 _ _ _ _ _ hb) h0 (λ_=>rfl) h2 h3 h4 h5 h6 ma
  .obtain⟨o,ho,bp,hd,hg⟩:∃o,ip[2]?=some o/\o.op=.move (.tmp 1)/\o.dst=some 20/\o.guard=none:=⟨_,rfl,rfl,rfl,rfl⟩;refine ET.val (.slice (some ⟨J.nb,J.no,none⟩) p.L J.nc) ho kU (by k_ne) (λah acN _=>?_) ?_
   .unfold execOp;refine⟨?_,λe he=>?_⟩
    .simp only[bp];go_simp
    .simp[go_sem,bp]at he
   .rw[hd];walk_nrm
    exact ih l0 l1 true l3 l4 l5 l6 _ _ _ _ _ _ _ _ _ _ _ _ _ _ _ _ _ _ _ _ _ _ _ aG (bm2 _ _ _ _ _ hb) h0 h1 (λ_=>rfl) h3 h4 h5 h6 ma
  .obtain⟨o,ho,bp,hd,hg⟩:∃o,ip[3]?=some o/\o.op=.move (.tmp 8)/\o.dst=some 21/\o.guard=none:=⟨_,rfl,rfl,rfl,rfl⟩;refine ET.val (.int .i64 i) ho kU (by k_ne) (λah acN _=>?_) ?_
   .unfold execOp;refine⟨?_,λe he=>?_⟩
    .simp only[bp];go_simp
    .simp[go_sem,bp]at he
   .rw[hd];walk_nrm
    exact ih l0 l1 l2 true l4 l5 l6 _ _ _ _ _ _ _ _ _ _ _ _ _ _ _ _ _ _ _ _ _ _ _ aG (bm3 _ _ _ _ _ hb) h0 h1 h2 (λ_=>rfl) h4 h5 h6 ma
  .obtain⟨o,ho,bp,hd,hg⟩:∃o,ip[4]?=some o/\o.op=.indexAddr 179 (.tmp 20) (.tmp 21)/\o.dst=some 22/\o.guard=none:=⟨_,rfl,rfl,rfl,rfl⟩;obtain rfl:=h2 rfl;obtain rfl:=h3 rfl;refine ET.val (.pointer<|some ⟨J.nb,J.no+i,none⟩) ho kU (by k_ne) (λah acN _=>?_) ?_
   .have nJ:(i:Int)<p.L:=by omega
    unfold execOp;refine⟨?_,λe he=>?_⟩
    .simp only[bp];go_simp
    .simp only[bp]at he;simp[go_sem]at he;rw[events_indexAt_slice _ _ _ _ _ _ (by go_simp) ab]at he;simp at he
   .rw[hd];walk_nrm
    exact ih l0 l1 true true true l5 l6 _ _ _ _ _ _ _ _ _ _ _ _ _ _ _ _ _ _ _ _ _ _ _ aG (bm4 _ _ _ hb) h0 h1 h2 h3 (λ_=>rfl) h5 h6 ma
  .obtain⟨o,ho,bp,hd,hg⟩:∃o,ip[5]?=some o/\o.op=.load 183 (.tmp 22)/\o.dst=some 23/\o.guard=none:=⟨_,rfl,rfl,rfl,rfl⟩;obtain rfl:=h4 rfl;refine ET.val (J.gX i) ho kU (by k_ne) (λah acN _=>?_) ?_
   .have hc:ah.cell? ⟨J.nb,J.no+i,none⟩=some (J.gX i):=by
     rw[<-hJ.fF i hi];simp only[World.cell?,(ma.rely acN).keep.block _ hJ.rnb]
    unfold execOp;refine⟨?_,λe he=>?_⟩
    .simp only[bp];go_simp
    .simp[go_sem,bp,hc]at he;subst he;exact xh hJ.rnb
   .rw[hd];walk_nrm
    exact ih l0 l1 l2 l3 true true l6 _ _ _ _ _ _ _ _ _ _ _ _ _ _ _ _ _ _ _ _ _ _ _ aG (bm5 _ _ _ _ hb) h0 h1 h2 h3 h4 (λ_=>rfl) h6 ma
  ·
   obtain⟨o,ho,bp,hd,hg⟩:∃o,ip[6]?=some o/\o.op=.call {callee:=.value<|.func 189,args:=#[.tmp 19,.tmp 23],argTypes:=#[23,183]}/\o.dst=some 24/\o.guard=none:=⟨_,rfl,rfl,rfl,rfl⟩;obtain rfl:=h1 rfl;obtain rfl:=h5 rfl;obtain⟨rfl,rfl,rfl⟩:=bm6 _ _ _ hb;refine ET.Gw eL hP iA zp ho kU (by k_ne) bp Tryz.func189 bj rfl hJ.TV.1 EF (λb hb=>.inr hb) ma.E' ma.lt ma.gl (J.S i)
    (λah v w=>∃y:aN,v=y.val/\J.Is i y/\iY w (λb=>ah.heap.size<=b) y) (λW v w τ d ⟨y,e1,e2,e3⟩=>⟨y,e1,e2,e3.keep (λ_ h=>h) λ_ _=>rfl⟩) (λb hb=>.inr<|hJ.sro i b hb) (λah acN=>hJ.closed i hi ah (ma.rely acN).keep) ?_ ?_ ?_
   .intro v hv;simp[Act.eval]at hv;rcases hv with rfl|rfl
    .exact hJ.ME i hi
    .exact hJ.MF i hi
   .intro ah acN _ τ d;walk_nrm
    refine(hJ.Pw i hi Ro ah (ma.rely acN).keep τ d).mono ?_;rintro e w' ⟨y,rfl,e2,e3⟩;exact⟨_,rfl,y,rfl,e2,e3⟩
   .intro ah v' M' W' acN pP i' hB;have cO:=ma.rely acN;obtain⟨σ,v,V',hv,⟨y,rfl,hy,hh⟩,hw,hS,pi,NG⟩:=hB.res;obtain⟨a',rfl,hn,ha⟩:=yU hv;have Z4:∀b,M b->¬J.S i b:=λb hb hs=>(cO.sp b<|.inr<|hJ.sro i b hs).1 hb
    have Jd:∀b,M b->W'.heap[b]?=ah.heap[b]?:=λb hb=>hB.rest.block b ⟨hb,Z4 b hb⟩
    have aaS:∀a d,y.a=some a->σ a.block=some d->ah.heap.size<=d:=λa d h1 h2=>(pi _ _ h2).elim (λe=>by
     have:=(hh.blk a h1).2.1;have:=(cO.sp _<|.inr<|hJ.sro i _ e.1).2;omega) id
    have hM':∀a d,y.a=some a->σ a.block=some d->M' d/\d≠r6/\d≠b7:=λa d h1 h2=>by
     have hb:=aaS a d h1 h2;have l6:=cO.lt _ cO.m6;have l7:=cO.lt _ cO.m7;refine⟨(NG _ _ h2).resolve_right λe=>?_,ab,ab⟩;have:=(cO.sp d<|.inr e.1).2;omega
    have hH:=KF hw ⟨hh.row,hh.small,λa ha=>⟨(hh.blk a ha).1,trivial,(hh.blk a ha).2.2⟩,hh.full⟩ hn ha hM';have jw:ah.heap.size<=W':=hB.ro.size;have KH:LS p Ro acF r6 b7 x M' W':=by
     let⟨c,c1,c2⟩:=cO.c6;refine⟨hB.own _ cO.m6,hB.own _ cO.m7,cO.ne,⟨c,(Jd _ cO.m6).trans c1,c2⟩,(Jd _ cO.m7).trans cO.c7,cO.held.keep (λb hb=>⟨hB.own _ hb.1,hb.2⟩) λa ha=>Jd _ (cO.held.blk a ha).2.1.1,cO.keep.trans hB.ro,λb hb=>⟨λhm=>?_,ac4 (cO.sp b hb).2 jw⟩,cO.Ic,hB.lt,ac6 cO.gl jw,λb hm=>(hB.new b hm).elim (cO.nw b) λy=>ac6 cO.keep.size y⟩;rcases hB.new b hm with hm|hm
     .exact(cO.sp b hb).1 hm
     .have:=(cO.sp b hb).2;omega
    rw[hd];walk_nrm
    exact ih l0 true true true true true true _ _ _ _ _ _ _ _ _ _ _ _ _ _ _ _ _ _ _ _ _ _ _ aG rfl h0 h1 h2 h3 h4 h5 (λ_=>⟨_,rfl,hJ.ren i y a' hy hn,hH⟩) KH
  .obtain⟨rfl,rfl,rfl,rfl,rfl⟩:=bm7 _ _ _ _ _ hb;obtain⟨y,rfl,hy,hh⟩:=h6 rfl;obtain rfl:=h0 rfl;obtain rfl:rest=[8,9]:=by
    have e1:(#[true,true,true,true,true,true,true,false,false,false]:Array Bool).setIfInBounds 7 true=#[true,true,true,true,true,true,true,true,false,false]:=aG;rw[e1]at hr;clear ih hK;generalize hL:(#[true,true,true,true,true,true,true,true,false,false]:Array Bool)=L at hr;cases hr with
    |nil h=>subst hL;exact absurd h MQ
    |@cons _ q1 r1 pn nL=>
     subst hL;rw[show Region.ready .any ip #[true,true,true,true,true,true,true,true,false,false]=[8] from by decide +kernel]at pn;obtain rfl:=List.mem_singleton.1 pn;have e2:(#[true,true,true,true,true,true,true,true,false,false]:Array Bool).setIfInBounds 8 true=#[true,true,true,true,true,true,true,true,true,false]:=aG;rw[e2]at nL;generalize hL:(#[true,true,true,true,true,true,true,true,true,false]:Array Bool)=L at nL;cases nL with
     |nil h=>subst hL;exact absurd h MQ
     |@cons _ q2 r2 YK TG=>
      subst hL;rw[show Region.ready .any ip #[true,true,true,true,true,true,true,true,true,false]=[9] from by decide +kernel]at YK;obtain rfl:=List.mem_singleton.1 YK;have e3:(#[true,true,true,true,true,true,true,true,true,false]:Array Bool).setIfInBounds 9 true=#[true,true,true,true,true,true,true,true,true,true]:=aG;rw[e3]at TG;generalize hL:(#[true,true,true,true,true,true,true,true,true,true]:Array Bool)=L at TG;cases TG with
      |nil h=>rfl
      |@cons _ q3 r3 h3' ZT=>
       subst hL;exact absurd h3' (by rw[show Region.ready .any ip #[true,true,true,true,true,true,true,true,true,true]=[] from by decide +kernel];simp)
   exact RE hJ eL hP iA zp (λa0 a1 a2 a3 a4 a5 a6 a7 a8 a9 a10 a11 a12 a13 a14 a15 a16 a17 a18 a19 a20 M W h=>hK a0 a1 a2 a3 a4 a5 a6 a7 a8 a9 a10 a11 a12 a13 a14 a15 a16 a17 a18 a19 a20 y M W hy h) _ _ _ _ _ _ _ _ _ _ _ _ _ _ _ _ _ _ _ _ _ hh ma
end
def SL:Tryz.prog.follows .mixedOrders=true:=bj
section
variable [Gl]{J:Jb}{Ro:Nat->Prop}
def SA (hJ:mQ J P0 p ok Ro acF)(eL:dL P0 P0 ok)(hP:dL P0 Tryz.prog ok)(iA:∀f,ok.fn f=true->ok.aX f=true)(zp:jA P0 c)(hL:p.L<4611686018427387904)
  (KM:∀seq x M W,wI J seq x->LS p Ro acF r6 b7 x M W->W.cell? r6=some (.bool x.ok)->ET Tryz.prog false p.I Ph.nO Ro (p.zY k seq) M (G (c0.finish x.val) cs) W)(f:Nat):
  ∀(lo:Nat) (seq:List Nat) (x:aN) (M:Nat->Prop) (W:World) (v3 v4 v5 v8 v9 v10 v11 v12 v13 v14 v15 v16 v17 v18 v19 v20 v21 v22 v23 v24 v25 v26:Value),p.L<=lo+f->wI J seq x->LS p Ro acF r6 b7 x M W->
   ET Tryz.prog false p.I Ph.nO Ro (p.jZ k Ro f lo seq) M (G ((base 158).at ⟨#[J.jg,.slice (some ⟨J.nb,J.no,none⟩) p.L J.nc,.pointer J.tb,v3,v4,v5,.pointer r6,.pointer b7,v8,v9,v10,v11,v12,v13,v14,v15,v16,v17,v18,v19,v20,v21,v22,v23,v24,v25,v26],[]⟩ [.code jV,.inLoop jV,.inBlock 0])<|c0::cs) W:=by
 induction f with
 |zero=>
  intro lo seq x M W v3 v4 v5 v8 v9 v10 v11 v12 v13 v14 v15 v16 v17 v18 v19 v20 v21 v22 v23 v24 v25 v26 PZ hb ma;let⟨g1,g2,hA,⟨hs,hB⟩,hC,hD⟩:=PB (r6:=r6) (b7:=b7) (c0:=c0) (cs:=cs) hJ hL v3 v4 v5 v8 v9 v10 v11 v12 v13 v14 v15 v16 v17 v18 v19 v20 v21 v22 v23 v24 v25 v26;refine hA _ _ _<|ET.stop λah acN _=>⟨hs,λy h1 h2 h3=>⟨ab,g2 y,?_⟩⟩;rw[hJ.prog];have hl:=ma.rely<|acN.trans<|(ma.rely acN).tk<|.int .i64<|y+1;exact⟨hB ah y h2 h3,hD _ _ _ y x ab h2 hl λW' h4 h5=>KM seq x M W' hb h4 h5⟩
 |succ f ih=>
  intro lo seq x M W v3 v4 v5 v8 v9 v10 v11 v12 v13 v14 v15 v16 v17 v18 v19 v20 v21 v22 v23 v24 v25 v26 PZ hb ma;let⟨g1,g2,hA,⟨hs,hB⟩,hC,hD⟩:=PB (r6:=r6) (b7:=b7) (c0:=c0) (cs:=cs) hJ hL v3 v4 v5 v8 v9 v10 v11 v12 v13 v14 v15 v16 v17 v18 v19 v20 v21 v22 v23 v24 v25 v26;refine hA _ _ _<|ET.stop λah acN _=>⟨hs,λy h1 h2 h3=>⟨g2 y,?_⟩⟩;rw[hJ.prog];have hl:=ma.rely<|acN.trans<|(ma.rely acN).tk<|.int .i64<|y+1;refine⟨hB ah y h2 h3,λh4=>hD _ _ _ y x h4 h2 hl λW' h5 h6=>KM seq x M W' hb h5 h6,λh4=>hC _ _ _ y h4 ?_⟩;intro a3 a4 a5 a8 a9 a10 a11 a12 a13 a14 a15 a16 a17 a18 a19 a20 a21 a22 a23 a24 a25 a26;refine ET.drawn SL λorder ho=>?_
  have e:(Array.replicate ip.size false)=#[false,false,false,false,false,false,false,false,false,false]:=bj;rw[e]at ho;refine So hJ eL hP iA zp h4 ?_ ho false false false false false false false _ _ _ _ _ _ _ _ _ _ _ _ _ _ _ _ _ _ _ _ _ M _ rfl rfl (λh=>qK) (λh=>qK) (λh=>qK) (λh=>qK) (λh=>qK) (λh=>qK) (λh=>qK) hl;intro b3 b4 b5 b9 Gq b11 QC Yo Xm b15 b16 Yp b18 b19 b20 b21 b22 b23 b24 b25 b26 z M' W' hz KH;refine ET.c (λ_=>stepG_inBlock)<|ET.c (λ_=>stepG_inLoop) ?_;exact ih (y+1) (seq++[y]) (J.pick x z) M' W' _ _ _ _ _ _ _ _ _ _ _ _ _ _ _ _ _ _ _ _ _ _ ab (hb.snoc hz) KH
end
def C':(Tryz.f158.name== "runtime.NumGoroutine")=false:=bj
section
variable [Gl]{J:Jb}{Ro:Nat->Prop}
def MH (hJ:mQ J P0 p ok Ro acF)(eL:dL P0 P0 ok)(hP:dL P0 Tryz.prog ok)(iA:∀f,ok.fn f=true->ok.aX f=true)(zp:jA P0 c)(hL:p.L<4611686018427387904)(VG:k<4)(uk:Ro bi)(hib:acF.heap[bi]?=some (.cells #[.int .i64 k] 3 (0,0)))(YY:p.Wg≠p.Bs)
  (Em:∀b,p.Sp b->¬Ro b)(ay:∀b,p.Sp b\/Ro b->b<acF)(F0:Gl.n<=acF)(ho:FW .any iP l rest):
  ∀(l0 l1 l2 l3 l5:Bool) (v6 v7 v8 v9 v10 v11:Value) (W:World),l=#[l0,l1,l2,l3,false,l5,false]->(l0=true->v6=.slice (some ⟨p.Bs,0,none⟩) 4 4)->(l1=true->v7=.int .i64 k)->(l2=true->v8=J.jg)->(l3=true->v9=.slice (some ⟨J.nb,J.no,none⟩) p.L J.nc)->(l5=true->v11=.pointer (some ⟨p.Bs,k*4,none⟩))->(l5=true->l0=true/\l1=true)->
   aO Ro acF W->acF.heap.size<=W->
   ET Tryz.prog false p.I Ph.nO Ro (p.jZ k Ro p.L 0 []) (λ_=>False) (G (YF J p.Wg bi v6 v7 v8 v9 v10 v11 rest) [bot]) W:=by
 induction ho with
 |nil h=>rintro l0 l1 l2 l3 l5 v6 v7 v8 v9 v10 v11 W rfl;exact absurd h (wx _ _ _ _ _ _).1
 |@cons l q rest hq hr ih=>
  rintro l0 l1 l2 l3 l5 v6 v7 v8 v9 v10 v11 W rfl h6 h7 h8 h9 Cc h5 hK jw;have hc:=List.all_eq_true.1 (wx l0 l1 l2 l3 false l5).2 q hq;simp only[Bool.or_eq_true,Bool.and_eq_true,beq_iff_eq,Bool.not_eq_true',Bool.false_eq_true,and_false,false_and,or_false,and_true]at hc;rcases hc with((((⟨rfl,rfl⟩|⟨rfl,rfl⟩)|⟨rfl,rfl⟩)|⟨rfl,rfl⟩)|⟨⟨rfl,rfl⟩,rfl⟩)|⟨⟨⟨rfl,rfl⟩,rfl⟩,rfl⟩
  .obtain⟨o,ho,bp,hd,hg⟩:∃o,iP[0]?=some o/\o.op=.load 211 (.tmp 4)/\o.dst=some 6/\o.guard=none:=⟨_,rfl,rfl,rfl,rfl⟩;refine ET.val (.slice p.Bs 4 4) ho kU (by k_ne) (λah acN _=>?_) ?_
   .have hb:=fx<|(acN.block _<|.inr hJ.TY).trans<|(hK.block _ hJ.TY).trans hJ.Uw;unfold execOp;refine⟨?_,λe he=>?_⟩
    .simp only[bp];go_simp
    .simp[go_sem,bp,hb]at he;subst he;exact xh hJ.TY
   .rw[hd];walk_nrm
    exact ih true l1 l2 l3 l5 _ _ _ _ _ _ _ aG (λ_=>rfl) h7 h8 h9 Cc (λe=>⟨rfl,(h5 e).2⟩) hK jw
  .obtain⟨o,ho,bp,hd,hg⟩:∃o,iP[1]?=some o/\o.op=.load 3 (.tmp 5)/\o.dst=some 7/\o.guard=none:=⟨_,rfl,rfl,rfl,rfl⟩;refine ET.val (.int .i64 k) ho kU (by k_ne) (λah acN _=>?_) ?_
   .have hb:=fx<|(acN.block _<|.inr uk).trans<|(hK.block _ uk).trans hib;unfold execOp;refine⟨?_,λe he=>?_⟩
    .simp only[bp];go_simp
    .simp[go_sem,bp,hb]at he;subst he;exact xh uk
   .rw[hd];walk_nrm
    exact ih l0 true l2 l3 l5 _ _ _ _ _ _ _ aG h6 (λ_=>rfl) h8 h9 Cc (λe=>⟨(h5 e).1,rfl⟩) hK jw
  .obtain⟨o,ho,bp,hd,hg⟩:∃o,iP[2]?=some o/\o.op=.load 23 (.tmp 1)/\o.dst=some 8/\o.guard=none:=⟨_,rfl,rfl,rfl,rfl⟩;refine ET.val (J.jg) ho kU (by k_ne) (λah acN _=>?_) ?_
   .have hb:=fx<|(acN.block _<|.inr hJ.O').trans<|(hK.block _ hJ.O').trans hJ.o_;unfold execOp;refine⟨?_,λe he=>?_⟩
    .simp only[bp];go_simp
    .simp[go_sem,bp,hb]at he;subst he;exact xh hJ.O'
   .rw[hd];walk_nrm
    exact ih l0 l1 true l3 l5 _ _ _ _ _ _ _ aG h6 h7 (λ_=>rfl) h9 Cc h5 hK jw
  .obtain⟨o,ho,bp,hd,hg⟩:∃o,iP[3]?=some o/\o.op=.load 179 (.tmp 2)/\o.dst=some 9/\o.guard=none:=⟨_,rfl,rfl,rfl,rfl⟩;refine ET.val (.slice (some ⟨J.nb,J.no,none⟩) p.L J.nc) ho kU (by k_ne) (λah acN _=>?_) ?_
   .have hb:=fx<|(acN.block _<|.inr hJ.O_).trans<|(hK.block _ hJ.O_).trans hJ.A';unfold execOp;refine⟨?_,λe he=>?_⟩
    .simp only[bp];go_simp
    .simp[go_sem,bp,hb]at he;subst he;exact xh hJ.O_
   .rw[hd];walk_nrm
    exact ih l0 l1 l2 true l5 _ _ _ _ _ _ _ aG h6 h7 h8 (λ_=>rfl) Cc h5 hK jw
  .obtain⟨o,ho,bp,hd,hg⟩:∃o,iP[4]?=some o/\o.op=.call {callee:=.value<|.func 158,args:=#[.tmp 8,.tmp 9,.tmp 3],argTypes:=#[23,179,214]}/\o.dst=some 10/\o.guard=none:=⟨_,rfl,rfl,rfl,rfl⟩;obtain rfl:=h8 rfl;obtain rfl:=h9 rfl;refine ET.k rfl λ_ _ _=>goes_call ho kU (by k_ne) bp Tryz.func158 C' rfl ⟨⟨rfl,λe he=>ic⟩,?_⟩;walk_nrm
   have en:∀n,Tryz.f158.ntmps-n=27-n:=λn=>rfl
   rw[en];walk_nrm
   rw[<-hJ.prog];refine QU hJ (λ_=>False) W hK (λb hb=>⟨id,ac4 (ay b hb) jw⟩) Em (λb hb=>hb.elim) (ac6 F0 jw) (λb hb=>hb.elim) ?_;intro r6 b7 a0 a1 a2 a3 a4 a5 a6 a7 a8 a9 a10 a11 a12 a13 a14 a15 a16 a17 a18 a19 a20 a21 M' W' ma;rw[hJ.prog];refine SA hJ eL hP iA zp hL ?_ p.L 0 [] ep M' W' _ _ _ _ _ _ _ _ _ _ _ _ _ _ _ _ _ _ _ _ _ _ ab .nil ma;intro seq x M W hb hl hc;rw[Frame.finish_at,ho];simp only[Option.bind_some,hd];walk_nrm
   have:=Qz hJ VG uk YY hb hr l0 l1 l5 v6 v7 J.jg (.slice (some ⟨J.nb,J.no,none⟩) p.L J.nc) v11 M W r6 x.ok aG h6 h7 Cc hl.keep ((hl.keep.block _ uk).trans hib) hl.m6 hc (hl.held.keep (λb h=>⟨h.1,h.2.1⟩) λ_ _=>rfl) (λb hb=>(hl.sp b<|.inl hb).1) (λb hb=>ac6 hJ.base<|hl.nw b hb) h5;rw[hJ.prog]at this;exact this
  .obtain⟨o,ho,bp,hd,hg⟩:∃o,iP[5]?=some o/\o.op=.indexAddr 211 (.tmp 6) (.tmp 7)/\o.dst=some 11/\o.guard=none:=⟨_,rfl,rfl,rfl,rfl⟩;refine ET.val (.pointer<|some ⟨p.Bs,k*4,none⟩) ho kU (by k_ne) (λah acN _=>?_) ?_
   .rw[h6 rfl,h7 rfl];unfold execOp;refine⟨?_,λe he=>?_⟩
    .simp only[bp];go_simp
     intro h;omega
    .simp only[bp]at he;simp[go_sem]at he;rw[events_indexAt_slice _ _ _ _ _ _ (by go_simp) ab]at he;simp at he
   .rw[hd];walk_nrm
    exact ih true true l2 l3 true _ _ _ _ _ _ _ aG h6 h7 h8 h9 (λ_=>rfl) (λ_=>⟨rfl,rfl⟩) hK jw
def Uf (hJ:mQ J P0 p ok Ro acF)(eL:dL P0 P0 ok)(hP:dL P0 Tryz.prog ok)(iA:∀f,ok.fn f=true->ok.aX f=true)(zp:jA P0 c)(hL:p.L<4611686018427387904)(VG:k<4)(uk:Ro bi)(hib:acF.heap[bi]?=some (.cells #[.int .i64 k] 3 (0,0)))(YY:p.Wg≠p.Bs)
  (Em:∀b,p.Sp b->¬Ro b)(ay:∀b,p.Sp b\/Ro b->b<acF)(F0:Gl.n<=acF):
  ET p.P false p.I Ph.nO Ro (p.jZ k Ro p.L 0 []) (λ_=>False) (born Tryz.prog<|call47 J p.Wg bi) acF:=by
 rw[hJ.prog];refine ET.c (λw=>Ke J p.Wg bi w) ?_;simp only[BI,Tryz.f156,Option.getD_some];apply ET.sr
 (refine ET.c (λ_=>stepG_defer rfl rfl (by k_ne) rfl) ?_;walk_nrm)
 apply ET.rn;refine ET.drawn SL λorder ho=>?_
 have e:(Array.replicate iP.size false)=#[false,false,false,false,false,false,false]:=bj;change FW .any iP (Array.replicate iP.size false) order at ho;rw[e]at ho;exact MH hJ eL hP iA zp hL VG uk hib YY Em ay F0 ho false false false false false _ _ _ _ _ _ acF rfl (λh=>qK) (λh=>qK) (λh=>qK) (λh=>qK) (λh=>qK) (λh=>qK) (aO.refl _ _)<|ac3 _
end
