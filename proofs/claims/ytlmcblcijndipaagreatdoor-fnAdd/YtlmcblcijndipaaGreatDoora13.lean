import Derived.Test.YtlmcblcijndipaaGreatDoora04
import Derived.Test.YtlmcblcijndipaaGreatDoora12
set_option linter.defProp false
set_option linter.unusedSimpArgs false
set_option linter.unusedVariables false
set_option maxHeartbeats 2000000
set_option maxRecDepth 100000
namespace Go.Proofs.YtlmcblcijndipaaGreatDoor
open Conc Conc.Lib ConcR.Gen RowKit
variable {Stop:(Nat->Prop)->Goroutine->World->Prop}{a:Addr}{l:Array Bool}{ok:Ctx}{c c0:Frame}{fn:Func}{cs:List Frame}{todo:List Item}{rest:List Nat}{b7 bi g i k off r6:Nat}{M M':Nat->Prop}{o:Oper}{p:Ph}{P P0:Program}{v:Value}{W W' acH ah w:World}{x:aJ}
def nj (id:Nat):Code->Option (Array Oper)
 |.region i ops _=>if i==id then some ops else none
 |.seq a b=>(nj id a).or (nj id b)
 |.cond _ a b=>(nj id a).or (nj id b)
 |.block _ c=>nj id c
 |.loop c=>nj id c
 |.scope c=>nj id c
 |_=>none
def jZ:Code->Option Code
 |.seq a b=>(jZ a).or (jZ b)
 |.cond _ a b=>(jZ a).or (jZ b)
 |.block _ c=>jZ c
 |.loop c=>some c
 |.scope c=>jZ c
 |_=>none
section
variable {m:Bool}{I:World->Prop}{X:Event->Prop}{Ro:Nat->Prop}
 {b:Frame}{a:Act}{k:List Item}{ops:Array Oper}
def pi {w':World}(ho:ops[i]?=some o)(hw:Region.wanted o (yielded ops a.tmps)=true)(hk:b.kind≠.early)(hr:(execOp a.eval o).run P w=.ok (.value v) w'):
  stepG P m (G (b.at a<|.inRegion ops (i::rest)::k) cs) w=.go (G (b.at (a.put o.dst v)<|.inRegion ops rest::k) cs) w' (listed P b.fn a o w):=by
 have:=goes_oper_k (P:=P) (main:=m) (cs:=cs) (k:=k) (rest:=rest) (w:=w) (K:=λg' w'' es=>g'=G (b.at (a.put o.dst v)<|.inRegion ops rest::k) cs/\w''=w'/\es=listed P b.fn a o w) ho hw hk (λK' h=>by rw[hr];exact h _ _ ⟨rfl,rfl,rfl⟩);let⟨g',w'',es,h1,h2,h3,h4⟩:=goes_elim this;rw[h1,h2,h3,h4]
def ET.oper (ho:ops[i]?=some o)(hw:Region.wanted o (yielded ops a.tmps)=true)(hk:b.kind≠.early)
  (h:∀ah,aK (λb=>M b\/Ro b) W ah->I ah->∃v W',(execOp a.eval o).run P ah=.ok (.value v) W'/\eP X M Ro ah W' (listed P b.fn a o ah)/\ET P m I X Ro Stop (grow M ah W') (G (b.at (a.put o.dst v)<|.inRegion ops rest::k) cs) W'):
  ET P m I X Ro Stop M (G (b.at a<|.inRegion ops (i::rest)::k) cs) W:=
 ET.step rfl λah acP pL=>by
  let⟨v,W',h1,h2,h3⟩:=h ah acP pL;exact⟨_,_,_,pi ho hw hk h1,h2,h3⟩
def ET.val (v:Value)(ho:ops[i]?=some o)(hw:Region.wanted o (yielded ops a.tmps)=true)(hk:b.kind≠.early)
  (h:∀ah,aK (λb=>M b\/Ro b) W ah->I ah->(execOp a.eval o).run P ah=.ok (.value v) ah/\∀e∈(execOp a.eval o).events P ah #[],Fr X M Ro e)
  (n:ET P m I X Ro Stop M (G (b.at (a.put o.dst v)<|.inRegion ops rest::k) cs) W):ET P m I X Ro Stop M (G (b.at a<|.inRegion ops (i::rest)::k) cs) W:=
 ET.oper ho hw hk λah acP pL=>⟨v,ah,(h ah acP pL).1,eP.stay λe he=>(h ah acP pL).2 e<|mem_listed he,by rw[show grow M ah ah=M from cJ rfl];exact n.rely acP⟩
def ET.none (ho:ops[i]?=some o)(hw:Region.wanted o (yielded ops a.tmps)=true)(hk:b.kind≠.early)
  (h:∀ah,aK (λb=>M b\/Ro b) W ah->I ah->∃W',(execOp a.eval o).run P ah=.ok .skip W'/\eP X M Ro ah W' (listed P b.fn a o ah)/\ET P m I X Ro Stop (grow M ah W') (G (b.at (a.put o.dst undef)<|.inRegion ops rest::k) cs) W'):
  ET P m I X Ro Stop M (G (b.at a<|.inRegion ops (i::rest)::k) cs) W:=
 ET.step rfl λah acP pL=>by
  let⟨W',h1,h2,h3⟩:=h ah acP pL;exact⟨_,_,_,stepG_none ho hw hk h1,h2,h3⟩
def CU (hn:b.kind=.normal)(hd:a.defers=[])(hf:P.funcs[b.fn]?=some fn)(hr:(results fn a.tmps).run P w=.ok v w):
  stepG P m (G {b.at a todo with mode:=.returning}<|c::cs) w=.go (G (c.finish v) cs) w (seen P b.fn<|(results fn a.tmps).events P w #[]):=by
 simp[G,stepG,unwind,doReturn,Frame.at,hn,hd,hf,hr,GStep.after]
def ET.Cv (v:Value)(hn:b.kind=.normal)(hd:a.defers=[])(hf:P.funcs[b.fn]?=some fn)
  (h:∀ah,aK (λb=>M b\/Ro b) W ah->I ah->(results fn a.tmps).run P ah=.ok v ah/\∀e∈(results fn a.tmps).events P ah #[],Fr X M Ro e)
  (n:ET P m I X Ro Stop M (G (c.finish v) cs) W):ET P m I X Ro Stop M (G {b.at a todo with mode:=.returning}<|c::cs) W:=
 ET.step rfl λah acP pL=>⟨_,_,_,CU hn hd hf (h ah acP pL).1,eP.stay λe he=>(h ah acP pL).2 e<|jT _ _ _ e he,by rw[show grow M ah ah=M from cJ rfl];exact n.rely acP⟩
def eP.row (cs:Array Value)(ha:M g){es:Array Event}(h:∀e∈es,Fr X M Ro e):eP X M Ro W (W.setRow g cs) es:=
 ⟨λb _ hm=>setRow_other _ _ _ _ λe=>hm<|e▸ha,Nat.le_of_eq (setRow_size _ _ _).symm,rfl,rfl,rfl,λe he=>by rw[show grow M W (W.setRow g cs)=M from cJ (setRow_size _ _ _)];exact h e he⟩
def wP {a:Addr}(h:Ro a.block):Fr X M Ro ⟨.cell a,false,false⟩:=.inl ⟨rfl,a,rfl,.inr ⟨h,rfl⟩⟩
def gA {a:Addr}{w:Bool}(h:M a.block):Fr X M Ro ⟨.cell a,w,false⟩:=.inl ⟨rfl,a,rfl,.inl h⟩
end
section
variable [Gl]
structure Jb where
 bl:Nat
 bn:Nat
 bb:Nat
 nb:Nat
 no:Nat
 nc:Nat
 tb:Nat
 ji:Value
 gT:Nat->Value
 S:Nat->Nat->Prop
 Is:Nat->aJ->Prop
 lt:aJ->aJ->Bool
 base:Nat
def Jb.pick (J:Jb)(x y:aJ):aJ:=if J.lt y x=true then y else x
def Jb.cZ (J:Jb):List aJ->aJ
 |[]=>d7
 |x::xs=>xs.foldl J.pick x
omit [Gl] in
def Jb.pk (J:Jb)(x y:aJ):J.pick x y=x\/J.pick x y=y:=by
 unfold Jb.pick;split
 .exact .inr rfl
 .exact .inl rfl
inductive wc (J:Jb):List Nat->aJ->Prop
 |nil:wc J [] d7
 |snoc {seq:List Nat} {i:Nat} {x y:aJ}:wc J seq x->J.Is i y->wc J (seq++[i]) (J.pick x y)
structure iZ (W:World)(M:Nat->Prop)(x:aJ):Prop where
 row:ep W x.a x.n x.g
 small:x.n<=1048576
 blk:∀a,x.a=some a->a.spot=none/\M a.block/\∃cs e,W.heap[a.block]?=some (.cells cs e (0,0))/\∀v∈cs,∃n:Int,v=.int .i64 n
 full:∀a,x.a=some a->a.off=0/\∃cs,W.heap[a.block]?=some (.cells cs 3 (0,0))/\cs.size=x.n
omit [Gl] in
def iZ.keep (h:iZ W M x)(hm:∀b,M b->M' b)(hk:∀a,x.a=some a->W'.heap[a.block]?=W.heap[a.block]?):iZ W' M' x:=by
 refine⟨?_,h.small,λa ha=>?_,λa ha=>?_⟩
 .rcases h.row with e|⟨b,off,e,hr⟩
  .exact .inl e
  .refine .inr ⟨b,off,e,λi hi=>?_⟩;have:=hr i hi;simp only[World.cell?]at this⊢;rw[hk _ e];exact this
 .let⟨h1,h2,cs,e,h3,h4⟩:=h.blk a ha;exact⟨h1,hm _ h2,cs,e,(hk a ha).trans h3,h4⟩
 .let⟨h1,cs,h2,h3⟩:=h.full a ha;exact⟨h1,cs,(hk a ha).trans h2,h3⟩
def Ir (J:Jb)(seq:List Nat)(vs:List Value)(Mr:Nat->Prop)(W:World):Prop:=∃x:aJ,vs=x.cells/\wc J seq x/\iZ W Mr x/\∀b,Mr b->J.base<=b
structure mN (J:Jb)(P0:Program)(p:Ph)(ok:Ctx)(Ro:Nat->Prop)(acH:World):Prop where
 prog:p.P=Tryz.prog
 ty:p.ty=210
 tk:p.tk=J.tb
 wd:p.wd=4
 n4:p.n=4
 Xz:p.Xz=177
 res:p.Tn=Ir J
 base:J.base<=acH
 Zy:acH.heap[J.bl]?=some (.cells #[J.ji] 23 (0,0))
 ZH:acH.heap[J.bn]?=some (.cells #[.slice (some ⟨J.nb,J.no,none⟩) p.L J.nc] 179 (0,0))
 Tv:acH.heap[J.bb]?=some (.cells #[.slice p.Bs 4 4] 211 (0,0))
 ZZ:Ro J.bl
 Z0:Ro J.bn
 SS:Ro J.bb
 rnb:Ro J.nb
 gP:∀i,i<p.L->acH.cell? ⟨J.nb,J.no+i,none⟩=some (J.gT i)
 sro:∀i b,J.S i b->Ro b
 closed:∀i,i<p.L->∀ah,aK Ro acH ah->qY ok (J.S i) ah
 LK:∀i,i<p.L->ar ok (rG<|J.S i) J.ji J.ji
 LL:∀i,i<p.L->ar ok (rG<|J.S i) (J.gT i) (J.gT i)
 OK:∀i,i<p.L->∀(F:Nat->Prop) ah,aK Ro acH ah->∀τ d,Calls P0 189 #[J.ji,J.gT i] (re (fw F ah) τ d) λe w'=>∃x:aJ,e=.returned x.val/\J.Is i x/\iZ w' (λb=>ah.heap.size<=b) x
 ren:∀i x a',J.Is i x->(x.a=none<->a'=none)->J.Is i {x with a:=a'}
 least:∀(V:World) (b:Nat) (xs:List aJ) (z:Nat×Nat),xs.length<=1048576->V.heap[b]?=some (.cells (xs.flatMap aJ.cells).toArray 177 z)->(∀x∈xs,ep V x.a x.n x.g/\x.n<=1048576)->
  Calls P0 160 #[.slice b xs.length xs.length,.func (.func 161) #[] #[]] V λe w'=>e=.returned (J.cZ xs).val/\Below V V w'
 SP:ok.bh 189=true/\ok.bh 160=true/\ok.fn 161=true
def mN.mono {J:Jb}{Ro qH:Nat->Prop}(h:mN J P0 p ok Ro acH)(hr:∀b,Ro b->qH b)(hk:aK Ro acH ah):mN J P0 p ok qH ah:=
 ⟨h.prog,h.ty,h.tk,h.wd,h.n4,h.Xz,h.res,ac8 h.base hk.size,(hk.block _ h.ZZ).trans h.Zy,(hk.block _ h.Z0).trans h.ZH,(hk.block _ h.SS).trans h.Tv,hr _ h.ZZ,hr _ h.Z0,hr _ h.SS,hr _ h.rnb,λi hi=>by rw[<-h.gP i hi];simp only[World.cell?,hk.block _ h.rnb],
  λi b hb=>hr _<|h.sro i b hb,λi hi dx acQ=>h.closed i hi dx<|hk.trans<|acQ.mono hr,h.LK,h.LL,λi hi F dx acQ τ d=>h.OK i hi F dx (hk.trans<|acQ.mono hr) τ d,h.ren,h.least,h.SP⟩
end
def mi {P:Program}(g o:Nat)(t:TypeId):∀(vs:List Value) (i:Nat) (cur:Array Value) (w:World) (es:Array Event),w.heap[g]?=some (.cells cur t (0,0))->o+i+vs.length<=cur.size->(∀v∈vs,v.oneCell'=true)->
  ∀ev∈(storeCells ⟨g,o,none⟩ vs i).events P w es,ev∈es\/∃j,i<=j/\j<i+vs.length/\ev=⟨.cell ⟨g,o+j,none⟩,true,false⟩
 |[],_,_,_,_,_,_,_=>λev h=>.inl (by simpa[storeCells]using h)
 |v::rest,i,cur,w,es,hg,hl,h1=>λev h=>by
  have hi:o+i<cur.size:=by simp at hl;omega
  have Yb:(⟨g,o,none⟩:Addr).add i=⟨g,o+i,none⟩:=by unfold Addr.add;split<;>simp_all
  have hcell:w.cell? ⟨g,o+i,none⟩=some cur[o+i]:=by simp[World.cell?,hg,hi]
  have Yy:w.frozen? ⟨g,o+i,none⟩=false:=by simp[World.frozen?,hg]
  have dz:(store ((⟨g,o,none⟩:Addr).add i) v).run P w=.ok () (w.setRow g<|cur.setIfInBounds (o+i) v):=by
   rw[Yb,run_store P w _ v _ (h1 v aF),hcell];simp[Yy,setCell_eq_setRow w g (o+i) cur t (0,0) v hg]
  have mH:(store ((⟨g,o,none⟩:Addr).add i) v).events P w es=es.push ⟨.cell ⟨g,o+i,none⟩,true,false⟩:=by
   rw[Yb,events_store P w es _ v _ (h1 v aF),hcell];simp only[Yy,Bool.false_eq_true,if_false];rfl
  simp only[storeCells,Sem.events_bind,dz,Result.evThen_ok,mH]at h;rcases mi g o t rest (i+1) (cur.setIfInBounds (o+i) v) _ _ (setRow_heap w g cur _ t _ hg) (by simp at hl⊢;omega) (λx hx=>h1 x<|by simp[hx]) ev h with h|⟨j,h2,h3,h4⟩
  .rcases Array.mem_push.1 h with h|h
   .exact .inl h
   .exact .inr ⟨i,ac5 _,aF,h⟩
  .exact .inr ⟨j,aa,cU,h4⟩
section
variable {a:Act}{cur:Array Value}{ty:TypeId}{t:aJ}{x y:Operand}
def yw (bz:o.op=.store 177 x y)(ha:a.eval x=.pointer (some ⟨g,off,none⟩))(hy:a.eval y=t.val)(hg:W.heap[g]?=some (.cells cur ty (0,0)))(hl:off+4<=cur.size):
  (execOp a.eval o).run Tryz.prog W=.ok .skip (W.setRow g (cur.toList.take off++t.cells++cur.toList.drop (off+4)).toArray):=by
 have h:=run_storeCells_at (P:=Tryz.prog) g off ty t.cells 0 cur W hg (by simpa[aJ.cells]using hl) (by simp[aJ.cells,Value.oneCell']);rw[Nat.add_zero]at h;obtain⟨cs,h1,h2,h3⟩:∃cs,t.val=.agg cs/\cs.size=4/\cs.toList=t.cells:=⟨_,rfl,rfl,rfl⟩;unfold execOp;simp only[bz,ha,hy,h1];go_simp
 simp[aJ.cells]
def Am (bz:o.op=.store 177 x y)(ha:a.eval x=.pointer (some ⟨g,off,none⟩))(hy:a.eval y=t.val)(hg:W.heap[g]?=some (.cells cur ty (0,0)))(hl:off+4<=cur.size):
  ∀e∈(execOp a.eval o).events Tryz.prog W #[],∃j,j<4/\e=⟨.cell ⟨g,off+j,none⟩,true,false⟩:=by
 intro e he;have h:=mi (P:=Tryz.prog) g off ty t.cells 0 cur W #[] hg (by simpa[aJ.cells]using hl) (by simp[aJ.cells,Value.oneCell']) e;obtain⟨cs,h1,h2,h3⟩:∃cs,t.val=.agg cs/\cs.size=4/\cs.toList=t.cells:=⟨_,rfl,rfl,rfl⟩;rw[<-h3]at h;unfold execOp at he;simp only[bz,ha,hy,h1]at he;simp[go_sem,h2]at he;rcases h he with x|⟨j,_,h5,h6⟩
 .simp at x
 .exact⟨j,by simpa[h2]using h5,h6⟩
def fI (bz:o.op=.store 177 x y)(ha:a.eval x=.pointer g)(hy:a.eval y=t.val)(hg:W.heap[g]?=some (.cells cur ty (0,0)))(hl:cur.size=4):
  (execOp a.eval o).run Tryz.prog W=.ok .skip (W.setRow g t.cells.toArray)/\∀e∈(execOp a.eval o).events Tryz.prog W #[],∃j,e=⟨.cell ⟨g,j,none⟩,true,false⟩:=by
 refine⟨?_,λe he=>?_⟩
 .rw[yw bz ha hy hg aa];have:cur.toList.drop (0+4)=[]:=cU;rw[this];simp
 .let⟨j,_,h⟩:=Am bz ha hy hg aa e he;exact⟨_,h⟩
def yt (bz:o.op=.load 177 x)(ha:a.eval x=.pointer g)(hg:W.heap[g]?=some (.cells t.cells.toArray ty (0,0))):(execOp a.eval o).run Tryz.prog W=.ok (.value t.val) W:=by
 have c0:W.cell? g=some (.bool t.ok):=DE;have c1:W.cell? ⟨g,1,none⟩=some (.int .i64 t.sum):=DE;have c2:W.cell? ⟨g,2,none⟩=some (.int .i64 t.most):=DE;have c3:W.cell? ⟨g,3,none⟩=some (.slice t.a t.n t.cap):=DE;unfold execOp;simp only[bz,ha,aJ.val];go_simp
def Al (bz:o.op=.load 177 x)(ha:a.eval x=.pointer g)(hg:W.heap[g]?=some (.cells t.cells.toArray ty (0,0))):∀e∈(execOp a.eval o).events Tryz.prog W #[],∃j,e=⟨.cell ⟨g,j,none⟩,false,false⟩:=by
 intro e he;have c0:W.cell? g=some (.bool t.ok):=DE;have c1:W.cell? ⟨g,1,none⟩=some (.int .i64 t.sum):=DE;have c2:W.cell? ⟨g,2,none⟩=some (.int .i64 t.most):=DE;have c3:W.cell? ⟨g,3,none⟩=some (.slice t.a t.n t.cap):=DE;unfold execOp at he;simp only[bz,ha]at he;simp[go_sem,c0,c1,c2,c3]at he;rcases he with rfl|rfl|rfl|rfl<;>exact⟨_,rfl⟩
end
noncomputable def bot:Frame:={(default:Frame)with fn:=Tryz.prog.funcs.size,defers:=[],mode:=.panicking [goexitEntry]}
noncomputable def Bu:Code:=Tryz.f156.body.getD .skip
noncomputable def iO:Array Oper:=(nj 1 Bu).getD #[]
noncomputable def wz:Code:=Tryz.f158.body.getD .skip
noncomputable def jY:Code:=(jZ wz).getD .skip
noncomputable def il:Array Oper:=(nj 5 wz).getD #[]
def call47 (J:Jb)(Wg bi:Nat):Deferred:={target:=.fn (.func 156) #[.pointer Wg,.pointer J.bl,.pointer J.bn,.pointer J.tb,.pointer J.bb,.pointer bi],args:=#[]}
def JG (J:Jb)(Wg bi:Nat)(w:World):stepG Tryz.prog false (born Tryz.prog<|call47 J Wg bi) w=
  .go (G ((baseD 156).at ⟨#[.pointer Wg,.pointer J.bl,.pointer J.bn,.pointer J.tb,.pointer J.bb,.pointer bi,ud,ud,ud,ud,ud,ud],[]⟩ [.code Bu]) [bot]) w #[]:=by
 simp[born,call47,stepG,unwind,callDeferred,invoke,callFunc,Tryz.func156,Tryz.f156,seen,GStep.after,G,Frame.enter,Frame.at,baseD,bot,Bu]
def KA (T:Array Value)(todo:List Item):QuitsD Tryz.prog 2 0 (G {(baseD 156).at ⟨T,[]⟩ todo with mode:=.returning} [bot]):=by
 refine QuitsD.ctl (g':=G bot []) rfl (λw=>?_) ?_
 .simp[G,stepG,unwind,doReturn,results,Frame.at,baseD,bot,Tryz.func156,Tryz.f156,seen,GStep.after,goexitEntry]
 refine QuitsD.ctl (g':={G bot []with status:=.finished}) rfl (λw=>?_) ⟨rfl,rfl⟩;simp[G,stepG,unwind,bot,goexitEntry,Frame.catches];rfl
def Oa {cs:Array Value}{vs:List Value}{o:Nat}(h4:vs.length=4)(h:off+4<=cs.size):
  (cs.toList.take off++vs++cs.toList.drop (off+4)).toArray[o]?=if off<=o/\o<off+4 then vs[o-off]? else cs[o]?:=by
 have hl:(cs.toList.take off).length=off:=cU;rw[List.getElem?_toArray,List.append_assoc];by_cases h1:o<off
 .rw[adh aa,if_neg aa,List.getElem?_take_of_lt h1];simp
 .rw[adi aa,hl];by_cases h2:o<off+4
  .rw[adh aa,if_pos ⟨aa,h2⟩]
  .rw[adi aa,if_neg aa,h4,List.getElem?_drop];simp only[Array.getElem?_toList];congr 1;omega
def fy {b:Nat}{e:TypeId}{z:Nat×Nat}(h:w.heap[b]?=some (.cells #[v] e z)):w.cell? b=some v:=aam
section
variable [Gl]{J:Jb}{Ro:Nat->Prop}
noncomputable def XN (J:Jb)(Wg bi:Nat)(v6 v7 v8 v9 v10 v11:Value)(rest:List Nat):Frame:=
 (baseD 156).at ⟨#[.pointer Wg,.pointer J.bl,.pointer J.bn,.pointer J.tb,.pointer J.bb,.pointer bi,v6,v7,v8,v9,v10,v11],[dcall 157 #[.pointer Wg]]⟩ [.inRegion iO rest]
omit [Gl] in
def vR:∀l0 l1 l2 l3 l4 l5:Bool,Region.ready .any iO #[l0,l1,l2,l3,l4,l5,false]≠[]/\
  (Region.ready .any iO #[l0,l1,l2,l3,l4,l5,false]).all (λi=>(i==0&&!l0)||(i==1&&!l1)||(i==2&&!l2)||(i==3&&!l3)||(i==4&&!l4&&l2&&l3)||(i==5&&!l5&&l0&&l1)||(i==6&&l4&&l5))=true:=by
 decide +kernel
def PF (hJ:mN J P0 p ok Ro acH)(UH:k<4)(tT:Ro bi)(Ya:p.Wg≠p.Bs){seq:List Nat}(hb:wc J seq x)(ho:Ia .any iO l rest):
  ∀(l0 l1 l5:Bool) (v6 v7 v8 v9 v11:Value) (M:Nat->Prop) (W:World) (C:Nat) (u:Value),l=#[l0,l1,true,true,true,l5,false]->(l0=true->v6=.slice (some ⟨p.Bs,0,none⟩) 4 4)->(l1=true->v7=.int .i64 k)->(l5=true->v11=.pointer (some ⟨p.Bs,k*4,none⟩))->
   aK Ro acH W->W.heap[bi]?=some (.cells #[.int .i64 k] 3 (0,0))->M C->W.cell? ⟨C,0,none⟩=some u->iZ W (λb=>M b/\b≠C) x->(∀b,p.Sp b->¬M b)->(∀b,M b->J.base<=b)->(l5=true->l0=true/\l1=true)->
   ET p.P false p.I Ph.nE Ro (p.zO k seq) M (G (XN J p.Wg bi v6 v7 v8 v9 x.val v11 rest) [bot]) W:=by
 induction ho with
 |nil h=>rintro l0 l1 l5 v6 v7 v8 v9 v11 M W C u rfl;exact absurd h (vR _ _ _ _ _ _).1
 |@cons l i rest hi hr ih=>
  rintro l0 l1 l5 v6 v7 v8 v9 v11 M W C u rfl h6 h7 BP hK hI hC hu hx hM IK h5;have hc:=List.all_eq_true.1 (vR l0 l1 true true true l5).2 i hi;simp only[Bool.not_true,Bool.and_false,Bool.or_false,Bool.and_true,Bool.or_eq_true,Bool.and_eq_true,beq_iff_eq,Bool.not_eq_true']at hc;rcases hc with(((⟨rfl,rfl⟩|⟨rfl,rfl⟩)|hc)|⟨rfl,hc⟩)
  .obtain⟨o,ho,bz,hd,hg⟩:∃o,iO[0]?=some o/\o.op=.load 211 (.tmp 4)/\o.dst=some 6/\o.guard=none:=⟨_,rfl,rfl,rfl,rfl⟩;refine ET.val (.slice p.Bs 4 4) ho kV (by k_ne) (λah acP _=>?_) ?_
   .have hb:=(fy<|(acP.block _<|.inr hJ.SS).trans<|(hK.block _ hJ.SS).trans hJ.Tv);rw[hJ.prog];unfold execOp;refine⟨?_,λe he=>?_⟩
    .simp only[bz];go_simp
     done
    .simp[go_sem,bz,hb]at he;subst he;exact wP hJ.SS
   .rw[hd];walk_nrm
    exact ih true l1 l5 _ _ _ _ _ _ _ _ _ aF (λ_=>rfl) h7 BP hK hI hC hu hx hM IK λe=>⟨rfl,(h5 e).2⟩
  .obtain⟨o,ho,bz,hd,hg⟩:∃o,iO[1]?=some o/\o.op=.load 3 (.tmp 5)/\o.dst=some 7/\o.guard=none:=⟨_,rfl,rfl,rfl,rfl⟩;refine ET.val (.int .i64 k) ho kV (by k_ne) (λah acP _=>?_) ?_
   .have hb:=fy<|(acP.block _<|.inr tT).trans hI;rw[hJ.prog];unfold execOp;refine⟨?_,λe he=>?_⟩
    .simp only[bz];go_simp
    .simp[go_sem,bz,hb]at he;subst he;exact wP tT
   .rw[hd];walk_nrm
    exact ih l0 true l5 _ _ _ _ _ _ _ _ _ aF h6 (λ_=>rfl) BP hK hI hC hu hx hM IK λe=>⟨(h5 e).1,rfl⟩
  .obtain⟨⟨⟨rfl,rfl⟩,rfl⟩,rfl⟩:=hc;obtain⟨o,ho,bz,hd,hg⟩:∃o,iO[5]?=some o/\o.op=.indexAddr 211 (.tmp 6) (.tmp 7)/\o.dst=some 11/\o.guard=none:=⟨_,rfl,rfl,rfl,rfl⟩;refine ET.val (.pointer<|some ⟨p.Bs,k*4,none⟩) ho kV (by k_ne) (λah acP _=>?_) ?_
   .rw[hJ.prog,h6 rfl,h7 rfl];unfold execOp;refine⟨?_,λe he=>?_⟩
    .simp only[bz];go_simp
     intro h;omega
    .have hu:=Tryz.underlying211;simp only[bz]at he;simp[go_sem]at he;rw[events_indexAt_slice _ _ _ _ _ _ (by go_simp) aa]at he;simp at he
   .rw[hd];walk_nrm
    exact ih true true true _ _ _ _ _ _ _ _ _ aF h6 h7 (λ_=>rfl) hK hI hC hu hx hM IK λ_=>⟨rfl,rfl⟩
  .obtain⟨o,ho,bz,hd,hg⟩:∃o,iO[6]?=some o/\o.op=.store 177 (.tmp 11) (.tmp 10)/\o.dst=none/\o.guard=none:=⟨_,rfl,rfl,rfl,rfl⟩;subst hc;refine ET.stop λah acP hW=>⟨rfl,λ⟨cs,hcs⟩=>?_⟩
   have jQ:k*4+4<=cs.size:=by rw[hcs.2,hJ.n4,hJ.wd];omega
   have hy:Act.eval ⟨#[.pointer p.Wg,.pointer J.bl,.pointer J.bn,.pointer J.tb,.pointer J.bb,.pointer bi,v6,v7,v8,v9,x.val,v11],[dcall 157 #[.pointer p.Wg]]⟩ (.tmp 10)=x.val:=rfl;have ha:Act.eval ⟨#[.pointer p.Wg,.pointer J.bl,.pointer J.bn,.pointer J.tb,.pointer J.bb,.pointer bi,v6,v7,v8,v9,x.val,v11],[dcall 157 #[.pointer p.Wg]]⟩ (.tmp 11)=.pointer (some ⟨p.Bs,k*4,none⟩):=BP rfl;have d6:=yw bz ha hy hcs.1 jQ;have mH:=Am bz ha hy hcs.1 jQ;rw[<-hJ.prog]at d6 mH;refine⟨_,_,_,x.cells,stepG_none ho kV (by k_ne) d6,?_,λe he=>?_,?_⟩
   .refine⟨setRow_size _ _ _,rfl,rfl,rfl,λb hb=>setRow_other _ _ _ _ hb,by rw[hJ.wd];rfl,λcs' Gu=>?_⟩;obtain rfl:cs=cs':=by have:=hcs.1.symm.trans Gu.1;simpa using this
    refine⟨_,⟨setRow_heap _ _ _ _ _ _ hcs.1,?_⟩,λo'=>?_⟩
    .rw[<-hcs.2];simp[aJ.cells];omega
    .rw[Oa rfl jQ,hJ.wd,Nat.add_mul,Nat.one_mul]
   .obtain⟨j,hj,rfl⟩:=mH e<|mem_listed he;refine⟨rfl,_,rfl,rfl,?_,?_⟩<;>rw[hJ.wd]<;>simp<;>omega
   .have Zs:iZ (ah.setRow p.Bs (cs.toList.take (k*4)++x.cells++cs.toList.drop (k*4+4)).toArray) (λb=>M b/\b≠C) x:=hx.keep (λ_ h=>h) λa ha=>by
     let⟨_,⟨h2,_⟩,_⟩:=hx.blk a ha;rw[setRow_other _ _ _ _ (λe=>hM _ (.inr<|.inr e) h2)];exact acP.block _<|.inl h2
    refine⟨λb=>M b/\b≠C,C,4,u,26,by rw[hJ.res];exact⟨x,rfl,hb,Zs,λb dw=>IK b dw.1⟩,λb h=>h.1,hC,λh=>h.2 rfl,?_⟩;have Zq:Go.ConcN.Has C 0 u (ah.setRow p.Bs (cs.toList.take (k*4)++x.cells++cs.toList.drop (k*4+4)).toArray):=by
     show World.cell? _ _=_;rw[cell_setRow_other _ _ _ _ (λe=>hM _ (.inr<|.inr e) hC)];rw[<-hu];simp only[World.cell?,acP.block C (.inl hC)]
    let⟨st,sm,hw⟩:=hW.1;have uI:Go.ConcN.WgLive p.ty p.Wg (ah.setRow p.Bs (cs.toList.take (k*4)++x.cells++cs.toList.drop (k*4+4)).toArray):=⟨st,sm,hw.of_block<|setRow_other _ _ _ _ Ya⟩;let⟨e0,e1⟩:=h5 rfl;subst e0 e1;have Qs:rest=[]:=by
     generalize hL:(#[true,true,true,true,true,true,false]:Array Bool).setIfInBounds 6 true=L at hr;have e:L=#[true,true,true,true,true,true,true]:=by rw[<-hL];simp
     subst e;cases hr with
     |nil=>rfl
     |cons h _=>exact absurd h (by rw[show Region.ready .any iO #[true,true,true,true,true,true,true]=[] from LU];simp)
    subst Qs;letI:Go.ConcR.Payload:=p.pl
    have hK':=And.intro uI Zq;generalize ah.setRow p.Bs (cs.toList.take (k*4)++x.cells++cs.toList.drop (k*4+4)).toArray=dx at hK'⊢;rw[hd,hJ.prog];rw[hJ.ty]at hK'⊢;walk_nrm
    u_c stepG_region_end Go.ConcN.Gen.kn_rely hK'
    u_c stepG_end Go.ConcN.Gen.kn_rely hK'
    u_in Go.ConcN.Gen.kn_rely hK'
    rw[stepG_unwind_enter rfl Tryz.func157 (nm_done link) rfl];simp only[goes_go];refine⟨by u_nil,?_⟩;walk_nrmf Tryz.f157
    have hA:=@Go.ConcN.Gen.doneN p.pl link Tryz.prog Bc (λ_ _=>False) (λ_ _=>False) p.Wg C 4 0 1 u;simp only[body_done,doneFn,Option.getD_some]at hA;exact hA rfl (KA _ _) _ hK'
end
def Kn {S:Nat->Prop}(h:¬S a.block):aK S w (w.setCell a v):=
 ⟨λb hb=>Below.heap_setCell w a v b λe=>h<|e▸hb,Nat.le_of_eq (aside_setCell w a v).size.symm,rfl,rfl⟩
def Gd (w:World)(es:Array Event):(Instr.build 177 #[]).events Tryz.prog w es=es:=bD
section
variable [Gl]{J:Jb}{Ro:Nat->Prop}
structure LS (p:Ph)(Ro:Nat->Prop)(acH:World)(r6 b7:Nat)(x:aJ)(M:Nat->Prop)(W:World):Prop where
 m6:M r6
 m7:M b7
 ne:r6≠b7
 c6:∃c:Array Value,W.heap[r6]?=some (.cells c 177 (0,0))/\c.size=4
 c7:W.heap[b7]?=some (.cells x.cells.toArray 177 (0,0))
 held:iZ W (λb=>M b/\b≠r6/\b≠b7) x
 keep:aK Ro acH W
 sp:∀b,p.Sp b\/Ro b->¬M b/\b<W
 He:∀b,p.Sp b->¬Ro b
 lt:∀b,M b->b<W
 gl:Gl.n<=W
 nw:∀b,M b->acH.heap.size<=b
def LS.rely (h:LS p Ro acH r6 b7 x M W)(k:aK (λb=>M b\/Ro b) W ah):LS p Ro acH r6 b7 x M ah:=by
 refine⟨h.m6,h.m7,h.ne,?_,(k.block _<|.inl h.m7).trans h.c7,h.held.keep (λ_ x=>x) λa ha=>k.block _<|.inl (h.held.blk a ha).2.1.1,h.keep.trans<|k.mono λ_ x=>.inr x,λb hb=>⟨(h.sp b hb).1,ac6 (h.sp b hb).2 k.size⟩,h.He,λb hb=>ac6 (h.lt b hb) k.size,ac8 h.gl k.size,h.nw⟩;let⟨c,h1,h2⟩:=h.c6;exact⟨c,(k.block _<|.inl h.m6).trans h1,h2⟩
def LS.tk (h:LS p Ro acH r6 b7 x M W)(v:Value):aK (λb=>M b\/Ro b) W (W.setCell p.tk v):=
 Kn λe=>e.elim (h.sp _<|.inl<|.inr<|.inl rfl).1<|h.He _<|.inr<|.inl rfl
def PX (hJ:mN J P0 p ok Ro acH)(M:Nat->Prop)(W:World)(hk:aK Ro acH W)(FD:∀b,p.Sp b\/Ro b->¬M b/\b<W)(DY:∀b,p.Sp b->¬Ro b)(aB:∀b,M b->b<W)(Fv:Gl.n<=W)(IK:∀b,M b->acH.heap.size<=b)
  (hL:∀(r6 b7:Nat) (v3 v4 v5 v8 v9 v10 v11 v12 v13 v14 v15 v16 v17 v18 v19 v20 v21 v22 v23 v24 v25 v26:Value) (M':Nat->Prop) (W':World),LS p Ro acH r6 b7 d7 M' W'->ET p.P false p.I Ph.nE Ro Stop M' (G ((base 158).at ⟨#[J.ji,.slice (some ⟨J.nb,J.no,none⟩) p.L J.nc,.pointer J.tb,v3,v4,v5,.pointer r6,.pointer b7,v8,v9,v10,v11,v12,v13,v14,v15,v16,v17,v18,v19,v20,v21,v22,v23,v24,v25,v26],[]⟩ [.code jY,.inLoop jY,.inBlock 0]) cs) W'):
  ET p.P false p.I Ph.nE Ro Stop M (G ((base 158).at ⟨#[J.ji,.slice (some ⟨J.nb,J.no,none⟩) p.L J.nc,.pointer J.tb,ud,ud,ud,ud,ud,ud,ud,ud,ud,ud,ud,ud,ud,ud,ud,ud,ud,ud,ud,ud,ud,ud,ud,ud],[]⟩ [.code wz]) cs) W:=by
 simp only[wz,Tryz.f158,Option.getD_some];apply ET.sr;refine ET.oper rfl rfl (by k_ne) λah acP _=>⟨.pointer<|some ⟨ah.heap.size,0,none⟩,ah.alloc<|.cells #[false,(0:Int),(0:Int),()] 177,?_,?_,?_⟩
 .rw[hJ.prog];go_simp
 .rw[hJ.prog];refine eP.alloc _ λe he=>?_
  have hm:=mem_listed he;simp[go_sem]at hm
 walk_nrm
 apply ET.ns;refine ET.val d7.val rfl rfl (by k_ne) (λdx _ _=>?_) ?_
 .rw[hJ.prog];refine⟨?_,λe he=>?_⟩
  .go_simp
   first|(rw[run_build dx 177 #[] d7.cells.toArray bD];rfl)|rfl
  .first|(simp[go_sem]at he;done)|(simp[go_sem]at he;rw[Gd]at he;simp at he)
 walk_nrm
 refine ET.oper rfl rfl (by k_ne) λdx acQ _=>⟨.pointer<|some ⟨dx.heap.size,0,none⟩,dx.alloc<|.cells #[false,(0:Int),(0:Int),()] 177,?_,?_,?_⟩
 .rw[hJ.prog];go_simp
 .rw[hJ.prog];refine eP.alloc _ λe he=>?_
  have hm:=mem_listed he;simp[go_sem]at hm
 walk_nrm
 have z0:∀(w:World) (o:Obj),(w.alloc o).heap.size=w.heap.size+1:=λw o=>by show(w.heap.push o).size=_;simp
 have z1:=acP.size;have z2:=acQ.size;rw[z0]at z2;have Qg:grow M ah (ah.alloc<|.cells #[false,(0:Int),(0:Int),()] 177) ah.heap.size:=.inr ⟨ac5 _,by rw[z0];omega⟩;refine ET.none rfl rfl (by k_ne) λdv dB _=>?_
 have z3:=dB.size;rw[z0]at z3;have h7:dv.heap[dx.heap.size]?=some (.cells #[false,(0:Int),(0:Int),()] 177 (0,0)):=(dB.block _<|.inl<|.inr ⟨ac5 _,by rw[z0];omega⟩).trans<|heap_alloc_new _ _;have hM7:grow (grow M ah<|ah.alloc<|.cells #[false,(0:Int),(0:Int),()] 177) dx (dx.alloc<|.cells #[false,(0:Int),(0:Int),()] 177) dx.heap.size:=.inr ⟨ac5 _,by rw[z0];omega⟩;refine⟨dv.setRow dx.heap.size d7.cells.toArray,by rw[hJ.prog];exact(fI rfl rfl rfl h7 rfl).1,?_,?_⟩
 .rw[hJ.prog];refine eP.row _ hM7 λe he=>?_
  obtain⟨j,rfl⟩:=(fI (t:=d7) rfl rfl rfl h7 rfl).2 e<|mem_listed he;exact gA hM7
 rw[cJ (setRow_size _ _ _)];walk_nrm
 apply ET.rn;refine ET.c (λ_=>stepG_block) ?_;refine ET.c (λ_=>stepG_loop) ?_;refine hL ah.heap.size dx.heap.size _ _ _ _ _ _ _ _ _ _ _ _ _ _ _ _ _ _ _ _ _ _ _ _ ⟨.inl Qg,hM7,aa,?_,setRow_heap _ _ _ _ _ _ h7,⟨.inl rfl,ada _,λa ha=>(by cases ha),λa ha=>(by cases ha)⟩,?_,λb hb=>?_,DY,λb hb=>?_,?_,λb hb=>?_⟩
 .refine⟨_,(setRow_other _ _ _ _ aa).trans<|(dB.block _<|.inl<|.inl Qg).trans<|(Below.heap_alloc _ _ _ aa).trans<|(acQ.block _<|.inl Qg).trans<|heap_alloc_new _ _,rfl⟩
 .refine⟨λb hb=>?_,by rw[setRow_size];have:=hk.size;omega,dB.os.trans<|acQ.os.trans<|acP.os.trans hk.os,dB.out.trans<|acQ.out.trans<|acP.out.trans hk.out⟩;have dw:=FD b<|.inr hb;rw[setRow_other _ _ _ _ aa,dB.block _ (.inr hb),Below.heap_alloc _ _ _ aa,acQ.block _ (.inr hb),Below.heap_alloc _ _ _ aa,acP.block _ (.inr hb)];exact hk.block b hb
 .have dw:=FD b hb;rw[setRow_size];refine⟨λx=>?_,aa⟩;rcases x with(x|⟨x,_⟩)|⟨x,_⟩
  .exact dw.1 x
  .omega
  .omega
 .rw[setRow_size];rcases hb with(x|⟨_,x⟩)|⟨_,x⟩
  .have:=aB b x;omega
  .rw[z0]at x;omega
  .rw[z0]at x;omega
 .rw[setRow_size];omega
 .have:=hk.size;rcases hb with(x|⟨x,_⟩)|⟨x,_⟩
  .exact IK b x
  .omega
  .omega
end
section
open ConcR (rd wr)
def HJ:(Tryz.f230.name== "runtime.NumGoroutine")=false:=bD
def Hz:Tryz.f230.body.isNone=true:=bD
def HU:Extern.findNext Tryz.f230=none:=bD
def HH:Extern.find Tryz.f230=some (Extern.Atomic.update (Op.intArith .add) .i64 true):=bD
def U9:(Tryz.f188.name== "runtime.NumGoroutine")=false:=bD
section
variable [Gl]{J:Jb}{Ro:Nat->Prop}
def OO (hJ:mN J P0 p ok Ro acH)(hL:p.L<4611686018427387904)(v3 v4 v5 v8 v9 v10 v11 v12 v13 v14 v15 v16 v17 v18 v19 v20 v21 v22 v23 v24 v25 v26:Value):
  ∃(g1:Goroutine) (g2:Nat->Goroutine),(∀(Stop:(Nat->Prop)->Goroutine->World->Prop) M W,ET Tryz.prog false p.I Ph.nE Ro Stop M g1 W->ET Tryz.prog false p.I Ph.nE Ro Stop M (G ((base 158).at ⟨#[J.ji,.slice (some ⟨J.nb,J.no,none⟩) p.L J.nc,.pointer J.tb,v3,v4,v5,.pointer r6,.pointer b7,v8,v9,v10,v11,v12,v13,v14,v15,v16,v17,v18,v19,v20,v21,v22,v23,v24,v25,v26],[]⟩ [.code jY,.inLoop jY,.inBlock 0])<|c0::cs) W)/\
   (g1.status=.running/\∀W x,x<4611686018427387904->p.jH W x->stepG Tryz.prog false g1 W=.go (g2 x) (W.setCell p.tk<|.int .i64<|x+1) #[rd p.tk,wr p.tk])/\
   (∀(Stop:(Nat->Prop)->Goroutine->World->Prop) M W x,x<p.L->(∀v3 v4 v5 v8 v9 v10 v11 v12 v13 v14 v15 v16 v17 v18 v19 v20 v21 v22 v23 v24 v25 v26:Value,ET Tryz.prog false p.I Ph.nE Ro Stop M (G ((base 158).at ⟨#[J.ji,.slice (some ⟨J.nb,J.no,none⟩) p.L J.nc,.pointer<|some ⟨J.tb,0,none⟩,v3,v4,v5,.pointer<|some ⟨r6,0,none⟩,.pointer<|some ⟨b7,0,none⟩,.int .i64 x,v9,v10,v11,v12,v13,v14,v15,v16,v17,v18,v19,v20,v21,v22,v23,v24,v25,v26],[]⟩ [.code (.region 5 il true),.inBlock 1,.inLoop jY,.inBlock 0])<|c0::cs) W)->ET Tryz.prog false p.I Ph.nE Ro Stop M (g2 x) W)/\
   (∀(Stop:(Nat->Prop)->Goroutine->World->Prop) M W x xt,p.L<=x->x<4611686018427387904->LS p Ro acH r6 b7 xt M W->(∀W',LS p Ro acH r6 b7 xt M W'->W'.cell? r6=some (.bool xt.ok)->ET Tryz.prog false p.I Ph.nE Ro Stop M (G (c0.finish xt.val) cs) W')->ET Tryz.prog false p.I Ph.nE Ro Stop M (g2 x) W):=by
 refine⟨?g1,?g2,?A,⟨?B0,?B⟩,?C,?D⟩
 case A=>
  intro Stop M W h;simp only[jY,wz,Tryz.f158,Option.getD_some,jZ,Option.or_some,Option.or_none,Option.none_or];refine ET.c (λ_=>stepG_block) ?_;apply ET.sr;refine ET.z ?_
  (refine ET.k rfl λ_ _ _=>goes_call rfl rfl (by k_ne) rfl Tryz.func188 U9 rfl ⟨⟨rfl,λe he=>ia⟩,?_⟩;walk_nrmf Tryz.f188)
  apply ET.sr;refine ET.z ?_;apply ET.ns;refine ET.z ?_;refine ET.z ?_;refine ET.z ?_;refine ET.z ?_;exact h
 case B0=>rfl
 case B=>
  intro W x hx ht;have hw:IntKind.i64.wrap ((x:Int)+1)=x+1:=hZ;have h1:=ht.1;have h2:=ht.2;rw[hJ.tk]at h1 h2⊢;refine(stepG_add_atomic rfl rfl (by k_ne) rfl Tryz.func230 HJ Hz HU .i64 HH rfl rfl h1 h2).trans ?_;rw[hw];rfl
 case C=>
  intro Stop M W x hx h;have hw:IntKind.i64.wrap ((x:Int)+1-1)=x:=hZ;have hw':IntKind.i64.wrap (x:Int)=x:=hZ;have hd:decide ((p.L:Int)<=x)=false:=decide_eq_false aa;have dG:¬((p.L:Int)<=x):=aa;walk_nrm
  refine ET.z ?_;apply ET.rn;apply ET.rt
  (refine ET.k rfl λ_ _ _=>goes_leave1 rfl rfl Tryz.func188 rfl ⟨⟨rfl,λe he=>ia⟩,?_⟩;walk_nrm)
  refine ET.z ?_;refine ET.z ?_;apply ET.rn;apply ET.sq;apply ET.sr;refine ET.z ?_;refine ET.z ?_;refine ET.z ?_;refine ET.z ?_;apply ET.rn;refine ET.gJ rfl ?_;apply ET.sk;exact h _ _ _ undef _ _ _ _ _ _ _ _ _ _ _ _ _ _ _ _ _ _
 case D=>
  intro Stop M W x xt hx hx2 lR h;have hw:IntKind.i64.wrap ((x:Int)+1-1)=x:=hZ;have hw':IntKind.i64.wrap (x:Int)=x:=hZ;have hd:decide ((p.L:Int)<=x)=true:=decide_eq_true aa;have dG:(p.L:Int)<=x:=aa;walk_nrm
  refine ET.z ?_;apply ET.rn;apply ET.rt
  (refine ET.k rfl λ_ _ _=>goes_leave1 rfl rfl Tryz.func188 rfl ⟨⟨rfl,λe he=>ia⟩,?_⟩;walk_nrm)
  refine ET.z ?_;refine ET.z ?_;apply ET.rn;apply ET.sq;apply ET.sr;refine ET.z ?_;refine ET.z ?_;refine ET.z ?_;refine ET.z ?_;apply ET.rn;refine ET.kX rfl ?_;apply ET.sr;refine ET.val xt.val rfl rfl (by k_ne) (λah acP _=>?_) ?_
  .have cQ:=lR.rely acP;refine⟨yt rfl rfl cQ.c7,λe he=>?_⟩;obtain⟨j,rfl⟩:=Al (t:=xt) rfl rfl cQ.c7 e he;exact gA lR.m7
  walk_nrm
  refine ET.none rfl rfl (by k_ne) λah acP _=>?_
  have cQ:=lR.rely acP;let⟨c,Yk,hcs⟩:=cQ.c6;refine⟨ah.setRow r6 xt.cells.toArray,(fI rfl rfl rfl Yk hcs).1,?_,?_⟩
  .refine eP.row _ lR.m6 λe he=>?_
   obtain⟨j,rfl⟩:=(fI (t:=xt) rfl rfl rfl Yk hcs).2 e<|mem_listed he;exact gA lR.m6
  rw[cJ (setRow_size _ _ _)];have Sn:LS p Ro acH r6 b7 xt M (ah.setRow r6 xt.cells.toArray):=by
   have ho:∀b,b≠r6->(ah.setRow r6 xt.cells.toArray).heap[b]?=ah.heap[b]?:=λb hb=>setRow_other _ _ _ _ hb
   refine⟨cQ.m6,cQ.m7,cQ.ne,⟨_,setRow_heap _ _ _ _ _ _ Yk,rfl⟩,(ho _<|Ne.symm cQ.ne).trans cQ.c7,cQ.held.keep (λ_ x=>x) λa ha=>ho _ (cQ.held.blk a ha).2.1.2.1,⟨λb hb=>(ho b λe=>(cQ.sp b<|.inr hb).1<|e▸cQ.m6).trans<|cQ.keep.block b hb,by rw[setRow_size];exact cQ.keep.size,cQ.keep.os,cQ.keep.out⟩,λb hb=>by rw[setRow_size];exact cQ.sp b hb,cQ.He,λb hb=>by rw[setRow_size];exact cQ.lt b hb,by rw[setRow_size];exact cQ.gl,cQ.nw⟩
  have h6:(ah.setRow r6 xt.cells.toArray).heap[r6]?=some (.cells xt.cells.toArray 177 (0,0)):=setRow_heap _ _ _ _ _ _ Yk;generalize ah.setRow r6 xt.cells.toArray=dx at Sn h6⊢;clear cQ Yk hcs acP;walk_nrm
  apply ET.rn;apply ET.rt;refine ET.Cv xt.val rfl rfl Tryz.func158 (λdv dB _=>?_) (h dx Sn<|by simp[World.cell?,h6,aJ.cells]);have I_:=(dB.block _<|.inl lR.m6).trans h6;have c0:dv.cell? r6=some (.bool xt.ok):=DD;have c1:dv.cell? ⟨r6,1,none⟩=some (.int .i64 xt.sum):=DD;have c2:dv.cell? ⟨r6,2,none⟩=some (.int .i64 xt.most):=DD;have c3:dv.cell? ⟨r6,3,none⟩=some (.slice xt.a xt.n xt.cap):=DD;refine⟨?_,λe he=>?_⟩
  .simp[results,Tryz.f158,go_sem,aJ.val,c0,c1,c2,c3]
  .simp[results,Tryz.f158,go_sem,c0,c1,c2,c3]at he;rcases he with rfl|rfl|rfl|rfl<;>exact gA lR.m6
end
end
def Je:∀l0 l1 l2 l3 l4 l5 l6:Bool,((!l6||(l1&&l5))&&(!l5||l4)&&(!l4||(l2&&l3)))=true->Region.ready .any il #[l0,l1,l2,l3,l4,l5,l6,false,false,false]≠[]/\
  (Region.ready .any il #[l0,l1,l2,l3,l4,l5,l6,false,false,false]).all (λi=>(i==0&&!l0)||(i==1&&!l1)||(i==2&&!l2)||(i==3&&!l3)||(i==4&&!l4&&l2&&l3)||(i==5&&!l5&&l4)||(i==6&&!l6&&l1&&l5)||(i==7&&l0&&l6))=true:=by
 decide +kernel
section
variable [Gl]{σ:Ren}
def yJ {v':Value}(h:ar ok σ x.val v'):∃a',v'=aJ.val {x with a:=a'}/\(x.a=none<->a'=none)/\∀a,x.a=some a->∃d,a'=some d/\dI σ a d:=by
 unfold aJ.val at h;generalize hx:Value.agg #[.bool x.ok,.int .i64 x.sum,.int .i64 x.most,.slice x.a x.n x.cap]=v at h;cases h<;>cases hx
 rename_i xs' hs hv;let⟨l⟩:=xs';obtain⟨y0,y1,y2,y3,rfl⟩:∃y0 y1 y2 y3,l=[y0,y1,y2,y3]:=by
  rcases l with _|⟨y0,_|⟨y1,_|⟨y2,_|⟨y3,_|⟨y4,l⟩⟩⟩⟩⟩<;>simp at hs
  exact⟨_,_,_,_,rfl⟩
 have h0:=hv 0 _ y0 rfl rfl;have h1:=hv 1 _ y1 rfl rfl;have h2:=hv 2 _ y2 rfl rfl;have h3:=hv 3 _ y3 rfl rfl;cases h0;cases h1;cases h2;generalize UZ:x.a=xa at h3;cases h3 with
 |dH=>exact⟨none,by simp[aJ.val],aF,λa ha=>by cases ha⟩
 |@slice a a' _ _ ha=>exact⟨some a',by simp[aJ.val],aF,λa ha'=>by cases ha';exact⟨_,rfl,ha⟩⟩
def J6 {V':World}{a':Option Addr}(hw:bO ok false σ V' W')(hx:iZ V' (λ_=>True) x)(hn:x.a=none<->a'=none)(ha:∀a,x.a=some a->∃d,a'=some d/\dI σ a d)(hM:∀a d,x.a=some a->σ a.block=some d->M' d):iZ W' M' {x with a:=a'}:=by
 have key:∀a d,x.a=some a->a'=some d->dI σ a d->∃cs cs' e,V'.heap[a.block]?=some (.cells cs e (0,0))/\W'.heap[d.block]?=some (.cells cs' e (0,0))/\ax ok σ cs cs'/\∀v∈cs,∃n:Int,v=.int .i64 n:=by
  intro a d h1 h2 h3;let⟨_,_,cs,e,h4,h5⟩:=hx.blk a h1;let⟨o,o',g1,g2,g3⟩:=hw.heap _ _ h3.blk;rw[h4]at g1;cases g1;cases g3 with
  |cells hv hz=>
   rcases hz with hz|⟨hz,_⟩
   .exact⟨cs,_,e,h4,by rw[g2,hz];rfl,hv,h5⟩
   .cases hz
 refine⟨?_,hx.small,λd hd=>?_,λd hd=>?_⟩
 .rcases hx.row with e|⟨b,off,e,hr⟩
  .exact .inl e
  .let⟨d,h1,h2⟩:=ha _ e;let⟨cs,cs',e',h3,h4,h5,h6⟩:=key _ d e h1 h2;refine .inr ⟨d.block,off,?_,λi hi=>?_⟩
   .let⟨db,dof,ds⟩:=d;have o1:=h2.off;have o2:=h2.spot;simp only at o1 o2;subst o1 o2;exact h1
   .have hc:=hr i hi;simp only[World.cell?,h3]at hc;let⟨v',g1,g2⟩:=h5.get hc;cases g2;simp only[World.cell?,h4];exact g1
 .replace hd:a'=some d:=hd;have h0:x.a≠none:=λe=>by have:=hn.1 e;rw[hd]at this;cases this
  let⟨a,h1⟩:=Option.ne_none_iff_exists'.1 h0;let⟨d',h2,h3⟩:=ha a h1;rw[hd]at h2;cases h2;let⟨cs,cs',e',h4,h5,h6,h7⟩:=key a d h1 hd h3;refine⟨by rw[h3.spot];exact(hx.blk a h1).1,hM a _ h1 h3.blk,cs',e',h5,λv hv=>?_⟩;let⟨j,hj⟩:=Array.mem_iff_getElem?.1 hv;have aB:j<cs.size:=by rw[h6.size];exact(ac7.1 hj).1
  have hj':cs[j]?=some cs[j]:=adc aB;let⟨n,Ln⟩:=h7 cs[j]<|Array.getElem_mem aB;have:=h6.at_ j _ _ hj' hj;rw[Ln]at this;cases this;exact⟨n,rfl⟩
 .replace hd:a'=some d:=hd;have h0:x.a≠none:=λe=>by have:=hn.1 e;rw[hd]at this;cases this
  let⟨a,h1⟩:=Option.ne_none_iff_exists'.1 h0;let⟨d',h2,h3⟩:=ha a h1;rw[hd]at h2;cases h2;let⟨f1,cs0,f2,f3⟩:=hx.full a h1;let⟨cs,cs',e',h4,h5,h6,h7⟩:=key a d h1 hd h3;rw[f2]at h4;simp only[Option.some.injEq,Obj.cells.injEq]at h4;let⟨e1,e2,_⟩:=h4;subst e1 e2;exact⟨by rw[h3.off];exact f1,cs',h5,by rw[<-h6.size];exact f3⟩
end
def rI {F:Nat->Prop}{a:Option Addr}{n:Nat}{g:Nat->Int}{τ:Nat->Question->Nat}{d:Nat}(h:ep W a n g):ep (re (fw F W) τ d) a n g:=by
 rcases h with h|⟨b,off,e,hr⟩
 .exact .inl h
 .exact .inr ⟨b,off,e,λi hi=>(rk F W _).trans<|hr i hi⟩
def bC (l1 l2 l3 l4 l5 l6:Bool):Bool:=(!l6||(l1&&l5))&&(!l5||l4)&&(!l4||(l2&&l3))
def bm1:∀l2 l3 l4 l5 l6:Bool,bC false l2 l3 l4 l5 l6=true->bC true l2 l3 l4 l5 l6=true:=bF
def bm2:∀l1 l3 l4 l5 l6:Bool,bC l1 false l3 l4 l5 l6=true->bC l1 true l3 l4 l5 l6=true:=bF
def bm3:∀l1 l2 l4 l5 l6:Bool,bC l1 l2 false l4 l5 l6=true->bC l1 l2 true l4 l5 l6=true:=bF
def bm4:∀l1 l5 l6:Bool,bC l1 true true false l5 l6=true->bC l1 true true true l5 l6=true:=bF
def bm5:∀l1 l2 l3 l6:Bool,bC l1 l2 l3 true false l6=true->bC l1 l2 l3 true true l6=true:=bF
def bm6:∀l2 l3 l4:Bool,bC true l2 l3 l4 true false=true->l2=true/\l3=true/\l4=true:=bF
def bm7:∀l1 l2 l3 l4 l5:Bool,bC l1 l2 l3 l4 l5 true=true->l1=true/\l2=true/\l3=true/\l4=true/\l5=true:=bF
section
variable [Gl]{J:Jb}{Ro:Nat->Prop}
def LS.ZN (h:LS p Ro acH r6 b7 x M W):yT (λb=>p.Sp b\/Ro b) M W:=⟨λb hb=>(h.sp b hb).1,λb hb=>(h.sp b hb).2⟩
def LS.alloc (h:LS p Ro acH r6 b7 x M W)(o:Obj):LS p Ro acH r6 b7 x (grow M W<|W.alloc o) (W.alloc o):=by
 have z:(W.alloc o).heap.size=W.heap.size+1:=by show(W.heap.push o).size=_;simp
 have hb:∀b,b<W.heap.size->(W.alloc o).heap[b]?=W.heap[b]?:=λb hb=>Below.heap_alloc _ _ _ hb
 let⟨c,c1,c2⟩:=h.c6;refine⟨.inl h.m6,.inl h.m7,h.ne,⟨c,(hb _<|h.lt _ h.m6).trans c1,c2⟩,(hb _<|h.lt _ h.m7).trans h.c7,h.held.keep (λb x=>⟨.inl x.1,x.2⟩) λa ha=>hb _<|h.lt _ (h.held.blk a ha).2.1.1,⟨λb x=>(hb b (h.sp b<|.inr x).2).trans<|h.keep.block b x,by rw[z];have:=h.keep.size;omega,h.keep.os,h.keep.out⟩,λb x=>⟨λy=>y.elim (h.sp b x).1 λy=>by have:=(h.sp b x).2;omega,by rw[z];have:=(h.sp b x).2;omega⟩,h.He,λb x=>x.elim (λy=>by rw[z];have:=h.lt b y;omega) And.right,by rw[z];have:=h.gl;omega,λb x=>x.elim (h.nw b) λy=>ac8 h.keep.size y.1⟩
omit [Gl] in
def Eh:H0 (λb=>p.Sp b\/Ro b) p.I:=λw w' h hi=>p.QB w w' (λb hb=>h b<|.inl hb) hi
def QA (hJ:mN J P0 p ok Ro acH)(eG:dM P0 P0 ok)(hP:dM P0 Tryz.prog ok)(iv:∀f,ok.fn f=true->ok.bh f=true)(yY:jE P0 c){y:aJ}
  (hK:∀(v3 v4 v5 v9 v10 v11 v12 v13 v14 v15 v16 v17 v18 v19 v20 v21 v22 v23 v24 v25 v26:Value) (M:Nat->Prop) (W:World),LS p Ro acH r6 b7 (J.pick x y) M W->ET Tryz.prog false p.I Ph.nE Ro Stop M (G ((base 158).at ⟨#[J.ji,.slice (some ⟨J.nb,J.no,none⟩) p.L J.nc,.pointer<|some ⟨J.tb,0,none⟩,v3,v4,v5,.pointer<|some ⟨r6,0,none⟩,.pointer<|some ⟨b7,0,none⟩,.int .i64 i,v9,v10,v11,v12,v13,v14,v15,v16,v17,v18,v19,v20,v21,v22,v23,v24,v25,v26],[]⟩ [.inBlock 1,.inLoop jY,.inBlock 0]) cs) W)
  (v3 v4 v5 v9 v10 v11 v12 v13 v14 v15 v16 v17 v19 v20 v21 v22 v23 v25 v26:Value)(M:Nat->Prop)(W:World)(hy:iZ W (λb=>M b/\b≠r6/\b≠b7) y)(lR:LS p Ro acH r6 b7 x M W):
  ET Tryz.prog false p.I Ph.nE Ro Stop M (G ((base 158).at ⟨#[J.ji,.slice (some ⟨J.nb,J.no,none⟩) p.L J.nc,.pointer<|some ⟨J.tb,0,none⟩,v3,v4,v5,.pointer<|some ⟨r6,0,none⟩,.pointer<|some ⟨b7,0,none⟩,.int .i64 i,v9,v10,v11,v12,v13,v14,v15,v16,v17,x.val,v19,v20,v21,v22,v23,y.val,v25,v26],[]⟩<|.inRegion il [7,8,9]::[.inBlock 1,.inLoop jY,.inBlock 0]) cs) W:=by
 obtain⟨o,ho,bz,hd,hg⟩:∃o,il[7]?=some o/\o.op=.buildSlice 211 2 #[(0,.tmp 18),(1,.tmp 24)]/\o.dst=some 25/\o.guard=none:=⟨_,rfl,rfl,rfl,rfl⟩;refine ET.oper ho kV (by k_ne) λah acP _=>⟨.slice (some ⟨ah.heap.size,0,none⟩) 2 2,ah.alloc<|.cells (x.cells++y.cells).toArray 177,?_,?_,?_⟩
 .unfold execOp;simp only[bz];walk_nrm
  simp only[aJ.val,aJ.cells];go_simp
 .refine eP.alloc _ λe he=>?_
  have hm:=mem_listed he;unfold execOp at hm;simp only[bz]at hm;simp only[Act.eval,List.map_toArray,List.map_cons,List.map_nil,Array.getD_eq_getD_getElem?,List.getElem?_toArray,List.getElem?_cons_succ,List.getElem?_cons_zero,Option.getD_some,aJ.val]at hm;simp[go_sem]at hm
 rw[hd];walk_nrm
 have ru:=lR.rely acP;have Nh:iZ ah (λb=>M b/\b≠r6/\b≠b7) y:=hy.keep (λ_ h=>h) λa ha=>acP.block _<|.inl (hy.blk a ha).2.1.1
 clear lR hy acP ho bz hd hg o;have rz:=ru.alloc<|.cells (x.cells++y.cells).toArray 177;have oG:∀b,b<ah.heap.size->(ah.alloc<|.cells (x.cells++y.cells).toArray 177).heap[b]?=ah.heap[b]?:=λb hb=>Below.heap_alloc _ _ _ hb
 have qO:iZ (ah.alloc<|.cells (x.cells++y.cells).toArray 177) (λb=>grow M ah (ah.alloc<|.cells (x.cells++y.cells).toArray 177) b/\b≠r6/\b≠b7) y:=Nh.keep (λb h=>⟨.inl h.1,h.2⟩) λa ha=>oG _<|ru.lt _ (Nh.blk a ha).2.1.1
 have uJ:=rz.held;have hN:(ah.alloc<|.cells (x.cells++y.cells).toArray 177).heap[ah.heap.size]?=some (.cells (x.cells++y.cells).toArray 177 (0,0)):=heap_alloc_new _ _;have Wl:grow M ah (ah.alloc<|.cells (x.cells++y.cells).toArray 177) ah.heap.size:=.inr ⟨ac5 _,by show _<(ah.heap.push _).size;simp⟩;have n6:r6≠ah.heap.size:=λe=>by have:=ru.lt _ ru.m6;omega
 have n7:b7≠ah.heap.size:=λe=>by have:=ru.lt _ ru.m7;omega
 generalize ah.alloc (.cells (x.cells++y.cells).toArray 177)=dx at rz qO uJ hN Wl⊢;generalize grow M ah dx=pq at rz qO uJ Wl⊢;generalize ah.heap.size=N at hN Wl n6 n7⊢;clear oG ru Nh;obtain⟨o,ho,bz,hd,hg⟩:∃o,il[8]?=some o/\o.op=.call {callee:=.value<|.func 160,args:=#[.tmp 25,.func 161],argTypes:=#[211,216]}/\o.dst=some 26/\o.guard=none:=⟨_,rfl,rfl,rfl,rfl⟩;have S_:∀a,x.a=some a->(λb=>b=N\/(∃a,x.a=some a/\a.block=b)\/∃a,y.a=some a/\a.block=b) a.block:=λa ha=>.inr<|.inl ⟨a,ha,rfl⟩
 have hSy:∀a,y.a=some a->(λb=>b=N\/(∃a,x.a=some a/\a.block=b)\/∃a,y.a=some a/\a.block=b) a.block:=λa ha=>.inr<|.inr ⟨a,ha,rfl⟩
 have WK:∀(z:aJ),(∀a,z.a=some a->(λb=>b=N\/(∃a,x.a=some a/\a.block=b)\/∃a,y.a=some a/\a.block=b) a.block)->∀v∈z.cells,ar ok (rG λb=>b=N\/(∃a,x.a=some a/\a.block=b)\/∃a,y.a=some a/\a.block=b) v v:=by
  intro z hz v hv;simp only[aJ.cells,List.mem_cons,List.not_mem_nil,or_false]at hv;rcases hv with rfl|rfl|rfl|rfl
  .exact .bool _
  .exact .int _ _
  .exact .int _ _
  .cases hza:z.a with
   |none=>exact .dH _ _
   |some a=>exact .slice _ _ ⟨fP.2 ⟨hz a hza,rfl⟩,rfl,rfl⟩
 refine ET.F5 eG hP iv yY ho kV (by k_ne) bz Tryz.func160 bD rfl hJ.SP.2.1 Eh (λb hb=>.inr hb) rz.ZN rz.lt rz.gl (λb=>b=N\/(∃a,x.a=some a/\a.block=b)\/∃a,y.a=some a/\a.block=b)
  (λdv v w=>v=(J.pick x y).val/\∀b,b<dv.heap.size->w.heap[b]?=(fw Ro dv).heap[b]?) (λW v w τ d h=>h) ?_ ?_ ?_ ?_ ?_
 .rintro b (rfl|⟨a,ha,rfl⟩|⟨a,ha,rfl⟩)
  .exact .inl Wl
  .exact .inl (uJ.blk a ha).2.1.1
  .exact .inl (qO.blk a ha).2.1.1
 .intro dv dB;refine⟨?_⟩;rintro b (rfl|⟨a,ha,rfl⟩|⟨a,ha,rfl⟩)
  .refine⟨_,_,(dB.block _<|.inl Wl).trans hN,λv hv=>?_⟩;simp only[List.mem_toArray,List.mem_append]at hv;exact hv.elim (WK x S_ v)<|WK y hSy v
  .let⟨_,h2,cs,e,h3,h4⟩:=uJ.blk a ha;exact⟨cs,e,(dB.block _<|.inl h2.1).trans h3,λv hv=>by obtain⟨n,rfl⟩:=h4 v hv;exact .int _ _⟩
  .let⟨_,h2,cs,e,h3,h4⟩:=qO.blk a ha;exact⟨cs,e,(dB.block _<|.inl h2.1).trans h3,λv hv=>by obtain⟨n,rfl⟩:=h4 v hv;exact .int _ _⟩
 .intro v hv;simp[Act.eval]at hv;rcases hv with rfl|rfl
  .exact .slice _ _ ⟨fP.2 ⟨.inl rfl,rfl⟩,rfl,rfl⟩
  .exact .func (.func hJ.SP.2.2) rfl (λi x x' h=>by simp at h) rfl (λi x x' h=>by simp at h)
 .intro dv dB _ τ d;walk_nrm
  let⟨z',h1,_⟩:=gb (F:=Ro)<|(dB.block _<|.inl Wl).trans hN;refine(hJ.least (re (fw Ro dv) τ d) N [x,y] z' aF h1 ?_).mono ?_
  .intro z hz;simp only[List.mem_cons,List.not_mem_nil,or_false]at hz;rcases hz with rfl|rfl
   .exact⟨rI (uJ.keep (M':=λ_=>True) (λ_ _=>trivial) λa ha=>dB.block _<|.inl (uJ.blk a ha).2.1.1).row,uJ.small⟩
   .exact⟨rI (qO.keep (M':=λ_=>True) (λ_ _=>trivial) λa ha=>dB.block _<|.inl (qO.blk a ha).2.1.1).row,qO.small⟩
  .rintro e w' ⟨rfl,hb⟩;exact⟨_,rfl,rfl,λb dw=>hb.block b (by show b<(fw Ro dv).heap.size;rw[jq];exact dw)⟩
 .intro dv v' M' W' dB abi i' hB;have iK:=rz.rely dB;have Ni:iZ dv (λb=>pq b/\b≠r6/\b≠b7) y:=qO.keep (λ_ h=>h) λa ha=>dB.block _ (.inl (qO.blk a ha).2.1.1)
  obtain⟨σ,v,V',hv,⟨rfl,Ye⟩,hw,hS,oU,MO⟩:=hB.res;obtain⟨a',rfl,hn,ha⟩:=yJ hv;have hpS:∀a,(J.pick x y).a=some a->(λb=>b=N\/(∃a,x.a=some a/\a.block=b)\/∃a,y.a=some a/\a.block=b) a.block:=by
   rcases J.pk x y with e|e<;>rw[e]<;>assumption
  have ea:a'=(J.pick x y).a:=by
   cases e:(J.pick x y).a with
   |none=>exact hn.1 e
   |some a=>
    let⟨d,h1,h2⟩:=ha a e;have h3:=h2.blk;rw[hS _ (hpS a e)]at h3;simp only[Option.some.injEq]at h3;rw[h1];let⟨d1,d2,d3⟩:=d;have h4:=h2.off;have h5:=h2.spot;let⟨a1,a2,a3⟩:=a;simp only at h3 h4 h5;rw[h3,h4,h5]
  have ev:aJ.val {J.pick x y with a:=a'}=(J.pick x y).val:=by rw[ea]
  rw[ev];have same:∀b cs e,pq b->σ b=some b->dv.heap[b]?=some (.cells cs e (0,0))->(∀v∈cs,∃n:Int,v=.int .i64 n)->W'.heap[b]?=dv.heap[b]?:=by
   intro b cs e hm hs h3 h4;let⟨o,o',g1,g2,g3⟩:=hw.heap _ _ hs;let⟨z',f1,_⟩:=gb (F:=Ro) h3;rw[Ye b (iK.lt b hm),f1]at g1;cases g1;cases g3 with
   |@cells _ c' _ _ z'' hv hz=>
    replace hz:=hz.resolve_right (λh=>by cases h.1);have:c'=cs:=by
     refine Array.ext hv.size.symm λj h1 h2=>?_
     let⟨n,Ln⟩:=h4 cs[j]<|Array.getElem_mem h2;have:=hv.at_ j _ _ (adc h2)<|adc h1;rw[Ln]at this⊢;generalize c'[j]=w at this;cases this;rfl
    rw[g2,h3,this,hz];rfl
  have IE:∀b,pq b->b≠N->W'.heap[b]?=dv.heap[b]?:=by
   intro b hb hne;by_cases hs:(λb=>b=N\/(∃a,x.a=some a/\a.block=b)\/∃a,y.a=some a/\a.block=b) b
   .have mJ:=hS b hs;rcases hs with e|⟨a,ha,rfl⟩|⟨a,ha,rfl⟩
    .exact absurd e hne
    .let⟨_,_,cs,e,h3,h4⟩:=iK.held.blk a ha;exact same _ cs e hb mJ h3 h4
    .let⟨_,_,cs,e,h3,h4⟩:=Ni.blk a ha;exact same _ cs e hb mJ h3 h4
   .exact hB.rest.block b ⟨hb,hs⟩
  have nx:∀a,x.a=some a->a.block≠N:=λa ha e=>by
   let⟨_,_,cs,e',h3,h4⟩:=uJ.blk a ha;rw[e,hN]at h3;cases h3;let⟨n,hn⟩:=h4 (.bool x.ok) (by simp[aJ.cells]);cases hn
  have ny:∀a,y.a=some a->a.block≠N:=λa ha e=>by
   let⟨_,_,cs,e',h3,h4⟩:=qO.blk a ha;rw[e,hN]at h3;cases h3;let⟨n,hn⟩:=h4 (.bool x.ok) (by simp[aJ.cells]);cases hn
  have jQ:dv.heap.size<=W':=hB.ro.size;have J9:LS p Ro acH r6 b7 x M' W':=by
   let⟨c,c1,c2⟩:=iK.c6;refine⟨hB.own _ iK.m6,hB.own _ iK.m7,iK.ne,⟨c,(IE _ iK.m6 n6).trans c1,c2⟩,(IE _ iK.m7 n7).trans iK.c7,iK.held.keep (λb hb=>⟨hB.own _ hb.1,hb.2⟩) λa ha=>IE _ (iK.held.blk a ha).2.1.1<|nx a ha,iK.keep.trans hB.ro,λb hb=>⟨λhm=>?_,ac6 (iK.sp b hb).2 jQ⟩,iK.He,hB.lt,ac8 iK.gl jQ,λb hm=>(hB.new b hm).elim (iK.nw b) λy=>ac8 iK.keep.size y⟩;rcases hB.new b hm with hm|hm
   .exact(iK.sp b hb).1 hm
   .have:=(iK.sp b hb).2;omega
  have GH:iZ W' (λb=>M' b/\b≠r6/\b≠b7) y:=Ni.keep (λb hb=>⟨hB.own _ hb.1,hb.2⟩) λa ha=>IE _ (Ni.blk a ha).2.1.1<|ny a ha;have O9:iZ W' (λb=>M' b/\b≠r6/\b≠b7) (J.pick x y):=by
   rcases J.pk x y with e|e
   .rw[e];exact J9.held
   .rw[e];exact GH
  rw[hd];walk_nrm
  clear IE same hw hS oU MO hv hn ha ea ev Ye hpS;obtain⟨o',MV,rC,Ys,qE⟩:∃o,il[9]?=some o/\o.op=.store 177 (.tmp 7) (.tmp 26)/\o.dst=none/\o.guard=none:=⟨_,rfl,rfl,rfl,rfl⟩;refine ET.none MV (by simp[Region.wanted,qE]) (by k_ne) λqA kv _=>?_
  have gL:=J9.rely kv;have Sy:iZ qA (λb=>M' b/\b≠r6/\b≠b7) (J.pick x y):=O9.keep (λ_ h=>h) λa ha=>kv.block _<|.inl (O9.blk a ha).2.1.1
  refine⟨qA.setRow b7 (J.pick x y).cells.toArray,(fI rC rfl rfl gL.c7 rfl).1,?_,?_⟩
  .refine eP.row _ gL.m7 λe he=>?_
   obtain⟨j,rfl⟩:=(fI (t:=J.pick x y) rC rfl rfl gL.c7 rfl).2 e<|mem_listed he;exact gA gL.m7
  rw[cJ (setRow_size _ _ _),Ys];walk_nrm
  apply ET.rn;have hbo:∀b,b≠b7->(qA.setRow b7 (J.pick x y).cells.toArray).heap[b]?=qA.heap[b]?:=λb hb=>setRow_other _ _ _ _ hb
  let⟨c,c1,c2⟩:=gL.c6;exact hK _ _ _ _ _ _ _ _ _ _ _ _ _ _ _ _ _ _ _ _ _ _ _ ⟨gL.m6,gL.m7,gL.ne,⟨c,(hbo _ gL.ne).trans c1,c2⟩,setRow_heap _ _ _ _ _ _ gL.c7,Sy.keep (λ_ h=>h) λa ha=>hbo _ (Sy.blk a ha).2.1.2.2,⟨λb hb=>(hbo b λe=>(gL.sp b<|.inr hb).1<|e▸gL.m7).trans<|gL.keep.block b hb,by rw[setRow_size];exact gL.keep.size,gL.keep.os,gL.keep.out⟩,λb hb=>by rw[setRow_size];exact gL.sp b hb,gL.He,λb hb=>by rw[setRow_size];exact gL.lt b hb,by rw[setRow_size];exact gL.gl,gL.nw⟩
def Rp (hJ:mN J P0 p ok Ro acH)(eG:dM P0 P0 ok)(hP:dM P0 Tryz.prog ok)(iv:∀f,ok.fn f=true->ok.bh f=true)(yY:jE P0 c)(hi:i<p.L)
  (hK:∀(v3 v4 v5 v9 v10 v11 v12 v13 v14 v15 v16 v17 v18 v19 v20 v21 v22 v23 v24 v25 v26:Value) (y:aJ) (M:Nat->Prop) (W:World),J.Is i y->LS p Ro acH r6 b7 (J.pick x y) M W->ET Tryz.prog false p.I Ph.nE Ro Stop M (G ((base 158).at ⟨#[J.ji,.slice (some ⟨J.nb,J.no,none⟩) p.L J.nc,.pointer<|some ⟨J.tb,0,none⟩,v3,v4,v5,.pointer<|some ⟨r6,0,none⟩,.pointer<|some ⟨b7,0,none⟩,.int .i64 i,v9,v10,v11,v12,v13,v14,v15,v16,v17,v18,v19,v20,v21,v22,v23,v24,v25,v26],[]⟩ [.inBlock 1,.inLoop jY,.inBlock 0]) cs) W)
  (ho:Ia .any il l rest):
  ∀(l0 l1 l2 l3 l4 l5 l6:Bool) (v3 v4 v5 v9 v10 v11 v12 v13 v14 v15 v16 v17 v18 v19 v20 v21 v22 v23 v24 v25 v26:Value) (M:Nat->Prop) (W:World),l=#[l0,l1,l2,l3,l4,l5,l6,false,false,false]->bC l1 l2 l3 l4 l5 l6=true->
   (l0=true->v18=x.val)->(l1=true->v19=J.ji)->(l2=true->v20=.slice (some ⟨J.nb,J.no,none⟩) p.L J.nc)->(l3=true->v21=.int .i64 i)->(l4=true->v22=.pointer (some ⟨J.nb,J.no+i,none⟩))->(l5=true->v23=J.gT i)->
   (l6=true->∃y:aJ,v24=y.val/\J.Is i y/\iZ W (λb=>M b/\b≠r6/\b≠b7) y)->LS p Ro acH r6 b7 x M W->
   ET Tryz.prog false p.I Ph.nE Ro Stop M (G ((base 158).at ⟨#[J.ji,.slice (some ⟨J.nb,J.no,none⟩) p.L J.nc,.pointer<|some ⟨J.tb,0,none⟩,v3,v4,v5,.pointer<|some ⟨r6,0,none⟩,.pointer<|some ⟨b7,0,none⟩,.int .i64 i,v9,v10,v11,v12,v13,v14,v15,v16,v17,v18,v19,v20,v21,v22,v23,v24,v25,v26],[]⟩<|.inRegion il rest::[.inBlock 1,.inLoop jY,.inBlock 0]) cs) W:=by
 induction ho with
 |nil h=>rintro l0 l1 l2 l3 l4 l5 l6 _ _ _ _ _ _ _ _ _ _ _ _ _ _ _ _ _ _ _ _ _ M W rfl hb;exact absurd h (Je _ _ _ _ _ _ _ hb).1
 |@cons l q rest hq hr ih=>
  rintro l0 l1 l2 l3 l4 l5 l6 v3 v4 v5 v9 v10 v11 v12 v13 v14 v15 v16 v17 v18 v19 v20 v21 v22 v23 v24 v25 v26 M W rfl hb h0 h1 h2 h3 h4 h5 h6 lR;have hc:=List.all_eq_true.1 (Je l0 l1 l2 l3 l4 l5 l6 hb).2 q hq;simp only[Bool.or_eq_true,Bool.and_eq_true,beq_iff_eq,Bool.not_eq_true']at hc;rcases hc with((((((⟨rfl,rfl⟩|⟨rfl,rfl⟩)|⟨rfl,rfl⟩)|⟨rfl,rfl⟩)|⟨⟨⟨rfl,rfl⟩,rfl⟩,rfl⟩)|⟨⟨rfl,rfl⟩,rfl⟩)|⟨⟨⟨rfl,rfl⟩,rfl⟩,rfl⟩)|⟨⟨rfl,rfl⟩,rfl⟩
  ·
   obtain⟨o,ho,bz,hd,hg⟩:∃o,il[0]?=some o/\o.op=.load 177 (.tmp 7)/\o.dst=some 18/\o.guard=none:=⟨_,rfl,rfl,rfl,rfl⟩;refine ET.val x.val ho kV (by k_ne) (λah acP _=>?_) ?_
   .have cQ:=lR.rely acP;refine⟨yt bz rfl cQ.c7,λe he=>?_⟩;obtain⟨j,rfl⟩:=Al (t:=x) bz rfl cQ.c7 e he;exact gA lR.m7
   .rw[hd];walk_nrm
    exact ih true l1 l2 l3 l4 l5 l6 _ _ _ _ _ _ _ _ _ _ _ _ _ _ _ _ _ _ _ _ _ _ _ aF hb (λ_=>rfl) h1 h2 h3 h4 h5 h6 lR
  .obtain⟨o,ho,bz,hd,hg⟩:∃o,il[1]?=some o/\o.op=.move (.tmp 0)/\o.dst=some 19/\o.guard=none:=⟨_,rfl,rfl,rfl,rfl⟩;refine ET.val (J.ji) ho kV (by k_ne) (λah acP _=>?_) ?_
   .unfold execOp;refine⟨?_,λe he=>?_⟩
    .simp only[bz];go_simp
    .simp[go_sem,bz]at he
   .rw[hd];walk_nrm
    exact ih l0 true l2 l3 l4 l5 l6 _ _ _ _ _ _ _ _ _ _ _ _ _ _ _ _ _ _ _ _ _ _ _ aF (bm1 _ _ _ _ _ hb) h0 (λ_=>rfl) h2 h3 h4 h5 h6 lR
  .obtain⟨o,ho,bz,hd,hg⟩:∃o,il[2]?=some o/\o.op=.move (.tmp 1)/\o.dst=some 20/\o.guard=none:=⟨_,rfl,rfl,rfl,rfl⟩;refine ET.val (.slice (some ⟨J.nb,J.no,none⟩) p.L J.nc) ho kV (by k_ne) (λah acP _=>?_) ?_
   .unfold execOp;refine⟨?_,λe he=>?_⟩
    .simp only[bz];go_simp
    .simp[go_sem,bz]at he
   .rw[hd];walk_nrm
    exact ih l0 l1 true l3 l4 l5 l6 _ _ _ _ _ _ _ _ _ _ _ _ _ _ _ _ _ _ _ _ _ _ _ aF (bm2 _ _ _ _ _ hb) h0 h1 (λ_=>rfl) h3 h4 h5 h6 lR
  .obtain⟨o,ho,bz,hd,hg⟩:∃o,il[3]?=some o/\o.op=.move (.tmp 8)/\o.dst=some 21/\o.guard=none:=⟨_,rfl,rfl,rfl,rfl⟩;refine ET.val (.int .i64 i) ho kV (by k_ne) (λah acP _=>?_) ?_
   .unfold execOp;refine⟨?_,λe he=>?_⟩
    .simp only[bz];go_simp
    .simp[go_sem,bz]at he
   .rw[hd];walk_nrm
    exact ih l0 l1 l2 true l4 l5 l6 _ _ _ _ _ _ _ _ _ _ _ _ _ _ _ _ _ _ _ _ _ _ _ aF (bm3 _ _ _ _ _ hb) h0 h1 h2 (λ_=>rfl) h4 h5 h6 lR
  .obtain⟨o,ho,bz,hd,hg⟩:∃o,il[4]?=some o/\o.op=.indexAddr 179 (.tmp 20) (.tmp 21)/\o.dst=some 22/\o.guard=none:=⟨_,rfl,rfl,rfl,rfl⟩;obtain rfl:=h2 rfl;obtain rfl:=h3 rfl;refine ET.val (.pointer<|some ⟨J.nb,J.no+i,none⟩) ho kV (by k_ne) (λah acP _=>?_) ?_
   .have oH:(i:Int)<p.L:=by omega
    unfold execOp;refine⟨?_,λe he=>?_⟩
    .simp only[bz];go_simp
    .simp only[bz]at he;simp[go_sem]at he;rw[events_indexAt_slice _ _ _ _ _ _ (by go_simp) aa]at he;simp at he
   .rw[hd];walk_nrm
    exact ih l0 l1 true true true l5 l6 _ _ _ _ _ _ _ _ _ _ _ _ _ _ _ _ _ _ _ _ _ _ _ aF (bm4 _ _ _ hb) h0 h1 h2 h3 (λ_=>rfl) h5 h6 lR
  .obtain⟨o,ho,bz,hd,hg⟩:∃o,il[5]?=some o/\o.op=.load 183 (.tmp 22)/\o.dst=some 23/\o.guard=none:=⟨_,rfl,rfl,rfl,rfl⟩;obtain rfl:=h4 rfl;refine ET.val (J.gT i) ho kV (by k_ne) (λah acP _=>?_) ?_
   .have hc:ah.cell? ⟨J.nb,J.no+i,none⟩=some (J.gT i):=by
     rw[<-hJ.gP i hi];simp only[World.cell?,(lR.rely acP).keep.block _ hJ.rnb]
    unfold execOp;refine⟨?_,λe he=>?_⟩
    .simp only[bz];go_simp
    .simp[go_sem,bz,hc]at he;subst he;exact wP hJ.rnb
   .rw[hd];walk_nrm
    exact ih l0 l1 l2 l3 true true l6 _ _ _ _ _ _ _ _ _ _ _ _ _ _ _ _ _ _ _ _ _ _ _ aF (bm5 _ _ _ _ hb) h0 h1 h2 h3 h4 (λ_=>rfl) h6 lR
  ·
   obtain⟨o,ho,bz,hd,hg⟩:∃o,il[6]?=some o/\o.op=.call {callee:=.value<|.func 189,args:=#[.tmp 19,.tmp 23],argTypes:=#[23,183]}/\o.dst=some 24/\o.guard=none:=⟨_,rfl,rfl,rfl,rfl⟩;obtain rfl:=h1 rfl;obtain rfl:=h5 rfl;obtain⟨rfl,rfl,rfl⟩:=bm6 _ _ _ hb;refine ET.F5 eG hP iv yY ho kV (by k_ne) bz Tryz.func189 bD rfl hJ.SP.1 Eh (λb hb=>.inr hb) lR.ZN lR.lt lR.gl (J.S i)
    (λah v w=>∃y:aJ,v=y.val/\J.Is i y/\iZ w (λb=>ah.heap.size<=b) y) (λW v w τ d ⟨y,e1,e2,e3⟩=>⟨y,e1,e2,e3.keep (λ_ h=>h) λ_ _=>rfl⟩) (λb hb=>.inr<|hJ.sro i b hb) (λah acP=>hJ.closed i hi ah (lR.rely acP).keep) ?_ ?_ ?_
   .intro v hv;simp[Act.eval]at hv;rcases hv with rfl|rfl
    .exact hJ.LK i hi
    .exact hJ.LL i hi
   .intro ah acP _ τ d;walk_nrm
    refine(hJ.OK i hi Ro ah (lR.rely acP).keep τ d).mono ?_;rintro e w' ⟨y,rfl,e2,e3⟩;exact⟨_,rfl,y,rfl,e2,e3⟩
   .intro ah v' M' W' acP pL i' hB;have cQ:=lR.rely acP;obtain⟨σ,v,V',hv,⟨y,rfl,hy,hh⟩,hw,hS,oU,MO⟩:=hB.res;obtain⟨a',rfl,hn,ha⟩:=yJ hv;have Zh:∀b,M b->¬J.S i b:=λb hb hs=>(cQ.sp b<|.inr<|hJ.sro i b hs).1 hb
    have IE:∀b,M b->W'.heap[b]?=ah.heap[b]?:=λb hb=>hB.rest.block b ⟨hb,Zh b hb⟩
    have aaI:∀a d,y.a=some a->σ a.block=some d->ah.heap.size<=d:=λa d h1 h2=>(oU _ _ h2).elim (λe=>by
     have:=(hh.blk a h1).2.1;have:=(cQ.sp _<|.inr<|hJ.sro i _ e.1).2;omega) id
    have hM':∀a d,y.a=some a->σ a.block=some d->M' d/\d≠r6/\d≠b7:=λa d h1 h2=>by
     have hb:=aaI a d h1 h2;have l6:=cQ.lt _ cQ.m6;have l7:=cQ.lt _ cQ.m7;refine⟨(MO _ _ h2).resolve_right λe=>?_,aa,aa⟩;have:=(cQ.sp d<|.inr e.1).2;omega
    have hH:=J6 hw ⟨hh.row,hh.small,λa ha=>⟨(hh.blk a ha).1,trivial,(hh.blk a ha).2.2⟩,hh.full⟩ hn ha hM';have jQ:ah.heap.size<=W':=hB.ro.size;have J9:LS p Ro acH r6 b7 x M' W':=by
     let⟨c,c1,c2⟩:=cQ.c6;refine⟨hB.own _ cQ.m6,hB.own _ cQ.m7,cQ.ne,⟨c,(IE _ cQ.m6).trans c1,c2⟩,(IE _ cQ.m7).trans cQ.c7,cQ.held.keep (λb hb=>⟨hB.own _ hb.1,hb.2⟩) λa ha=>IE _ (cQ.held.blk a ha).2.1.1,cQ.keep.trans hB.ro,λb hb=>⟨λhm=>?_,ac6 (cQ.sp b hb).2 jQ⟩,cQ.He,hB.lt,ac8 cQ.gl jQ,λb hm=>(hB.new b hm).elim (cQ.nw b) λy=>ac8 cQ.keep.size y⟩;rcases hB.new b hm with hm|hm
     .exact(cQ.sp b hb).1 hm
     .have:=(cQ.sp b hb).2;omega
    rw[hd];walk_nrm
    exact ih l0 true true true true true true _ _ _ _ _ _ _ _ _ _ _ _ _ _ _ _ _ _ _ _ _ _ _ aF rfl h0 h1 h2 h3 h4 h5 (λ_=>⟨_,rfl,hJ.ren i y a' hy hn,hH⟩) J9
  .obtain⟨rfl,rfl,rfl,rfl,rfl⟩:=bm7 _ _ _ _ _ hb;obtain⟨y,rfl,hy,hh⟩:=h6 rfl;obtain rfl:=h0 rfl;obtain rfl:rest=[8,9]:=by
    have e1:(#[true,true,true,true,true,true,true,false,false,false]:Array Bool).setIfInBounds 7 true=#[true,true,true,true,true,true,true,true,false,false]:=aF;rw[e1]at hr;clear ih hK;generalize hL:(#[true,true,true,true,true,true,true,true,false,false]:Array Bool)=L at hr;cases hr with
    |nil h=>subst hL;exact absurd h LU
    |@cons _ q1 r1 pa nD=>
     subst hL;rw[show Region.ready .any il #[true,true,true,true,true,true,true,true,false,false]=[8] from by decide +kernel]at pa;obtain rfl:=List.mem_singleton.1 pa;have e2:(#[true,true,true,true,true,true,true,true,false,false]:Array Bool).setIfInBounds 8 true=#[true,true,true,true,true,true,true,true,true,false]:=aF;rw[e2]at nD;generalize hL:(#[true,true,true,true,true,true,true,true,true,false]:Array Bool)=L at nD;cases nD with
     |nil h=>subst hL;exact absurd h LU
     |@cons _ q2 r2 XR Y9=>
      subst hL;rw[show Region.ready .any il #[true,true,true,true,true,true,true,true,true,false]=[9] from by decide +kernel]at XR;obtain rfl:=List.mem_singleton.1 XR;have e3:(#[true,true,true,true,true,true,true,true,true,false]:Array Bool).setIfInBounds 9 true=#[true,true,true,true,true,true,true,true,true,true]:=aF;rw[e3]at Y9;generalize hL:(#[true,true,true,true,true,true,true,true,true,true]:Array Bool)=L at Y9;cases Y9 with
      |nil h=>rfl
      |@cons _ q3 r3 I' Za=>
       subst hL;exact absurd I' (by rw[show Region.ready .any il #[true,true,true,true,true,true,true,true,true,true]=[] from by decide +kernel];simp)
   exact QA hJ eG hP iv yY (λa0 a1 a2 a3 a4 a5 a6 a7 a8 a9 y_ a11 a12 a13 a14 a15 a16 a17 a18 a19 a20 M W h=>hK a0 a1 a2 a3 a4 a5 a6 a7 a8 a9 y_ a11 a12 a13 a14 a15 a16 a17 a18 a19 a20 y M W hy h) _ _ _ _ _ _ _ _ _ _ _ _ _ _ _ _ _ _ _ _ _ hh lR
end
def RJ:Tryz.prog.follows .mixedOrders=true:=bD
section
variable [Gl]{J:Jb}{Ro:Nat->Prop}
def Rz (hJ:mN J P0 p ok Ro acH)(eG:dM P0 P0 ok)(hP:dM P0 Tryz.prog ok)(iv:∀f,ok.fn f=true->ok.bh f=true)(yY:jE P0 c)(hL:p.L<4611686018427387904)
  (Kb:∀seq x M W,wc J seq x->LS p Ro acH r6 b7 x M W->W.cell? r6=some (.bool x.ok)->ET Tryz.prog false p.I Ph.nE Ro (p.zO k seq) M (G (c0.finish x.val) cs) W)(f:Nat):
  ∀(lo:Nat) (seq:List Nat) (x:aJ) (M:Nat->Prop) (W:World) (v3 v4 v5 v8 v9 v10 v11 v12 v13 v14 v15 v16 v17 v18 v19 v20 v21 v22 v23 v24 v25 v26:Value),p.L<=lo+f->wc J seq x->LS p Ro acH r6 b7 x M W->
   ET Tryz.prog false p.I Ph.nE Ro (p.j9 k Ro f lo seq) M (G ((base 158).at ⟨#[J.ji,.slice (some ⟨J.nb,J.no,none⟩) p.L J.nc,.pointer J.tb,v3,v4,v5,.pointer r6,.pointer b7,v8,v9,v10,v11,v12,v13,v14,v15,v16,v17,v18,v19,v20,v21,v22,v23,v24,v25,v26],[]⟩ [.code jY,.inLoop jY,.inBlock 0])<|c0::cs) W:=by
 induction f with
 |zero=>
  intro lo seq x M W v3 v4 v5 v8 v9 v10 v11 v12 v13 v14 v15 v16 v17 v18 v19 v20 v21 v22 v23 v24 v25 v26 WA hb lR;let⟨g1,g2,hA,⟨hs,hB⟩,hC,hD⟩:=OO (r6:=r6) (b7:=b7) (c0:=c0) (cs:=cs) hJ hL v3 v4 v5 v8 v9 v10 v11 v12 v13 v14 v15 v16 v17 v18 v19 v20 v21 v22 v23 v24 v25 v26;refine hA _ _ _<|ET.stop λah acP _=>⟨hs,λy h1 h2 h3=>⟨aa,g2 y,?_⟩⟩;rw[hJ.prog];have hl:=lR.rely<|acP.trans<|(lR.rely acP).tk<|.int .i64<|y+1;exact⟨hB ah y h2 h3,hD _ _ _ y x aa h2 hl λW' h4 h5=>Kb seq x M W' hb h4 h5⟩
 |succ f ih=>
  intro lo seq x M W v3 v4 v5 v8 v9 v10 v11 v12 v13 v14 v15 v16 v17 v18 v19 v20 v21 v22 v23 v24 v25 v26 WA hb lR;let⟨g1,g2,hA,⟨hs,hB⟩,hC,hD⟩:=OO (r6:=r6) (b7:=b7) (c0:=c0) (cs:=cs) hJ hL v3 v4 v5 v8 v9 v10 v11 v12 v13 v14 v15 v16 v17 v18 v19 v20 v21 v22 v23 v24 v25 v26;refine hA _ _ _<|ET.stop λah acP _=>⟨hs,λy h1 h2 h3=>⟨g2 y,?_⟩⟩;rw[hJ.prog];have hl:=lR.rely<|acP.trans<|(lR.rely acP).tk<|.int .i64<|y+1;refine⟨hB ah y h2 h3,λh4=>hD _ _ _ y x h4 h2 hl λW' h5 h6=>Kb seq x M W' hb h5 h6,λh4=>hC _ _ _ y h4 ?_⟩;intro a3 a4 a5 a8 a9 y_ a11 a12 a13 a14 a15 a16 a17 a18 a19 a20 a21 a22 a23 a24 a25 a26;refine ET.drawn RJ λorder ho=>?_
  have e:(Array.replicate il.size false)=#[false,false,false,false,false,false,false,false,false,false]:=bD;rw[e]at ho;refine Rp hJ eG hP iv yY h4 ?_ ho false false false false false false false _ _ _ _ _ _ _ _ _ _ _ _ _ _ _ _ _ _ _ _ _ M _ rfl rfl (λh=>qC) (λh=>qC) (λh=>qC) (λh=>qC) (λh=>qC) (λh=>qC) (λh=>qC) hl;intro b3 b4 b5 b9 Aa b11 K7 Xw VY z_ b16 Xx b18 b19 b20 b21 b22 A_ b24 b25 b26 z M' W' hz J9;refine ET.c (λ_=>stepG_inBlock)<|ET.c (λ_=>stepG_inLoop) ?_;exact ih (y+1) (seq++[y]) (J.pick x z) M' W' _ _ _ _ _ _ _ _ _ _ _ _ _ _ _ _ _ _ _ _ _ _ aa (hb.snoc hz) J9
end
def ZK:(Tryz.f158.name== "runtime.NumGoroutine")=false:=bD
section
variable [Gl]{J:Jb}{Ro:Nat->Prop}
def LM (hJ:mN J P0 p ok Ro acH)(eG:dM P0 P0 ok)(hP:dM P0 Tryz.prog ok)(iv:∀f,ok.fn f=true->ok.bh f=true)(yY:jE P0 c)(hL:p.L<4611686018427387904)(UH:k<4)(tT:Ro bi)(hib:acH.heap[bi]?=some (.cells #[.int .i64 k] 3 (0,0)))(Ya:p.Wg≠p.Bs)
  (DY:∀b,p.Sp b->¬Ro b)(aB:∀b,p.Sp b\/Ro b->b<acH)(Fv:Gl.n<=acH)(ho:Ia .any iO l rest):
  ∀(l0 l1 l2 l3 l5:Bool) (v6 v7 v8 v9 v10 v11:Value) (W:World),l=#[l0,l1,l2,l3,false,l5,false]->(l0=true->v6=.slice (some ⟨p.Bs,0,none⟩) 4 4)->(l1=true->v7=.int .i64 k)->(l2=true->v8=J.ji)->(l3=true->v9=.slice (some ⟨J.nb,J.no,none⟩) p.L J.nc)->(l5=true->v11=.pointer (some ⟨p.Bs,k*4,none⟩))->(l5=true->l0=true/\l1=true)->
   aK Ro acH W->acH.heap.size<=W->
   ET Tryz.prog false p.I Ph.nE Ro (p.j9 k Ro p.L 0 []) (λ_=>False) (G (XN J p.Wg bi v6 v7 v8 v9 v10 v11 rest) [bot]) W:=by
 induction ho with
 |nil h=>rintro l0 l1 l2 l3 l5 v6 v7 v8 v9 v10 v11 W rfl;exact absurd h (vR _ _ _ _ _ _).1
 |@cons l q rest hq hr ih=>
  rintro l0 l1 l2 l3 l5 v6 v7 v8 v9 v10 v11 W rfl h6 h7 h8 h9 BP h5 hK jQ;have hc:=List.all_eq_true.1 (vR l0 l1 l2 l3 false l5).2 q hq;simp only[Bool.or_eq_true,Bool.and_eq_true,beq_iff_eq,Bool.not_eq_true',Bool.false_eq_true,and_false,false_and,or_false,and_true]at hc;rcases hc with((((⟨rfl,rfl⟩|⟨rfl,rfl⟩)|⟨rfl,rfl⟩)|⟨rfl,rfl⟩)|⟨⟨rfl,rfl⟩,rfl⟩)|⟨⟨⟨rfl,rfl⟩,rfl⟩,rfl⟩
  .obtain⟨o,ho,bz,hd,hg⟩:∃o,iO[0]?=some o/\o.op=.load 211 (.tmp 4)/\o.dst=some 6/\o.guard=none:=⟨_,rfl,rfl,rfl,rfl⟩;refine ET.val (.slice p.Bs 4 4) ho kV (by k_ne) (λah acP _=>?_) ?_
   .have hb:=fy<|(acP.block _<|.inr hJ.SS).trans<|(hK.block _ hJ.SS).trans hJ.Tv;unfold execOp;refine⟨?_,λe he=>?_⟩
    .simp only[bz];go_simp
    .simp[go_sem,bz,hb]at he;subst he;exact wP hJ.SS
   .rw[hd];walk_nrm
    exact ih true l1 l2 l3 l5 _ _ _ _ _ _ _ aF (λ_=>rfl) h7 h8 h9 BP (λe=>⟨rfl,(h5 e).2⟩) hK jQ
  .obtain⟨o,ho,bz,hd,hg⟩:∃o,iO[1]?=some o/\o.op=.load 3 (.tmp 5)/\o.dst=some 7/\o.guard=none:=⟨_,rfl,rfl,rfl,rfl⟩;refine ET.val (.int .i64 k) ho kV (by k_ne) (λah acP _=>?_) ?_
   .have hb:=fy<|(acP.block _<|.inr tT).trans<|(hK.block _ tT).trans hib;unfold execOp;refine⟨?_,λe he=>?_⟩
    .simp only[bz];go_simp
    .simp[go_sem,bz,hb]at he;subst he;exact wP tT
   .rw[hd];walk_nrm
    exact ih l0 true l2 l3 l5 _ _ _ _ _ _ _ aF h6 (λ_=>rfl) h8 h9 BP (λe=>⟨(h5 e).1,rfl⟩) hK jQ
  .obtain⟨o,ho,bz,hd,hg⟩:∃o,iO[2]?=some o/\o.op=.load 23 (.tmp 1)/\o.dst=some 8/\o.guard=none:=⟨_,rfl,rfl,rfl,rfl⟩;refine ET.val (J.ji) ho kV (by k_ne) (λah acP _=>?_) ?_
   .have hb:=fy<|(acP.block _<|.inr hJ.ZZ).trans<|(hK.block _ hJ.ZZ).trans hJ.Zy;unfold execOp;refine⟨?_,λe he=>?_⟩
    .simp only[bz];go_simp
    .simp[go_sem,bz,hb]at he;subst he;exact wP hJ.ZZ
   .rw[hd];walk_nrm
    exact ih l0 l1 true l3 l5 _ _ _ _ _ _ _ aF h6 h7 (λ_=>rfl) h9 BP h5 hK jQ
  .obtain⟨o,ho,bz,hd,hg⟩:∃o,iO[3]?=some o/\o.op=.load 179 (.tmp 2)/\o.dst=some 9/\o.guard=none:=⟨_,rfl,rfl,rfl,rfl⟩;refine ET.val (.slice (some ⟨J.nb,J.no,none⟩) p.L J.nc) ho kV (by k_ne) (λah acP _=>?_) ?_
   .have hb:=fy<|(acP.block _<|.inr hJ.Z0).trans<|(hK.block _ hJ.Z0).trans hJ.ZH;unfold execOp;refine⟨?_,λe he=>?_⟩
    .simp only[bz];go_simp
    .simp[go_sem,bz,hb]at he;subst he;exact wP hJ.Z0
   .rw[hd];walk_nrm
    exact ih l0 l1 l2 true l5 _ _ _ _ _ _ _ aF h6 h7 h8 (λ_=>rfl) BP h5 hK jQ
  .obtain⟨o,ho,bz,hd,hg⟩:∃o,iO[4]?=some o/\o.op=.call {callee:=.value<|.func 158,args:=#[.tmp 8,.tmp 9,.tmp 3],argTypes:=#[23,179,214]}/\o.dst=some 10/\o.guard=none:=⟨_,rfl,rfl,rfl,rfl⟩;obtain rfl:=h8 rfl;obtain rfl:=h9 rfl;refine ET.k rfl λ_ _ _=>goes_call ho kV (by k_ne) bz Tryz.func158 ZK rfl ⟨⟨rfl,λe he=>ia⟩,?_⟩;walk_nrm
   have en:∀n,Tryz.f158.ntmps-n=27-n:=λn=>rfl
   rw[en];walk_nrm
   rw[<-hJ.prog];refine PX hJ (λ_=>False) W hK (λb hb=>⟨id,ac6 (aB b hb) jQ⟩) DY (λb hb=>hb.elim) (ac8 Fv jQ) (λb hb=>hb.elim) ?_;intro r6 b7 a0 a1 a2 a3 a4 a5 a6 a7 a8 a9 y_ a11 a12 a13 a14 a15 a16 a17 a18 a19 a20 a21 M' W' lR;rw[hJ.prog];refine Rz hJ eG hP iv yY hL ?_ p.L 0 [] d7 M' W' _ _ _ _ _ _ _ _ _ _ _ _ _ _ _ _ _ _ _ _ _ _ aa .nil lR;intro seq x M W hb hl hc;rw[Frame.finish_at,ho];simp only[Option.bind_some,hd];walk_nrm
   have:=PF hJ UH tT Ya hb hr l0 l1 l5 v6 v7 J.ji (.slice (some ⟨J.nb,J.no,none⟩) p.L J.nc) v11 M W r6 x.ok aF h6 h7 BP hl.keep ((hl.keep.block _ tT).trans hib) hl.m6 hc (hl.held.keep (λb h=>⟨h.1,h.2.1⟩) λ_ _=>rfl) (λb hb=>(hl.sp b<|.inl hb).1) (λb hb=>ac8 hJ.base<|hl.nw b hb) h5;rw[hJ.prog]at this;exact this
  .obtain⟨o,ho,bz,hd,hg⟩:∃o,iO[5]?=some o/\o.op=.indexAddr 211 (.tmp 6) (.tmp 7)/\o.dst=some 11/\o.guard=none:=⟨_,rfl,rfl,rfl,rfl⟩;refine ET.val (.pointer<|some ⟨p.Bs,k*4,none⟩) ho kV (by k_ne) (λah acP _=>?_) ?_
   .rw[h6 rfl,h7 rfl];unfold execOp;refine⟨?_,λe he=>?_⟩
    .simp only[bz];go_simp
     intro h;omega
    .simp only[bz]at he;simp[go_sem]at he;rw[events_indexAt_slice _ _ _ _ _ _ (by go_simp) aa]at he;simp at he
   .rw[hd];walk_nrm
    exact ih true true l2 l3 true _ _ _ _ _ _ _ aF h6 h7 h8 h9 (λ_=>rfl) (λ_=>⟨rfl,rfl⟩) hK jQ
def Ta (hJ:mN J P0 p ok Ro acH)(eG:dM P0 P0 ok)(hP:dM P0 Tryz.prog ok)(iv:∀f,ok.fn f=true->ok.bh f=true)(yY:jE P0 c)(hL:p.L<4611686018427387904)(UH:k<4)(tT:Ro bi)(hib:acH.heap[bi]?=some (.cells #[.int .i64 k] 3 (0,0)))(Ya:p.Wg≠p.Bs)
  (DY:∀b,p.Sp b->¬Ro b)(aB:∀b,p.Sp b\/Ro b->b<acH)(Fv:Gl.n<=acH):
  ET p.P false p.I Ph.nE Ro (p.j9 k Ro p.L 0 []) (λ_=>False) (born Tryz.prog<|call47 J p.Wg bi) acH:=by
 rw[hJ.prog];refine ET.c (λw=>JG J p.Wg bi w) ?_;simp only[Bu,Tryz.f156,Option.getD_some];apply ET.sr
 (refine ET.c (λ_=>stepG_defer rfl rfl (by k_ne) rfl) ?_;walk_nrm)
 apply ET.rn;refine ET.drawn RJ λorder ho=>?_
 have e:(Array.replicate iO.size false)=#[false,false,false,false,false,false,false]:=bD;change Ia .any iO (Array.replicate iO.size false) order at ho;rw[e]at ho;exact LM hJ eG hP iv yY hL UH tT hib Ya DY aB Fv ho false false false false false _ _ _ _ _ _ acH rfl (λh=>qC) (λh=>qC) (λh=>qC) (λh=>qC) (λh=>qC) (λh=>qC) (aK.refl _ _)<|ac5 _
end
