import Derived.Test.YthppgbjejomdiaaGreatDoorj16b
import Derived.Stop.Asserts
import Derived.RowKitTokens
import Derived.Lib.Overlaps
set_option linter.all false
set_option maxHeartbeats 2000000
set_option maxRecDepth 100000
open Array renaming replicate->bt
open Go renaming World->ad,execOp->au,Value->av,Event->ax,Addr->az,TypeId->aI,Frame->aV,isAgg->a7,Oper->a9,loadVar->bk,underlying->bn,yielded->bp,Operand->bR,FuncId->bS,sizeOf->bV,wpOps->bW,wpOps_cons->b7,Program->b9,run_callFunc_extern->cf,setRow_other->cn,setRow_size->co,storeCells->cq
open Go.Conc renaming goes_leave1->b6,goes_call->b8,events_callFunc_extern->ce,execOp_call_func->cl,stepG_block->cp,mem_listed->ct
open Go.Extern renaming findNext->b1,find->b4
open Go.Extern.ReflectliteValue renaming parts->bi,method->bs,valueError->bB,flagAddr->bE,isNil->bJ,elem->bK,set->bX,mk->cd
open Go.Extern.SlicesOverlaps renaming overlaps->cc
open Go.Region renaming wanted->a0,ready->bj,Mode->b3
open Go.Result renaming andThen->bm,evThen_ok->b0,evThen->b2
open Go.Sem renaming run->bo,events_bind->bN,run_bind->b5
open Go.Value renaming pointer->aa,agg->ac,int->ao,cells->ci
open Go.World renaming frozen?->aL,cell?->bA,shape?->bO
open List renaming mem_singleton->bM,mem_cons->ch
open Option renaming none->bz
open Or renaming inl->aE,inr->a8
namespace Go.Proofs.YthppgbjejomdiaaGreatDoor
open Conc Conc.Lib ConcR.Gen Extern Extern.Stop RowKit Stop
variable {Stop:(Nat->Prop)->Goroutine->ad->Prop}{a:Act}{ops:Array a9}{s:Array aI}{cs xs r:Array av}{e:Array av->Sem av}{m:Bool}{ok:Ctx}{X:ax->Prop}{b r0:aV}{fn:Func}{f:bS}{Dr:bS->Array av->ad->(av->ad->Prop)->Prop}{c:Int}{L:List (Nat×Array av×aI)}{k:List Item}{rest:List Nat}{B i j:Nat}{M D:Nat->Prop}{o:a9}{x:bR}{P af8:b9}{md:b3}{t ty:aI}{v y:av}{Q:av->ad->Prop}{V W A:ad}
section
structure CS (D:Nat->Prop)(A)(L:List (Nat×Array av×aI))(M:Nat->Prop)(W):Prop where
 own:∀b,D b->M b
 keep:aU D A W
 lt:∀b,M b->b<W
 new:∀b,M b->D b\/A<=b
 Vl:∀b,D b->b<A
 at_:∀p∈L,M p.1/\W.heap[p.1]?=some (.cells p.2.1 p.2.2 (0,0))
section
variable {aj:ad}
def CS.rely (h:CS D A L M W)(k:aU (λb=>M b\/False) W aj):CS D A L M aj:=⟨h.own,h.keep.trans<|k.mono λb g=>aE<|h.own b g,λb g=>agx (h.lt b g) k.size,h.new,h.Vl,λp l=>⟨(h.at_ p l).1,(k.block _<|aE (h.at_ p l).1).trans (h.at_ p l).2⟩⟩
def CS.alloc (h:CS D A L M W)(cs t):CS D A ((W,cs,t)::L) (grow M W<|W.alloc<|.cells cs t) (W.alloc<|.cells cs t):=by (have z:(W.alloc<|.cells cs t).heap.size=(W:Nat)+1:=by show(W.heap.push _).size=_;simp);refine⟨λb g=>aE<|h.own b g,h.keep.trans ⟨λb g=>Below.heap_alloc _ _ _<|h.lt b<|h.own b g,ab,rfl,rfl⟩,λb g=>g.elim (λx=>by rw[z];have:=h.lt b x;omega) And.right,λb g=>g.elim (h.new b) λx=>a8<|agz h.keep.size x.1,h.Vl,λp l=>?_⟩;rcases ch.1 l with rfl|l;exact⟨a8 ⟨agw _,ab⟩,heap_alloc_new _ _⟩;exact⟨aE (h.at_ p l).1,(Below.heap_alloc _ _ _<|h.lt _ (h.at_ p l).1).trans (h.at_ p l).2⟩
def CS.cell (h:CS D A L M W){b}(g:(b,cs,t)∈L)(l:cs[j]?=some v):W.cell? ⟨b,j,none⟩=some v:=by rw[cell_of_row _ _ _ _ _ _ (h.at_ _ g).2];omega
end
section
variable {I:ad->Prop}{Ro:Nat->Prop}
 {cs:List aV}
theorem ET.pure v (ho:ops[i]?=some o)
  (n:ET P m I X Ro Stop M (G (b.at (a.put o.dst v)<|.inRegion ops rest::k) cs) W)(hw:a0 o (bp ops a.tmps):=by rfl)(hk:b.kind≠.early:=by k_ne)(hr:∀W,(au a.eval o).run P W=.ok (.value v) W:=by intro;kernel_rfl)(he:∀W,(au a.eval o).events P W #[]=#[]:=by intro;kernel_rfl):ET P m I X Ro Stop M (G (b.at a<|.inRegion ops (i::rest)::k) cs) W:=
 ET.val v ho hw hk (λaj _ _=>⟨hr aj,λe h=>f7⟩) n
theorem ET.ext v (f:bS)(ho:ops[i]?=some o)
  (n:ET P m I X Ro Stop M (G (b.at (a.put o.dst v)<|.inRegion ops rest::k) cs) W)(hw:a0 o (bp ops a.tmps):=by rfl)(hk:b.kind≠.early:=by k_ne)(hr:∀W,(au a.eval o).run P W=.ok (.value v) W:=by intro;kernel_rfl)(he:∀W,(au a.eval o).events P W #[]=#[⟨.mark<|.extern f,false,true⟩]:=by intro;kernel_rfl):ET P m I X Ro Stop M (G (b.at a<|.inRegion ops (i::rest)::k) cs) W:=
 ET.val v ho hw hk (λaj _ _=>⟨hr aj,λe h=>by rw[he aj]at h;simp at h;exact a8<|a8<|aE ⟨_,rfl,h⟩⟩) n
def xP (e:ax):Prop:=∃f,e=⟨.mark<|.extern f,false,true⟩
def xP.evp {e}(h:xP e):Iw X M Ro e:=by let⟨f,h⟩:=h;exact a8<|a8<|aE ⟨_,rfl,h⟩
def ET.makes (v:Nat->av)(xs t es)(ho:ops[i]?=some o)(hw:a0 o (bp ops a.tmps))(hk:b.kind≠.early)(h:CS D A L M W)
  (l:∀W,(au a.eval o).run P W=.ok (.value<|v W) (W.alloc<|.cells xs t))(he:∀W,(au a.eval o).events P W #[]=es)(z:∀e∈es,xP e)
  (n:∀B M' W',CS D A ((B,xs,t)::L) M' W'->A<=B->(∀p∈L,p.1<B)->ET P m (λ_=>True) X (λ_=>False) Stop M' (G (b.at (a.put o.dst<|v B)<|.inRegion ops rest::k) cs) W'):ET P m (λ_=>True) X (λ_=>False) Stop M (G (b.at a<|.inRegion ops (i::rest)::k) cs) W:=
 ET.oper ho hw hk λaj g _=>⟨_,_,l aj,fM.alloc _ λe h=>(z e (by have:=ct h;rw[he aj]at this;exact this)).evp,n _ _ _ ((h.rely g).alloc xs t) (h.rely g).keep.size λp C=>(h.rely g).lt _ ((h.rely g).at_ p C).1⟩
def ET.looks v (ho:ops[i]?=some o)(hw:a0 o (bp ops a.tmps))(hk:b.kind≠.early)(h:CS D A L M W)
  (l:∀W,CS D A L M W->(au a.eval o).run P W=.ok (.value v) W/\∀e∈(au a.eval o).events P W #[],xP e\/∃p∈L,∃j,e=⟨.cell ⟨p.1,j,bz⟩,false,false⟩)
  (n:ET P m (λ_=>True) X (λ_=>False) Stop M (G (b.at (a.put o.dst v)<|.inRegion ops rest::k) cs) W):ET P m (λ_=>True) X (λ_=>False) Stop M (G (b.at a<|.inRegion ops (i::rest)::k) cs) W:=
 ET.val v ho hw hk (λaj g _=>⟨(l aj<|h.rely g).1,λe he=>by
  rcases(l aj (h.rely g)).2 e he with x|⟨p,z,j,rfl⟩
  .exact x.evp
  .exact ip (h.at_ p z).1⟩) n
def CS.set (h:CS D A ((B,xs,t)::L) M W)(E:A<=B)(C:∀p∈L,p.1<B)(r):CS D A ((B,r,t)::L) M (W.setRow B r):=by have z:(W.setRow B r).heap.size=(W:Nat):=co _ _ _;refine⟨h.own,h.keep.trans ⟨λb l=>cn _ _ _ _ (by have:=h.Vl b l;omega),ab,rfl,rfl⟩,λb l=>by rw[z];exact h.lt b l,h.new,h.Vl,λp g=>?_⟩;rcases ch.1 g with rfl|g;exact⟨(h.at_ _ (agW ..)).1,setRow_heap _ _ _ _ _ _ (h.at_ _ (agW ..)).2⟩;have:=h.at_ p<|agV _ g;exact⟨this.1,(cn _ _ _ _<|agN<|C p g).trans this.2⟩
def ET.writes (r)(ho:ops[i]?=some o)(hw:a0 o (bp ops a.tmps))(hk:b.kind≠.early)(h:CS D A ((B,xs,t)::L) M W)(E:A<=B)(F:∀p∈L,p.1<B)
  (z:∀W,W.heap[B]?=some (.cells xs t (0,0))->(au a.eval o).run P W=.ok .skip (W.setRow B r)/\∀e∈(au a.eval o).events P W #[],∃j,e=⟨.cell ⟨B,j,bz⟩,true,false⟩)
  (n:∀W',CS D A ((B,r,t)::L) M W'->ET P m (λ_=>True) X (λ_=>False) Stop M (G (b.at (a.put o.dst undef)<|.inRegion ops rest::k) cs) W'):ET P m (λ_=>True) X (λ_=>False) Stop M (G (b.at a<|.inRegion ops (i::rest)::k) cs) W:=
 ET.none ho hw hk λaj l _=>by
  have C:=h.rely l;have g:=C.at_ _ (agW ..);refine⟨_,(z aj g.2).1,fM.row r g.1 λe he=>?_,?_⟩
  .obtain⟨j,rfl⟩:=(z aj g.2).2 e<|mem_listed he;exact ip g.1
  .rw[show grow M aj _=M from cU (co _ _ _)];exact n _<|C.set E F r
end
section
variable {y:bR}{d:Array av}{u w:av}{p q:az}{n:Int}
def WK (l:o.op=.store 192 x y)(z:a.eval x=aa B)(g:a.eval y=ac #[aa p,aa q,ao .u64 n])(C:W.heap[B]?=some (.cells d ty (0,0)))(O:d.size=3): (au a.eval o).run Tryz.prog W=.ok .skip (W.setRow B #[aa p,aa q,ao .u64 n])/\∀e∈(au a.eval o).events Tryz.prog W #[],∃j,e=⟨.cell ⟨B,j,none⟩,true,false⟩:=by obtain⟨cs,F,R,E⟩:∃cs:Array av,#[aa<|some p,aa<|some q,ao .u64 n]=cs/\cs.size=3/\∀v∈cs.toList,v.oneCell'=true:=⟨_,rfl,rfl,sU⟩;rw[F]at g⊢;have h:=run_storeCells_at (P:=Tryz.prog) B 0 ty cs.toList 0 d W C cQ E;have J:d.toList.drop (0+cs.toList.length)=[]:=cQ;rw[J]at h;refine⟨?_,λe he=>?_⟩;(.unfold au;simp[l,z,g];go_simp);have h:=nz (P:=Tryz.prog) B 0 ty cs.toList 0 d W #[] C cQ E e;unfold au at he;simp[l,z,g]at he;simp[go_sem]at he;grind
def yJ (g:o.op=.load 192 x)(l:a.eval x=aa B)(F:W.heap[B]?=some (.cells #[u,v,w] ty (0,0))): (au a.eval o).run Tryz.prog W=.ok (.value<|ac #[u,v,w]) W/\∀e∈(au a.eval o).events Tryz.prog W #[],∃j,e=⟨.cell ⟨B,j,none⟩,false,false⟩:=by
 have z:W.cell? B=some u:=by grind [bA]
 have C:W.cell? ⟨B,1,none⟩=some v:=by grind [bA]
 have E:W.cell? ⟨B,2,none⟩=some w:=by grind [bA]
 refine⟨?_,λe he=>?_⟩
 .unfold au;simp[g,l];go_simp
 unfold au at he;simp[g,l]at he;simp[go_sem,z,C,E]at he;grind
end
def got {s:Sem Next}{r}(h:W.heap[B]?=some (.cells cs t (0,0))->s.run P W=r/\∀e∈s.events P W #[],∃j,e=⟨.cell ⟨B,j,none⟩,false,false⟩)
  (l:CS D A L M W)(g:(B,cs,t)∈L):s.run P W=r/\∀e∈s.events P W #[],xP e\/∃p∈L,∃j,e=⟨.cell ⟨p.1,j,none⟩,false,false⟩:=
 have x:=h (l.at_ _ g).2
 ⟨x.1,λe z=>a8 ⟨_,g,x.2 e z⟩⟩
def rlm (z f) v:
  bs z f #[v]=(do match<-bi v with|none=>z|some (t,a,C)=>f t a C<|C%32):=rfl
def rI (a:az)(w:ad):(bi<|ac #[aa<|some ⟨9,156,none⟩,aa a,ao .u64 150]).run Tryz.prog w=.ok (some (156,a,150)) w:=aO
def RD (a:az)(w es):(bi<|ac #[aa<|some ⟨9,156,none⟩,aa a,ao .u64 150]).events Tryz.prog w es=es:=aO
def RE (a p:az)(W:ad)(es:Array ax)(g:W.cell? a=some (aa p)): (bs (bB "reflectlite.Value.IsNil" 0) bJ #[ac #[aa<|some ⟨9,156,none⟩,aa a,ao .u64 150]]).run Tryz.prog W=.ok false W/\(bs (bB "reflectlite.Value.IsNil" 0) bJ #[ac #[aa<|some ⟨9,156,none⟩,aa a,ao .u64 150]]).events Tryz.prog W es=es.push ⟨.cell a,false,false⟩:=by rw[rlm];constructor;simp_all [b5,rI,bm,bJ,bk,a7];simp[bN,rI,RD,b0];simp[bJ,bk,a7,bn,Tryz.underlying156,g,b2,go_sem];rfl
def FZ {xs:Array bR}{b:Nat}(T:o.op=.call {callee:=.value<|.func f,args:=xs,argTypes:=s}) (J:P.funcs[f]?=some fn)(O:(fn.name== "runtime.NumGoroutine")=false)(hb:fn.body.isNone)(R:b1 fn=none)(he:b4 fn=some e)(C:xs.map a.eval=r) (h:∀es,(e r).run P W=.ok v W/\(e r).events P W es=es.push ⟨.cell b,false,false⟩): (au a.eval o).run P W=.ok (.value v) W/\∀e∈(au a.eval o).events P W #[],xP e\/e=⟨.cell b,false,false⟩:=by rw[cl T,C];refine⟨by rw[cf J O hb R he,(h #[]).1];rfl,λx C=>?_⟩;rw[ce J O hb R he,(h _).2]at C;simp at C;rcases C with rfl|rfl;exact aE ⟨f,rfl⟩;grind
def Yc {A}{es:Array ax}(h:A/\∀e∈es,xP e\/e=⟨.cell B,false,false⟩)(g:(B,cs,t)∈L):
  A/\∀e∈es,xP e\/∃p∈L,∃j,e=⟨.cell ⟨p.1,j,none⟩,false,false⟩:=⟨h.1,λe l=>(h.2 e l).imp id λx=>⟨_,g,0,x⟩⟩
def LU {T}(g:o.op=.load T x)(l:a.eval x=aa B)(z:∀w,(a7 T).run P w=.ok false w)(C:∀w es,(a7 T).events P w es=es)(E:W.heap[B]?=some (.cells #[v] ty (0,0))): (au a.eval o).run P W=.ok (.value v) W/\∀e∈(au a.eval o).events P W #[],∃j,e=⟨.cell ⟨B,j,none⟩,false,false⟩:=by simp_all [au,bA,Instr.loadAt,Instr.sureAddr,bk]
def AG (w):(Rtype.elem? 156).run Tryz.prog w=.ok (some 149) w:=aO
def N7 (w es):(Rtype.elem? 156).events Tryz.prog w es=es:=aO
def aaf (p:az)(w:ad):(cd 149 p bE).run Tryz.prog w=.ok (ac #[aa<|some ⟨9,149,none⟩,aa p,ao .u64 409]) w:=aO
def VL (p:az)(w:ad)(es:Array ax):(cd 149 p bE).events Tryz.prog w es=es:=aO
def rl_elem (a p:az)(W:ad)(es:Array ax)(g:W.cell? a=some (aa p)): (bs (bB "reflectlite.Value.Elem" 0) bK #[ac #[aa<|some ⟨9,156,none⟩,aa a,ao .u64 150]]).run Tryz.prog W=.ok (ac #[aa<|some ⟨9,149,none⟩,aa p,ao .u64 409]) W/\(bs (bB "reflectlite.Value.Elem" 0) bK #[ac #[aa<|some ⟨9,156,none⟩,aa a,ao .u64 150]]).events Tryz.prog W es=es.push ⟨.cell a,false,false⟩:=by rw[rlm];constructor;simp[b5,rI,bm];simp[bK,bk,a7,bn,Tryz.underlying156,g,bm,AG,aaf];simp[bN,rI,RD,b0];simp[bK,bk,a7,bn,Tryz.underlying156,g,b2,AG,VL,N7,go_sem];rfl
def Dq (a:az)(w):(bi<|ac #[aa<|some ⟨9,149,none⟩,aa a,ao .u64 409]).run Tryz.prog w=.ok (some (149,a,409)) w:=aO
def Dt (a:az)(w:ad):(bi<|ac #[aa<|some ⟨9,149,none⟩,aa a,ao .u64 153]).run Tryz.prog w=.ok (some (149,a,153)) w:=aO
def aad (a:az)(w es):(bi<|ac #[aa<|some ⟨9,149,none⟩,aa a,ao .u64 409]).events Tryz.prog w es=es:=aO
def aae (a:az)(w es):(bi<|ac #[aa<|some ⟨9,149,none⟩,aa a,ao .u64 153]).events Tryz.prog w es=es:=aO
def Do (w):(Rtype.directlyAssignable 149 149).run Tryz.prog w=.ok true w:=aO
def Hh (w es):(Rtype.directlyAssignable 149 149).events Tryz.prog w es=es:=aO
def Hi (w:ad):(bV 149).run Tryz.prog w=.ok 1 w:=aO
def N8 (w:ad)(es:Array ax):(bV 149).events Tryz.prog w es=es:=aO
def aag (z b:az) c old (W:ad)(es:Array ax)(hb:W.cell? b=some (ao .i64 c))(O:W.cell? z=some old)(R:W.frozen? z=false): (bX #[ac #[aa<|some ⟨9,149,none⟩,aa z,ao .u64 409],ac #[aa<|some ⟨9,149,none⟩,aa b,ao .u64 153]]).run Tryz.prog W=.ok (.tuple #[]) (W.setCell z c)/\(bX #[ac #[aa<|some ⟨9,149,none⟩,aa z,ao .u64 409],ac #[aa<|some ⟨9,149,none⟩,aa b,ao .u64 153]]).events Tryz.prog W es=(es.push ⟨.cell b,false,false⟩).push ⟨.cell z,true,false⟩:=by delta bX ReflectliteValue.set.match_3;rw[dif_pos bQ];dsimp only[Array.getLit,List.getElem_toArray,List.getElem_cons_zero,List.getElem_cons_succ];have J:=run_loadCells_list (P:=Tryz.prog) (w:=W) b [c] (λj v C=>by match j,C with|0,C=>simp at C;subst C;simpa[Addr.add]using hb);simp at J;constructor;simp only[b5,Dq,Dt,bm];simp[bE,bk,a7,bn,Tryz.underlying149,J,bm,Do,Hi,storeVar,ci,cq,Addr.add];rw[run_store Tryz.prog W z _ _ bQ];simp[O,R];simp[bN,Dq,Dt,aad,aae,b0];simp[bE,bk,a7,bn,Tryz.underlying149,J,b2,bm,Do,Hh,Hi,N8,storeVar,ci,cq,Addr.add,loadCells,go_sem,O,R,hb];rfl
def CS.aeO {x}(h:CS D A L M W)(l:(B,#[x],t)∈L)(E:A<=B) y:CS D A [(B,#[y],t)] M (W.setCell B y):=by have z:=iA W B y;refine⟨h.own,h.keep.trans ⟨λb g=>?_,ab,rfl,rfl⟩,λb g=>by rw[z];exact h.lt b g,h.new,h.Vl,λp C=>?_⟩;rw[gq,if_neg (λe=>by have:=h.Vl b g;simp at e;omega)];obtain rfl:=bM.1 C;refine⟨(h.at_ _ l).1,?_⟩;rw[gq,if_pos rfl,(h.at_ _ l).2];simp
def Uj {xs:Array bR}{b J:az}(U:o.op=.call {callee:=.value<|.func f,args:=xs,argTypes:=s}) (O:P.funcs[f]?=some fn)(R:(fn.name== "runtime.NumGoroutine")=false)(hb:fn.body.isNone)(T:b1 fn=none)(he:b4 fn=some e)(C:xs.map a.eval=r) (h:∀es,(e r).run P W=.ok v (W.setCell J y)/\(e r).events P W es=(es.push ⟨.cell b,false,false⟩).push ⟨.cell J,true,false⟩): (au a.eval o).run P W=.ok (.value v) (W.setCell J y)/\∀e∈(au a.eval o).events P W #[],xP e\/e=⟨.cell b,false,false⟩\/e=⟨.cell J,true,false⟩:=by rw[cl U,C];refine⟨by rw[cf O R hb T he,(h #[]).1];rfl,λx C=>?_⟩;rw[ce O R hb T he,(h _).2]at C;simp only[Array.mem_push,Array.not_mem_empty,false_or]at C;rcases C with(rfl|rfl)|rfl;exact aE ⟨f,rfl⟩;all_goals grind
def ET.aeU {cs}
  {C x z u} v (ho:ops[i]?=some o)(hw:a0 o (bp ops a.tmps))(hk:b.kind≠.early)(h:CS D A L M W)(l:(B,#[x],t)∈L)(F:(C,#[z],u)∈L)(J:A<=B)
  (O:∀W,CS D A L M W->(au a.eval o).run P W=.ok (.value v) (W.setCell ⟨B,0,bz⟩ y)/\∀e∈(au a.eval o).events P W #[],xP e\/e=⟨.cell ⟨C,0,bz⟩,false,false⟩\/e=⟨.cell ⟨B,0,bz⟩,true,false⟩)
  (n:∀W',CS D A [(B,#[y],t)] M W'->ET P m (λ_=>True) X (λ_=>False) Stop M (G (b.at (a.put o.dst v)<|.inRegion ops rest::k) cs) W'):ET P m (λ_=>True) X (λ_=>False) Stop M (G (b.at a<|.inRegion ops (i::rest)::k) cs) W:=
 ET.oper ho hw hk λaj E _=>by
  have g:=h.rely E;have q:=O aj g;refine⟨v,_,q.1,fM.set y (g.at_ _ l).1 λe he=>?_,?_⟩
  .rcases q.2 e (ct he)with x|rfl|rfl
   .exact x.evp
   .exact ip (g.at_ _ F).1
   .exact ip (g.at_ _ l).1
  .rw[show grow M aj _=M from cU (iA _ _ _)];exact n _<|g.aeO l J y
def CS.less {g}(h:CS D A L M W)(l:∀p∈g,p∈L):CS D A g M W:=⟨h.own,h.keep,h.lt,h.new,h.Vl,λp z=>h.at_ p<|l p z⟩
def CS.thaw (h:CS D A L M W)(g:(B,cs,t)∈L):W.frozen? B=false:=by unfold aL;rw[(h.at_ _ g).2];simp
noncomputable def Cx:Code:=Tryz.f94.body.getD .skip
variable {rest:List aV}
def T4 (c:Int)(Y:CS M W [(3,#[.iface 222<|ac #[aa<|some ⟨9,51,none⟩]],195)] M W): ET Tryz.prog true (λ_=>True) Ph.oD (λ_=>False) (λM' g W'=>g=G (r0.finish c) rest/\CS M W [] M' W') M (G ((base 94).at ⟨#[.iface 149<|ac #[c],ud,ud,ud,ud,ud,ud,ud,ud],[]⟩ [.code Cx])<|r0::rest) W:=by simp[Cx,Tryz.f94,Option.getD_some];apply ET.sr;apply ET.pure (ao .i64 0) rfl;walk_nrm;apply ET.ns;refine ET.makes (λB=>aa<|some ⟨B,0,none⟩) #[(0:Int)] 149 #[] rfl rfl (by k_ne) Y (λ_=>aO) (λ_=>aO) aN λC gt Pb Z o1 l1=>?_;walk_nrm;apply ET.rn;apply ET.sq;apply ET.sr;apply ET.pure (.iface 149<|ac #[c]) rfl;walk_nrm;apply ET.pure (.iface 156<|aa C) rfl;walk_nrm;(refine ET.k rfl λ_ _ _=>b8 rfl rfl (by k_ne) rfl Tryz.func121 aO rfl ⟨⟨rfl,λe he=>ji⟩,?_⟩;walk_nrmf Tryz.f121);apply ET.sr;apply ET.pure false rfl;walk_nrm;apply ET.rn;apply ET.sq;apply ET.sr;refine ET.pure (.iface 149<|ac #[c]) rfl ?_;walk_nrm;refine ET.pure false rfl ?_;walk_nrm;apply ET.rn;refine ET.iu rfl ?_;apply ET.sk;apply ET.sq;apply ET.sr;refine ET.pure (.iface 156<|aa C) rfl ?_;walk_nrm;refine ET.pure false rfl ?_;walk_nrm;apply ET.rn;refine ET.iu rfl ?_;apply ET.sk;apply ET.sr;refine ET.pure (.iface 156<|aa C) rfl ?_;walk_nrm;refine ET.makes (λB=>ac #[aa<|some ⟨9,156,none⟩,aa<|some ⟨B,0,none⟩,ao .u64 150]) #[aa C] 156 #[⟨.mark<|.extern 152,false,true⟩] rfl rfl (by k_ne) Z (λ_=>aO) (λ_=>aO) (by simp[xP]) λJ sQ TJ h2 o2 l2=>?_;walk_nrm;refine ET.makes (λB=>aa<|some ⟨B,0,none⟩) #[aa none,aa none,ao .u64 0] 192 #[] rfl rfl (by k_ne) h2 (λ_=>aO) (λ_=>aO) aN λbx ay aG h3 o3 l3=>?_;walk_nrm;refine ET.writes #[aa<|some ⟨9,156,none⟩,aa J,ao .u64 150] rfl rfl (by k_ne) h3 o3 l3 (λW hW=>WK rfl rfl rfl hW rfl) λaZ O=>?_;walk_nrm;apply ET.ns;apply ET.looks (ac #[aa<|some ⟨9,156,none⟩,aa J,ao .u64 150]) rfl rfl (by k_ne) O λW hW=>got (yJ rfl rfl) hW<|.head _;walk_nrm;apply ET.ext (.iface 222<|ac #[aa<|some ⟨9,156,none⟩]) 153 rfl;walk_nrm;apply ET.pure (.iface 222<|ac #[aa<|some ⟨9,156,none⟩]) rfl;walk_nrm;apply ET.rn;apply ET.sq;apply ET.sr;refine ET.pure (.iface 222<|ac #[aa<|some ⟨9,156,none⟩]) rfl ?_;walk_nrm;apply ET.ext (ao .u8 22) 249 rfl;walk_nrm;refine ET.pure false rfl ?_;walk_nrm;refine ET.pure false rfl ?_;walk_nrm;refine ET.looks (ac #[aa<|some ⟨9,156,none⟩,aa J,ao .u64 150]) rfl rfl (by k_ne) O (λW hW=>got (yJ rfl rfl) hW<|.head _) ?_;walk_nrm;apply ET.looks false rfl rfl (by k_ne) O λW hW=>Yc (FZ rfl Tryz.func154 aO aO aO aO (by simp[Act.eval]) λR=>RE J C W R<|hW.cell (.tail _<|.head _) rfl)<|.tail _<|.head _;walk_nrm;refine ET.pure false rfl ?_;walk_nrm;apply ET.rn;refine ET.iu rfl ?_;apply ET.sk;apply ET.sr;refine ET.pure (.iface 222<|ac #[aa<|some ⟨9,156,none⟩]) rfl ?_;walk_nrm;apply ET.ext (.iface 222<|ac #[aa<|some ⟨9,149,none⟩]) 280 rfl;walk_nrm;apply ET.pure (.iface 222<|ac #[aa<|some ⟨9,149,none⟩]) rfl;walk_nrm;apply ET.rn;apply ET.sq;apply ET.sr;refine ET.pure (.iface 222<|ac #[aa<|some ⟨9,149,none⟩]) rfl ?_;walk_nrm;apply ET.ext (ao .u8 25) 249 rfl;walk_nrm;apply ET.pure true rfl;walk_nrm;refine ET.pure true rfl ?_;walk_nrm;refine ET.pure (.iface 222<|ac #[aa<|some ⟨9,149,none⟩]) rfl ?_;walk_nrm;apply ET.looks (.iface 222<|ac #[aa<|some ⟨9,51,none⟩]) rfl rfl (by k_ne) O λW hW=>got (LU rfl rfl (λ_=>aO) λ_ _=>aO) hW<|.tail _<|.tail _<|.tail _<|.head _;walk_nrm;apply ET.ext true 281 rfl;walk_nrm;refine ET.pure false rfl ?_;walk_nrm;refine ET.pure false rfl ?_;walk_nrm;apply ET.rn;refine ET.iu rfl ?_;apply ET.sk;apply ET.sr;refine ET.pure (.iface 149<|ac #[c]) rfl ?_;walk_nrm;refine ET.pure (.iface 156<|aa C) rfl ?_;walk_nrm;refine ET.looks (ac #[aa<|some ⟨9,156,none⟩,aa J,ao .u64 150]) rfl rfl (by k_ne) O (λW hW=>got (yJ rfl rfl) hW<|.head _) ?_;walk_nrm;refine ET.pure (.iface 222<|ac #[aa<|some ⟨9,149,none⟩]) rfl ?_;walk_nrm;(refine ET.k rfl λ_ _ _=>b8 rfl rfl (by k_ne) rfl Tryz.func155 aO rfl ⟨⟨rfl,λe he=>ji⟩,?_⟩;walk_nrmf Tryz.f155);apply ET.sr;refine ET.makes (λB=>aa<|some ⟨B,0,none⟩) #[aa<|some ⟨9,156,none⟩,aa J,ao .u64 150] 192 #[] rfl rfl (by k_ne) O (λ_=>aO) (λ_=>aO) aN λbb a1 a2 T o5 l5=>?_;walk_nrm;refine ET.pure false rfl ?_;walk_nrm;apply ET.rn;refine ET.c (λ_=>cp) ?_;refine ET.c (λ_=>stepG_loop) ?_;refine ET.c (λ_=>cp) ?_;apply ET.sq;apply ET.sr;refine ET.pure (.iface 149<|ac #[c]) rfl ?_;walk_nrm;apply ET.ext (.iface 222<|ac #[aa<|some ⟨9,149,none⟩]) 175 rfl;walk_nrm;refine ET.pure (.iface 222<|ac #[aa<|some ⟨9,149,none⟩]) rfl ?_;walk_nrm;apply ET.ext true 278 rfl;walk_nrm;apply ET.rn;refine ET.mc rfl ?_;apply ET.sr;apply ET.looks (ac #[aa<|some ⟨9,156,none⟩,aa J,ao .u64 150]) rfl rfl (by k_ne) T λW hW=>got (yJ rfl rfl) hW<|.head _;walk_nrm;apply ET.looks (ac #[aa<|some ⟨9,149,none⟩,aa C,ao .u64 409]) rfl rfl (by k_ne) T λW hW=>Yc (FZ rfl Tryz.func176 aO aO aO aO (by simp[Act.eval]) λR=>rl_elem J C W R<|hW.cell (.tail _<|.tail _<|.head _) rfl)<|.tail _<|.tail _<|.head _;walk_nrm;refine ET.pure (.iface 149<|ac #[c]) rfl ?_;walk_nrm;refine ET.makes (λB=>ac #[aa<|some ⟨9,149,none⟩,aa<|some ⟨B,0,none⟩,ao .u64 153]) #[c] 149 #[⟨.mark<|.extern 152,false,true⟩] rfl rfl (by k_ne) T (λ_=>aO) (λ_=>aO) (by simp[xP]) λbe a3 a4 h6 o6 l6=>?_;walk_nrm;refine ET.aeU (.tuple #[]) rfl rfl (by k_ne) h6 (.tail _<|.tail _<|.tail _<|.tail _<|.head _) (.head _) o1 (λW hW=>Uj rfl Tryz.func177 aO aO aO aO (by simp[Act.eval]) λR=>aag C be c _ W R (hW.cell (.head _) rfl) (hW.cell (.tail _<|.tail _<|.tail _<|.tail _<|.head _) rfl)<|hW.thaw<|.tail _<|.tail _<|.tail _<|.tail _<|.head _) λa5 U=>?_;walk_nrm;apply ET.ns;refine ET.pure true rfl ?_;walk_nrm;apply ET.rn;apply ET.rt;(refine ET.k rfl λ_ _ _=>b6 rfl rfl Tryz.func155 rfl ⟨⟨rfl,λe he=>ji⟩,?_⟩;walk_nrm);refine ET.pure true rfl ?_;walk_nrm;apply ET.rn;apply ET.rt;(refine ET.k rfl λ_ _ _=>b6 rfl rfl Tryz.func121 rfl ⟨⟨rfl,λe he=>ji⟩,?_⟩;walk_nrm);apply ET.rn;refine ET.mc rfl ?_;apply ET.sr;apply ET.pure (aa C) rfl;walk_nrm;apply ET.looks c rfl rfl (by k_ne) U λW hW=>got (LU rfl rfl (λ_=>aO) λ_ _=>aO) hW<|.head _;walk_nrm;apply ET.pure c rfl;walk_nrm;apply ET.rn;apply ET.rt;refine ET.ES (ao .i64 c) rfl rfl Tryz.func94 (λaj _ _=>⟨aO,λe he=>?_⟩) ?_;rw[show(results Tryz.f94 _).events Tryz.prog aj #[]=#[] by kernel_rfl]at he;simp at he;exact ET.stop λW' k _=>⟨rfl,(U.rely k).less aN⟩
def T5 (l:CS M W [] M W): ET Tryz.prog true (λ_=>True) Ph.oD (λ_=>False) (λM' g W'=>g=G (r0.finish<|ao .i64 0) rest/\CS M W [] M' W') M (G ((base 94).at ⟨#[.nilIface,ud,ud,ud,ud,ud,ud,ud,ud],[]⟩ [.code Cx])<|r0::rest) W:=by simp[Cx];apply ET.sr;apply ET.pure (ao .i64 0) rfl;walk_nrm;apply ET.ns;refine ET.makes (λB=>aa<|some ⟨B,0,none⟩) #[(0:Int)] 149 #[] rfl rfl (by k_ne) l (λ_=>aO) (λ_=>aO) aN λz E F C J O=>?_;walk_nrm;apply ET.rn;apply ET.sq;apply ET.sr;apply ET.pure (.nilIface) rfl;walk_nrm;apply ET.pure (.iface 156<|aa z) rfl;walk_nrm;(refine ET.k rfl λ_ _ _=>b8 rfl rfl (by k_ne) rfl Tryz.func121 aO rfl ⟨⟨rfl,λe he=>ji⟩,?_⟩;walk_nrmf Tryz.f121);apply ET.sr;apply ET.pure false rfl;walk_nrm;apply ET.rn;apply ET.sq;apply ET.sr;apply ET.pure (.nilIface) rfl;walk_nrm;apply ET.pure true rfl;walk_nrm;apply ET.rn;refine ET.mc rfl ?_;apply ET.sr;apply ET.pure false rfl;walk_nrm;apply ET.rn;apply ET.rt;(refine ET.k rfl λ_ _ _=>b6 rfl rfl Tryz.func121 rfl ⟨⟨rfl,λe he=>ji⟩,?_⟩;walk_nrm);apply ET.rn;refine ET.iu rfl ?_;apply ET.sk;apply ET.sr;apply ET.pure (ao .i64 0) rfl;walk_nrm;apply ET.rn;apply ET.rt;refine ET.ES (ao .i64 0) rfl rfl Tryz.func94 (λaj _ _=>⟨aO,λe he=>?_⟩) ?_;rw[show(results Tryz.f94 _).events Tryz.prog aj #[]=#[] by kernel_rfl]at he;grind;exact ET.stop λW' k _=>⟨rfl,(C.rely k).less aN⟩
end
section
def LH (v:av)(c:Int):Prop:=(v=.nilIface/\c=0)\/v=.iface 149 (ac #[c])
def zr:Obj:=.cells #[.iface 222<|ac #[aa<|some ⟨9,51,none⟩]] 195 (0,0)
def MC (M:Nat->Prop)(W:ad):Prop:=M 3/\W.heap[3]?=some zr
def DrC (f:bS)(xs:Array av)(V:ad)(R:av->ad->Prop):Prop:=f=94/\∃v c,xs=#[v]/\LH v c/\R=λr C=>r=ao .i64 c/\C=V
def PD:Tryz.f94.body=some Cx:=rfl
def ML v:Frame.enter Tryz.prog 94 #[v] .normal=(base 94).at ⟨#[v,ud,ud,ud,ud,ud,ud,ud,ud],[]⟩ [.code Cx]:=by rw[enter_at #[v] Tryz.func94 PD];rfl
def FR {O gs rest t q sl}(Y:LH v c)(Z:MC M W) (h:dR Tryz.prog O jN jN M gs (G (Frame.enter Tryz.prog 94 #[v] .normal)<|r0::rest) W t q): ∃N C M' W' R J T,runNT Tryz.prog N (crowd gs W sl) t=(.next<|crowd C W' R,J)/\dR Tryz.prog O jN jN M' C (G (r0.finish c) rest) W' J T/\CS M W [] M' W':=by have z:∀b,M b->b<W:=λb hb=>h.lt b<|aE hb;(have hE:ET Tryz.prog true (λ_=>True) Ph.oD jN (λM' g W'=>g=G (r0.finish c) rest/\CS M W [] M' W') M (G (Frame.enter Tryz.prog 94 #[v] .normal)<|r0::rest) W:=by rw[ML];rcases Y with⟨rfl,rfl⟩|rfl;exact T5<|⟨λ_ h=>h,aU.refl _ _,z,λ_ h=>aE h,z,λp U=>cQ⟩;exact T4 c ⟨λ_ h=>h,aU.refl _ _,z,λ_ h=>aE h,z,λp U=>by obtain rfl:=bM.1 U;exact Z⟩);let⟨r,hr⟩:=hE;let⟨N,C,M',a',w',R,J,T,h1,_,h3,h4,_⟩:=jW (λ_=>trivial) r _ gs M _ W sl t q (agw _) h hr;obtain⟨rfl,h5⟩:=h3 w' (aU.refl _ _) trivial;grind
section
variable [Gl]
def Ns {ρ:Ren}{O}(h:LH v c)(J:ar ok ρ v O):O=v:=by rcases h with⟨rfl,_⟩|rfl;cases J;rfl;cases J with|iface t J=>cases J with|@agg xs C e J=>(have:C=#[.int .i64 c]:=by refine Array.ext ab λi R T=>?_;(have U:i=0:=by simp at T;omega);subst U;have:=J 0 c C[0] rfl<|agD R;generalize C[0]=z at this;cases this;rfl);grind
def PL:qh Tryz.prog ok MC DrC:=by rintro f xs V ρ J W M U gs r0 rest t q sl R Y ⟨rfl,v,c,rfl,O,rfl⟩ T hw ho Z;obtain⟨v',e0,VH⟩:=T.get (i:=0) rfl;(obtain rfl:J=#[v']:=by refine Array.ext (by simpa using T.size.symm) λi h1 h2=>?_;grind);obtain rfl:=Ns O VH;obtain⟨N,kR,M',W',oE,t',q',k1,k2,C⟩:=FR O Y Z;exact⟨N,kR,W',oE,t',q',U,M',c,ρ,c,V,k1,k2,Ren.le_refl _,.int _ _,hw.others ho<|C.keep.mono λb hb=>hb.elim id λx=>x.elim,λb d hb=>C.own d<|ho b d hb,⟨rfl,rfl⟩,C.keep.mono λ_ h=>h.1,C.own,λb d hb=>.inl hb,λ_ _=>rfl⟩
def ZF:qi ok DrC:=by rintro f xs V C v ρ R ⟨_,J,c,_,_,rfl⟩ ⟨rfl,rfl⟩ _ hw;exact⟨ρ,Ren.le_refl _,.int _ _,hw⟩
end
section
variable {N:Nat}{w w':ad}
structure Bl (N:Nat)(w w':ad):Prop where
 size:(w:Nat)<=w'
 block:∀k,k<N->w'.heap[k]?=w.heap[k]?
def Bl.refl N (w):Bl N w w:=⟨agw _,λ_ _=>rfl⟩
def Bl.of (h:Below N w w'):Bl N w w':=⟨h.size,h.block⟩
def Bl.kP {τ:Nat->Question->Nat}{d}(h:Below (re V τ d) (re V τ d) w):Bl V V w:=⟨h.size,h.block⟩
def Bl.trans {M a b c}(h:Bl N a b)(k:Bl M b c)(C:N<=M):Bl N a c:=⟨agz h.size k.size,λi z=>(k.block i ab).trans<|h.block i z⟩
def Bl.cell (h:Bl N w w'){b}(g:b<N)(l:w.cell? ⟨b,j,none⟩=some v):w'.cell? ⟨b,j,none⟩=some v:=by simp[bA,h.block b g]at l⊢;omega
end
def PN (K R:Act->ad->Prop):Exit->Act->ad->Prop
 |.normal=>K
 |.ret=>R
 |_=>λ_ _=>False
section
variable [Gl]{c:aV}{cs:List aV}
def ae.D8 (E:dC af8 ok c Dr)(hb:ok.aP b.fn)(C T K R) (h:∀τ d,ak af8 (PN K R) C a<|re V τ d) (Z:∀a' w',K a' w'->ae af8 ok c Dr Q ⟨b.at a'<|.code T::k,cs,w'⟩)(hR:∀a' w' z,R a' w'->ae af8 ok c Dr Q ⟨{b.at a' z with mode:=.returning},cs,w'⟩): ae af8 ok c Dr Q ⟨b.at a<|.code (Proofs.YthppgbjejomdiaaGreatDoor.chain C T)::k,cs,V⟩:=by refine ae.of_steps E.pair E.shut E.floor (λU=>(∃a' w',K a' w'/\U=⟨b.at a'<|.code T::k,cs,w'⟩)\/∃a' w' z,R a' w'/\U=⟨{b.at a' z with mode:=.returning},cs,w'⟩) ?_ (λτ d=>?_) ?_;rintro _ (⟨a',w',_,rfl⟩|⟨a',w',z,_,rfl⟩)<;>assumption;obtain⟨e,a',w',J,Y⟩:=qp C (h τ d) b k _;(cases e with|normal=>exact⟨_,aE ⟨a',w',J,rfl⟩,Y⟩|ret=>obtain⟨z,hs⟩:=Y;exact⟨_,a8 ⟨a',w',z,J,rfl⟩,hs⟩|_=>exact J.elim);rintro _ (⟨a',w',O,rfl⟩|⟨a',w',z,O,rfl⟩);exact Z a' w' O;exact hR a' w' z O
end
def nD (md:b3)(ops:Array a9):Nat->Array Bool->List (List Nat)
 |0,_=>[[]]
 |n+1,l=>if(bj md ops l).isEmpty then[[]]else(bj md ops l).flatMap λi=>(nD md ops n<|l.setIfInBounds i true).map (i::·)
def Vw {l o}(h:Fm md ops l o):∀n,unl ops l<=n->o∈nD md ops n l:=by induction h with|nil h=>(intro n _;cases n with|zero=>simp[nD]|succ n=>grind [nD])|@cons l i rest g _ C=>intro n E;have F:=Mu g;cases n with|zero=>omega|succ n=>(have z:(bj md ops l).isEmpty=false:=by grind);simp[nD];grind
def Q7 {P:b9}{md:b3}{ops:Array a9}{Q:Exit->Act->ad->Prop}:∀(n:Nat) {l:Array Bool} {o:List Nat} {a:Act} {w:ad},o∈nD md ops n l->wpAny P md ops Q n l a w->bW P ops Q o a w
 |0,l,o,a,w,ho,h=>by
  simp only[nD,bM]at ho;subst ho;exact h.2
 |n+1,l,o,a,w,ho,h=>by
  simp only[nD]at ho;split at ho
  .rename_i g;simp only[bM]at ho;subst ho;exact h.1<|by simpa using g
  .simp only[List.mem_flatMap,List.mem_map]at ho;obtain⟨i,z,rest,C,rfl⟩:=ho;rw[b7];exact wpOp_mono (λa w=>Q7 n C)<|h.2 i z
def RA {P:b9}{ops C:Array a9}{Q:Exit->Act->ad->Prop}(φ:Nat->Nat)(hs:∀i,i<C.size->ops[φ i]?=C[i]?)(R:∀o∈C,o.guard=none):∀(l:List Nat) {a:Act} {w:ad},(∀i∈l,i<C.size)->bW P C Q l a w->bW P ops Q (l.map φ) a w
 |[],_,_,_,h=>h
 |i::l,a,w,T,h=>by
  rw[List.map_cons,b7];rw[b7]at h;have J:=T i (agW ..);have ho:=agD J;have O:=R _<|Array.getElem_mem J;have U:∀(f:Nat->Option Bool),a0 C[i] f=true:=λf=>by simp[a0,O]
  refine wpOp_mono (λa w h=>RA φ hs R l (λj Y=>T j<|agV _ Y) h) ?_;unfold wpOp at h⊢;rw[hs i J,ho];rw[ho]at h;simp only[U,if_true]at h⊢;exact h
section
variable [Gl]{c:aV}{cs:List aV}
def ae.Aw (E:dC af8 ok c Dr)(hb:ok.aP b.fn=true)(l r:List Nat)(K:Act->ad->Prop)(h:∀τ d,bW af8 ops (λe a w=>e=.normal/\K a w) l a<|re V τ d)(z:∀a' w',K a' w'->ae af8 ok c Dr Q ⟨b.at a'<|.inRegion ops r::k,cs,w'⟩): ae af8 ok c Dr Q ⟨b.at a<|.inRegion ops (l++r)::k,cs,V⟩:=by refine ae.of_steps E.pair E.shut E.floor (λC=>∃a' w',K a' w'/\C=⟨b.at a'<|.inRegion ops r::k,cs,w'⟩) ?_ (λτ d=>?_) ?_;rintro _ ⟨a',w',_,rfl⟩;exact hb;let⟨a',w',O,hs⟩:=ig _ (h τ d) r b k<|cs++[c];grind;rintro _ ⟨a',w',J,rfl⟩;exact z a' w' J
def ae.drawn (E:dC af8 ok c Dr)(hb:ok.aP b.fn=true)(C:af8.follows .mixedOrders=true){id}(h:∀order,Fm .any ops (bt ops.size false) order->ae af8 ok c Dr Q ⟨b.at a<|.inRegion ops order::k,cs,V⟩): ae af8 ok c Dr Q ⟨b.at a<|.code (.region id ops true)::k,cs,V⟩:=by refine ae.of_steps E.pair E.shut E.floor (λJ=>∃order τ d,Fm .any ops (bt ops.size false) order/\J=St.re ⟨b.at a<|.inRegion ops order::k,cs,V⟩ τ d) ?_ (λτ d=>?_) ?_;rintro _ ⟨order,τ,d,_,rfl⟩;exact hb;refine⟨St.re ⟨b.at a<|.inRegion ops (Region.schedule (af8.follows .mixedOrders) ops<|τ d<|.order b.fn id)::k,cs,V⟩ τ<|d+1,⟨_,τ,d+1,?_,rfl⟩,.one<|step_lone_go ?_⟩;rw[C];exact uW _;have R:=stepG_region_draw (P:=af8) (main:=true) (ops:=ops) (b:=b) (a:=a) (k:=k) (cs:=cs++[c]) (w:=re V τ d) (id:=id);assumption;rintro _ ⟨order,τ,d,ho,rfl⟩;exact λz O=>h order ho z O
def ae.Ub (E:dC af8 ok c Dr)(hb:ok.aP b.fn=true)(O:af8.follows .mixedOrders=true){C}(z r)(hs:∀i,i<z.size->ops[i]?=z[i]?)(R:∀o∈z,o.guard=none) (hk:(nD .any ops ops.size<|bt ops.size false).all (λo=>(o.take z.size++r==o)&&(o.take z.size).all (·<z.size)&&(nD .any z z.size<|bt z.size false).contains (o.take z.size))=true) (K:Act->ad->Prop)(h:∀τ d,wpAny af8 .any z (λe a w=>e=.normal/\K a w) z.size (bt z.size false) a<|re V τ d)(T:∀a' w',K a' w'->ae af8 ok c Dr Q ⟨b.at a'<|.inRegion ops r::k,cs,w'⟩): ae af8 ok c Dr Q ⟨b.at a<|.code (.region C ops true)::k,cs,V⟩:=by refine ae.drawn E hb O λorder ho=>?_;rw[List.all_eq_true]at hk;have J:=hk order (Vw ho ops.size<|by grind [unl,Nat.le_trans]);simp at J;let⟨⟨U,Y⟩,Z⟩:=J;rw[<-U];exact ae.Aw E hb _ r K (λτ d=>by have:=RA id hs R _ Y<|Q7 _ Z<|h τ d;rwa [List.map_id]at this) T
def aeN (i:Nat):List Nat->List Nat
 |[]=>[]
 |j::l=>if j==i then[]else j::aeN i l
def acy (i:Nat):List Nat->List Nat
 |[]=>[]
 |j::l=>if j==i then l else acy i l
def X9 (ops:Array a9):List Nat->Array Bool->Bool
 |[],L=>(bj .any ops L).isEmpty
 |j::l,L=>(bj .any ops L).contains j&&X9 ops l (L.setIfInBounds j true)
def adG (ops:Array a9)(i:Nat)(g h:Bool->Array Bool):Nat->Array Bool->List Nat->Bool
 |0,_,_=>false
 |n+1,L,p=>!(bj .any ops L).isEmpty&&(bj .any ops L).all λj=>if j==i then[false,true].any λx=>L.setIfInBounds i true==h x&&(X9 ops p (g x)&&decide (p.length<=ops.size))else adG ops i g h n (L.setIfInBounds j true) (p++[j])
end
def LZ:b1 Tryz.f266=none:=aO
def LX:b4 Tryz.f266=some (cc #[39,39] #[4]):=aO
def LY:(Tryz.f266.name== "runtime.NumGoroutine")=false:=aO
def L2:∀w,(bV 30).run Tryz.prog w=.ok 6 w:=Tryz.sizeOf30
def Rs (p q E ca F J g l t1 K W)(z:p.block≠q.block)(C:W.heap[p.block]?=some (.cells g t1 (0,0)))(T:g.size≠0)(O:W.heap[q.block]?=some (.cells l K (0,0)))(R:l.size≠0): (callFunc 266 #[.slice (some p) E ca,.slice (some q) F J]).run Tryz.prog W=.ok (.value false) W:=by have h:=Lib.run_overlaps_apart (P:=Tryz.prog) W 39 4 30 Tryz.underlying39 6 L2 p q E ca F J z t1 K g.size l.size (by simp[World.shape?,C]) (by simp[World.shape?,O]) R (by simp[World.frozen?,C]) (by simp[World.frozen?,C]);(have S:Tryz.f266.name≠ "runtime.NumGoroutine":=by simpa using LY);simp[callFunc,Tryz.func266,LZ,LX,S,h,show Tryz.f266.body=none from rfl]
def RC {α β:Type}{x}{f:α->Sem β}{a}(C:x.run P W=.ok a W)(J:∀es,x.events P W es=es)(O:∀es,(f a).events P W es=es):∀es,(x >>= f).events P W es=es:=by intro es;rw[bN,C,J];exact O es
def Vx (p q:az)(U ca Y Z:Nat)(C E:Array av)(t1 F:aI)(W:ad)(J:p.block≠q.block)(l:W.heap[p.block]?=some (.cells C t1 (0,0)))(n1:C.size≠0)(z:W.heap[q.block]?=some (.cells E F (0,0)))(n2:E.size≠0): (callFunc 266 #[.slice (some p) U ca,.slice (some q) Y Z]).events Tryz.prog W #[]=#[⟨.mark<|.extern 266,false,true⟩]:=by
 have hn:Tryz.f266.name≠ "runtime.NumGoroutine":=by simpa using LY
 have h2:∀g,(cc #[39,39] #[4] #[.slice (some p) U ca,.slice (some q) Y Z]).events Tryz.prog W g=g:=by(have K:(shape p.block).run Tryz.prog W=.ok (some (t1,C.size)) W:=by simp[shape,bo,bO,l]);(have vB:(shape q.block).run Tryz.prog W=.ok (some (F,E.size)) W:=by simp[shape,bo,bO,z]);(have O:(frozen p).run Tryz.prog W=.ok false W:=by simp[frozen,bo,aL,l]);(have R:(frozen q).run Tryz.prog W=.ok false W:=by simp[frozen,bo,aL,z]);refine RC (x:=bn 39) (a:=.slice 30) (Tryz.runUnderlying39 W) (λg=>aO) ?_;refine RC (x:=bV 30) (a:=6) (L2 W) (λg=>aO) ?_;intro g;have ef:∀x g,(frozen x).events Tryz.prog W g=g:=λ_ _=>rfl;(have S:(frozen {block:=p.block,off:=C.size}).run Tryz.prog W=.ok false W:=by simp[frozen,bo,aL,l]);(have T:(frozen {block:=q.block,off:=E.size}).run Tryz.prog W=.ok false W:=by simp[frozen,bo,aL,z]);(have UW:(p.block !=q.block)=true:=by simpa using J);(have a1:W.frozen? p=false:=by simp[aL,l]);(have a2:W.frozen? q=false:=by simp[aL,z]);(have a3:W.shape? p.block=some (t1,C.size):=by simp[bO,l]);(have a4:W.shape? q.block=some (F,E.size):=by simp[bO,z]);(have a5:W.frozen? {block:=p.block,off:=C.size}=false:=by simp[aL,l]);(have a6:W.frozen? {block:=q.block,off:=E.size}=false:=by simp[aL,z]);clear K vB O R S T l z;dsimp only;split;rfl;simp[ef,UW,noView,viewAt,mayBeOne,stringish,a1,a2,a3,a4,a5,a6]
 have hm:(mark<|.extern 266).run Tryz.prog W=.ok () W:=rfl;have he:(mark<|.extern 266).events Tryz.prog W #[]=#[⟨.mark<|.extern 266,false,true⟩]:=rfl;simp[callFunc,Tryz.func266,LZ,LX,hn,h2,show Tryz.f266.body=none from rfl,hm,he]
def Rr [g:Gl](h:g.ov=266):DU Tryz.prog:=by intro p q l z C E F J K O W R S T U Y;rw[h];refine⟨Rs p q l z C E F J K O W R S T U Y,λe Z=>?_⟩;rw[Vx p q l z C E F J K O W R S T U Y]at Z;exact⟨_,by simpa using Z⟩
