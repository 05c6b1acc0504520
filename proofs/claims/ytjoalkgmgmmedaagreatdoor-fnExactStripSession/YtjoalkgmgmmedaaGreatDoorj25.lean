import Derived.Test.YtjoalkgmgmmedaaGreatDoorj20b
import Derived.Stop.Asserts
import Derived.RowKitTokens
import Derived.Lib.Overlaps
set_option linter.defProp false
set_option linter.unusedVariables false
set_option maxHeartbeats 2000000
set_option maxRecDepth 100000
open Array renaming replicate->bi,ext->ci
open Go renaming World->ad,execOp->au,Value->aL,TypeId->bo,Event->bt,underlying->bA,Addr->bL,loadVar->bM,yielded->bR,Frame->bW,isAgg->b2,callFunc->b4,run_callFunc_extern->b6,wpOps_cons->b7,Operand->cc,Oper->ce,FuncId->cl,sizeOf->cn,Program->co,setRow_other->cp,setRow_size->cq,wpOps->ct,storeCells->cv
open Go.Conc renaming events_callFunc_extern->b3,goes_leave1->b5,execOp_call_func->cf,goes_call->ch,stepG_block->cu,mem_listed->cw
open Go.Extern renaming findNext->bH,find->bV
open Go.Extern.ReflectliteValue renaming parts->ac,method->av,valueError->ax,flagAddr->aE,isNil->a0,elem->a7,set->bk,mk->bE
open Go.Extern.SlicesOverlaps renaming overlaps->bn
open Go.Region renaming wanted->aI,ready->a8,Mode->bS
open Go.Result renaming andThen->a9,evThen_ok->bB,evThen->bN
open Go.Sem renaming events_bind->bs,run->bO,run_bind->b0
open Go.Value renaming pointer->aa,agg->aB,int->aV,cells->b9
open Go.World renaming frozen?->ao,shape?->bj,cell?->bz
open List renaming mem_singleton->bm,mem_cons->b8
open Option renaming none->bp
open Or renaming inl->b1,inr->cd
namespace Go.Proofs.YtjoalkgmgmmedaaGreatDoor
open Conc Go Go.Conc Go.Conc.Lib Go.ConcR.Gen Go.Extern Go.Extern.Stop Go.RowKit Go.Stop RowKit
variable {Stop:(Nat->Prop)->Goroutine->ad->Prop}{a:Act}{ops:Array ce}{s:Array bo}{cs xs r:Array aL}{e:Array aL->Sem aL}{m:Bool}{ok:Ctx}{X:bt->Prop}{b r0:bW}{fn:Func}{f:cl}{Dr:cl->Array aL->ad->(aL->ad->Prop)->Prop}{c:Int}{L:List (Nat×Array aL×bo)}{k:List Item}{rest:List Nat}{B i j:Nat}{M D:Nat->Prop}{o:ce}{x:cc}{P afn:co}{md:bS}{t ty:bo}{v y:aL}{Q:aL->ad->Prop}{V W A:ad}
section
set_option linter.unusedSimpArgs false
set_option linter.unusedVariables false
structure CS (D:Nat->Prop)(A:ad)(L:List (Nat×Array aL×bo))(M:Nat->Prop)(W:ad):Prop where
 own:∀b,D b->M b
 keep:aU D A W
 lt:∀b,M b->b<W
 new:∀b,M b->D b\/A<=b
 UG:∀b,D b->b<A
 at_:∀p∈L,M p.1/\W.heap[p.1]?=some (.cells p.2.1 p.2.2 (0,0))
section
variable {ai:ad}
def CS.rely (h:CS D A L M W)(k:aU (λb=>M b\/False) W ai):CS D A L M ai:=⟨h.own,h.keep.trans<|k.mono λb g=>b1<|h.own b g,λb g=>afL (h.lt b g) k.size,h.new,h.UG,λp l=>⟨(h.at_ p l).1,(k.block _<|b1 (h.at_ p l).1).trans (h.at_ p l).2⟩⟩
def CS.alloc (h:CS D A L M W)(cs:Array aL)(t:bo):CS D A ((W,cs,t)::L) (grow M W<|W.alloc<|.cells cs t) (W.alloc<|.cells cs t):=by
 have z:(W.alloc<|.cells cs t).heap.size=W.heap.size+1:=by show(W.heap.push _).size=_;simp
 refine⟨λb g=>b1<|h.own b g,h.keep.trans ⟨λb g=>Below.heap_alloc _ _ _<|h.lt b<|h.own b g,ab,rfl,rfl⟩,λb g=>g.elim (λx=>by rw[z];have:=h.lt b x;omega) And.right,λb g=>g.elim (h.new b) λx=>cd<|afN h.keep.size x.1,h.UG,λp l=>?_⟩;rcases b8.1 l with rfl|l
 .exact⟨cd ⟨afK _,ab⟩,heap_alloc_new _ _⟩
 exact⟨b1 (h.at_ p l).1,(Below.heap_alloc _ _ _<|h.lt _ (h.at_ p l).1).trans (h.at_ p l).2⟩
def CS.cell (h:CS D A L M W){b}(g:(b,cs,t)∈L)(l:cs[j]?=some v):W.cell? ⟨b,j,none⟩=some v:=by
 rw[cell_of_row _ _ _ _ _ _ (h.at_ _ g).2];omega
end
section
variable {I:ad->Prop}{Ro:Nat->Prop}
 {cs:List bW}
theorem ET.pure v (ho:ops[i]?=some o)
  (n:ET P m I X Ro Stop M (G (b.at (a.put o.dst v)<|.inRegion ops rest::k) cs) W)(hw:aI o (bR ops a.tmps):=by rfl)(hk:b.kind≠.early:=by k_ne)(hr:∀W,(au a.eval o).run P W=.ok (.value v) W:=by intro;kernel_rfl)(he:∀W,(au a.eval o).events P W #[]=#[]:=by intro;kernel_rfl):ET P m I X Ro Stop M (G (b.at a<|.inRegion ops (i::rest)::k) cs) W:=
 ET.val v ho hw hk (λai _ _=>⟨hr ai,λe h=>gC⟩) n
theorem ET.ext v (f:cl)(ho:ops[i]?=some o)
  (n:ET P m I X Ro Stop M (G (b.at (a.put o.dst v)<|.inRegion ops rest::k) cs) W)(hw:aI o (bR ops a.tmps):=by rfl)(hk:b.kind≠.early:=by k_ne)(hr:∀W,(au a.eval o).run P W=.ok (.value v) W:=by intro;kernel_rfl)(he:∀W,(au a.eval o).events P W #[]=#[⟨.mark<|.extern f,false,true⟩]:=by intro;kernel_rfl):ET P m I X Ro Stop M (G (b.at a<|.inRegion ops (i::rest)::k) cs) W:=
 ET.val v ho hw hk (λai _ _=>⟨hr ai,λe h=>by rw[he ai]at h;simp at h;exact cd<|cd<|b1 ⟨_,rfl,h⟩⟩) n
def xy (e:bt):Prop:=∃f,e=⟨.mark<|.extern f,false,true⟩
def xy.evp {e}(h:xy e):Hz X M Ro e:=by let⟨f,h⟩:=h;exact cd<|cd<|b1 ⟨_,rfl,h⟩
def ET.makes (v:Nat->aL)(xs:Array aL)(t:bo)(es:Array bt)(ho:ops[i]?=some o)(hw:aI o (bR ops a.tmps))(hk:b.kind≠.early)(h:CS D A L M W)
  (l:∀W,(au a.eval o).run P W=.ok (.value<|v W) (W.alloc<|.cells xs t))(he:∀W,(au a.eval o).events P W #[]=es)(z:∀e∈es,xy e)
  (n:∀B M' W',CS D A ((B,xs,t)::L) M' W'->A<=B->(∀p∈L,p.1<B)->ET P m (λ_=>True) X (λ_=>False) Stop M' (G (b.at (a.put o.dst<|v B)<|.inRegion ops rest::k) cs) W'):ET P m (λ_=>True) X (λ_=>False) Stop M (G (b.at a<|.inRegion ops (i::rest)::k) cs) W:=
 ET.oper ho hw hk λai g _=>⟨_,_,l ai,fH.alloc _ λe h=>(z e (by have:=cw h;rw[he ai]at this;exact this)).evp,n _ _ _ ((h.rely g).alloc xs t) (h.rely g).keep.size λp C=>(h.rely g).lt _ ((h.rely g).at_ p C).1⟩
def ET.looks v (ho:ops[i]?=some o)(hw:aI o (bR ops a.tmps))(hk:b.kind≠.early)(h:CS D A L M W)
  (l:∀W,CS D A L M W->(au a.eval o).run P W=.ok (.value v) W/\∀e∈(au a.eval o).events P W #[],xy e\/∃p∈L,∃j,e=⟨.cell ⟨p.1,j,bp⟩,false,false⟩)
  (n:ET P m (λ_=>True) X (λ_=>False) Stop M (G (b.at (a.put o.dst v)<|.inRegion ops rest::k) cs) W):ET P m (λ_=>True) X (λ_=>False) Stop M (G (b.at a<|.inRegion ops (i::rest)::k) cs) W:=
 ET.val v ho hw hk (λai g _=>⟨(l ai<|h.rely g).1,λe he=>by
  rcases(l ai (h.rely g)).2 e he with x|⟨p,z,j,rfl⟩
  .exact x.evp
  .exact il (h.at_ p z).1⟩) n
def CS.set (h:CS D A ((B,xs,t)::L) M W)(E:A<=B)(C:∀p∈L,p.1<B)(r:Array aL):CS D A ((B,r,t)::L) M (W.setRow B r):=by
 have z:(W.setRow B r).heap.size=W.heap.size:=cq _ _ _;refine⟨h.own,h.keep.trans ⟨λb l=>cp _ _ _ _ (by have:=h.UG b l;omega),ab,rfl,rfl⟩,λb l=>by rw[z];exact h.lt b l,h.new,h.UG,λp g=>?_⟩;rcases b8.1 g with rfl|g
 .exact⟨(h.at_ _ (aga ..)).1,setRow_heap _ _ _ _ _ _ (h.at_ _ (aga ..)).2⟩
 have:=h.at_ p<|af9 _ g;exact⟨this.1,(cp _ _ _ _<|af1<|C p g).trans this.2⟩
def ET.writes (r:Array aL)(ho:ops[i]?=some o)(hw:aI o (bR ops a.tmps))(hk:b.kind≠.early)(h:CS D A ((B,xs,t)::L) M W)(E:A<=B)(F:∀p∈L,p.1<B)
  (z:∀W,W.heap[B]?=some (.cells xs t (0,0))->(au a.eval o).run P W=.ok .skip (W.setRow B r)/\∀e∈(au a.eval o).events P W #[],∃j,e=⟨.cell ⟨B,j,bp⟩,true,false⟩)
  (n:∀W',CS D A ((B,r,t)::L) M W'->ET P m (λ_=>True) X (λ_=>False) Stop M (G (b.at (a.put o.dst undef)<|.inRegion ops rest::k) cs) W'):ET P m (λ_=>True) X (λ_=>False) Stop M (G (b.at a<|.inRegion ops (i::rest)::k) cs) W:=
 ET.none ho hw hk λai l _=>by
  have C:=h.rely l;have g:=C.at_ _ (aga ..);refine⟨_,(z ai g.2).1,fH.row r g.1 λe he=>?_,?_⟩
  .obtain⟨j,rfl⟩:=(z ai g.2).2 e<|mem_listed he;exact il g.1
  .rw[show grow M ai _=M from cR (cq _ _ _)];exact n _<|C.set E F r
end
section
variable {y:cc}{d:Array aL}{u w:aL}{p q:bL}{n:Int}
def VL (l:o.op=.store 183 x y)(z:a.eval x=aa B)(g:a.eval y=aB #[aa p,aa q,aV .u64 n])(C:W.heap[B]?=some (.cells d ty (0,0)))(O:d.size=3):
  (au a.eval o).run Tryz.prog W=.ok .skip (W.setRow B #[aa p,aa q,aV .u64 n])/\∀e∈(au a.eval o).events Tryz.prog W #[],∃j,e=⟨.cell ⟨B,j,none⟩,true,false⟩:=by
 obtain⟨cs,F,R,E⟩:∃cs:Array aL,#[aa<|some p,aa<|some q,aV .u64 n]=cs/\cs.size=3/\∀v∈cs.toList,v.oneCell'=true:=⟨_,rfl,rfl,sJ⟩;rw[F]at g⊢;have h:=run_storeCells_at (P:=Tryz.prog) B 0 ty cs.toList 0 d W C cO E;have J:d.toList.drop (0+cs.toList.length)=[]:=cO;rw[J]at h;refine⟨?_,λe he=>?_⟩
 .unfold au;simp[l,z,g];go_simp
 have h:=m9 (P:=Tryz.prog) B 0 ty cs.toList 0 d W #[] C cO E e;unfold au at he;simp[l,z,g]at he;simp[go_sem]at he;grind
def yt (g:o.op=.load 183 x)(l:a.eval x=aa B)(F:W.heap[B]?=some (.cells #[u,v,w] ty (0,0))):
  (au a.eval o).run Tryz.prog W=.ok (.value<|aB #[u,v,w]) W/\∀e∈(au a.eval o).events Tryz.prog W #[],∃j,e=⟨.cell ⟨B,j,none⟩,false,false⟩:=by
 have z:W.cell? B=some u:=by grind [bz]
 have C:W.cell? ⟨B,1,none⟩=some v:=by grind [bz]
 have E:W.cell? ⟨B,2,none⟩=some w:=by grind [bz]
 refine⟨?_,λe he=>?_⟩
 .unfold au;simp[g,l];go_simp
 unfold au at he;simp[g,l]at he;simp[go_sem,z,C,E]at he;grind
end
def P_ {s:Sem Next}{r}(h:W.heap[B]?=some (.cells cs t (0,0))->s.run P W=r/\∀e∈s.events P W #[],∃j,e=⟨.cell ⟨B,j,none⟩,false,false⟩)
  (l:CS D A L M W)(g:(B,cs,t)∈L):s.run P W=r/\∀e∈s.events P W #[],xy e\/∃p∈L,∃j,e=⟨.cell ⟨p.1,j,none⟩,false,false⟩:=
 have x:=h (l.at_ _ g).2
 ⟨x.1,λe z=>cd ⟨_,g,x.2 e z⟩⟩
def rlm (z:Sem aL)(f:bo->bL->Nat->Nat->Sem aL) v:
  av z f #[v]=(do match<-ac v with|none=>z|some (t,a,C)=>f t a C<|C%32):=rfl
def rA (a:bL)(w:ad):(ac<|aB #[aa<|some ⟨9,150,none⟩,aa a,aV .u64 150]).run Tryz.prog w=.ok (some (150,a,150)) w:=aO
def QU (a:bL)(w:ad)(es:Array bt):(ac<|aB #[aa<|some ⟨9,150,none⟩,aa a,aV .u64 150]).events Tryz.prog w es=es:=aO
def QV (a p:bL)(W:ad)(es:Array bt)(g:W.cell? a=some (aa p)):
  (av (ax "reflectlite.Value.IsNil" 0) a0 #[aB #[aa<|some ⟨9,150,none⟩,aa a,aV .u64 150]]).run Tryz.prog W=.ok false W/\
  (av (ax "reflectlite.Value.IsNil" 0) a0 #[aB #[aa<|some ⟨9,150,none⟩,aa a,aV .u64 150]]).events Tryz.prog W es=es.push ⟨.cell a,false,false⟩:=by
 rw[rlm];constructor
 .simp_all [b0,rA,a9,a0,bM,b2]
 .simp only[bs,rA,QU,bB];simp[a0,bM,b2,bA,Tryz.underlying150,g,bN,go_sem];rfl
def Fy {xs:Array cc}{b:Nat}(T:o.op=.call {callee:=.value<|.func f,args:=xs,argTypes:=s})
  (J:P.funcs[f]?=some fn)(O:(fn.name== "runtime.NumGoroutine")=false)(hb:fn.body.isNone)(R:bH fn=none)(he:bV fn=some e)(C:xs.map a.eval=r)
  (h:∀es,(e r).run P W=.ok v W/\(e r).events P W es=es.push ⟨.cell b,false,false⟩):
  (au a.eval o).run P W=.ok (.value v) W/\∀e∈(au a.eval o).events P W #[],xy e\/e=⟨.cell b,false,false⟩:=by
 rw[cf T,C];refine⟨by rw[b6 J O hb R he,(h #[]).1];rfl,λx C=>?_⟩;rw[b3 J O hb R he,(h _).2]at C;simp at C;rcases C with rfl|rfl
 .exact b1 ⟨f,rfl⟩
 grind
def Xm {A}{es:Array bt}(h:A/\∀e∈es,xy e\/e=⟨.cell B,false,false⟩)(g:(B,cs,t)∈L):
  A/\∀e∈es,xy e\/∃p∈L,∃j,e=⟨.cell ⟨p.1,j,none⟩,false,false⟩:=⟨h.1,λe l=>(h.2 e l).imp id λx=>⟨_,g,0,x⟩⟩
def Lf {T:bo}(g:o.op=.load T x)(l:a.eval x=aa B)(z:∀w,(b2 T).run P w=.ok false w)(C:∀w es,(b2 T).events P w es=es)(E:W.heap[B]?=some (.cells #[v] ty (0,0))):
  (au a.eval o).run P W=.ok (.value v) W/\∀e∈(au a.eval o).events P W #[],∃j,e=⟨.cell ⟨B,j,none⟩,false,false⟩:=by
 simp_all [au,bz,Instr.loadAt,Instr.sureAddr,bM]
def Ao (w):(Rtype.elem? 150).run Tryz.prog w=.ok (some 143) w:=aO
def Nn (w es):(Rtype.elem? 150).events Tryz.prog w es=es:=aO
def k_ (p:bL)(w:ad):(bE 143 p aE).run Tryz.prog w=.ok (aB #[aa<|some ⟨9,143,none⟩,aa p,aV .u64 409]) w:=aO
def U5 (p w es):(bE 143 p aE).events Tryz.prog w es=es:=aO
def rl_elem (a p:bL)(W:ad)(es:Array bt)(g:W.cell? a=some (aa p)):
  (av (ax "reflectlite.Value.Elem" 0) a7 #[aB #[aa<|some ⟨9,150,none⟩,aa a,aV .u64 150]]).run Tryz.prog W=.ok (aB #[aa<|some ⟨9,143,none⟩,aa p,aV .u64 409]) W/\
  (av (ax "reflectlite.Value.Elem" 0) a7 #[aB #[aa<|some ⟨9,150,none⟩,aa a,aV .u64 150]]).events Tryz.prog W es=es.push ⟨.cell a,false,false⟩:=by
 rw[rlm];constructor
 .simp only[b0,rA,a9];simp[a7,bM,b2,bA,Tryz.underlying150,g,a9,Ao,k_]
 .simp only[bs,rA,QU,bB];simp[a7,bM,b2,bA,Tryz.underlying150,g,bN,Ao,U5,Nn,go_sem];rfl
def CZ (a:bL)(w:ad):(ac<|aB #[aa<|some ⟨9,143,none⟩,aa a,aV .u64 409]).run Tryz.prog w=.ok (some (143,a,409)) w:=aO
def C0 (a:bL)(w:ad):(ac<|aB #[aa<|some ⟨9,143,none⟩,aa a,aV .u64 153]).run Tryz.prog w=.ok (some (143,a,153)) w:=aO
def i_ (a:bL)(w:ad)(es:Array bt):(ac<|aB #[aa<|some ⟨9,143,none⟩,aa a,aV .u64 409]).events Tryz.prog w es=es:=aO
def j_ (a:bL)(w:ad)(es:Array bt):(ac<|aB #[aa<|some ⟨9,143,none⟩,aa a,aV .u64 153]).events Tryz.prog w es=es:=aO
def CY (w):(Rtype.directlyAssignable 143 143).run Tryz.prog w=.ok true w:=aO
def GR (w es):(Rtype.directlyAssignable 143 143).events Tryz.prog w es=es:=aO
def GS (w:ad):(cn 143).run Tryz.prog w=.ok 1 w:=aO
def No (w:ad)(es:Array bt):(cn 143).events Tryz.prog w es=es:=aO
def l_ (z b:bL) c old (W:ad)(es:Array bt)(hb:W.cell? b=some (aV .i64 c))(O:W.cell? z=some old)(R:W.frozen? z=false):
  (bk #[aB #[aa<|some ⟨9,143,none⟩,aa z,aV .u64 409],aB #[aa<|some ⟨9,143,none⟩,aa b,aV .u64 153]]).run Tryz.prog W=.ok (.tuple #[]) (W.setCell z c)/\
  (bk #[aB #[aa<|some ⟨9,143,none⟩,aa z,aV .u64 409],aB #[aa<|some ⟨9,143,none⟩,aa b,aV .u64 153]]).events Tryz.prog W es=(es.push ⟨.cell b,false,false⟩).push ⟨.cell z,true,false⟩:=by
 delta bk ReflectliteValue.set.match_3
 rw[dif_pos bQ];dsimp only[Array.getLit,List.getElem_toArray,List.getElem_cons_zero,List.getElem_cons_succ];have J:=run_loadCells_list (P:=Tryz.prog) (w:=W) b [c] (λj v C=>by
  match j,C with
  |0,C=>simp at C;subst C;simpa[Addr.add]using hb)
 simp at J;constructor
 .simp only[b0,CZ,C0,a9];simp[aE,bM,b2,bA,Tryz.underlying143,J,a9,CY,GS,storeVar,b9,cv,Addr.add];rw[run_store Tryz.prog W z _ _ bQ];simp[O,R]
 .simp only[bs,CZ,C0,i_,j_,bB];simp[aE,bM,b2,bA,Tryz.underlying143,J,bN,a9,CY,GR,GS,No,storeVar,b9,cv,Addr.add,loadCells,go_sem,O,R,hb];rfl
def CS.ad2 {x:aL}(h:CS D A L M W)(l:(B,#[x],t)∈L)(E:A<=B) y:CS D A [(B,#[y],t)] M (W.setCell B y):=by
 have z:=iw W B y;refine⟨h.own,h.keep.trans ⟨λb g=>?_,ab,rfl,rfl⟩,λb g=>by rw[z];exact h.lt b g,h.new,h.UG,λp C=>?_⟩
 .rw[gm,if_neg (λe=>by have:=h.UG b g;simp at e;omega)]
 obtain rfl:=bm.1 C;refine⟨(h.at_ _ l).1,?_⟩;rw[gm,if_pos rfl,(h.at_ _ l).2];simp
def TE {xs:Array cc}{b J:bL}(U:o.op=.call {callee:=.value<|.func f,args:=xs,argTypes:=s})
  (O:P.funcs[f]?=some fn)(R:(fn.name== "runtime.NumGoroutine")=false)(hb:fn.body.isNone)(T:bH fn=none)(he:bV fn=some e)(C:xs.map a.eval=r)
  (h:∀es,(e r).run P W=.ok v (W.setCell J y)/\(e r).events P W es=(es.push ⟨.cell b,false,false⟩).push ⟨.cell J,true,false⟩):
  (au a.eval o).run P W=.ok (.value v) (W.setCell J y)/\∀e∈(au a.eval o).events P W #[],xy e\/e=⟨.cell b,false,false⟩\/e=⟨.cell J,true,false⟩:=by
 rw[cf U,C];refine⟨by rw[b6 O R hb T he,(h #[]).1];rfl,λx C=>?_⟩;rw[b3 O R hb T he,(h _).2]at C;simp only[Array.mem_push,Array.not_mem_empty,false_or]at C;rcases C with(rfl|rfl)|rfl
 .exact b1 ⟨f,rfl⟩
 all_goals grind
def ET.ad8 {cs:List bW}
  {C:Nat}{x z:aL}{u:bo} v (ho:ops[i]?=some o)(hw:aI o (bR ops a.tmps))(hk:b.kind≠.early)(h:CS D A L M W)(l:(B,#[x],t)∈L)(F:(C,#[z],u)∈L)(J:A<=B)
  (O:∀W,CS D A L M W->(au a.eval o).run P W=.ok (.value v) (W.setCell ⟨B,0,bp⟩ y)/\∀e∈(au a.eval o).events P W #[],xy e\/e=⟨.cell ⟨C,0,bp⟩,false,false⟩\/e=⟨.cell ⟨B,0,bp⟩,true,false⟩)
  (n:∀W',CS D A [(B,#[y],t)] M W'->ET P m (λ_=>True) X (λ_=>False) Stop M (G (b.at (a.put o.dst v)<|.inRegion ops rest::k) cs) W'):ET P m (λ_=>True) X (λ_=>False) Stop M (G (b.at a<|.inRegion ops (i::rest)::k) cs) W:=
 ET.oper ho hw hk λai E _=>by
  have g:=h.rely E;have q:=O ai g;refine⟨v,_,q.1,fH.set y (g.at_ _ l).1 λe he=>?_,?_⟩
  .rcases q.2 e (cw he)with x|rfl|rfl
   .exact x.evp
   .exact il (g.at_ _ F).1
   .exact il (g.at_ _ l).1
  .rw[show grow M ai _=M from cR (iw _ _ _)];exact n _<|g.ad2 l J y
def CS.less {g:List (Nat×Array aL×bo)}(h:CS D A L M W)(l:∀p∈g,p∈L):CS D A g M W:=⟨h.own,h.keep,h.lt,h.new,h.UG,λp z=>h.at_ p<|l p z⟩
def CS.thaw (h:CS D A L M W)(g:(B,cs,t)∈L):W.frozen? B=false:=by
 unfold ao;rw[(h.at_ _ g).2];simp
noncomputable def Ca:Code:=Tryz.f95.body.getD .skip
variable {rest:List bW}
def Tm (c:Int)(Y:CS M W [(3,#[.iface 213<|aB #[aa<|some ⟨9,43,none⟩]],186)] M W):
  ET Tryz.prog true (λ_=>True) Ph.oq (λ_=>False) (λM' g W'=>g=G (r0.finish c) rest/\CS M W [] M' W') M
   (G ((base 95).at ⟨#[.iface 143<|aB #[c],ud,ud,ud,ud,ud,ud,ud,ud],[]⟩ [.code Ca]) (r0::rest)) W:=by
 simp only[Ca,Tryz.f95,Option.getD_some];apply ET.sr;refine ET.pure (aV .i64 0) rfl ?_;walk_nrm
 apply ET.ns;refine ET.makes (λB=>aa<|some ⟨B,0,none⟩) #[(0:Int)] 143 #[] rfl rfl (by k_ne) Y (λ_=>aO) (λ_=>aO) aP λC gF OB Z o1 l1=>?_
 walk_nrm
 apply ET.rn;apply ET.sq;apply ET.sr;refine ET.pure (.iface 143<|aB #[c]) rfl ?_;walk_nrm
 refine ET.pure (.iface 150<|aa C) rfl ?_;walk_nrm
 (refine ET.k rfl λ_ _ _=>ch rfl rfl (by k_ne) rfl Tryz.func117 aO rfl ⟨⟨rfl,λe he=>jc⟩,?_⟩;walk_nrmf Tryz.f117)
 apply ET.sr;refine ET.pure false rfl ?_;walk_nrm
 apply ET.rn;apply ET.sq;apply ET.sr;refine ET.pure (.iface 143<|aB #[c]) rfl ?_;walk_nrm
 refine ET.pure false rfl ?_;walk_nrm
 apply ET.rn;refine ET.ip rfl ?_;apply ET.sk;apply ET.sq;apply ET.sr;refine ET.pure (.iface 150<|aa C) rfl ?_;walk_nrm
 refine ET.pure false rfl ?_;walk_nrm
 apply ET.rn;refine ET.ip rfl ?_;apply ET.sk;apply ET.sr;refine ET.pure (.iface 150<|aa C) rfl ?_;walk_nrm
 refine ET.makes (λB=>aB #[aa<|some ⟨9,150,none⟩,aa<|some ⟨B,0,none⟩,aV .u64 150]) #[aa C] 150 #[⟨.mark<|.extern 145,false,true⟩] rfl rfl (by k_ne) Z (λ_=>aO) (λ_=>aO) (by simp[xy]) λJ sG SX h2 o2 l2=>?_
 walk_nrm
 refine ET.makes (λB=>aa<|some ⟨B,0,none⟩) #[aa none,aa none,aV .u64 0] 183 #[] rfl rfl (by k_ne) h2 (λ_=>aO) (λ_=>aO) aP λbx ay aF h3 o3 l3=>?_
 walk_nrm
 refine ET.writes #[aa<|some ⟨9,150,none⟩,aa J,aV .u64 150] rfl rfl (by k_ne) h3 o3 l3 (λW hW=>VL rfl rfl rfl hW rfl) λaZ O=>?_
 walk_nrm
 apply ET.ns;refine ET.looks (aB #[aa<|some ⟨9,150,none⟩,aa J,aV .u64 150]) rfl rfl (by k_ne) O (λW hW=>P_ (yt rfl rfl) hW<|.head _) ?_;walk_nrm
 refine ET.ext (.iface 213<|aB #[aa<|some ⟨9,150,none⟩]) 146 rfl ?_;walk_nrm
 refine ET.pure (.iface 213<|aB #[aa<|some ⟨9,150,none⟩]) rfl ?_;walk_nrm
 apply ET.rn;apply ET.sq;apply ET.sr;refine ET.pure (.iface 213<|aB #[aa<|some ⟨9,150,none⟩]) rfl ?_;walk_nrm
 refine ET.ext (aV .u8 22) 242 rfl ?_;walk_nrm
 refine ET.pure false rfl ?_;walk_nrm
 refine ET.pure false rfl ?_;walk_nrm
 refine ET.looks (aB #[aa<|some ⟨9,150,none⟩,aa J,aV .u64 150]) rfl rfl (by k_ne) O (λW hW=>P_ (yt rfl rfl) hW<|.head _) ?_;walk_nrm
 refine ET.looks false rfl rfl (by k_ne) O (λW hW=>Xm (Fy rfl Tryz.func147 aO aO aO aO (by simp[Act.eval]) λR=>QV J C W R<|hW.cell (.tail _<|.head _) rfl)<|.tail _<|.head _) ?_;walk_nrm
 refine ET.pure false rfl ?_;walk_nrm
 apply ET.rn;refine ET.ip rfl ?_;apply ET.sk;apply ET.sr;refine ET.pure (.iface 213<|aB #[aa<|some ⟨9,150,none⟩]) rfl ?_;walk_nrm
 refine ET.ext (.iface 213<|aB #[aa<|some ⟨9,143,none⟩]) 273 rfl ?_;walk_nrm
 refine ET.pure (.iface 213<|aB #[aa<|some ⟨9,143,none⟩]) rfl ?_;walk_nrm
 apply ET.rn;apply ET.sq;apply ET.sr;refine ET.pure (.iface 213<|aB #[aa<|some ⟨9,143,none⟩]) rfl ?_;walk_nrm
 refine ET.ext (aV .u8 25) 242 rfl ?_;walk_nrm
 refine ET.pure true rfl ?_;walk_nrm
 refine ET.pure true rfl ?_;walk_nrm
 refine ET.pure (.iface 213<|aB #[aa<|some ⟨9,143,none⟩]) rfl ?_;walk_nrm
 refine ET.looks (.iface 213<|aB #[aa<|some ⟨9,43,none⟩]) rfl rfl (by k_ne) O (λW hW=>P_ (Lf rfl rfl (λ_=>aO) λ_ _=>aO) hW<|.tail _<|.tail _<|.tail _<|.head _) ?_;walk_nrm
 refine ET.ext true 274 rfl ?_;walk_nrm
 refine ET.pure false rfl ?_;walk_nrm
 refine ET.pure false rfl ?_;walk_nrm
 apply ET.rn;refine ET.ip rfl ?_;apply ET.sk;apply ET.sr;refine ET.pure (.iface 143<|aB #[c]) rfl ?_;walk_nrm
 refine ET.pure (.iface 150<|aa C) rfl ?_;walk_nrm
 refine ET.looks (aB #[aa<|some ⟨9,150,none⟩,aa J,aV .u64 150]) rfl rfl (by k_ne) O (λW hW=>P_ (yt rfl rfl) hW<|.head _) ?_;walk_nrm
 refine ET.pure (.iface 213<|aB #[aa<|some ⟨9,143,none⟩]) rfl ?_;walk_nrm
 (refine ET.k rfl λ_ _ _=>ch rfl rfl (by k_ne) rfl Tryz.func148 aO rfl ⟨⟨rfl,λe he=>jc⟩,?_⟩;walk_nrmf Tryz.f148)
 apply ET.sr;refine ET.makes (λB=>aa<|some ⟨B,0,none⟩) #[aa<|some ⟨9,150,none⟩,aa J,aV .u64 150] 183 #[] rfl rfl (by k_ne) O (λ_=>aO) (λ_=>aO) aP λbb a1 a2 T o5 l5=>?_
 walk_nrm
 refine ET.pure false rfl ?_;walk_nrm
 apply ET.rn;refine ET.c (λ_=>cu) ?_;refine ET.c (λ_=>stepG_loop) ?_;refine ET.c (λ_=>cu) ?_;apply ET.sq;apply ET.sr;refine ET.pure (.iface 143<|aB #[c]) rfl ?_;walk_nrm
 refine ET.ext (.iface 213<|aB #[aa<|some ⟨9,143,none⟩]) 168 rfl ?_;walk_nrm
 refine ET.pure (.iface 213<|aB #[aa<|some ⟨9,143,none⟩]) rfl ?_;walk_nrm
 refine ET.ext true 271 rfl ?_;walk_nrm
 apply ET.rn;refine ET.lR rfl ?_;apply ET.sr;refine ET.looks (aB #[aa<|some ⟨9,150,none⟩,aa J,aV .u64 150]) rfl rfl (by k_ne) T (λW hW=>P_ (yt rfl rfl) hW<|.head _) ?_;walk_nrm
 refine ET.looks (aB #[aa<|some ⟨9,143,none⟩,aa C,aV .u64 409]) rfl rfl (by k_ne) T (λW hW=>Xm (Fy rfl Tryz.func169 aO aO aO aO (by simp[Act.eval]) λR=>rl_elem J C W R<|hW.cell (.tail _<|.tail _<|.head _) rfl)<|.tail _<|.tail _<|.head _) ?_;walk_nrm
 refine ET.pure (.iface 143<|aB #[c]) rfl ?_;walk_nrm
 refine ET.makes (λB=>aB #[aa<|some ⟨9,143,none⟩,aa<|some ⟨B,0,none⟩,aV .u64 153]) #[c] 143 #[⟨.mark<|.extern 145,false,true⟩] rfl rfl (by k_ne) T (λ_=>aO) (λ_=>aO) (by simp[xy]) λbe a3 a4 h6 o6 l6=>?_
 walk_nrm
 refine ET.ad8 (.tuple #[]) rfl rfl (by k_ne) h6 (.tail _<|.tail _<|.tail _<|.tail _<|.head _) (.head _) o1 (λW hW=>TE rfl Tryz.func170 aO aO aO aO (by simp[Act.eval]) λR=>l_ C be c _ W R (hW.cell (.head _) rfl) (hW.cell (.tail _<|.tail _<|.tail _<|.tail _<|.head _) rfl)<|hW.thaw<|.tail _<|.tail _<|.tail _<|.tail _<|.head _) λa5 U=>?_
 walk_nrm
 apply ET.ns;refine ET.pure true rfl ?_;walk_nrm
 apply ET.rn;apply ET.rt
 (refine ET.k rfl λ_ _ _=>b5 rfl rfl Tryz.func148 rfl ⟨⟨rfl,λe he=>jc⟩,?_⟩;walk_nrm)
 refine ET.pure true rfl ?_;walk_nrm
 apply ET.rn;apply ET.rt
 (refine ET.k rfl λ_ _ _=>b5 rfl rfl Tryz.func117 rfl ⟨⟨rfl,λe he=>jc⟩,?_⟩;walk_nrm)
 apply ET.rn;refine ET.lR rfl ?_;apply ET.sr;refine ET.pure (aa C) rfl ?_;walk_nrm
 refine ET.looks c rfl rfl (by k_ne) U (λW hW=>P_ (Lf rfl rfl (λ_=>aO) λ_ _=>aO) hW<|.head _) ?_;walk_nrm
 refine ET.pure c rfl ?_;walk_nrm
 apply ET.rn;apply ET.rt;refine ET.Er (aV .i64 c) rfl rfl Tryz.func95 (λai _ _=>⟨aO,λe he=>?_⟩) ?_
 .rw[show(results Tryz.f95 _).events Tryz.prog ai #[]=#[] by kernel_rfl]at he;simp at he
 exact ET.stop λW' k _=>⟨rfl,(U.rely k).less aP⟩
def Tn (l:CS M W [] M W):
  ET Tryz.prog true (λ_=>True) Ph.oq (λ_=>False) (λM' g W'=>g=G (r0.finish<|aV .i64 0) rest/\CS M W [] M' W') M
   (G ((base 95).at ⟨#[.nilIface,ud,ud,ud,ud,ud,ud,ud,ud],[]⟩ [.code Ca]) (r0::rest)) W:=by
 simp[Ca];apply ET.sr;refine ET.pure (aV .i64 0) rfl ?_;walk_nrm
 apply ET.ns;refine ET.makes (λB=>aa<|some ⟨B,0,none⟩) #[(0:Int)] 143 #[] rfl rfl (by k_ne) l (λ_=>aO) (λ_=>aO) aP λz E F C J O=>?_
 walk_nrm
 apply ET.rn;apply ET.sq;apply ET.sr;refine ET.pure (.nilIface) rfl ?_;walk_nrm
 refine ET.pure (.iface 150<|aa z) rfl ?_;walk_nrm
 (refine ET.k rfl λ_ _ _=>ch rfl rfl (by k_ne) rfl Tryz.func117 aO rfl ⟨⟨rfl,λe he=>jc⟩,?_⟩;walk_nrmf Tryz.f117)
 apply ET.sr;refine ET.pure false rfl ?_;walk_nrm
 apply ET.rn;apply ET.sq;apply ET.sr;refine ET.pure (.nilIface) rfl ?_;walk_nrm
 refine ET.pure true rfl ?_;walk_nrm
 apply ET.rn;refine ET.lR rfl ?_;apply ET.sr;refine ET.pure false rfl ?_;walk_nrm
 apply ET.rn;apply ET.rt
 (refine ET.k rfl λ_ _ _=>b5 rfl rfl Tryz.func117 rfl ⟨⟨rfl,λe he=>jc⟩,?_⟩;walk_nrm)
 apply ET.rn;refine ET.ip rfl ?_;apply ET.sk;apply ET.sr;refine ET.pure (aV .i64 0) rfl ?_;walk_nrm
 apply ET.rn;apply ET.rt;refine ET.Er (aV .i64 0) rfl rfl Tryz.func95 (λai _ _=>⟨aO,λe he=>?_⟩) ?_
 .rw[show(results Tryz.f95 _).events Tryz.prog ai #[]=#[] by kernel_rfl]at he;grind
 exact ET.stop λW' k _=>⟨rfl,(C.rely k).less aP⟩
end
section
def K2 (v:aL)(c:Int):Prop:=(v=.nilIface/\c=0)\/v=.iface 143 (aB #[c])
def II:Obj:=.cells #[.iface 213<|aB #[aa<|some ⟨9,43,none⟩]] 186 (0,0)
def LR (M:Nat->Prop)(W:ad):Prop:=M 3/\W.heap[3]?=some II
def DrC (f:cl)(xs:Array aL)(V:ad)(R:aL->ad->Prop):Prop:=f=95/\∃v c,xs=#[v]/\K2 v c/\R=λr C=>r=aV .i64 c/\C=V
def OY:Tryz.f95.body=some Ca:=rfl
def L4 v:Frame.enter Tryz.prog 95 #[v] .normal=(base 95).at ⟨#[v,ud,ud,ud,ud,ud,ud,ud,ud],[]⟩ [.code Ca]:=by
 rw[enter_at #[v] Tryz.func95 OY];rfl
def Fr {O:Loc->Prop}{gs:Array Goroutine}{rest:List bW}{t:Trace}{q:Nat->Nat}{sl:Option (Nat×Nat)}(Y:K2 v c)(Z:LR M W)
  (h:dP Tryz.prog O jH jH M gs (G (Frame.enter Tryz.prog 95 #[v] .normal)<|r0::rest) W t q):
  ∃N C M' W' R J T,runNT Tryz.prog N (crowd gs W sl) t=(.next<|crowd C W' R,J)/\dP Tryz.prog O jH jH M' C (G (r0.finish c) rest) W' J T/\CS M W [] M' W':=by
 have z:∀b,M b->b<W:=λb hb=>h.lt b<|b1 hb
 have hE:ET Tryz.prog true (λ_=>True) Ph.oq jH (λM' g W'=>g=G (r0.finish c) rest/\CS M W [] M' W') M (G (Frame.enter Tryz.prog 95 #[v] .normal)<|r0::rest) W:=by
  rw[L4];rcases Y with⟨rfl,rfl⟩|rfl
  .exact Tn (⟨λ_ h=>h,aU.refl _ _,z,λ_ h=>b1 h,z,λp U=>cO⟩)
  exact Tm c ⟨λ_ h=>h,aU.refl _ _,z,λ_ h=>b1 h,z,λp U=>by obtain rfl:=bm.1 U;exact Z⟩
 let⟨r,hr⟩:=hE;let⟨N,C,M',a',w',R,J,T,h1,_,h3,h4,_⟩:=jR (λ_=>trivial) r _ gs M _ W sl t q (afK _) h hr;obtain⟨rfl,h5⟩:=h3 w' (aU.refl _ _) trivial;grind
section
variable [Gl]
def MJ {ρ:Ren}{O:aL}(h:K2 v c)(J:aq ok ρ v O):O=v:=by
 rcases h with⟨rfl,_⟩|rfl
 .cases J;rfl
 cases J with
 |iface t J=>
  cases J with
  |@agg xs C e J=>
   have:C=#[aV .i64 c]:=by
    refine ci ab λi R T=>?_
    have U:i=0:=by simp at T;omega
    subst U;have:=J 0 c C[0] rfl<|afR R;generalize C[0]=z at this;cases this;rfl
   grind
def O6:qa Tryz.prog ok LR DrC:=by
 rintro f xs V ρ J W M U gs r0 rest t q sl R Y ⟨rfl,v,c,rfl,O,rfl⟩ T hw ho Z;obtain⟨v',e0,U2⟩:=T.get (i:=0) rfl;obtain rfl:J=#[v']:=by
  refine ci (by simpa using T.size.symm) λi h1 h2=>?_
  grind
 obtain rfl:=MJ O U2;obtain⟨N,kJ,M',W',ot,t',q',k1,k2,C⟩:=Fr O Y Z;exact⟨N,kJ,W',ot,t',q',U,M',c,ρ,c,V,k1,k2,Ren.le_refl _,.int _ _,hw.others ho<|C.keep.mono λb hb=>hb.elim id λx=>x.elim,λb d hb=>C.own d<|ho b d hb,⟨rfl,rfl⟩,C.keep.mono λ_ h=>h.1,C.own,λb d hb=>.inl hb,λ_ _=>rfl⟩
def YL:qb ok DrC:=by
 rintro f xs V C v ρ R ⟨_,J,c,_,_,rfl⟩ ⟨rfl,rfl⟩ _ hw;exact⟨ρ,Ren.le_refl _,.int _ _,hw⟩
end
section
variable {N:Nat}{w w':ad}
structure Bl (N:Nat)(w w':ad):Prop where
 size:w.heap.size<=w'
 block:∀k,k<N->w'.heap[k]?=w.heap[k]?
def Bl.refl N (w):Bl N w w:=⟨afK _,λ_ _=>rfl⟩
def Bl.of (h:Below N w w'):Bl N w w':=⟨h.size,h.block⟩
def Bl.kH {τ:Nat->Question->Nat}{d}(h:Below (re V τ d) (re V τ d) w):Bl V V w:=⟨h.size,h.block⟩
def Bl.trans {M a b c}(h:Bl N a b)(k:Bl M b c)(C:N<=M):Bl N a c:=⟨afN h.size k.size,λi z=>(k.block i ab).trans<|h.block i z⟩
def Bl.cell (h:Bl N w w'){b}(g:b<N)(l:w.cell? ⟨b,j,none⟩=some v):w'.cell? ⟨b,j,none⟩=some v:=by
 simp[bz,h.block b g]at l⊢;omega
end
def O8 (K R:Act->ad->Prop):Exit->Act->ad->Prop
 |.normal=>K
 |.ret=>R
 |_=>λ_ _=>False
section
variable [Gl]{c:bW}{cs:List bW}
def ae.DF (E:dB afn ok c Dr)(hb:ok.aN b.fn)(C T K R)
  (h:∀τ d,ak afn (O8 K R) C a<|re V τ d)
  (Z:∀a' w',K a' w'->ae afn ok c Dr Q ⟨b.at a'<|.code T::k,cs,w'⟩)(hR:∀a' w' z,R a' w'->ae afn ok c Dr Q ⟨{b.at a' z with mode:=.returning},cs,w'⟩):
  ae afn ok c Dr Q ⟨b.at a<|.code (Proofs.YtjoalkgmgmmedaaGreatDoor.chain C T)::k,cs,V⟩:=by
 refine ae.of_steps E.pair E.shut E.floor (λU=>(∃a' w',K a' w'/\U=⟨b.at a'<|.code T::k,cs,w'⟩)\/∃a' w' z,R a' w'/\U=⟨{b.at a' z with mode:=.returning},cs,w'⟩) ?_ (λτ d=>?_) ?_
 .rintro _ (⟨a',w',_,rfl⟩|⟨a',w',z,_,rfl⟩)<;>assumption
 .obtain⟨e,a',w',J,Y⟩:=qi C (h τ d) b k _;cases e with
  |normal=>exact⟨_,b1 ⟨a',w',J,rfl⟩,Y⟩
  |ret=>
   obtain⟨z,hs⟩:=Y;exact⟨_,cd ⟨a',w',z,J,rfl⟩,hs⟩
  |_=>exact J.elim
 rintro _ (⟨a',w',O,rfl⟩|⟨a',w',z,O,rfl⟩)
 .exact Z a' w' O
 exact hR a' w' z O
end
def nq (md:bS)(ops:Array ce):Nat->Array Bool->List (List Nat)
 |0,_=>[[]]
 |n+1,l=>if(a8 md ops l).isEmpty then[[]]else(a8 md ops l).flatMap λi=>(nq md ops n<|l.setIfInBounds i true).map (i::·)
def UR {l o}(h:EX md ops l o):∀n,N_ ops l<=n->o∈nq md ops n l:=by
 induction h with
 |nil h=>
  intro n _;cases n with
  |zero=>simp[nq]
  |succ n=>grind [nq]
 |@cons l i rest g _ C=>
  intro n E;have F:=LK g;cases n with
  |zero=>omega
  |succ n=>
   have z:(a8 md ops l).isEmpty=false:=by
    grind
   simp[nq];grind
def Qv {P:co}{md:bS}{ops:Array ce}{Q:Exit->Act->ad->Prop}:∀(n:Nat) {l:Array Bool} {o:List Nat} {a:Act} {w:ad},o∈nq md ops n l->wpAny P md ops Q n l a w->ct P ops Q o a w
 |0,l,o,a,w,ho,h=>by
  simp only[nq,bm]at ho;subst ho;exact h.2
 |n+1,l,o,a,w,ho,h=>by
  simp only[nq]at ho;split at ho
  .rename_i g;simp only[bm]at ho;subst ho;exact h.1<|by simpa using g
  .simp only[List.mem_flatMap,List.mem_map]at ho;obtain⟨i,z,rest,C,rfl⟩:=ho;rw[b7];exact wpOp_mono (λa w=>Qv n C)<|h.2 i z
def QR {P:co}{ops C:Array ce}{Q:Exit->Act->ad->Prop}(φ:Nat->Nat)(hs:∀i,i<C.size->ops[φ i]?=C[i]?)(R:∀o∈C,o.guard=none):∀(l:List Nat) {a:Act} {w:ad},(∀i∈l,i<C.size)->ct P C Q l a w->ct P ops Q (l.map φ) a w
 |[],_,_,_,h=>h
 |i::l,a,w,T,h=>by
  rw[List.map_cons,b7];rw[b7]at h;have J:=T i (aga ..);have ho:=afR J;have O:=R _<|Array.getElem_mem J;have U:∀(f:Nat->Option Bool),aI C[i] f=true:=λf=>by simp[aI,O]
  refine wpOp_mono (λa w h=>QR φ hs R l (λj Y=>T j<|af9 _ Y) h) ?_;unfold wpOp at h⊢;rw[hs i J,ho];rw[ho]at h;simp only[U,if_true]at h⊢;exact h
section
variable [Gl]{c:bW}{cs:List bW}
def ae.Ab (E:dB afn ok c Dr)(hb:ok.aN b.fn=true)(l r:List Nat)(K:Act->ad->Prop)(h:∀τ d,ct afn ops (λe a w=>e=.normal/\K a w) l a<|re V τ d)(z:∀a' w',K a' w'->ae afn ok c Dr Q ⟨b.at a'<|.inRegion ops r::k,cs,w'⟩):
  ae afn ok c Dr Q ⟨b.at a<|.inRegion ops (l++r)::k,cs,V⟩:=by
 refine ae.of_steps E.pair E.shut E.floor (λC=>∃a' w',K a' w'/\C=⟨b.at a'<|.inRegion ops r::k,cs,w'⟩) ?_ (λτ d=>?_) ?_
 .rintro _ ⟨a',w',_,rfl⟩;exact hb
 .let⟨a',w',O,hs⟩:=ia _ (h τ d) r b k<|cs++[c];grind
 rintro _ ⟨a',w',J,rfl⟩;exact z a' w' J
def ae.drawn (E:dB afn ok c Dr)(hb:ok.aN b.fn=true)(C:afn.follows .mixedOrders=true){id}(h:∀order,EX .any ops (bi ops.size false) order->ae afn ok c Dr Q ⟨b.at a<|.inRegion ops order::k,cs,V⟩):
  ae afn ok c Dr Q ⟨b.at a<|.code (.region id ops true)::k,cs,V⟩:=by
 refine ae.of_steps E.pair E.shut E.floor (λJ=>∃order τ d,EX .any ops (bi ops.size false) order/\J=St.re ⟨b.at a<|.inRegion ops order::k,cs,V⟩ τ d) ?_ (λτ d=>?_) ?_
 .rintro _ ⟨order,τ,d,_,rfl⟩;exact hb
 .refine⟨St.re ⟨b.at a<|.inRegion ops (Region.schedule (afn.follows .mixedOrders) ops<|τ d<|.order b.fn id)::k,cs,V⟩ τ<|d+1,⟨_,τ,d+1,?_,rfl⟩,.one<|step_lone_go ?_⟩
  .rw[C];exact uH _
  have R:=stepG_region_draw (P:=afn) (main:=true) (ops:=ops) (b:=b) (a:=a) (k:=k) (cs:=cs++[c]) (w:=re V τ d) (id:=id);assumption
 rintro _ ⟨order,τ,d,ho,rfl⟩;exact λz O=>h order ho z O
def ae.Tu (E:dB afn ok c Dr)(hb:ok.aN b.fn=true)(O:afn.follows .mixedOrders=true){C:Nat}(z:Array ce)(r:List Nat)(hs:∀i,i<z.size->ops[i]?=z[i]?)(R:∀o∈z,o.guard=none)
  (hk:(nq .any ops ops.size<|bi ops.size false).all (λo=>(o.take z.size++r==o)&&(o.take z.size).all (·<z.size)&&(nq .any z z.size<|bi z.size false).contains (o.take z.size))=true)
  (K:Act->ad->Prop)(h:∀τ d,wpAny afn .any z (λe a w=>e=.normal/\K a w) z.size (bi z.size false) a<|re V τ d)(T:∀a' w',K a' w'->ae afn ok c Dr Q ⟨b.at a'<|.inRegion ops r::k,cs,w'⟩):
  ae afn ok c Dr Q ⟨b.at a<|.code (.region C ops true)::k,cs,V⟩:=by
 refine ae.drawn E hb O λorder ho=>?_
 rw[List.all_eq_true]at hk;have J:=hk order (UR ho ops.size<|by grind [N_,Nat.le_trans]);simp at J;let⟨⟨U,Y⟩,Z⟩:=J;rw[<-U];exact ae.Ab E hb _ r K (λτ d=>by have:=QR id hs R _ Y<|Qv _ Z<|h τ d;rwa [List.map_id]at this) T
def ad1 (i:Nat):List Nat->List Nat
 |[]=>[]
 |j::l=>if j==i then[]else j::ad1 i l
def abG (i:Nat):List Nat->List Nat
 |[]=>[]
 |j::l=>if j==i then l else abG i l
def Xi (ops:Array ce):List Nat->Array Bool->Bool
 |[],L=>(a8 .any ops L).isEmpty
 |j::l,L=>(a8 .any ops L).contains j&&Xi ops l (L.setIfInBounds j true)
def acP (ops:Array ce)(i:Nat)(g h:Bool->Array Bool):Nat->Array Bool->List Nat->Bool
 |0,_,_=>false
 |n+1,L,p=>!(a8 .any ops L).isEmpty&&(a8 .any ops L).all λj=>if j==i then[false,true].any λx=>L.setIfInBounds i true==h x&&(Xi ops p (g x)&&decide (p.length<=ops.size))else acP ops i g h n (L.setIfInBounds j true) (p++[j])
end
def Ll:bH Tryz.f259=none:=aO
def Li:bV Tryz.f259=some (bn #[26,26] #[4]):=aO
def Lj:(Tryz.f259.name== "runtime.NumGoroutine")=false:=aO
def Lm:∀w,(cn 55).run Tryz.prog w=.ok 6 w:=Tryz.sizeOf55
def QJ (p q:bL)(E ca F J:Nat)(g l:Array aL)(t1 K:bo)(W:ad)(z:p.block≠q.block)(C:W.heap[p.block]?=some (.cells g t1 (0,0)))(T:g.size≠0)(O:W.heap[q.block]?=some (.cells l K (0,0)))(R:l.size≠0):
  (b4 259 #[.slice (some p) E ca,.slice (some q) F J]).run Tryz.prog W=.ok (.value false) W:=by
 have h:=Lib.run_overlaps_apart (P:=Tryz.prog) W 26 4 55 Tryz.underlying26 6 Lm p q E ca F J z t1 K g.size l.size (by simp[bj,C]) (by simp[bj,O]) R (by simp[ao,C]) (by simp[ao,C]);have S:Tryz.f259.name≠ "runtime.NumGoroutine":=by simpa using Lj
 simp[b4,Tryz.func259,Ll,Li,S,h,show Tryz.f259.body=none from rfl]
def QT {α β:Type}{x}{f:α->Sem β}{a}(C:x.run P W=.ok a W)(J:∀es,x.events P W es=es)(O:∀es,(f a).events P W es=es):∀es,(x >>= f).events P W es=es:=by
 intro es;rw[bs,C,J];exact O es
def US (p q:bL)(U ca Y Z:Nat)(C E:Array aL)(t1 F:bo)(W:ad)(J:p.block≠q.block)(l:W.heap[p.block]?=some (.cells C t1 (0,0)))(n1:C.size≠0)(z:W.heap[q.block]?=some (.cells E F (0,0)))(n2:E.size≠0):
  (b4 259 #[.slice (some p) U ca,.slice (some q) Y Z]).events Tryz.prog W #[]=#[⟨.mark<|.extern 259,false,true⟩]:=by
 have hn:Tryz.f259.name≠ "runtime.NumGoroutine":=by simpa using Lj
 have h2:∀g,(bn #[26,26] #[4] #[.slice (some p) U ca,.slice (some q) Y Z]).events Tryz.prog W g=g:=by
  have K:(shape p.block).run Tryz.prog W=.ok (some (t1,C.size)) W:=by simp[shape,bO,bj,l]
  have vf:(shape q.block).run Tryz.prog W=.ok (some (F,E.size)) W:=by simp[shape,bO,bj,z]
  have O:(frozen p).run Tryz.prog W=.ok false W:=by simp[frozen,bO,ao,l]
  have R:(frozen q).run Tryz.prog W=.ok false W:=by simp[frozen,bO,ao,z]
  refine QT (x:=bA 26) (a:=.slice 55) (Tryz.runUnderlying26 W) (λg=>aO) ?_;refine QT (x:=cn 55) (a:=6) (Lm W) (λg=>aO) ?_;intro g;have ef:∀x g,(frozen x).events Tryz.prog W g=g:=λ_ _=>rfl
  have S:(frozen {block:=p.block,off:=C.size}).run Tryz.prog W=.ok false W:=by simp[frozen,bO,ao,l]
  have T:(frozen {block:=q.block,off:=E.size}).run Tryz.prog W=.ok false W:=by simp[frozen,bO,ao,z]
  have Uj:(p.block !=q.block)=true:=by simpa using J
  have a1:W.frozen? p=false:=by simp[ao,l]
  have a2:W.frozen? q=false:=by simp[ao,z]
  have a3:W.shape? p.block=some (t1,C.size):=by simp[bj,l]
  have a4:W.shape? q.block=some (F,E.size):=by simp[bj,z]
  have a5:W.frozen? {block:=p.block,off:=C.size}=false:=by simp[ao,l]
  have a6:W.frozen? {block:=q.block,off:=E.size}=false:=by simp[ao,z]
  clear K vf O R S T l z;dsimp only;split
  .rfl
  .simp[ef,Uj,noView,viewAt,mayBeOne,stringish,a1,a2,a3,a4,a5,a6]
 have hm:(mark<|.extern 259).run Tryz.prog W=.ok () W:=rfl;have he:(mark<|.extern 259).events Tryz.prog W #[]=#[⟨.mark<|.extern 259,false,true⟩]:=rfl;simp[b4,Tryz.func259,Ll,Li,hn,h2,show Tryz.f259.body=none from rfl,hm,he]
def QI [g:Gl](h:g.ov=259):Dx Tryz.prog:=by
 intro p q l z C E F J K O W R S T U Y;rw[h];refine⟨QJ p q l z C E F J K O W R S T U Y,λe Z=>?_⟩;rw[US p q l z C E F J K O W R S T U Y]at Z;exact⟨_,by simpa using Z⟩
