import Derived.Test.YtlmcblcijndipabGreatDoorDr20
import Derived.Stop.Asserts
import Derived.RowKitTokens
import Derived.LaidEql
import Derived.Test.YtlmcblcijndipabGreatDoorDr21
import Derived.Test.YtlmcblcijndipabGreatDoorDr21b
set_option linter.unusedVariables false
set_option maxHeartbeats 2000000
set_option maxRecDepth 100000
namespace Go.Proofs.YtlmcblcijndipabGreatDoor
open Go Go.Conc Go.RowKit Go.Conc.Lib Go.ConcR.Gen Go.Extern Go.Extern.Stop Go.Stop
set_option linter.unusedSimpArgs false
set_option linter.unusedVariables false
structure CS (M₀:Nat->Prop)(W₀:World)(L:List (Nat×Array Value×TypeId))(M:Nat->Prop)(W:World):Prop where
 own:∀b,M₀ b->M b
 keep:aw M₀ W₀ W
 lt:∀b,M b->b<W.heap.size
 new:∀b,M b->M₀ b\/W₀.heap.size<=b
 lt0:∀b,M₀ b->b<W₀.heap.size
 at_:∀p∈L,M p.1/\W.heap[p.1]?=some (.cells p.2.1 p.2.2 (0,0))
section
variable {M₀ M:Nat->Prop}{W₀ W W₁:World}{L:List (Nat×Array Value×TypeId)}
theorem CS.rely (h:CS M₀ W₀ L M W)(k:aw (λb=>M b\/False) W W₁):CS M₀ W₀ L M W₁:=⟨h.own,h.keep.trans (k.mono λb hb=>.inl (h.own b hb)),λb hb=>Nat.lt_of_lt_of_le (h.lt b hb) k.size,h.new,h.lt0,λp hp=>⟨(h.at_ p hp).1,(k.block _ (.inl (h.at_ p hp).1)).trans (h.at_ p hp).2⟩⟩
theorem CS.alloc (h:CS M₀ W₀ L M W)(cs:Array Value)(t:TypeId):CS M₀ W₀ ((W.heap.size,cs,t)::L) (grow M W (W.alloc (.cells cs t))) (W.alloc (.cells cs t)):=by
 have z:(W.alloc (.cells cs t)).heap.size=W.heap.size+1:=by show(W.heap.push _).size=_;simp
 refine⟨λb hb=>.inl (h.own b hb),h.keep.trans ⟨λb hb=>Below.heap_alloc _ _ _ (h.lt b (h.own b hb)),by rw[z];omega,rfl,rfl⟩,λb hb=>hb.elim (λx=>by rw[z];have:=h.lt b x;omega) And.right,λb hb=>hb.elim (h.new b) λx=>.inr (Nat.le_trans h.keep.size x.1),h.lt0,λp hp=>?_⟩;rcases List.mem_cons.1 hp with rfl|hp
 .exact⟨.inr ⟨Nat.le_refl _,by rw[z];simp⟩,heap_alloc_new _ _⟩
 .exact⟨.inl (h.at_ p hp).1,(Below.heap_alloc _ _ _ (h.lt _ (h.at_ p hp).1)).trans (h.at_ p hp).2⟩
theorem CS.cell (h:CS M₀ W₀ L M W){b:Nat}{cs:Array Value}{t:TypeId}(hp:(b,cs,t)∈L){j:Nat}{v:Value}(hv:cs[j]?=some v):W.cell? ⟨b,j,none⟩=some v:=by
 rw[cell_of_row _ _ _ _ _ _ (h.at_ _ hp).2];exact hv
end
section
variable {P:Program}{m:Bool}{I:World->Prop}{X:Event->Prop}{Ro:Nat->Prop}{Stop:(Nat->Prop)->Goroutine->World->Prop}{M:Nat->Prop}{W:World}
 {b:Frame}{a:Act}{k:List Item}{cs:List Frame}{ops:Array Oper}{i:Nat}{rest:List Nat}{o:Oper}
theorem ET.pure (v:Value)(ho:ops[i]?=some o)(hw:Region.wanted o (yielded ops a.tmps)=true)(hk:b.kind≠.early)(hr:∀W,(execOp a.eval o).run P W=.ok (.value v) W)(he:∀W,(execOp a.eval o).events P W #[]=#[])
  (n:ET P m I X Ro Stop M (G (b.at (a.put o.dst v) (.inRegion ops rest::k)) cs) W):ET P m I X Ro Stop M (G (b.at a (.inRegion ops (i::rest)::k)) cs) W:=
 ET.val v ho hw hk (λW₁ _ _=>⟨hr W₁,λe h=>by rw[he W₁]at h;simp at h⟩) n
theorem ET.ext (v:Value)(f:FuncId)(ho:ops[i]?=some o)(hw:Region.wanted o (yielded ops a.tmps)=true)(hk:b.kind≠.early)(hr:∀W,(execOp a.eval o).run P W=.ok (.value v) W)(he:∀W,(execOp a.eval o).events P W #[]=#[⟨.mark (.extern f),false,true⟩])
  (n:ET P m I X Ro Stop M (G (b.at (a.put o.dst v) (.inRegion ops rest::k)) cs) W):ET P m I X Ro Stop M (G (b.at a (.inRegion ops (i::rest)::k)) cs) W:=
 ET.val v ho hw hk (λW₁ _ _=>⟨hr W₁,λe h=>by rw[he W₁]at h;simp at h;exact .inr (.inr (.inl ⟨_,rfl,h⟩))⟩) n
variable {M₀:Nat->Prop}{W₀:World}{L:List (Nat×Array Value×TypeId)}
def mC (e:Event):Prop:=∃f,e=⟨.mark (.extern f),false,true⟩
theorem mC.evp {e:Event}(h:mC e):tx X M Ro e:=by obtain⟨f,h⟩:=h;exact .inr (.inr (.inl ⟨_,rfl,h⟩))
theorem ET.makes (v:Nat->Value)(xs:Array Value)(t:TypeId)(es:Array Event)(ho:ops[i]?=some o)(hw:Region.wanted o (yielded ops a.tmps)=true)(hk:b.kind≠.early)(h:CS M₀ W₀ L M W)
  (hr:∀W,(execOp a.eval o).run P W=.ok (.value (v W.heap.size)) (W.alloc (.cells xs t)))(he:∀W,(execOp a.eval o).events P W #[]=es)(hq:∀e∈es,mC e)
  (n:∀B M' W',CS M₀ W₀ ((B,xs,t)::L) M' W'->W₀.heap.size<=B->(∀p∈L,p.1<B)->ET P m (λ_=>True) X (λ_=>False) Stop M' (G (b.at (a.put o.dst (v B)) (.inRegion ops rest::k)) cs) W'):ET P m (λ_=>True) X (λ_=>False) Stop M (G (b.at a (.inRegion ops (i::rest)::k)) cs) W:=
 ET.oper ho hw hk λW₁ k₁ _=>⟨_,_,hr W₁,bU.alloc _ λe h=>(hq e (by have:=mem_listed h;rw[he W₁]at this;exact this)).evp,n _ _ _ ((h.rely k₁).alloc xs t) (h.rely k₁).keep.size λp hp=>(h.rely k₁).lt _ ((h.rely k₁).at_ p hp).1⟩
theorem ET.looks (v:Value)(ho:ops[i]?=some o)(hw:Region.wanted o (yielded ops a.tmps)=true)(hk:b.kind≠.early)(h:CS M₀ W₀ L M W)
  (hr:∀W,CS M₀ W₀ L M W->(execOp a.eval o).run P W=.ok (.value v) W/\∀e∈(execOp a.eval o).events P W #[],mC e\/∃p∈L,∃j,e=⟨.cell ⟨p.1,j,Option.none⟩,false,false⟩)
  (n:ET P m (λ_=>True) X (λ_=>False) Stop M (G (b.at (a.put o.dst v) (.inRegion ops rest::k)) cs) W):ET P m (λ_=>True) X (λ_=>False) Stop M (G (b.at a (.inRegion ops (i::rest)::k)) cs) W:=
 ET.val v ho hw hk (λW₁ k₁ _=>⟨(hr W₁ (h.rely k₁)).1,λe he=>by
  rcases(hr W₁ (h.rely k₁)).2 e he with x|⟨p,hp,j,rfl⟩
  .exact x.evp
  .exact dh (h.at_ p hp).1⟩) n
theorem CS.set {B:Nat}{xs:Array Value}{t:TypeId}(h:CS M₀ W₀ ((B,xs,t)::L) M W)(hB:W₀.heap.size<=B)(hL:∀p∈L,p.1<B)(ys:Array Value):CS M₀ W₀ ((B,ys,t)::L) M (W.setRow B ys):=by
 have z:(W.setRow B ys).heap.size=W.heap.size:=setRow_size _ _ _;refine⟨h.own,h.keep.trans ⟨λb hb=>setRow_other _ _ _ _ (by have:=h.lt0 b hb;omega),by rw[z];exact Nat.le_refl _,rfl,rfl⟩,λb hb=>by rw[z];exact h.lt b hb,h.new,h.lt0,λp hp=>?_⟩;rcases List.mem_cons.1 hp with rfl|hp
 .exact⟨(h.at_ _ (List.mem_cons_self ..)).1,setRow_heap _ _ _ _ _ _ (h.at_ _ (List.mem_cons_self ..)).2⟩
 .have:=h.at_ p (List.mem_cons_of_mem _ hp);exact⟨this.1,(setRow_other _ _ _ _ (Nat.ne_of_lt (hL p hp))).trans this.2⟩
theorem ET.writes {B:Nat}{xs:Array Value}{t:TypeId}(ys:Array Value)(ho:ops[i]?=some o)(hw:Region.wanted o (yielded ops a.tmps)=true)(hk:b.kind≠.early)(h:CS M₀ W₀ ((B,xs,t)::L) M W)(hB:W₀.heap.size<=B)(hL:∀p∈L,p.1<B)
  (hr:∀W,W.heap[B]?=some (.cells xs t (0,0))->(execOp a.eval o).run P W=.ok .skip (W.setRow B ys)/\∀e∈(execOp a.eval o).events P W #[],∃j,e=⟨.cell ⟨B,j,Option.none⟩,true,false⟩)
  (n:∀W',CS M₀ W₀ ((B,ys,t)::L) M W'->ET P m (λ_=>True) X (λ_=>False) Stop M (G (b.at (a.put o.dst undef) (.inRegion ops rest::k)) cs) W'):ET P m (λ_=>True) X (λ_=>False) Stop M (G (b.at a (.inRegion ops (i::rest)::k)) cs) W:=
 ET.none ho hw hk λW₁ k₁ _=>by
  have h':=h.rely k₁;have hb:=h'.at_ _ (List.mem_cons_self ..);refine⟨_,(hr W₁ hb.2).1,bU.row ys hb.1 λe he=>?_,?_⟩
  .obtain⟨j,rfl⟩:=(hr W₁ hb.2).2 e (mem_listed he);exact dh hb.1
  .rw[show grow M W₁ (W₁.setRow B ys)=M from aP (setRow_size _ _ _)];exact n _ (h'.set hB hL ys)
end
section
variable {a:Act}{o:Oper}{x y:Operand}{B:Nat}{cur:Array Value}{ty:TypeId}{u v w:Value}{W:World}{p q:Addr}{n:Int}
theorem zY (hop:o.op=.store 152 x y)(ha:a.eval x=.pointer (some ⟨B,0,none⟩))(hy:a.eval y=.agg #[.pointer (some p),.pointer (some q),.int .u64 n])(hg:W.heap[B]?=some (.cells cur ty (0,0)))(hl:cur.size=3):
  (execOp a.eval o).run Tryz.prog W=.ok .skip (W.setRow B #[.pointer (some p),.pointer (some q),.int .u64 n])/\∀e∈(execOp a.eval o).events Tryz.prog W #[],∃j,e=⟨.cell ⟨B,j,none⟩,true,false⟩:=by
 obtain⟨cs,h1,h2,h3⟩:∃cs:Array Value,#[Value.pointer (some p),.pointer (some q),.int .u64 n]=cs/\cs.size=3/\∀v∈cs.toList,v.oneCell'=true:=⟨_,rfl,rfl,by simp[Value.oneCell']⟩;rw[h1]at hy⊢;clear h1;have h:=run_storeCells_at (P:=Tryz.prog) B 0 ty cs.toList 0 cur W hg (by simp[hl,h2]) h3;rw[Nat.add_zero]at h;have hd:cur.toList.drop (0+cs.toList.length)=[]:=by simp[hl,h2]
 rw[hd]at h;simp only[List.take_zero,List.nil_append,List.append_nil]at h;refine⟨?_,λe he=>?_⟩
 .unfold execOp;simp only[hop,ha,hy];go_simp
 .have h:=ga (P:=Tryz.prog) B 0 ty cs.toList 0 cur W #[] hg (by simp[hl,h2]) h3 e;unfold execOp at he;simp only[hop,ha,hy]at he;simp[go_sem,h2]at he;rcases h he with x|⟨j,_,h5,h6⟩
  .simp at x
  .exact⟨_,h6⟩
theorem mJ (hop:o.op=.load 152 x)(ha:a.eval x=.pointer (some ⟨B,0,none⟩))(hg:W.heap[B]?=some (.cells #[u,v,w] ty (0,0))):
  (execOp a.eval o).run Tryz.prog W=.ok (.value (.agg #[u,v,w])) W/\∀e∈(execOp a.eval o).events Tryz.prog W #[],∃j,e=⟨.cell ⟨B,j,none⟩,false,false⟩:=by
 have c0:W.cell? ⟨B,0,none⟩=some u:=by simp[World.cell?,hg]
 have c1:W.cell? ⟨B,1,none⟩=some v:=by simp[World.cell?,hg]
 have c2:W.cell? ⟨B,2,none⟩=some w:=by simp[World.cell?,hg]
 refine⟨?_,λe he=>?_⟩
 .unfold execOp;simp only[hop,ha];go_simp
 .unfold execOp at he;simp only[hop,ha]at he;simp[go_sem,c0,c1,c2]at he;rcases he with rfl|rfl|rfl<;>exact⟨_,rfl⟩
end
theorem Ci {M₀ M:Nat->Prop}{W₀ W:World}{L:List (Nat×Array Value×TypeId)}{P:Program}{s:Sem Next}{r:Result Next}{B:Nat}{cs:Array Value}{t:TypeId}(h:W.heap[B]?=some (.cells cs t (0,0))->s.run P W=r/\∀e∈s.events P W #[],∃j,e=⟨.cell ⟨B,j,none⟩,false,false⟩)
  (hW:CS M₀ W₀ L M W)(hm:(B,cs,t)∈L):s.run P W=r/\∀e∈s.events P W #[],mC e\/∃p∈L,∃j,e=⟨.cell ⟨p.1,j,none⟩,false,false⟩:=
 have x:=h (hW.at_ _ hm).2
 ⟨x.1,λe he=>.inr ⟨_,hm,x.2 e he⟩⟩
theorem CY (z:Sem Value)(f:TypeId->Addr->Nat->Nat->Sem Value)(v:Value):
  ReflectliteValue.method z f #[v]=(do match<-ReflectliteValue.parts v with|none=>z|some (t,a,fl)=>f t a fl (fl%32)):=rfl
theorem js (a:Addr)(w:World):(ReflectliteValue.parts (.agg #[.pointer (some ⟨9,135,none⟩),.pointer (some a),.int .u64 150])).run Tryz.prog w=.ok (some (135,a,150)) w:=by kernel_rfl
theorem yy (a:Addr)(w:World)(es:Array Event):(ReflectliteValue.parts (.agg #[.pointer (some ⟨9,135,none⟩),.pointer (some a),.int .u64 150])).events Tryz.prog w es=es:=by kernel_rfl
theorem yz (a p:Addr)(W:World)(es:Array Event)(ha:W.cell? a=some (.pointer (some p))):
  (ReflectliteValue.method (ReflectliteValue.valueError "reflectlite.Value.IsNil" 0) ReflectliteValue.isNil #[.agg #[.pointer (some ⟨9,135,none⟩),.pointer (some a),.int .u64 150]]).run Tryz.prog W=.ok (.bool false) W/\
  (ReflectliteValue.method (ReflectliteValue.valueError "reflectlite.Value.IsNil" 0) ReflectliteValue.isNil #[.agg #[.pointer (some ⟨9,135,none⟩),.pointer (some a),.int .u64 150]]).events Tryz.prog W es=es.push ⟨.cell a,false,false⟩:=by
 rw[CY];constructor
 .simp only[Sem.run_bind,js,Result.andThen];simp[ReflectliteValue.isNil,loadVar,isAgg,underlying,Tryz.underlying135,ha,Result.andThen]
 .simp only[Sem.events_bind,js,yy,Result.evThen_ok];simp[ReflectliteValue.isNil,loadVar,isAgg,underlying,Tryz.underlying135,ha,Result.evThen,go_sem];rfl
theorem sE {P:Program}{a:Act}{o:Oper}{f:FuncId}{fn:Func}{e:Array Value->Sem Value}{xs:Array Operand}{ats:Array TypeId}{ys:Array Value}{v:Value}{b:Nat}{W:World}(hop:o.op=.call {callee:=.value (.func f),args:=xs,argTypes:=ats})
  (hf:P.funcs[f]?=some fn)(hname:(fn.name== "runtime.NumGoroutine")=false)(hb:fn.body.isNone=true)(hn:Extern.findNext fn=none)(he:Extern.find fn=some e)(hx:xs.map a.eval=ys)
  (h:∀es,(e ys).run P W=.ok v W/\(e ys).events P W es=es.push ⟨.cell ⟨b,0,none⟩,false,false⟩):
  (execOp a.eval o).run P W=.ok (.value v) W/\∀e∈(execOp a.eval o).events P W #[],mC e\/e=⟨.cell ⟨b,0,none⟩,false,false⟩:=by
 rw[execOp_call_func (a:=a) hop,hx];refine⟨by rw[run_callFunc_extern hf hname hb hn he,(h #[]).1];rfl,λx hx=>?_⟩;rw[events_callFunc_extern hf hname hb hn he,(h _).2]at hx;simp only[Array.mem_push,Array.not_mem_empty,false_or]at hx;rcases hx with rfl|rfl
 .exact .inl ⟨f,rfl⟩
 .exact .inr rfl
theorem AY {L:List (Nat×Array Value×TypeId)}{A:Prop}{es:Array Event}{B:Nat}{cs:Array Value}{t:TypeId}(h:A/\∀e∈es,mC e\/e=⟨.cell ⟨B,0,none⟩,false,false⟩)(hm:(B,cs,t)∈L):
  A/\∀e∈es,mC e\/∃p∈L,∃j,e=⟨.cell ⟨p.1,j,none⟩,false,false⟩:=⟨h.1,λe he=>(h.2 e he).imp id λx=>⟨_,hm,0,x⟩⟩
theorem vg {P:Program}{a:Act}{o:Oper}{x:Operand}{T:TypeId}{B:Nat}{v:Value}{ty:TypeId}{W:World}(hop:o.op=.load T x)(ha:a.eval x=.pointer (some ⟨B,0,none⟩))(hT:∀w,(isAgg T).run P w=.ok false w)(hE:∀w es,(isAgg T).events P w es=es)(hg:W.heap[B]?=some (.cells #[v] ty (0,0))):
  (execOp a.eval o).run P W=.ok (.value v) W/\∀e∈(execOp a.eval o).events P W #[],∃j,e=⟨.cell ⟨B,j,none⟩,false,false⟩:=by
 have c0:W.cell? ⟨B,0,none⟩=some v:=by simp[World.cell?,hg]
 refine⟨?_,λe he=>?_⟩
 .unfold execOp;simp only[hop,ha];simp[Instr.loadAt,Instr.sureAddr,loadVar,hT,c0,Result.andThen,go_sem]
 .unfold execOp at he;simp only[hop,ha]at he;simp[Instr.loadAt,Instr.sureAddr,loadVar,hT,hE,c0,Result.evThen,go_sem]at he;exact⟨0,he⟩
theorem nO (w:World):(Rtype.elem? 135).run Tryz.prog w=.ok (some 128) w:=by kernel_rfl
theorem wu (w:World)(es:Array Event):(Rtype.elem? 135).events Tryz.prog w es=es:=by kernel_rfl
theorem Bu (p:Addr)(w:World):(ReflectliteValue.mk 128 p ReflectliteValue.flagAddr).run Tryz.prog w=.ok (.agg #[.pointer (some ⟨9,128,none⟩),.pointer (some p),.int .u64 409]) w:=by kernel_rfl
theorem zZ (p:Addr)(w:World)(es:Array Event):(ReflectliteValue.mk 128 p ReflectliteValue.flagAddr).events Tryz.prog w es=es:=by kernel_rfl
theorem z6 (a p:Addr)(W:World)(es:Array Event)(ha:W.cell? a=some (.pointer (some p))):
  (ReflectliteValue.method (ReflectliteValue.valueError "reflectlite.Value.Elem" 0) ReflectliteValue.elem #[.agg #[.pointer (some ⟨9,135,none⟩),.pointer (some a),.int .u64 150]]).run Tryz.prog W=.ok (.agg #[.pointer (some ⟨9,128,none⟩),.pointer (some p),.int .u64 409]) W/\
  (ReflectliteValue.method (ReflectliteValue.valueError "reflectlite.Value.Elem" 0) ReflectliteValue.elem #[.agg #[.pointer (some ⟨9,135,none⟩),.pointer (some a),.int .u64 150]]).events Tryz.prog W es=es.push ⟨.cell a,false,false⟩:=by
 rw[CY];constructor
 .simp only[Sem.run_bind,js,Result.andThen];simp[ReflectliteValue.elem,loadVar,isAgg,underlying,Tryz.underlying135,ha,Result.andThen,nO,Bu]
 .simp only[Sem.events_bind,js,yy,Result.evThen_ok];simp[ReflectliteValue.elem,loadVar,isAgg,underlying,Tryz.underlying135,ha,Result.evThen,nO,zZ,wu,go_sem];rfl
theorem pJ (a:Addr)(w:World):(ReflectliteValue.parts (.agg #[.pointer (some ⟨9,128,none⟩),.pointer (some a),.int .u64 409])).run Tryz.prog w=.ok (some (128,a,409)) w:=by kernel_rfl
theorem pK (a:Addr)(w:World):(ReflectliteValue.parts (.agg #[.pointer (some ⟨9,128,none⟩),.pointer (some a),.int .u64 153])).run Tryz.prog w=.ok (some (128,a,153)) w:=by kernel_rfl
theorem Bv (a:Addr)(w:World)(es:Array Event):(ReflectliteValue.parts (.agg #[.pointer (some ⟨9,128,none⟩),.pointer (some a),.int .u64 409])).events Tryz.prog w es=es:=by kernel_rfl
theorem Bw (a:Addr)(w:World)(es:Array Event):(ReflectliteValue.parts (.agg #[.pointer (some ⟨9,128,none⟩),.pointer (some a),.int .u64 153])).events Tryz.prog w es=es:=by kernel_rfl
theorem pL (w:World):(Rtype.directlyAssignable 128 128).run Tryz.prog w=.ok true w:=by kernel_rfl
theorem sF (w:World)(es:Array Event):(Rtype.directlyAssignable 128 128).events Tryz.prog w es=es:=by kernel_rfl
theorem sG (w:World):(sizeOf 128).run Tryz.prog w=.ok 1 w:=by kernel_rfl
theorem wv (w:World)(es:Array Event):(sizeOf 128).events Tryz.prog w es=es:=by kernel_rfl
theorem BA (ta b:Addr)(c:Int)(old:Value)(W:World)(es:Array Event)(hb:W.cell? b=some (.int .i64 c))(ht:W.cell? ta=some old)(hf:W.frozen? ta=false):
  (ReflectliteValue.set #[.agg #[.pointer (some ⟨9,128,none⟩),.pointer (some ta),.int .u64 409],.agg #[.pointer (some ⟨9,128,none⟩),.pointer (some b),.int .u64 153]]).run Tryz.prog W=.ok (.tuple #[]) (W.setCell ta (.int .i64 c))/\
  (ReflectliteValue.set #[.agg #[.pointer (some ⟨9,128,none⟩),.pointer (some ta),.int .u64 409],.agg #[.pointer (some ⟨9,128,none⟩),.pointer (some b),.int .u64 153]]).events Tryz.prog W es=(es.push ⟨.cell b,false,false⟩).push ⟨.cell ta,true,false⟩:=by
 delta ReflectliteValue.set ReflectliteValue.set.match_3
 rw[dif_pos (by rfl)];dsimp only[Array.getLit,List.getElem_toArray,List.getElem_cons_zero,List.getElem_cons_succ];have hl:=run_loadCells_list (P:=Tryz.prog) (w:=W) b [.int .i64 c] (λj v hv=>by
  match j,hv with
  |0,hv=>simp at hv;subst hv;simpa[Addr.add]using hb)
 simp only[List.length_cons,List.length_nil,Nat.zero_add]at hl;constructor
 .simp only[Sem.run_bind,pJ,pK,Result.andThen];simp[ReflectliteValue.flagAddr,loadVar,isAgg,underlying,Tryz.underlying128,hl,Result.andThen,pL,sG,storeVar,Value.cells,storeCells,Addr.add];rw[run_store Tryz.prog W ta _ _ (by rfl)];simp[ht,hf]
 .simp only[Sem.events_bind,pJ,pK,Bv,Bw,Result.evThen_ok];simp[ReflectliteValue.flagAddr,loadVar,isAgg,underlying,Tryz.underlying128,hl,Result.evThen,Result.andThen,pL,sF,sG,wv,storeVar,Value.cells,storeCells,Addr.add,loadCells,go_sem,ht,hf,hb];rfl
theorem CS.put1 {M₀ M:Nat->Prop}{W₀ W:World}{L:List (Nat×Array Value×TypeId)}{B:Nat}{x:Value}{t:TypeId}(h:CS M₀ W₀ L M W)(hm:(B,#[x],t)∈L)(hB:W₀.heap.size<=B)(y:Value):CS M₀ W₀ [(B,#[y],t)] M (W.setCell ⟨B,0,none⟩ y):=by
 have z:=gm W ⟨B,0,none⟩ y;refine⟨h.own,h.keep.trans ⟨λb hb=>?_,by rw[z];exact Nat.le_refl _,rfl,rfl⟩,λb hb=>by rw[z];exact h.lt b hb,h.new,h.lt0,λp hp=>?_⟩
 .rw[dw,if_neg (λe=>by have:=h.lt0 b hb;simp only at e;omega)]
 .obtain rfl:=List.mem_singleton.1 hp;refine⟨(h.at_ _ hm).1,?_⟩;rw[dw,if_pos rfl,(h.at_ _ hm).2];simp
theorem z8 {P:Program}{a:Act}{o:Oper}{f:FuncId}{fn:Func}{e:Array Value->Sem Value}{xs:Array Operand}{ats:Array TypeId}{ys:Array Value}{v y:Value}{b ta:Addr}{W:World}(hop:o.op=.call {callee:=.value (.func f),args:=xs,argTypes:=ats})
  (hf:P.funcs[f]?=some fn)(hname:(fn.name== "runtime.NumGoroutine")=false)(hb:fn.body.isNone=true)(hn:Extern.findNext fn=none)(he:Extern.find fn=some e)(hx:xs.map a.eval=ys)
  (h:∀es,(e ys).run P W=.ok v (W.setCell ta y)/\(e ys).events P W es=(es.push ⟨.cell b,false,false⟩).push ⟨.cell ta,true,false⟩):
  (execOp a.eval o).run P W=.ok (.value v) (W.setCell ta y)/\∀e∈(execOp a.eval o).events P W #[],mC e\/e=⟨.cell b,false,false⟩\/e=⟨.cell ta,true,false⟩:=by
 rw[execOp_call_func (a:=a) hop,hx];refine⟨by rw[run_callFunc_extern hf hname hb hn he,(h #[]).1];rfl,λx hx=>?_⟩;rw[events_callFunc_extern hf hname hb hn he,(h _).2]at hx;simp only[Array.mem_push,Array.not_mem_empty,false_or]at hx;rcases hx with(rfl|rfl)|rfl
 .exact .inl ⟨f,rfl⟩
 .exact .inr (.inl rfl)
 .exact .inr (.inr rfl)
theorem ET.sets {P:Program}{m:Bool}{X:Event->Prop}{Stop:(Nat->Prop)->Goroutine->World->Prop}{M M₀:Nat->Prop}{W W₀:World}{L:List (Nat×Array Value×TypeId)}{b:Frame}{a:Act}{k:List Item}{cs:List Frame}{ops:Array Oper}{i:Nat}{rest:List Nat}{o:Oper}
  {B C:Nat}{x z y:Value}{t u:TypeId}(v:Value)(ho:ops[i]?=some o)(hw:Region.wanted o (yielded ops a.tmps)=true)(hk:b.kind≠.early)(h:CS M₀ W₀ L M W)(hm:(B,#[x],t)∈L)(hc:(C,#[z],u)∈L)(hB:W₀.heap.size<=B)
  (hr:∀W,CS M₀ W₀ L M W->(execOp a.eval o).run P W=.ok (.value v) (W.setCell ⟨B,0,Option.none⟩ y)/\∀e∈(execOp a.eval o).events P W #[],mC e\/e=⟨.cell ⟨C,0,Option.none⟩,false,false⟩\/e=⟨.cell ⟨B,0,Option.none⟩,true,false⟩)
  (n:∀W',CS M₀ W₀ [(B,#[y],t)] M W'->ET P m (λ_=>True) X (λ_=>False) Stop M (G (b.at (a.put o.dst v) (.inRegion ops rest::k)) cs) W'):ET P m (λ_=>True) X (λ_=>False) Stop M (G (b.at a (.inRegion ops (i::rest)::k)) cs) W:=
 ET.oper ho hw hk λW₁ k₁ _=>by
  have h':=h.rely k₁;have q:=hr W₁ h';refine⟨v,_,q.1,bU.set y (h'.at_ _ hm).1 λe he=>?_,?_⟩
  .rcases q.2 e (mem_listed he)with x|rfl|rfl
   .exact x.evp
   .exact dh (h'.at_ _ hc).1
   .exact dh (h'.at_ _ hm).1
  .rw[show grow M W₁ (W₁.setCell ⟨B,0,Option.none⟩ y)=M from aP (gm _ _ _)];exact n _ (h'.put1 hm hB y)
theorem CS.less {M₀ M:Nat->Prop}{W₀ W:World}{L L':List (Nat×Array Value×TypeId)}(h:CS M₀ W₀ L M W)(hL:∀p∈L',p∈L):CS M₀ W₀ L' M W:=⟨h.own,h.keep,h.lt,h.new,h.lt0,λp hp=>h.at_ p (hL p hp)⟩
theorem CS.thaw {M₀ M:Nat->Prop}{W₀ W:World}{L:List (Nat×Array Value×TypeId)}{B:Nat}{cs:Array Value}{t:TypeId}(h:CS M₀ W₀ L M W)(hm:(B,cs,t)∈L):W.frozen? ⟨B,0,none⟩=false:=by
 unfold World.frozen?;rw[(h.at_ _ hm).2];simp
noncomputable def bodyC:Code:=Tryz.f65.body.getD .skip
variable {r0:Frame}{rest:List Frame}{M:Nat->Prop}{W:World}
theorem Aa (c:Int)(h0:CS M W [(0,#[.iface 175 (.agg #[.pointer (some ⟨9,92,none⟩)])],155)] M W):
  ET Tryz.prog true (λ_=>True) Ph.noX (λ_=>False) (λM' g W'=>g=G (r0.finish (.int .i64 c)) rest/\CS M W [] M' W') M
   (G ((base 65).at ⟨#[.iface 128 (.agg #[.int .i64 c]),undef,undef,undef,undef,undef,undef,undef,undef],[]⟩ [.code bodyC]) (r0::rest)) W:=by
 simp only[bodyC,Tryz.f65,Option.getD_some];refine ET.c (λ_=>stepG_seq) ?_
 (refine ET.c (λ_=>stepG_region) ?_;simp only[List.size_toArray,List.length_cons,List.length_nil,Nat.reduceAdd,Nat.zero_add,List.range,List.range.loop])
 refine ET.pure (.int .i64 0) rfl rfl (by k_ne) (λ_=>by kernel_rfl) (λ_=>by kernel_rfl) ?_;walk_nrm
 refine ET.c (λ_=>stepG_region_end) ?_;refine ET.c (λ_=>stepG_seq) ?_
 (refine ET.c (λ_=>stepG_region) ?_;simp only[List.size_toArray,List.length_cons,List.length_nil,Nat.reduceAdd,Nat.zero_add,List.range,List.range.loop])
 refine ET.makes (λB=>.pointer (some ⟨B,0,none⟩)) #[.int .i64 0] 128 #[] rfl rfl (by k_ne) h0 (λ_=>by kernel_rfl) (λ_=>by kernel_rfl) (by simp) λbr M₁ V₁ h1 o1 l1=>?_
 walk_nrm
 refine ET.c (λ_=>stepG_region_end) ?_;refine ET.c (λ_=>stepG_seq) ?_;refine ET.c (λ_=>stepG_seq) ?_
 (refine ET.c (λ_=>stepG_region) ?_;simp only[List.size_toArray,List.length_cons,List.length_nil,Nat.reduceAdd,Nat.zero_add,List.range,List.range.loop])
 refine ET.pure (.iface 128 (.agg #[.int .i64 c])) rfl rfl (by k_ne) (λ_=>by kernel_rfl) (λ_=>by kernel_rfl) ?_;walk_nrm
 refine ET.pure (.iface 135 (.pointer (some ⟨br,0,none⟩))) rfl rfl (by k_ne) (λ_=>by kernel_rfl) (λ_=>by kernel_rfl) ?_;walk_nrm
 (refine ET.k rfl (λ_ _ _=>goes_call rfl rfl (by k_ne) rfl Tryz.func92 (by kernel_rfl) rfl ⟨⟨rfl,λe he=>(by simp at he)⟩,?_⟩);walk_nrmf Tryz.f92)
 refine ET.c (λ_=>stepG_seq) ?_
 (refine ET.c (λ_=>stepG_region) ?_;simp only[List.size_toArray,List.length_cons,List.length_nil,Nat.reduceAdd,Nat.zero_add,List.range,List.range.loop])
 refine ET.pure (.bool false) rfl rfl (by k_ne) (λ_=>by kernel_rfl) (λ_=>by kernel_rfl) ?_;walk_nrm
 refine ET.c (λ_=>stepG_region_end) ?_;refine ET.c (λ_=>stepG_seq) ?_;refine ET.c (λ_=>stepG_seq) ?_
 (refine ET.c (λ_=>stepG_region) ?_;simp only[List.size_toArray,List.length_cons,List.length_nil,Nat.reduceAdd,Nat.zero_add,List.range,List.range.loop])
 refine ET.pure (.iface 128 (.agg #[.int .i64 c])) rfl rfl (by k_ne) (λ_=>by kernel_rfl) (λ_=>by kernel_rfl) ?_;walk_nrm
 refine ET.pure (.bool false) rfl rfl (by k_ne) (λ_=>by kernel_rfl) (λ_=>by kernel_rfl) ?_;walk_nrm
 refine ET.c (λ_=>stepG_region_end) ?_;refine ET.condF rfl ?_;refine ET.c (λ_=>stepG_skip) ?_;refine ET.c (λ_=>stepG_seq) ?_;refine ET.c (λ_=>stepG_seq) ?_
 (refine ET.c (λ_=>stepG_region) ?_;simp only[List.size_toArray,List.length_cons,List.length_nil,Nat.reduceAdd,Nat.zero_add,List.range,List.range.loop])
 refine ET.pure (.iface 135 (.pointer (some ⟨br,0,none⟩))) rfl rfl (by k_ne) (λ_=>by kernel_rfl) (λ_=>by kernel_rfl) ?_;walk_nrm
 refine ET.pure (.bool false) rfl rfl (by k_ne) (λ_=>by kernel_rfl) (λ_=>by kernel_rfl) ?_;walk_nrm
 refine ET.c (λ_=>stepG_region_end) ?_;refine ET.condF rfl ?_;refine ET.c (λ_=>stepG_skip) ?_;refine ET.c (λ_=>stepG_seq) ?_
 (refine ET.c (λ_=>stepG_region) ?_;simp only[List.size_toArray,List.length_cons,List.length_nil,Nat.reduceAdd,Nat.zero_add,List.range,List.range.loop])
 refine ET.pure (.iface 135 (.pointer (some ⟨br,0,none⟩))) rfl rfl (by k_ne) (λ_=>by kernel_rfl) (λ_=>by kernel_rfl) ?_;walk_nrm
 refine ET.makes (λB=>.agg #[.pointer (some ⟨9,135,none⟩),.pointer (some ⟨B,0,none⟩),.int .u64 150]) #[.pointer (some ⟨br,0,none⟩)] 135 #[⟨.mark (.extern 113),false,true⟩] rfl rfl (by k_ne) h1 (λ_=>by kernel_rfl) (λ_=>by kernel_rfl) (by simp[mC]) λbv M₂ V₂ h2 o2 l2=>?_
 walk_nrm
 refine ET.makes (λB=>.pointer (some ⟨B,0,none⟩)) #[.pointer none,.pointer none,.int .u64 0] 152 #[] rfl rfl (by k_ne) h2 (λ_=>by kernel_rfl) (λ_=>by kernel_rfl) (by simp) λbx M₃ V₃ h3 o3 l3=>?_
 walk_nrm
 refine ET.writes #[.pointer (some ⟨9,135,none⟩),.pointer (some ⟨bv,0,none⟩),.int .u64 150] rfl rfl (by k_ne) h3 o3 l3 (λW hW=>zY rfl rfl rfl hW rfl) λV₄ h4=>?_
 walk_nrm
 refine ET.c (λ_=>stepG_region_end) ?_;refine ET.c (λ_=>stepG_seq) ?_
 (refine ET.c (λ_=>stepG_region) ?_;simp only[List.size_toArray,List.length_cons,List.length_nil,Nat.reduceAdd,Nat.zero_add,List.range,List.range.loop])
 refine ET.looks (.agg #[.pointer (some ⟨9,135,none⟩),.pointer (some ⟨bv,0,none⟩),.int .u64 150]) rfl rfl (by k_ne) h4 (λW hW=>Ci (mJ rfl rfl) hW (.head _)) ?_;walk_nrm
 refine ET.ext (.iface 175 (.agg #[.pointer (some ⟨9,135,none⟩)])) 114 rfl rfl (by k_ne) (λ_=>by kernel_rfl) (λ_=>by kernel_rfl) ?_;walk_nrm
 refine ET.pure (.iface 175 (.agg #[.pointer (some ⟨9,135,none⟩)])) rfl rfl (by k_ne) (λ_=>by kernel_rfl) (λ_=>by kernel_rfl) ?_;walk_nrm
 refine ET.c (λ_=>stepG_region_end) ?_;refine ET.c (λ_=>stepG_seq) ?_;refine ET.c (λ_=>stepG_seq) ?_
 (refine ET.c (λ_=>stepG_region) ?_;simp only[List.size_toArray,List.length_cons,List.length_nil,Nat.reduceAdd,Nat.zero_add,List.range,List.range.loop])
 refine ET.pure (.iface 175 (.agg #[.pointer (some ⟨9,135,none⟩)])) rfl rfl (by k_ne) (λ_=>by kernel_rfl) (λ_=>by kernel_rfl) ?_;walk_nrm
 refine ET.ext (.int .u8 22) 268 rfl rfl (by k_ne) (λ_=>by kernel_rfl) (λ_=>by kernel_rfl) ?_;walk_nrm
 refine ET.pure (.bool false) rfl rfl (by k_ne) (λ_=>by kernel_rfl) (λ_=>by kernel_rfl) ?_;walk_nrm
 refine ET.pure (.bool false) rfl rfl (by k_ne) (λ_=>by kernel_rfl) (λ_=>by kernel_rfl) ?_;walk_nrm
 refine ET.looks (.agg #[.pointer (some ⟨9,135,none⟩),.pointer (some ⟨bv,0,none⟩),.int .u64 150]) rfl rfl (by k_ne) h4 (λW hW=>Ci (mJ rfl rfl) hW (.head _)) ?_;walk_nrm
 refine ET.looks (.bool false) rfl rfl (by k_ne) h4 (λW hW=>AY (sE (e:=ReflectliteValue.method (ReflectliteValue.valueError "reflectlite.Value.IsNil" 0) ReflectliteValue.isNil) rfl Tryz.func115 (by kernel_rfl) (by kernel_rfl) (by kernel_rfl) (by kernel_rfl) (by simp[Act.eval]) (λes=>yz ⟨bv,0,none⟩ ⟨br,0,none⟩ W es (hW.cell (.tail _ (.head _)) rfl))) (.tail _ (.head _))) ?_;walk_nrm
 refine ET.pure (.bool false) rfl rfl (by k_ne) (λ_=>by kernel_rfl) (λ_=>by kernel_rfl) ?_;walk_nrm
 refine ET.c (λ_=>stepG_region_end) ?_;refine ET.condF rfl ?_;refine ET.c (λ_=>stepG_skip) ?_;refine ET.c (λ_=>stepG_seq) ?_
 (refine ET.c (λ_=>stepG_region) ?_;simp only[List.size_toArray,List.length_cons,List.length_nil,Nat.reduceAdd,Nat.zero_add,List.range,List.range.loop])
 refine ET.pure (.iface 175 (.agg #[.pointer (some ⟨9,135,none⟩)])) rfl rfl (by k_ne) (λ_=>by kernel_rfl) (λ_=>by kernel_rfl) ?_;walk_nrm
 refine ET.ext (.iface 175 (.agg #[.pointer (some ⟨9,128,none⟩)])) 296 rfl rfl (by k_ne) (λ_=>by kernel_rfl) (λ_=>by kernel_rfl) ?_;walk_nrm
 refine ET.pure (.iface 175 (.agg #[.pointer (some ⟨9,128,none⟩)])) rfl rfl (by k_ne) (λ_=>by kernel_rfl) (λ_=>by kernel_rfl) ?_;walk_nrm
 refine ET.c (λ_=>stepG_region_end) ?_;refine ET.c (λ_=>stepG_seq) ?_;refine ET.c (λ_=>stepG_seq) ?_
 (refine ET.c (λ_=>stepG_region) ?_;simp only[List.size_toArray,List.length_cons,List.length_nil,Nat.reduceAdd,Nat.zero_add,List.range,List.range.loop])
 refine ET.pure (.iface 175 (.agg #[.pointer (some ⟨9,128,none⟩)])) rfl rfl (by k_ne) (λ_=>by kernel_rfl) (λ_=>by kernel_rfl) ?_;walk_nrm
 refine ET.ext (.int .u8 25) 268 rfl rfl (by k_ne) (λ_=>by kernel_rfl) (λ_=>by kernel_rfl) ?_;walk_nrm
 refine ET.pure (.bool true) rfl rfl (by k_ne) (λ_=>by kernel_rfl) (λ_=>by kernel_rfl) ?_;walk_nrm
 refine ET.pure (.bool true) rfl rfl (by k_ne) (λ_=>by kernel_rfl) (λ_=>by kernel_rfl) ?_;walk_nrm
 refine ET.pure (.iface 175 (.agg #[.pointer (some ⟨9,128,none⟩)])) rfl rfl (by k_ne) (λ_=>by kernel_rfl) (λ_=>by kernel_rfl) ?_;walk_nrm
 refine ET.looks (.iface 175 (.agg #[.pointer (some ⟨9,92,none⟩)])) rfl rfl (by k_ne) h4 (λW hW=>Ci (vg rfl rfl (λ_=>by kernel_rfl) (λ_ _=>by kernel_rfl)) hW (.tail _ (.tail _ (.tail _ (.head _))))) ?_;walk_nrm
 refine ET.ext (.bool true) 297 rfl rfl (by k_ne) (λ_=>by kernel_rfl) (λ_=>by kernel_rfl) ?_;walk_nrm
 refine ET.pure (.bool false) rfl rfl (by k_ne) (λ_=>by kernel_rfl) (λ_=>by kernel_rfl) ?_;walk_nrm
 refine ET.pure (.bool false) rfl rfl (by k_ne) (λ_=>by kernel_rfl) (λ_=>by kernel_rfl) ?_;walk_nrm
 refine ET.c (λ_=>stepG_region_end) ?_;refine ET.condF rfl ?_;refine ET.c (λ_=>stepG_skip) ?_;refine ET.c (λ_=>stepG_seq) ?_
 (refine ET.c (λ_=>stepG_region) ?_;simp only[List.size_toArray,List.length_cons,List.length_nil,Nat.reduceAdd,Nat.zero_add,List.range,List.range.loop])
 refine ET.pure (.iface 128 (.agg #[.int .i64 c])) rfl rfl (by k_ne) (λ_=>by kernel_rfl) (λ_=>by kernel_rfl) ?_;walk_nrm
 refine ET.pure (.iface 135 (.pointer (some ⟨br,0,none⟩))) rfl rfl (by k_ne) (λ_=>by kernel_rfl) (λ_=>by kernel_rfl) ?_;walk_nrm
 refine ET.looks (.agg #[.pointer (some ⟨9,135,none⟩),.pointer (some ⟨bv,0,none⟩),.int .u64 150]) rfl rfl (by k_ne) h4 (λW hW=>Ci (mJ rfl rfl) hW (.head _)) ?_;walk_nrm
 refine ET.pure (.iface 175 (.agg #[.pointer (some ⟨9,128,none⟩)])) rfl rfl (by k_ne) (λ_=>by kernel_rfl) (λ_=>by kernel_rfl) ?_;walk_nrm
 (refine ET.k rfl (λ_ _ _=>goes_call rfl rfl (by k_ne) rfl Tryz.func116 (by kernel_rfl) rfl ⟨⟨rfl,λe he=>(by simp at he)⟩,?_⟩);walk_nrmf Tryz.f116)
 refine ET.c (λ_=>stepG_seq) ?_
 (refine ET.c (λ_=>stepG_region) ?_;simp only[List.size_toArray,List.length_cons,List.length_nil,Nat.reduceAdd,Nat.zero_add,List.range,List.range.loop])
 refine ET.makes (λB=>.pointer (some ⟨B,0,none⟩)) #[.pointer (some ⟨9,135,none⟩),.pointer (some ⟨bv,0,none⟩),.int .u64 150] 152 #[] rfl rfl (by k_ne) h4 (λ_=>by kernel_rfl) (λ_=>by kernel_rfl) (by simp) λbb M₅ V₅ h5 o5 l5=>?_
 walk_nrm
 refine ET.pure (.bool false) rfl rfl (by k_ne) (λ_=>by kernel_rfl) (λ_=>by kernel_rfl) ?_;walk_nrm
 refine ET.c (λ_=>stepG_region_end) ?_;refine ET.c (λ_=>stepG_block) ?_;refine ET.c (λ_=>stepG_loop) ?_;refine ET.c (λ_=>stepG_block) ?_;refine ET.c (λ_=>stepG_seq) ?_;refine ET.c (λ_=>stepG_seq) ?_
 (refine ET.c (λ_=>stepG_region) ?_;simp only[List.size_toArray,List.length_cons,List.length_nil,Nat.reduceAdd,Nat.zero_add,List.range,List.range.loop])
 refine ET.pure (.iface 128 (.agg #[.int .i64 c])) rfl rfl (by k_ne) (λ_=>by kernel_rfl) (λ_=>by kernel_rfl) ?_;walk_nrm
 refine ET.ext (.iface 175 (.agg #[.pointer (some ⟨9,128,none⟩)])) 133 rfl rfl (by k_ne) (λ_=>by kernel_rfl) (λ_=>by kernel_rfl) ?_;walk_nrm
 refine ET.pure (.iface 175 (.agg #[.pointer (some ⟨9,128,none⟩)])) rfl rfl (by k_ne) (λ_=>by kernel_rfl) (λ_=>by kernel_rfl) ?_;walk_nrm
 refine ET.ext (.bool true) 294 rfl rfl (by k_ne) (λ_=>by kernel_rfl) (λ_=>by kernel_rfl) ?_;walk_nrm
 refine ET.c (λ_=>stepG_region_end) ?_;refine ET.condT rfl ?_;refine ET.c (λ_=>stepG_seq) ?_
 (refine ET.c (λ_=>stepG_region) ?_;simp only[List.size_toArray,List.length_cons,List.length_nil,Nat.reduceAdd,Nat.zero_add,List.range,List.range.loop])
 refine ET.looks (.agg #[.pointer (some ⟨9,135,none⟩),.pointer (some ⟨bv,0,none⟩),.int .u64 150]) rfl rfl (by k_ne) h5 (λW hW=>Ci (mJ rfl rfl) hW (.head _)) ?_;walk_nrm
 refine ET.looks (.agg #[.pointer (some ⟨9,128,none⟩),.pointer (some ⟨br,0,none⟩),.int .u64 409]) rfl rfl (by k_ne) h5 (λW hW=>AY (sE (e:=ReflectliteValue.method (ReflectliteValue.valueError "reflectlite.Value.Elem" 0) ReflectliteValue.elem) rfl Tryz.func134 (by kernel_rfl) (by kernel_rfl) (by kernel_rfl) (by kernel_rfl) (by simp[Act.eval]) (λes=>z6 ⟨bv,0,none⟩ ⟨br,0,none⟩ W es (hW.cell (.tail _ (.tail _ (.head _))) rfl))) (.tail _ (.tail _ (.head _)))) ?_;walk_nrm
 refine ET.pure (.iface 128 (.agg #[.int .i64 c])) rfl rfl (by k_ne) (λ_=>by kernel_rfl) (λ_=>by kernel_rfl) ?_;walk_nrm
 refine ET.makes (λB=>.agg #[.pointer (some ⟨9,128,none⟩),.pointer (some ⟨B,0,none⟩),.int .u64 153]) #[.int .i64 c] 128 #[⟨.mark (.extern 113),false,true⟩] rfl rfl (by k_ne) h5 (λ_=>by kernel_rfl) (λ_=>by kernel_rfl) (by simp[mC]) λbe M₆ V₆ h6 o6 l6=>?_
 walk_nrm
 refine ET.sets (.tuple #[]) rfl rfl (by k_ne) h6 (.tail _ (.tail _ (.tail _ (.tail _ (.head _))))) (.head _) o1 (λW hW=>z8 (e:=ReflectliteValue.set) rfl Tryz.func135 (by kernel_rfl) (by kernel_rfl) (by kernel_rfl) (by kernel_rfl) (by simp[Act.eval]) (λes=>BA ⟨br,0,none⟩ ⟨be,0,none⟩ c _ W es (hW.cell (.head _) rfl) (hW.cell (.tail _ (.tail _ (.tail _ (.tail _ (.head _))))) rfl) (hW.thaw (.tail _ (.tail _ (.tail _ (.tail _ (.head _)))))))) λV₇ h7=>?_
 walk_nrm
 refine ET.c (λ_=>stepG_region_end) ?_;refine ET.c (λ_=>stepG_seq) ?_
 (refine ET.c (λ_=>stepG_region) ?_;simp only[List.size_toArray,List.length_cons,List.length_nil,Nat.reduceAdd,Nat.zero_add,List.range,List.range.loop])
 refine ET.pure (.bool true) rfl rfl (by k_ne) (λ_=>by kernel_rfl) (λ_=>by kernel_rfl) ?_;walk_nrm
 refine ET.c (λ_=>stepG_region_end) ?_;refine ET.c (λ_=>stepG_ret') ?_
 (refine ET.k rfl (λ_ _ _=>goes_leave1 rfl rfl Tryz.func116 rfl ⟨⟨rfl,λe he=>(by simp at he)⟩,?_⟩);walk_nrm)
 refine ET.pure (.bool true) rfl rfl (by k_ne) (λ_=>by kernel_rfl) (λ_=>by kernel_rfl) ?_;walk_nrm
 refine ET.c (λ_=>stepG_region_end) ?_;refine ET.c (λ_=>stepG_ret') ?_
 (refine ET.k rfl (λ_ _ _=>goes_leave1 rfl rfl Tryz.func92 rfl ⟨⟨rfl,λe he=>(by simp at he)⟩,?_⟩);walk_nrm)
 refine ET.c (λ_=>stepG_region_end) ?_;refine ET.condT rfl ?_;refine ET.c (λ_=>stepG_seq) ?_
 (refine ET.c (λ_=>stepG_region) ?_;simp only[List.size_toArray,List.length_cons,List.length_nil,Nat.reduceAdd,Nat.zero_add,List.range,List.range.loop])
 refine ET.pure (.pointer (some ⟨br,0,none⟩)) rfl rfl (by k_ne) (λ_=>by kernel_rfl) (λ_=>by kernel_rfl) ?_;walk_nrm
 refine ET.looks (.int .i64 c) rfl rfl (by k_ne) h7 (λW hW=>Ci (vg rfl rfl (λ_=>by kernel_rfl) (λ_ _=>by kernel_rfl)) hW (.head _)) ?_;walk_nrm
 refine ET.pure (.int .i64 c) rfl rfl (by k_ne) (λ_=>by kernel_rfl) (λ_=>by kernel_rfl) ?_;walk_nrm
 refine ET.c (λ_=>stepG_region_end) ?_;refine ET.c (λ_=>stepG_ret') ?_;refine ET.leaveE (.int .i64 c) rfl rfl Tryz.func65 (λW₁ _ _=>⟨by kernel_rfl,λe he=>?_⟩) ?_
 .rw[show(results Tryz.f65 _).events Tryz.prog W₁ #[]=#[] by kernel_rfl]at he;simp at he
 exact ET.stop λW' k _=>⟨rfl,(h7.rely k).less (by simp)⟩
theorem Ab (h0:CS M W [] M W):
  ET Tryz.prog true (λ_=>True) Ph.noX (λ_=>False) (λM' g W'=>g=G (r0.finish (.int .i64 0)) rest/\CS M W [] M' W') M
   (G ((base 65).at ⟨#[.nilIface,undef,undef,undef,undef,undef,undef,undef,undef],[]⟩ [.code bodyC]) (r0::rest)) W:=by
 simp only[bodyC,Tryz.f65,Option.getD_some];refine ET.c (λ_=>stepG_seq) ?_
 (refine ET.c (λ_=>stepG_region) ?_;simp only[List.size_toArray,List.length_cons,List.length_nil,Nat.reduceAdd,Nat.zero_add,List.range,List.range.loop])
 refine ET.pure (.int .i64 0) rfl rfl (by k_ne) (λ_=>by kernel_rfl) (λ_=>by kernel_rfl) ?_;walk_nrm
 refine ET.c (λ_=>stepG_region_end) ?_;refine ET.c (λ_=>stepG_seq) ?_
 (refine ET.c (λ_=>stepG_region) ?_;simp only[List.size_toArray,List.length_cons,List.length_nil,Nat.reduceAdd,Nat.zero_add,List.range,List.range.loop])
 refine ET.makes (λB=>.pointer (some ⟨B,0,none⟩)) #[.int .i64 0] 128 #[] rfl rfl (by k_ne) h0 (λ_=>by kernel_rfl) (λ_=>by kernel_rfl) (by simp) λbr M₁ V₁ h1 o1 l1=>?_
 walk_nrm
 refine ET.c (λ_=>stepG_region_end) ?_;refine ET.c (λ_=>stepG_seq) ?_;refine ET.c (λ_=>stepG_seq) ?_
 (refine ET.c (λ_=>stepG_region) ?_;simp only[List.size_toArray,List.length_cons,List.length_nil,Nat.reduceAdd,Nat.zero_add,List.range,List.range.loop])
 refine ET.pure (.nilIface) rfl rfl (by k_ne) (λ_=>by kernel_rfl) (λ_=>by kernel_rfl) ?_;walk_nrm
 refine ET.pure (.iface 135 (.pointer (some ⟨br,0,none⟩))) rfl rfl (by k_ne) (λ_=>by kernel_rfl) (λ_=>by kernel_rfl) ?_;walk_nrm
 (refine ET.k rfl (λ_ _ _=>goes_call rfl rfl (by k_ne) rfl Tryz.func92 (by kernel_rfl) rfl ⟨⟨rfl,λe he=>(by simp at he)⟩,?_⟩);walk_nrmf Tryz.f92)
 refine ET.c (λ_=>stepG_seq) ?_
 (refine ET.c (λ_=>stepG_region) ?_;simp only[List.size_toArray,List.length_cons,List.length_nil,Nat.reduceAdd,Nat.zero_add,List.range,List.range.loop])
 refine ET.pure (.bool false) rfl rfl (by k_ne) (λ_=>by kernel_rfl) (λ_=>by kernel_rfl) ?_;walk_nrm
 refine ET.c (λ_=>stepG_region_end) ?_;refine ET.c (λ_=>stepG_seq) ?_;refine ET.c (λ_=>stepG_seq) ?_
 (refine ET.c (λ_=>stepG_region) ?_;simp only[List.size_toArray,List.length_cons,List.length_nil,Nat.reduceAdd,Nat.zero_add,List.range,List.range.loop])
 refine ET.pure (.nilIface) rfl rfl (by k_ne) (λ_=>by kernel_rfl) (λ_=>by kernel_rfl) ?_;walk_nrm
 refine ET.pure (.bool true) rfl rfl (by k_ne) (λ_=>by kernel_rfl) (λ_=>by kernel_rfl) ?_;walk_nrm
 refine ET.c (λ_=>stepG_region_end) ?_;refine ET.condT rfl ?_;refine ET.c (λ_=>stepG_seq) ?_
 (refine ET.c (λ_=>stepG_region) ?_;simp only[List.size_toArray,List.length_cons,List.length_nil,Nat.reduceAdd,Nat.zero_add,List.range,List.range.loop])
 refine ET.pure (.bool false) rfl rfl (by k_ne) (λ_=>by kernel_rfl) (λ_=>by kernel_rfl) ?_;walk_nrm
 refine ET.c (λ_=>stepG_region_end) ?_;refine ET.c (λ_=>stepG_ret') ?_
 (refine ET.k rfl (λ_ _ _=>goes_leave1 rfl rfl Tryz.func92 rfl ⟨⟨rfl,λe he=>(by simp at he)⟩,?_⟩);walk_nrm)
 refine ET.c (λ_=>stepG_region_end) ?_;refine ET.condF rfl ?_;refine ET.c (λ_=>stepG_skip) ?_;refine ET.c (λ_=>stepG_seq) ?_
 (refine ET.c (λ_=>stepG_region) ?_;simp only[List.size_toArray,List.length_cons,List.length_nil,Nat.reduceAdd,Nat.zero_add,List.range,List.range.loop])
 refine ET.pure (.int .i64 0) rfl rfl (by k_ne) (λ_=>by kernel_rfl) (λ_=>by kernel_rfl) ?_;walk_nrm
 refine ET.c (λ_=>stepG_region_end) ?_;refine ET.c (λ_=>stepG_ret') ?_;refine ET.leaveE (.int .i64 0) rfl rfl Tryz.func65 (λW₁ _ _=>⟨by kernel_rfl,λe he=>?_⟩) ?_
 .rw[show(results Tryz.f65 _).events Tryz.prog W₁ #[]=#[] by kernel_rfl]at he;simp at he
 exact ET.stop λW' k _=>⟨rfl,(h1.rely k).less (by simp)⟩
end Go.Proofs.YtlmcblcijndipabGreatDoor
namespace Go.Proofs.YtlmcblcijndipabGreatDoor
section
open Go Go.Conc Go.RowKit
def yA (v:Value)(c:Int):Prop:=(v=.nilIface/\c=0)\/v=.iface 128 (.agg #[.int .i64 c])
def lA:Obj:=.cells #[.iface 175 (.agg #[.pointer (some ⟨9,92,none⟩)])] 155 (0,0)
def ww (M:Nat->Prop)(W:World):Prop:=M 0/\W.heap[0]?=some lA
def DrC (f:FuncId)(xs:Array Value)(V:World)(R:Value->World->Prop):Prop:=f=65/\∃v c,xs=#[v]/\yA v c/\R=λr V'=>r=.int .i64 c/\V'=V
theorem yB:Tryz.f65.body=some bodyC:=rfl
theorem wx (v:Value):Frame.enter Tryz.prog 65 #[v] .normal=(base 65).at ⟨#[v,undef,undef,undef,undef,undef,undef,undef,undef],[]⟩ [.code bodyC]:=by
 rw[enter_at #[v] Tryz.func65 yB];rfl
theorem sH {v:Value}{c:Int}{M:Nat->Prop}{W:World}{Shun:Loc->Prop}{gs:Array Goroutine}{r0:Frame}{rest:List Frame}{t:Trace}{q:Nat->Nat}{sl:Option (Nat×Nat)}(hv:yA v c)(hI:ww M W)
  (h:bf Tryz.prog Shun none0 none0 M gs (G (Frame.enter Tryz.prog 65 #[v] .normal) (r0::rest)) W t q):
  ∃N gs' M' W' sl' t' q',runNT Tryz.prog N (crowd gs W sl) t=(.next (crowd gs' W' sl'),t')/\bf Tryz.prog Shun none0 none0 M' gs' (G (r0.finish (.int .i64 c)) rest) W' t' q'/\CS M W [] M' W':=by
 have hl:∀b,M b->b<W.heap.size:=λb hb=>h.lt b (.inl hb)
 have h0:CS M W [] M W:=⟨λ_ h=>h,aw.refl _ _,hl,λ_ h=>.inl h,hl,λp hp=>by simp at hp⟩;have hE:ET Tryz.prog true (λ_=>True) Ph.noX none0 (λM' g W'=>g=G (r0.finish (.int .i64 c)) rest/\CS M W [] M' W') M (G (Frame.enter Tryz.prog 65 #[v] .normal) (r0::rest)) W:=by
  rw[wx];rcases hv with⟨rfl,rfl⟩|rfl
  .exact Ab h0
  .exact Aa c ⟨λ_ h=>h,aw.refl _ _,hl,λ_ h=>.inl h,hl,λp hp=>by obtain rfl:=List.mem_singleton.1 hp;exact hI⟩
 obtain⟨r,hr⟩:=hE;obtain⟨N,gs',M',a',w',sl',t',q',h1,_,h3,h4,_⟩:=fk (λ_=>trivial) r _ gs M _ W sl t q (Nat.le_refl _) h hr;obtain⟨rfl,h5⟩:=h3 w' (aw.refl _ _) trivial;exact⟨N,gs',M',w',sl',t',q',h1,h4,h5⟩
section
variable [Gl]{ok:Ctx}
theorem wy {ρ:Ren}{v v':Value}{c:Int}(h:yA v c)(hv:ah ok ρ v v'):v'=v:=by
 rcases h with⟨rfl,_⟩|rfl
 .cases hv;rfl
 .cases hv with
  |iface t hv=>
   cases hv with
   |@agg xs xs' e hv=>
    have:xs'=#[.int .i64 c]:=by
     refine Array.ext (by simpa using e.symm) λi h1 h2=>?_
     have hi:i=0:=by simp at h2;omega
     subst hi;have:=hv 0 (.int .i64 c) xs'[0] rfl (Array.getElem?_eq_getElem h1);generalize xs'[0]=z at this;cases this;rfl
    rw[this]
theorem yC:iK Tryz.prog ok ww DrC:=by
 rintro f xs V ρ xs' W M Shun gs r0 rest t q sl R hI ⟨rfl,v,c,rfl,hv,rfl⟩ hxs hw ho hl;obtain⟨v',e0,r0'⟩:=hxs.get (i:=0) rfl;obtain rfl:xs'=#[v']:=by
  refine Array.ext (by simpa using hxs.size.symm) λi h1 h2=>?_
  have hi:i=0:=by simp at h2;omega
  subst hi;have:=Array.getElem?_eq_getElem h1;rw[e0]at this;exact(Option.some.inj this).symm
 obtain rfl:=wy hv r0';obtain⟨N,gs',M',W',sl',t',q',k1,k2,k3⟩:=sH (sl:=sl) hv hI hl;exact⟨N,gs',W',sl',t',q',Shun,M',.int .i64 c,ρ,.int .i64 c,V,k1,k2,Ren.le_refl _,.int _ _,hw.others ho (k3.keep.mono λb hb=>hb.elim id λx=>x.elim),λb d hb=>k3.own d (ho b d hb),⟨rfl,rfl⟩,k3.keep,k3.own,λb d hb=>.inl hb,λ_ _=>rfl⟩
theorem BC:iL ok DrC:=by
 rintro f xs V V' v ρ R ⟨_,v0,c,_,_,rfl⟩ ⟨rfl,rfl⟩ _ hw;exact⟨ρ,Ren.le_refl _,.int _ _,hw⟩
end
structure Bl (N:Nat)(w w':World):Prop where
 size:w.heap.size<=w'.heap.size
 block:∀k,k<N->w'.heap[k]?=w.heap[k]?
theorem Bl.ofR {V w:World}{τ:Nat->Question->Nat}{d:Nat}(h:Below (re V τ d).heap.size (re V τ d) w):Bl V.heap.size V w:=⟨h.size,h.block⟩
theorem Bl.trans {N M:Nat}{a b c:World}(h:Bl N a b)(k:Bl M b c)(hN:N<=M):Bl N a c:=⟨Nat.le_trans h.size k.size,λi hi=>(k.block i (by omega)).trans (h.block i hi)⟩
end
section
open Go Go.Conc
def BU (K R:Act->World->Prop):Exit->Act->World->Prop
 |.normal=>K
 |.ret=>R
 |_=>λ_ _=>False
section
variable [Gl]{P₀:Program}{ok:Ctx}{c:Frame}{Dr:FuncId->Array Value->World->(Value->World->Prop)->Prop}{Q:Value->World->Prop}{b:Frame}{a:Act}{k:List Item}{cs:List Frame}{V:World}
theorem ar.chainM (E:cE P₀ ok c Dr)(hb:ok.inn b.fn=true)(ss:List Code)(T:Code)(K R:Act->World->Prop)
  (h:∀τ d,aB P₀ (BU K R) ss a (re V τ d))
  (hK:∀a' w',K a' w'->ar P₀ ok c Dr Q ⟨b.at a' (.code T::k),cs,w'⟩)(hR:∀a' w' todo,R a' w'->ar P₀ ok c Dr Q ⟨{b.at a' todo with mode:=.returning},cs,w'⟩):
  ar P₀ ok c Dr Q ⟨b.at a (.code (Proofs.YtlmcblcijndipabGreatDoor.chain ss T)::k),cs,V⟩:=by
 refine ar.of_steps E.pair E.shut E.floor (λs1=>(∃a' w',K a' w'/\s1=⟨b.at a' (.code T::k),cs,w'⟩)\/∃a' w' todo,R a' w'/\s1=⟨{b.at a' todo with mode:=.returning},cs,w'⟩) ?_ (λτ d=>?_) ?_
 .rintro _ (⟨a',w',_,rfl⟩|⟨a',w',todo,_,rfl⟩)
  .exact hb
  .exact hb
 .obtain⟨e,a',w',hq,harr⟩:=iN (T:=T) ss (h τ d) b k (cs++[c]);cases e with
  |normal=>exact⟨_,.inl ⟨a',w',hq,rfl⟩,harr⟩
  |ret=>
   obtain⟨todo,hs⟩:=harr;exact⟨_,.inr ⟨a',w',todo,hq,rfl⟩,hs⟩
  |_=>exact hq.elim
 .rintro _ (⟨a',w',h1,rfl⟩|⟨a',w',todo,h1,rfl⟩)
  .exact hK a' w' h1
  .exact hR a' w' todo h1
end
end
end Go.Proofs.YtlmcblcijndipabGreatDoor
