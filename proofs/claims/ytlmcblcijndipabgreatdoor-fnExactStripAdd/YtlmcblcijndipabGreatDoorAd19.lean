import Derived.Test.YtlmcblcijndipabGreatDoorAd15b
import Derived.Lib.Overlaps
set_option linter.unusedVariables false
namespace Go.Proofs.YtlmcblcijndipabGreatDoor
section
open Go Go.Conc
def dr (md:Region.Mode)(ops:Array Oper):Nat->Array Bool->List (List Nat)
 |0,_=>[[]]
 |n+1,l=>if(Region.ready md ops l).isEmpty then[[]]else(Region.ready md ops l).flatMap λi=>(dr md ops n (l.setIfInBounds i true)).map (i::·)
theorem wT {md:Region.Mode}{ops:Array Oper}{l:Array Bool}{o:List Nat}(h:wy md ops l o):∀n,CF ops l<=n->o∈dr md ops n l:=by
 induction h with
 |nil h=>
  intro n _;cases n with
  |zero=>simp[dr]
  |succ n=>simp[dr,h]
 |@cons l i rest hi _ ih=>
  intro n hn;have hlt:=wz hi;cases n with
  |zero=>omega
  |succ n=>
   have hne:(Region.ready md ops l).isEmpty=false:=by
    cases hr:Region.ready md ops l with
    |nil=>rw[hr]at hi;simp at hi
    |cons _ _=>rfl
   simp only[dr,hne,Bool.false_eq_true,if_false,List.mem_flatMap,List.mem_map];exact⟨i,hi,rest,ih n (by omega),rfl⟩
theorem pj {P:Program}{md:Region.Mode}{ops:Array Oper}{Q:Exit->Act->World->Prop}:∀(n:Nat) {l:Array Bool} {o:List Nat} {a:Act} {w:World},o∈dr md ops n l->wpAny P md ops Q n l a w->wpOps P ops Q o a w
 |0,l,o,a,w,ho,h=>by
  simp only[dr,List.mem_singleton]at ho;subst ho;exact h.2
 |n+1,l,o,a,w,ho,h=>by
  simp only[dr]at ho;split at ho
  .rename_i hr;simp only[List.mem_singleton]at ho;subst ho;exact h.1 (by simpa using hr)
  .simp only[List.mem_flatMap,List.mem_map]at ho;obtain⟨i,hi,rest,hrest,rfl⟩:=ho;rw[wpOps_cons];exact wpOp_mono (λa w=>pj n hrest) (h.2 i hi)
theorem si {P:Program}{ops ops':Array Oper}{Q:Exit->Act->World->Prop}(φ:Nat->Nat)(hs:∀i,i<ops'.size->ops[φ i]?=ops'[i]?)(hg:∀o∈ops',o.guard=none):∀(l:List Nat) {a:Act} {w:World},(∀i∈l,i<ops'.size)->wpOps P ops' Q l a w->wpOps P ops Q (l.map φ) a w
 |[],_,_,_,h=>h
 |i::l,a,w,hl,h=>by
  rw[List.map_cons,wpOps_cons];rw[wpOps_cons]at h;have hi:=hl i (GN ..);have ho:=Gu hi;have hgi:=hg _ (Array.getElem_mem hi);have w1:∀(f:Nat->Option Bool),Region.wanted ops'[i] f=true:=λf=>by simp[Region.wanted,hgi]
  refine wpOp_mono (λa w h=>si φ hs hg l (λj hj=>hl j (GM _ hj)) h) ?_;unfold wpOp at h⊢;rw[hs i hi,ho];rw[ho]at h;simp only[w1,if_true]at h⊢;exact h
section
variable [Gl]{P0:Program}{ok:Ctx}{c:Frame}{Dr:FuncId->Array Value->World->(Value->World->Prop)->Prop}{Q:Value->World->Prop}{b:Frame}{a:Act}{k:List Item}{cs:List Frame}{V:World}
theorem ap.opsAny (E:bG P0 ok c Dr)(hb:ok.inn b.fn=true){ops:Array Oper}(l r:List Nat)(K:Act->World->Prop)(h:∀τ d,wpOps P0 ops (λe a w=>e=.normal/\K a w) l a (re V τ d))(hK:∀a' w',K a' w'->ap P0 ok c Dr Q ⟨b.at a' (.inRegion ops r::k),cs,w'⟩):
  ap P0 ok c Dr Q ⟨b.at a (.inRegion ops (l++r)::k),cs,V⟩:=by
 refine ap.of_steps E.pair E.shut E.floor (λs1=>∃a' w',K a' w'/\s1=⟨b.at a' (.inRegion ops r::k),cs,w'⟩) ?_ (λτ d=>?_) ?_
 .rintro _ ⟨a',w',_,rfl⟩;exact hb
 .obtain⟨a',w',hq,hs⟩:=dm _ (h τ d) r b k (cs++[c]);exact⟨_,⟨a',w',hq,rfl⟩,hs⟩
 .rintro _ ⟨a',w',h1,rfl⟩;exact hK a' w' h1
theorem ap.drawn (E:bG P0 ok c Dr)(hb:ok.inn b.fn=true)(hm:P0.follows .mixedOrders=true){ops:Array Oper}{id:Nat}(h:∀order,wy .any ops (Array.replicate ops.size false) order->ap P0 ok c Dr Q ⟨b.at a (.inRegion ops order::k),cs,V⟩):
  ap P0 ok c Dr Q ⟨b.at a (.code (.region id ops true)::k),cs,V⟩:=by
 refine ap.of_steps E.pair E.shut E.floor (λs1=>∃order τ d,wy .any ops (Array.replicate ops.size false) order/\s1=St.re ⟨b.at a (.inRegion ops order::k),cs,V⟩ τ d) ?_ (λτ d=>?_) ?_
 .rintro _ ⟨order,τ,d,_,rfl⟩;exact hb
 .refine⟨St.re ⟨b.at a (.inRegion ops (Region.schedule (P0.follows .mixedOrders) ops (τ d (.order b.fn id)))::k),cs,V⟩ τ (d+1),⟨_,τ,d+1,?_,rfl⟩,.one (step_lone_go ?_)⟩
  .rw[hm];exact kX _
  .have h0:=stepG_region_draw (P:=P0) (main:=true) (ops:=ops) (b:=b) (a:=a) (k:=k) (cs:=cs++[c]) (w:=re V τ d) (id:=id);first
    |exact h0
    |(show(stepG P0 true (G (b.at a (.code (.region id ops true)::k)) (cs++[c])) (re V τ d)).bare=_;rw[h0];rfl)
 .rintro _ ⟨order,τ,d,ho,rfl⟩;exact λτ' d'=>h order ho τ' d'
theorem ap.drawnTo (E:bG P0 ok c Dr)(hb:ok.inn b.fn=true)(hm:P0.follows .mixedOrders=true){ops:Array Oper}{id':Nat}(ops':Array Oper)(r:List Nat)(hs:∀i,i<ops'.size->ops[i]?=ops'[i]?)(hg:∀o∈ops',o.guard=none)
  (hk:(dr .any ops ops.size (Array.replicate ops.size false)).all (λo=>(o.take ops'.size++r==o)&&(o.take ops'.size).all (·<ops'.size)&&(dr .any ops' ops'.size (Array.replicate ops'.size false)).contains (o.take ops'.size))=true)
  (K:Act->World->Prop)(h:∀τ d,wpAny P0 .any ops' (λe a w=>e=.normal/\K a w) ops'.size (Array.replicate ops'.size false) a (re V τ d))(hK:∀a' w',K a' w'->ap P0 ok c Dr Q ⟨b.at a' (.inRegion ops r::k),cs,w'⟩):
  ap P0 ok c Dr Q ⟨b.at a (.code (.region id' ops true)::k),cs,V⟩:=by
 refine ap.drawn E hb hm λorder ho=>?_
 have hmem:=wT ho ops.size (by unfold CF;exact Gq (List.length_filter_le _ _) (by simp));rw[List.all_eq_true]at hk;have h1:=hk order hmem;simp only[Bool.and_eq_true,beq_iff_eq,List.all_eq_true,decide_eq_true_eq,List.contains_iff_mem]at h1;obtain⟨⟨e1,e2⟩,e3⟩:=h1;rw[<-e1];exact ap.opsAny E hb _ r K (λτ d=>by have:=si id hs hg _ e2 (pj _ e3 (h τ d));rwa [List.map_id]at this) hK
theorem ap.tailAny (E:bG P0 ok c Dr)(hb:ok.inn b.fn=true){ops:Array Oper}{n:Nat}{L:Array Bool}{post:List Nat}(hp:post∈dr .any ops n L)(K:Act->World->Prop)(h:∀τ d,wpAny P0 .any ops (λe a w=>e=.normal/\K a w) n L a (re V τ d))(hK:∀a' w',K a' w'->ap P0 ok c Dr Q ⟨b.at a' k,cs,w'⟩):
  ap P0 ok c Dr Q ⟨b.at a (.inRegion ops post::k),cs,V⟩:=by
 have:=ap.opsAny (k:=k) E hb post [] K (λτ d=>pj n hp (h τ d)) (λa' w' h'=>ap.regionEnd E hb (hK a' w' h'));rwa [List.append_nil]at this
def B5 (i:Nat):List Nat->List Nat
 |[]=>[]
 |j::l=>if j==i then[]else j::B5 i l
def wU (i:Nat):List Nat->List Nat
 |[]=>[]
 |j::l=>if j==i then l else wU i l
omit [Gl] in
theorem At {ops ops':Array Oper}{φ:Nat->Nat}(hs:(List.range ops'.size).map (λj=>ops[φ j]?)=ops'.toList.map some)(j:Nat)(hj:j<ops'.size):ops[φ j]?=ops'[j]?:=by
 have h:=congrArg (·[j]?) hs;simp only[List.getElem?_map,List.getElem?_range hj,Option.map_some,Array.getElem?_toList,Array.getElem?_eq_getElem hj,Option.some.injEq]at h;rw[h,Gu hj]
omit [Gl] in
theorem ue {ops:Array Oper}(h:ops.toList.all (λo=>o.guard.isNone)=true)(o:Oper)(ho:o∈ops):o.guard=none:=by
 have:=List.all_eq_true.1 h o (by simpa using ho);simpa using this
theorem ap.drawnCall (E:bG P0 ok c Dr)(hb:ok.inn b.fn=true){ops:Array Oper}{id':Nat}(i:Nat)(ops1 ops2:Array Oper)(φ:Nat->Nat)(L1 L2:Array Bool)(K1 K2 F:Act->World->Prop)(R:World->Value->World->Prop)(dst:Option Nat)
  (h1:∀τ d,wpAny P0 .any ops1 (λe a w=>e=.normal/\K1 a w) ops1.size (Array.replicate ops1.size false) a (re V τ d))(h2:∀τ d,wpAny P0 .any ops2 (λe a w=>e=.normal/\K2 a w) ops2.size (Array.replicate ops2.size false) a (re V τ d))
  (hK1:∀a' w',K1 a' w'->∀post,(∀v V',R w' v V'->ap P0 ok c Dr Q ⟨b.at (a'.put dst v) (.inRegion ops post::k),cs,V'⟩)->ap P0 ok c Dr Q ⟨b.at a' (.inRegion ops (i::post)::k),cs,w'⟩)
  (hK2:∀a' w',K2 a' w'->∀post,(∀v V',R w' v V'->ap P0 ok c Dr Q ⟨b.at (a'.put dst v) (.inRegion ops post::k),cs,V'⟩)->ap P0 ok c Dr Q ⟨b.at a' (.inRegion ops (i::post)::k),cs,w'⟩)
  (hT1:∀a' w' v V',K1 a' w'->R w' v V'->∀τ d,wpAny P0 .any ops (λe a w=>e=.normal/\F a w) ops.size L1 (a'.put dst v) (re V' τ d))
  (hT2:∀a' w' v V',K2 a' w'->R w' v V'->∀τ d,wpAny P0 .any ops (λe a w=>e=.normal/\F a w) ops.size L2 (a'.put dst v) (re V' τ d))
  (hfin:∀a' w',F a' w'->ap P0 ok c Dr Q ⟨b.at a' k,cs,w'⟩)
  (hm:P0.follows .mixedOrders=true:=by kernel_rfl)(hs1:(List.range ops1.size).map (λj=>ops[φ j]?)=ops1.toList.map some:=by rfl)(hs2:(List.range ops2.size).map (λj=>ops[φ j]?)=ops2.toList.map some:=by rfl)(hg1:ops1.toList.all (λo=>o.guard.isNone)=true:=by rfl)(hg2:ops2.toList.all (λo=>o.guard.isNone)=true:=by rfl)
  (hk:(dr .any ops ops.size (Array.replicate ops.size false)).all (λo=>(B5 i o++i::wU i o==o)&&
   ((dr .any ops1 ops1.size (Array.replicate ops1.size false)).any (λq=>q.map φ==B5 i o&&q.all (·<ops1.size))&&(dr .any ops ops.size L1).contains (wU i o)||(dr .any ops2 ops2.size (Array.replicate ops2.size false)).any (λq=>q.map φ==B5 i o&&q.all (·<ops2.size))&&(dr .any ops ops.size L2).contains (wU i o)))=true:=by kernel_rfl):ap P0 ok c Dr Q ⟨b.at a (.code (.region id' ops true)::k),cs,V⟩:=by
 refine ap.drawn E hb hm λorder ho=>?_
 have hmem:=wT ho ops.size (by unfold CF;exact Gq (List.length_filter_le _ _) (by simp));rw[List.all_eq_true]at hk;have h3:=hk order hmem;simp only[Bool.and_eq_true,Bool.or_eq_true,beq_iff_eq,List.any_eq_true,List.all_eq_true,decide_eq_true_eq,List.contains_iff_mem]at h3;obtain⟨e1,⟨⟨q,hq,e2,e3⟩,e4⟩|⟨⟨q,hq,e2,e3⟩,e4⟩⟩:=h3
 .rw[<-e1,<-e2];exact ap.opsAny E hb _ _ K1 (λτ d=>si φ (At hs1) (ue hg1) _ e3 (pj _ hq (h1 τ d))) (λa' w' h=>hK1 a' w' h _ (λv V' hr=>ap.tailAny E hb e4 F (hT1 a' w' v V' h hr) hfin))
 .rw[<-e1,<-e2];exact ap.opsAny E hb _ _ K2 (λτ d=>si φ (At hs2) (ue hg2) _ e3 (pj _ hq (h2 τ d))) (λa' w' h=>hK2 a' w' h _ (λv V' hr=>ap.tailAny E hb e4 F (hT2 a' w' v V' h hr) hfin))
end
end
section
open Go Go.Conc Go.RowKit
theorem w9:Extern.findNext Tryz.f278=none:=by kernel_rfl
theorem xb:Extern.find Tryz.f278=some (Extern.SlicesOverlaps.overlaps #[30,30] #[4]):=by kernel_rfl
theorem xd:(Tryz.f278.name== "runtime.NumGoroutine")=false:=by kernel_rfl
theorem xe:∀w,(sizeOf 36).run Tryz.prog w=.ok 6 w:=Tryz.sizeOf36
theorem Az (p q:Addr)(la ca lb cb:Nat)(c1 c2:Array Value)(t1 t2:TypeId)(W:World)(hne:p.block≠q.block)(g1:W.heap[p.block]?=some (.cells c1 t1 (0,0)))(n1:c1.size≠0)(g2:W.heap[q.block]?=some (.cells c2 t2 (0,0)))(n2:c2.size≠0):
  (callFunc 278 #[.slice (some p) la ca,.slice (some q) lb cb]).run Tryz.prog W=.ok (.value (.bool false)) W:=by
 have h:=Lib.run_overlaps_apart (P:=Tryz.prog) W 30 4 36 Tryz.underlying30 6 xe p q la ca lb cb hne t1 t2 c1.size c2.size (by simp[World.shape?,g1]) (by simp[World.shape?,g2]) n2 (by simp[World.frozen?,g1]) (by simp[World.frozen?,g1]);have hn:Tryz.f278.name≠ "runtime.NumGoroutine":=by simpa using xd
 simp[callFunc,Tryz.func278,w9,xb,hn,h,show Tryz.f278.body=none from rfl]
theorem AA {α β:Type}{P:Program}{W:World}{x:Sem α}{f:α->Sem β}{a:α}(hx:x.run P W=.ok a W)(ex:∀es,x.events P W es=es)(hf:∀es,(f a).events P W es=es):∀es,(x >>= f).events P W es=es:=by
 intro es;rw[Sem.events_bind,hx,ex];exact hf es
theorem Cn (p q:Addr)(la ca lb cb:Nat)(c1 c2:Array Value)(t1 t2:TypeId)(W:World)(hne:p.block≠q.block)(g1:W.heap[p.block]?=some (.cells c1 t1 (0,0)))(n1:c1.size≠0)(g2:W.heap[q.block]?=some (.cells c2 t2 (0,0)))(n2:c2.size≠0):
  (callFunc 278 #[.slice (some p) la ca,.slice (some q) lb cb]).events Tryz.prog W #[]=#[⟨.mark (.extern 278),false,true⟩]:=by
 have hn:Tryz.f278.name≠ "runtime.NumGoroutine":=by simpa using xd
 have h2:∀es,(Extern.SlicesOverlaps.overlaps #[30,30] #[4] #[.slice (some p) la ca,.slice (some q) lb cb]).events Tryz.prog W es=es:=by
  have hsa:(shape p.block).run Tryz.prog W=.ok (some (t1,c1.size)) W:=by simp[shape,Sem.run,World.shape?,g1]
  have hsb:(shape q.block).run Tryz.prog W=.ok (some (t2,c2.size)) W:=by simp[shape,Sem.run,World.shape?,g2]
  have hfp:(frozen p).run Tryz.prog W=.ok false W:=by simp[frozen,Sem.run,World.frozen?,g1]
  have hfq:(frozen q).run Tryz.prog W=.ok false W:=by simp[frozen,Sem.run,World.frozen?,g2]
  refine AA (x:=underlying 30) (a:=.slice 36) (Tryz.runUnderlying30 W) (λes=>by kernel_rfl) ?_;refine AA (x:=sizeOf 36) (a:=6) (xe W) (λes=>by kernel_rfl) ?_;intro es;have ef:∀x es,(frozen x).events Tryz.prog W es=es:=λ_ _=>rfl
  have hfp':(frozen {block:=p.block,off:=c1.size}).run Tryz.prog W=.ok false W:=by simp[frozen,Sem.run,World.frozen?,g1]
  have hfq':(frozen {block:=q.block,off:=c2.size}).run Tryz.prog W=.ok false W:=by simp[frozen,Sem.run,World.frozen?,g2]
  have hnb:(p.block !=q.block)=true:=by simpa using hne
  have a1:W.frozen? p=false:=by simp[World.frozen?,g1]
  have a2:W.frozen? q=false:=by simp[World.frozen?,g2]
  have a3:W.shape? p.block=some (t1,c1.size):=by simp[World.shape?,g1]
  have a4:W.shape? q.block=some (t2,c2.size):=by simp[World.shape?,g2]
  have a5:W.frozen? {block:=p.block,off:=c1.size}=false:=by simp[World.frozen?,g1]
  have a6:W.frozen? {block:=q.block,off:=c2.size}=false:=by simp[World.frozen?,g2]
  clear hsa hsb hfp hfq hfp' hfq' g1 g2;dsimp only;split
  .rfl
  .simp[ef,hnb,noView,viewAt,mayBeOne,stringish,a1,a2,a3,a4,a5,a6]
 have hm:(mark (.extern 278)).run Tryz.prog W=.ok () W:=rfl;have he:(mark (.extern 278)).events Tryz.prog W #[]=#[⟨.mark (.extern 278),false,true⟩]:=rfl;simp[callFunc,Tryz.func278,w9,xb,hn,h2,show Tryz.f278.body=none from rfl,hm,he]
theorem AB [g:Gl](h:g.ov=278):rB Tryz.prog:=by
 intro p q la ca lb cb c1 c2 t1 t2 W h1 h2 h3 h4 h5;rw[h];refine⟨Az p q la ca lb cb c1 c2 t1 t2 W h1 h2 h3 h4 h5,λe he=>?_⟩;rw[Cn p q la ca lb cb c1 c2 t1 t2 W h1 h2 h3 h4 h5]at he;exact⟨_,by simpa using he⟩
end
