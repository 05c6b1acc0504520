import Derived.Test.YtlmcblcijndipabGreatDoorDr04
import Derived.Test.YtlmcblcijndipabGreatDoorDr21
import Derived.Test.YtlmcblcijndipabGreatDoorDr35
import Derived.Test.YtlmcblcijndipabGreatDoorDr25
import Derived.Conc.LeavingOf
set_option linter.unusedVariables false
set_option linter.unusedSectionVars false
namespace Go.Proofs.YtlmcblcijndipabGreatDoor
open Go Go.Conc Go.RowKit
section
variable [Gl]{P₀ P:Program}{ok:Ctx}{c:Frame}{Dr:FuncId->Array Value->World->(Value->World->Prop)->Prop}{Q:Value->World->Prop}
theorem mO {ρ:Ren}:(v:Value)->∃x,ah ok ρ x v/\ah ok ρ x x
 |.bool b=>⟨.bool b,.bool b,.bool b⟩
 |.int k n=>⟨.int k n,.int k n,.int k n⟩
 |.string s=>⟨.string s,.string s,.string s⟩
 |.pointer none=>⟨.pointer none,.ptr0,.ptr0⟩
 |.slice none l k=>⟨.slice none l k,.slice0 l k,.slice0 l k⟩
 |.nilFunc=>⟨.nilFunc,.nilFunc,.nilFunc⟩
 |.nilIface=>⟨.nilIface,.nilIface,.nilIface⟩
 |.pointer (some a)=>⟨hole,.hole rfl,.hole rfl⟩
 |.slice (some a) l k=>⟨hole,.hole rfl,.hole rfl⟩
 |.float k b=>⟨hole,.hole rfl,.hole rfl⟩
 |.complex k a b=>⟨hole,.hole rfl,.hole rfl⟩
 |.map r=>⟨hole,.hole rfl,.hole rfl⟩
 |.chan r=>⟨hole,.hole rfl,.hole rfl⟩
 |.func f xs ys=>⟨hole,.hole rfl,.hole rfl⟩
 |.iface t v=>⟨hole,.hole rfl,.hole rfl⟩
 |.agg xs=>by
  have h:∀i:Fin xs.size,∃x,ah ok ρ x xs[i]/\ah ok ρ x x:=λi=>mO xs[i]
  refine⟨.agg (Array.ofFn λi=>(h i).choose),.agg (by simp) λi x x' hx hx'=>?_,.agg rfl λi x x' hx hx'=>?_⟩
  .obtain⟨hi,rfl⟩:=Array.getElem?_eq_some_iff.1 hx;obtain⟨hi',rfl⟩:=Array.getElem?_eq_some_iff.1 hx';rw[Array.getElem_ofFn];exact(h ⟨i,hi'⟩).choose_spec.1
  .rw[hx]at hx';obtain rfl:=Option.some.inj hx';obtain⟨hi,rfl⟩:=Array.getElem?_eq_some_iff.1 hx;rw[Array.getElem_ofFn];exact(h _).choose_spec.2
 |.tuple xs=>by
  have h:∀i:Fin xs.size,∃x,ah ok ρ x xs[i]/\ah ok ρ x x:=λi=>mO xs[i]
  refine⟨.tuple (Array.ofFn λi=>(h i).choose),.tuple (by simp) λi x x' hx hx'=>?_,.tuple rfl λi x x' hx hx'=>?_⟩
  .obtain⟨hi,rfl⟩:=Array.getElem?_eq_some_iff.1 hx;obtain⟨hi',rfl⟩:=Array.getElem?_eq_some_iff.1 hx';rw[Array.getElem_ofFn];exact(h ⟨i,hi'⟩).choose_spec.1
  .rw[hx]at hx';obtain rfl:=Option.some.inj hx';obtain⟨hi,rfl⟩:=Array.getElem?_eq_some_iff.1 hx;rw[Array.getElem_ofFn];exact(h _).choose_spec.2
termination_by v=>SizeOf.sizeOf v
decreasing_by
 all_goals
  have:=Array.sizeOf_get xs i i.isLt;simp;first|omega|(have h2:SizeOf.sizeOf xs[i]<SizeOf.sizeOf xs:=this;omega)
theorem uM {fr:Frame}{W:World}:bf P (λ_=>False) (λ_=>False) (λ_=>False) (λb=>b<W.heap.size) #[G fr []] (G fr []) W #[] (λ_=>0) where
 main:=rfl
 quit:=⟨λi g h0 h=>by
  have:i<1:=by simpa using(Array.getElem?_eq_some_iff.1 h).1
  omega,λj _=>rfl⟩
 past:=⟨λsaid h=>by
  obtain⟨i,j,_,⟨a,b,h1,_⟩,_⟩:=h;simp[Trace.act?]at h1,λi a h=>by simp[touchAt,Trace.act?]at h,λi g h=>by simp[Trace.g?]at h,rfl,λi a h=>by simp[touchAt,Trace.act?]at h,λi op x h=>by simp at h,λi a h=>by simp[touchAt,Trace.act?]at h⟩
 who:=λi op h=>by simp at h
 lt:=λb h=>h.elim id (λx=>x.elim)
 shun:=λ_ _ _ _ h=>h
 low:=λ_ h=>h.elim
 un:=λi a h=>by simp[touchAt,Trace.act?]at h
 vlt:=λ_ h=>h.elim
 vm:=λ_ h=>h.elim
end
section
variable [Gl]{P₀ P:Program}{ok:Ctx}{c:Frame}{Dr:FuncId->Array Value->World->(Value->World->Prop)->Prop}{Q:Value->World->Prop}
theorem xe {fr:Frame}{W:World}{fn:Func}{t:Tmp}(hm:fr.mode=.returning)(hd:fr.defers=[])(hk:fr.kind=.normal)(hf:P.funcs[fr.fn]?=some fn)(hr:fn.results=#[.tmp t])(hi:P.inits.idxOf? fr.fn=none):
  stepG P true (G fr []) W=.ended (.done (fr.tmps.getD t undef)) W #[]:=by
 rw[ew (by rw[hm];simp)];obtain⟨fn',tmps',todo',defers',mode',kind',roundOf'⟩:=fr;simp only at hd hm hk hf hi⊢;subst hd hm hk;have h1:(results fn tmps').runT P W #[]=(.ok (tmps'.getD t undef) W,#[]):=by
  have h2:=Sem.runT_fst P (results fn tmps') W #[];have h3:((results fn tmps').runT P W #[]).2=_:=events_results_tmp (P:=P) (w:=W) hr tmps' #[];rw[results_tmp hr]at h2;exact Prod.ext h2 h3
 simp only[unwind,hf,h1,doReturn,hi,GStep.after];simp[seen]
theorem zj (hP₀:bh P₀ P₀ ok)(hP:bh P₀ P ok)(hN:∀f,ok.inn f=false->((P₀.funcs[f]?).map (·.ntmps)).getD 0=((P.funcs[f]?).map (·.ntmps)).getD 0){Inv:(Nat->Prop)->World->Prop}(hD:iK P ok Inv Dr)(hI:∀f,ok.inn f=true->P.inits.idxOf? f=none)
  {f:FuncId}{xs xs':Array Value}{V W:World}{ρ ρ₀:Ren}(hf:ok.inn f=true)(hk:ar P₀ ok c Dr Q ⟨Frame.enter P₀ f xs .normal,[],V⟩)
  (hx:an ok ρ xs xs')(hx₀:an ok ρ₀ xs xs)(hw:aC ok true ρ (re V W.tape W.drawn) W)(hw₀:aC ok true ρ₀ V V){F:Nat->Prop}(hInv:∀M W',(∀d,F d->M d)->aw F W W'->Inv M W')(hF:∀d,F d->d<W.heap.size/\((∀b,ρ b≠some d)\/∃b,ρ b=some d/\Ro V b)):
  ∃M last o w' t',runNT P (M+1) (solo (G (Frame.enter P f xs' .normal) []) W) #[]=(.ended o w',t')/\runN P M (solo (G (Frame.enter P f xs' .normal) []) W)=.next last/\step P last=.ended o w'/\
   Conc.Good P (λv' W'=>∃v V' σ,Q v V'/\ah ok σ v v'/\ρ.le σ/\aC ok true σ V' W'/\aw F W W') last o w' t':=by
 have hb:∀p:Program,lU (Frame.enter p f xs .normal) []:=λp g hg=>by
  simp only[List.getLast?_singleton,Option.some.injEq]at hg;subst hg;rfl
 have hself:cH P₀ ok (St.re ⟨Frame.enter P₀ f xs .normal,[],V⟩ W.tape W.drawn):=⟨ρ₀,gt hP₀.toSame hf hx₀,.nil,hb _,⟨hw₀.heap,rfl,rfl,hw₀.gV,hw₀.gW⟩⟩;have hg:jG P₀ P ok ρ [c] [] (G (Frame.enter P₀ f xs .normal) ([]++[c])) (G (Frame.enter P f xs' .normal) ([]++[])):=.inside (gt hP.toSame hf hx) .nil (hb _);obtain⟨N,gs',W',sl',t',q',Shun',M',σ,s',fr',r1,r2,r3,r4,r5,r6,r7,r8,fn,t,r9,r10⟩:=(hk W.tape W.drawn hself).beside (F:=F) (W₀:=W) (sl:=none) hP hN hD hInv (aw.refl _ _) hg hw (λb d hb=>(hw.lt hb).2) uM hF;obtain⟨N2,last,o,w',t2,k1,k2,k3,k4⟩:=r2.ends (sl:=sl') (Post:=λv' W₂=>∃v V' σ,Q v V'/\ah ok σ v v'/\ρ.le σ/\aC ok true σ V' W₂/\aw F W W₂) (λd=>by
  obtain⟨e1,v,⟨l1,l2,l3,fn',l4,l5⟩,hq⟩:=r7 W'.tape d;have l1:s'.fr.mode=.returning:=l1;have l2:s'.fr.defers=[]:=l2;have l4:P₀.funcs[s'.fr.fn]?=some fn':=l4;have l5:(results fn' s'.fr.tmps).run P₀ (re s'.V W'.tape d)=.ok v (re s'.V W'.tape d):=l5;have hd:fr'.defers=[]:=by have:=r4.defers;rw[l2]at this;generalize fr'.defers=x at this;cases this;rfl
  have hm:fr'.mode=.returning:=by have:=r4.mode;rw[l1]at this;generalize fr'.mode=x at this;cases this;rfl
  obtain rfl:fn'=fn:=Option.some.inj (l4.symm.trans r9);have l6:P.funcs[fr'.fn]?=some fn':=by
   obtain⟨F,cd,f1,f2,_⟩:=hP.same _ r4.inn;rw[r4.fn,f2,<-f1];exact l4
  rw[results_tmp r10]at l5;simp only[Result.ok.injEq]at l5;refine⟨rfl,_,_,xe (W:=W'.at d) hm hd r4.kind' l6 r10 (by rw[r4.fn];exact hI _ r4.inn),λe he=>by simp at he,v,_,σ,hq,?_,r3,⟨r5.heap,rfl,rfl,r5.gV,r5.gW⟩,?_⟩
  .rw[<-l5.1];exact r4.tmps.getD t
  .exact⟨r8.block,r8.size,r8.os,r8.out⟩)
 rw[solo_eq_crowd];refine⟨N+N2,last,o,w',t2,?_,?_,k3,k4⟩
 .rw[Nat.add_assoc];exact dc k1 _ _ _ (by simpa using r1)
 .rw[runN_add];have:runN P N (crowd #[G (Frame.enter P f xs' .normal) []] W none)=.next (crowd gs' W' sl'):=by
   rw[<-runNT_fst _ _ _ #[]];have:=congrArg Prod.fst r1;simpa using this
  rw[this];exact k2
end
section
variable [Gl]{ok:Ctx}
theorem Cd (S:Nat->Bool)(d d' c:Nat)(h:(if S d=true then some d else none)=some c)(h':(if S d'=true then some d' else none)=some c):d=d':=by
 split at h<;>split at h'<;>simp_all
theorem AP (S:Nat->Bool)(n d c:Nat)(h:(if S d=true then some d else none)=some c):d<n<->c<n:=by
 split at h<;>simp_all
def ru (S:Nat->Bool):Ren:=⟨λd=>if S d=true then some d else none,Cd S,AP S Gl.n⟩
theorem zk {S:Nat->Bool}{b:Nat}(h:S b=true):ru S b=some b:=by show(if S b=true then some b else none)=_;rw[if_pos h]
theorem zl {S:Nat->Bool}{d c:Nat}(h:ru S d=some c):S d=true/\c=d:=by
 replace h:(if S d=true then some d else none)=some c:=h;split at h
 .rename_i e;exact⟨e,(Option.some.inj h).symm⟩
 .cases h
noncomputable def gi (ok:Ctx)(ρ:Ren)(v:Value):Value:=(mO (ok:=ok) (ρ:=ρ) v).choose
theorem kw (ρ:Ren)(v:Value):ah ok ρ (gi ok ρ v) v/\ah ok ρ (gi ok ρ v) (gi ok ρ v):=(mO (ok:=ok) (ρ:=ρ) v).choose_spec
noncomputable def rq (ok:Ctx)(ρ:Ren):Obj->Obj
 |.cells cs e z=>.cells (cs.map (gi ok ρ)) e (if cs.size=0 then z else(0,cs.size))
 |o=>o
noncomputable def fN (ok:Ctx)(S:Nat->Bool)(W:World):World:={W with heap:=W.heap.mapIdx λi o=>if S i=true then rq ok (ru S) o else o}
theorem eX (S:Nat->Bool)(W:World):(fN ok S W).heap.size=W.heap.size:=by simp[fN]
theorem ft {S:Nat->Bool}{W:World}{b:Nat}{cs:Array Value}{e:TypeId}{z:Nat×Nat}(hS:S b=true)(h:W.heap[b]?=some (.cells cs e z)):(fN ok S W).heap[b]?=some (.cells (cs.map (gi ok (ru S))) e (if cs.size=0 then z else(0,cs.size))):=by
 show(W.heap.mapIdx λi o=>if S i=true then rq ok (ru S) o else o)[b]?=_;rw[Array.getElem?_mapIdx,h];simp[hS,rq]
theorem uN {S:Nat->Bool}{W:World}{b:Nat}(hS:S b=false):(fN ok S W).heap[b]?=W.heap[b]?:=by
 show(W.heap.mapIdx λi o=>if S i=true then rq ok (ru S) o else o)[b]?=_;rw[Array.getElem?_mapIdx];cases W.heap[b]? with
 |none=>rfl
 |some o=>simp[hS]
def CD:Value->Bool
 |.string _=>true
 |.bool _=>true
 |.int _ _=>true
 |_=>false
theorem AQ {ρ:Ren}{x v:Value}(hv:CD v=true)(h:ah ok ρ x v):x=v:=by
 cases v with
 |string s=>
  generalize hv':Value.string s=v at h;cases h with
  |hole hh=>subst hv';cases hh
  |_=>first|rfl|(cases hv';done)
 |bool s=>
  generalize hv':Value.bool s=v at h;cases h with
  |hole hh=>subst hv';cases hh
  |_=>first|rfl|(cases hv';done)
 |int k s=>
  generalize hv':Value.int k s=v at h;cases h with
  |hole hh=>subst hv';cases hh
  |_=>first|rfl|(cases hv';done)
 |_=>cases hv
def vE (W V:World):Prop:=V.heap.size=W.heap.size/\∀b j v,CD v=true->W.cell? ⟨b,j,none⟩=some v->V.cell? ⟨b,j,none⟩=some v
theorem rr {S:Nat->Bool}{W:World}(hS:∀b,S b=true->∃cs e z,W.heap[b]?=some (.cells cs e z)):vE W (fN ok S W):=by
 refine⟨eX S W,λb j v hv h=>?_⟩;cases hb:S b with
 |false=>simp only[World.cell?,uN hb]at h⊢;exact h
 |true=>
  obtain⟨cs,e,z,hc⟩:=hS b hb;simp only[World.cell?,hc,ft hb hc]at h⊢;have hc':cs[j]?=some v:=by simpa using h
  have:(cs.map (gi ok (ru S)))[j]?=some v:=by
   rw[Array.getElem?_map,hc'];exact congrArg some (AQ hv (kw _ v).1)
  simpa using this
theorem uO {S:Nat->Bool}{W:World}(hg:Gl.n<=W.heap.size)(hS:∀b,S b=true->∃cs e z,W.heap[b]?=some (.cells cs e z)):
  aC ok true (ru S) (re (fN ok S W) W.tape W.drawn) W/\aC ok true (ru S) (fN ok S W) (fN ok S W):=by
 have r1:∀cs:Array Value,an ok (ru S) (cs.map (gi ok (ru S))) cs:=λcs=>⟨by simp,λi x x' hx hx'=>by
  rw[Array.getElem?_map,hx']at hx;obtain rfl:=Option.some.inj hx;exact(kw _ x').1⟩
 have r2:∀cs:Array Value,an ok (ru S) (cs.map (gi ok (ru S))) (cs.map (gi ok (ru S))):=λcs=>⟨rfl,λi x x' hx hx'=>by
  rw[hx]at hx';obtain rfl:=Option.some.inj hx';rw[Array.getElem?_map]at hx;cases hc:cs[i]? with
  |none=>rw[hc]at hx;cases hx
  |some y=>rw[hc]at hx;obtain rfl:=Option.some.inj hx;exact(kw _ y).2⟩
 refine⟨⟨λd c hd=>?_,rfl,rfl,by show _<=(fN ok S W).heap.size;rw[eX];exact hg,hg⟩,⟨λd c hd=>?_,rfl,rfl,by rw[eX];exact hg,by rw[eX];exact hg⟩⟩
 .obtain⟨h1,rfl⟩:=zl hd;obtain⟨cs,e,z,hc⟩:=hS c h1;refine⟨_,_,ft h1 hc,hc,.cells (r1 cs) ?_⟩;by_cases h0:cs.size=0
  .rw[if_pos h0];exact .inl rfl
  .rw[if_neg h0];exact .inr ⟨rfl,by simp,by simp;omega⟩
 .obtain⟨h1,rfl⟩:=zl hd;obtain⟨cs,e,z,hc⟩:=hS c h1;exact⟨_,_,ft h1 hc,ft h1 hc,.cells (r2 cs) (.inl rfl)⟩
theorem xf {ρ:Ren}{v:Value}(h:ah ok ρ (.bool true) v):v=.bool true:=by cases h;rfl
end
theorem uP (f:Nat):((Tryz0.prog.funcs[f]?).map (·.ntmps)).getD 0=((Tryz.prog.funcs[f]?).map (·.ntmps)).getD 0:=Tryz0.g_nt Tryz.prog f
theorem AR {fns:List Nat}(hfns:qg fns=true)(hini:fns.all (λf=>(Tryz.prog.inits.idxOf? f).isNone)=true){L:FuncId}(hL:(fns.contains L&&!Tryz0.shutL.contains L)=true){W:World}(hgl:tt.n<=W.heap.size)(hE:W.heap[0]?=some lA){xs:Array Value}(S:Nat->Bool)(hS0:S 0=false)(hS:∀b,S b=true->∃cs e z,W.heap[b]?=some (.cells cs e z))
  (hxs:∀(ok:Ctx) (ρ:@Ren tt),(∀b,S b=true->ρ b=some b)->@an tt ok ρ xs xs)
  (hlaw:∀(ok:Ctx) (V:World),@cE tt Tryz0.prog ok iv (@Dr24)->(∀f,ok.inn f=(fns.contains f&&!Tryz0.shutL.contains f))->vE W V->@ar tt Tryz0.prog ok iv (@Dr24) (λv V'=>v=.bool true/\Bl V.heap.size V V') ⟨Frame.enter Tryz0.prog L xs .normal,[],V⟩):
  ∃M last o w' t',runNT Tryz.prog (M+1) (solo (G (Frame.enter Tryz.prog L xs .normal) []) W) #[]=(.ended o w',t')/\
   runN Tryz.prog M (solo (G (Frame.enter Tryz.prog L xs .normal) []) W)=.next last/\step Tryz.prog last=.ended o w'/\
   Conc.Good Tryz.prog (λv' W'=>v'=.bool true/\aw (λd=>d<W.heap.size) W W') last o w' t':=by
 letI:=tt;obtain⟨ok,h1,h2,h3⟩:∃ok:Ctx,(∀f,ok.fn f=fns.contains f)/\(∀f,ok.inn f=(fns.contains f&&!Tryz0.shutL.contains f))/\∀c,ok.code c=aI Tryz.prog ok.fn c:=⟨⟨λf=>fns.contains f,λf=>fns.contains f&&!Tryz0.shutL.contains f,λc=>aI Tryz.prog (λf=>fns.contains f) c⟩,λ_=>rfl,λ_=>rfl,λ_=>rfl⟩;have hinn:∀f,ok.inn f=true->fns.contains f=true/\Tryz0.shutL.contains f=false:=λf h=>by
  rw[h2,Bool.and_eq_true]at h;exact⟨h.1,by simpa using h.2⟩
 obtain⟨hp0,hp⟩:=vD hfns h1 hinn h3;have E:cE Tryz0.prog ok iv (@Dr24):=⟨hp0,AK h1 h2,zh,Ac⟩;have hI:∀f,ok.inn f=true->Tryz.prog.inits.idxOf? f=none:=λf hf=>by
  have h4:=(hinn f hf).1;have h5:=hini;simp only[List.all_eq_true,List.contains_iff_mem]at h4 h5;have:=h5 f h4;simpa using this
 obtain⟨hw,hw0⟩:=uO (ok:=ok) hgl hS;have hx:=hxs ok (ru S) λb hb=>zk hb
 obtain⟨M,last,o,w',t',q1,q2,q3,q4⟩:=zj (ok:=ok) (W:=W) (V:=fN ok S W) (ρ:=ru S) (ρ₀:=ru S) (F:=λd=>d<W.heap.size/\∀cs e z,S d=true->W.heap[d]?=some (.cells cs e z)->0<cs.size) hp0 hp (λf _=>uP f) AN hI (by rw[h2];exact hL) (hlaw ok (fN ok S W) E h2 (rr hS)) hx hx hw hw0 (λM W' hM hK=>⟨hM 0 ⟨(Array.getElem?_eq_some_iff.1 hE).1,λ_ _ _ h=>by rw[hS0]at h;cases h⟩,(hK.block 0 ⟨(Array.getElem?_eq_some_iff.1 hE).1,λ_ _ _ h=>by rw[hS0]at h;cases h⟩).trans hE⟩) (λd hd=>⟨hd.1,by
  cases hb:S d with
  |false=>exact .inl λb' hb'=>by obtain⟨a1,rfl⟩:=zl hb';rw[hb]at a1;cases a1
  |true=>
   obtain⟨cs,e,z,hc⟩:=hS d hb;have h0:=hd.2 cs e z hb hc;exact .inr ⟨d,zk hb,cs.map (gi ok (ru S)),e,by rw[ft hb hc,if_neg (by omega)];simp⟩⟩)
 refine⟨M,last,o,w',t',q1,q2,q3,q4.mono λv hv=>?_⟩;obtain⟨v0,V',σ,⟨rfl,hbl⟩,hv,hle,hw,hk⟩:=hv;refine⟨xf hv,λd hd=>?_,hk.size,hk.os,hk.out⟩;cases hb:S d with
 |false=>exact hk.block d ⟨hd,λ_ _ _ h=>by rw[hb]at h;cases h⟩
 |true=>
  obtain⟨cs,e,z,hc⟩:=hS d hb;by_cases h0:cs.size=0
  .obtain⟨o1,o2,i1,i2,i3⟩:=hw.heap d d (hle d d (zk hb));rw[hbl.block d (by rw[eX];exact hd),ft hb hc,if_pos h0]at i1;obtain rfl:=Option.some.inj i1;rw[i2,hc];cases i3 with
   |@cells _ c' _ _ z' hcc hz=>
    have hsz:c'.size=0:=by rw[<-hcc.size];simpa using h0
    have hz:z'=z:=hz.resolve_right (λh=>by have:=h.2.2;simp at this;omega);have h1:c'=#[]:=Array.eq_empty_of_size_eq_zero hsz;have h2:cs=#[]:=Array.eq_empty_of_size_eq_zero h0;rw[hz,h1,h2]
  .exact hk.block d ⟨hd,λcs' e' z' _ hc'=>by
    rw[hc]at hc';simp only[Option.some.injEq,Obj.cells.injEq]at hc';rw[<-hc'.1];omega⟩
end Go.Proofs.YtlmcblcijndipabGreatDoor
