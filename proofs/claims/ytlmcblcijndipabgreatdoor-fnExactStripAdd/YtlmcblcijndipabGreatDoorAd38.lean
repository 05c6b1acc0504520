import Derived.Test.YtlmcblcijndipabGreatDoorAd37
set_option linter.unusedVariables false
set_option linter.unusedSectionVars false
namespace Go.Proofs.YtlmcblcijndipabGreatDoor
open Go Go.Conc Go.RowKit
section
variable [Gl]{P0 P:Program}{ok:Ctx}{c:Frame}{Dr:FuncId->Array Value->World->(Value->World->Prop)->Prop}{Q:Value->World->Prop}
theorem nu {ρ:Ren}:(v:Value)->∃x,aj ok ρ x v/\aj ok ρ x x
 |.bool b=>⟨.bool b,.bool b,.bool b⟩
 |.int k n=>⟨.int k n,.int k n,.int k n⟩
 |.string s=>⟨.string s,.string s,.string s⟩
 |.pointer none=>⟨.pointer none,.ptr0,.ptr0⟩
 |.slice none l k=>⟨.slice none l k,.slice0 l k,.slice0 l k⟩
 |.nilFunc=>⟨.nilFunc,.nilFunc,.nilFunc⟩
 |.nilIface=>⟨.nilIface,.nilIface,.nilIface⟩
 |.pointer (some a)=>⟨hole,.hole rfl,.hole rfl⟩
 |.slice (some a) l k=>⟨hole,.hole rfl,.hole rfl⟩
 |.float k b=>⟨hole,.hole rfl,.hole rfl⟩
 |.complex k a b=>⟨hole,.hole rfl,.hole rfl⟩
 |.map r=>⟨hole,.hole rfl,.hole rfl⟩
 |.chan r=>⟨hole,.hole rfl,.hole rfl⟩
 |.func f xs ys=>⟨hole,.hole rfl,.hole rfl⟩
 |.iface t v=>⟨hole,.hole rfl,.hole rfl⟩
 |.agg xs=>by
  have h:∀i:Fin xs.size,∃x,aj ok ρ x xs[i]/\aj ok ρ x x:=λi=>nu xs[i]
  refine⟨.agg (Array.ofFn λi=>(h i).choose),.agg (by simp) λi x x' hx hx'=>?_,.agg rfl λi x x' hx hx'=>?_⟩
  .obtain⟨hi,rfl⟩:=Gp.1 hx;obtain⟨hi',rfl⟩:=Gp.1 hx';rw[Array.getElem_ofFn];exact(h ⟨i,hi'⟩).choose_spec.1
  .rw[hx]at hx';obtain rfl:=Gt hx';obtain⟨hi,rfl⟩:=Gp.1 hx;rw[Array.getElem_ofFn];exact(h _).choose_spec.2
 |.tuple xs=>by
  have h:∀i:Fin xs.size,∃x,aj ok ρ x xs[i]/\aj ok ρ x x:=λi=>nu xs[i]
  refine⟨.tuple (Array.ofFn λi=>(h i).choose),.tuple (by simp) λi x x' hx hx'=>?_,.tuple rfl λi x x' hx hx'=>?_⟩
  .obtain⟨hi,rfl⟩:=Gp.1 hx;obtain⟨hi',rfl⟩:=Gp.1 hx';rw[Array.getElem_ofFn];exact(h ⟨i,hi'⟩).choose_spec.1
  .rw[hx]at hx';obtain rfl:=Gt hx';obtain⟨hi,rfl⟩:=Gp.1 hx;rw[Array.getElem_ofFn];exact(h _).choose_spec.2
termination_by v=>SizeOf.sizeOf v
decreasing_by
 all_goals
  have:=Array.sizeOf_get xs i i.isLt;simp;first|omega|(have h2:SizeOf.sizeOf xs[i]<SizeOf.sizeOf xs:=this;omega)
theorem vV {fr:Frame}{W:World}:bp P (λ_=>False) (λ_=>False) (λ_=>False) (λb=>b<W.heap.size) #[G fr []] (G fr []) W #[] (λ_=>0) where
 main:=rfl
 quit:=⟨λi g h0 h=>by
  have:i<1:=by simpa using(Gp.1 h).1
  omega,λj _=>rfl⟩
 past:=⟨λsaid h=>by
  obtain⟨i,j,_,⟨a,b,h1,_⟩,_⟩:=h;simp[Trace.act?]at h1,λi a h=>by simp[touchAt,Trace.act?]at h,λi g h=>by simp[Trace.g?]at h,rfl,λi a h=>by simp[touchAt,Trace.act?]at h,λi op x h=>by simp at h,λi a h=>by simp[touchAt,Trace.act?]at h⟩
 who:=λi op h=>by simp at h
 lt:=λb h=>h.elim id (λx=>x.elim)
 shun:=λ_ _ _ _ h=>h
 low:=λ_ h=>h.elim
 un:=λi a h=>by simp[touchAt,Trace.act?]at h
 vlt:=λ_ h=>h.elim
 vm:=λ_ h=>h.elim
end
section
variable [Gl]{P0 P:Program}{ok:Ctx}{c:Frame}{Dr:FuncId->Array Value->World->(Value->World->Prop)->Prop}{Q:Value->World->Prop}
theorem yJ {fr:Frame}{W:World}{fn:Func}{t:Tmp}(hm:fr.mode=.returning)(hd:fr.defers=[])(hk:fr.kind=.normal)(hf:P.funcs[fr.fn]?=some fn)(hr:fn.results=#[.tmp t])(hi:P.inits.idxOf? fr.fn=none):
  stepG P true (G fr []) W=.ended (.done (fr.tmps.getD t undef)) W #[]:=by
 rw[eL (by rw[hm];simp)];obtain⟨fn',tmps',todo',defers',mode',kind',roundOf'⟩:=fr;simp only at hd hm hk hf hi⊢;subst hd hm hk;have h1:(results fn tmps').runT P W #[]=(.ok (tmps'.getD t undef) W,#[]):=by
  have h2:=Sem.runT_fst P (results fn tmps') W #[];have h3:((results fn tmps').runT P W #[]).2=_:=events_results_tmp (P:=P) (w:=W) hr tmps' #[];rw[results_tmp hr]at h2;exact Prod.ext h2 h3
 simp only[unwind,hf,h1,doReturn,hi,GStep.after];simp[seen]
theorem AE (hP0:bq P0 P0 ok)(hP:bq P0 P ok)(hN:∀f,ok.inn f=false->((P0.funcs[f]?).map (·.ntmps)).getD 0=((P.funcs[f]?).map (·.ntmps)).getD 0){Inv:(Nat->Prop)->World->Prop}(hOv:Gl.ov<1000000000->rB P)(hD:jg P ok Inv Dr)(hI:∀f,ok.inn f=true->P.inits.idxOf? f=none)
  {f:FuncId}{xs xs':Array Value}{V W:World}{ρ ρ0:Ren}(hf:ok.inn f=true)(hk:ap P0 ok c Dr Q ⟨Frame.enter P0 f xs .normal,[],V⟩)
  (hx:am ok ρ xs xs')(hx0:am ok ρ0 xs xs)(hw:aH ok true ρ (re V W.tape W.drawn) W)(FC:aH ok true ρ0 V V){F:Nat->Prop}(hInv:∀M W',(∀d,F d->M d)->ax F W W'->Inv M W')(hF:∀d,F d->d<W.heap.size/\((∀b,ρ b≠some d)\/∃b,ρ b=some d/\Ro V b)):
  ∃M last o w' t',runNT P (M+1) (solo (G (Frame.enter P f xs' .normal) []) W) #[]=(.ended o w',t')/\runN P M (solo (G (Frame.enter P f xs' .normal) []) W)=.next last/\step P last=.ended o w'/\
   Conc.Good P (λv' W'=>∃v V' σ,Q v V'/\aj ok σ v v'/\ρ.le σ/\aH ok true σ V' W'/\ax F W W') last o w' t':=by
 have hb:∀p:Program,lV (Frame.enter p f xs .normal) []:=λp g hg=>by
  simp only[List.getLast?_singleton,Option.some.injEq]at hg;subst hg;rfl
 have hself:cU P0 ok (St.re ⟨Frame.enter P0 f xs .normal,[],V⟩ W.tape W.drawn):=⟨ρ0,gT hP0.toSame hf hx0,.nil,hb _,⟨FC.heap,rfl,rfl,FC.gV,FC.gW⟩⟩;have hg:jd P0 P ok ρ [c] [] (G (Frame.enter P0 f xs .normal) ([]++[c])) (G (Frame.enter P f xs' .normal) ([]++[])):=.inside (gT hP.toSame hf hx) .nil (hb _);obtain⟨N,gs',W',sl',t',q',Shun',M',σ,s',fr',r1,r2,r3,r4,r5,r6,r7,r8,fn,t,r9,r10⟩:=(hk W.tape W.drawn hself).beside (F:=F) (Fd:=W) (sl:=none) hP hN hOv hD hInv (ax.refl _ _) hg hw (λb d hb=>(hw.lt hb).2) vV hF;obtain⟨N2,last,o,w',t2,k1,k2,k3,k4⟩:=r2.ends (sl:=sl') (Post:=λv' Ff=>∃v V' σ,Q v V'/\aj ok σ v v'/\ρ.le σ/\aH ok true σ V' Ff/\ax F W Ff) (λd=>by
  obtain⟨e1,v,⟨l1,l2,l3,fn',l4,l5⟩,hq⟩:=r7 W'.tape d;have l1:s'.fr.mode=.returning:=l1;have l2:s'.fr.defers=[]:=l2;have l4:P0.funcs[s'.fr.fn]?=some fn':=l4;have l5:(results fn' s'.fr.tmps).run P0 (re s'.V W'.tape d)=.ok v (re s'.V W'.tape d):=l5;have hd:fr'.defers=[]:=by have:=r4.defers;rw[l2]at this;generalize fr'.defers=x at this;cases this;rfl
  have hm:fr'.mode=.returning:=by have:=r4.mode;rw[l1]at this;generalize fr'.mode=x at this;cases this;rfl
  obtain rfl:fn'=fn:=Gt (l4.symm.trans r9);have l6:P.funcs[fr'.fn]?=some fn':=by
   obtain⟨F,cd,f1,f2,_⟩:=hP.same _ r4.inn;rw[r4.fn,f2,<-f1];exact l4
  rw[results_tmp r10]at l5;simp only[Result.ok.injEq]at l5;refine⟨rfl,_,_,yJ (W:=W'.at d) hm hd r4.kind' l6 r10 (by rw[r4.fn];exact hI _ r4.inn),λe he=>by simp at he,v,_,σ,hq,?_,r3,⟨r5.heap,rfl,rfl,r5.gV,r5.gW⟩,?_⟩
  .rw[<-l5.1];exact r4.tmps.getD t
  .exact⟨r8.block,r8.size,r8.os,r8.out⟩)
 rw[solo_eq_crowd];refine⟨N+N2,last,o,w',t2,?_,?_,k3,k4⟩
 .rw[Nat.add_assoc];exact cZ k1 _ _ _ (by simpa using r1)
 .rw[runN_add];have:runN P N (crowd #[G (Frame.enter P f xs' .normal) []] W none)=.next (crowd gs' W' sl'):=by
   rw[<-runNT_fst _ _ _ #[]];have:=congrArg Prod.fst r1;simpa using this
  rw[this];exact k2
end
section
variable [Gl]{ok:Ctx}
theorem DJ (S:Nat->Bool)(d d' c:Nat)(h:(if S d=true then some d else none)=some c)(h':(if S d'=true then some d' else none)=some c):d=d':=by
 split at h<;>split at h'<;>simp_all
theorem Cy (S:Nat->Bool)(n d c:Nat)(h:(if S d=true then some d else none)=some c):d<n<->c<n:=by
 split at h<;>simp_all
def sD (S:Nat->Bool):Ren:=⟨λd=>if S d=true then some d else none,DJ S,Cy S Gl.n⟩
theorem AF {S:Nat->Bool}{b:Nat}(h:S b=true):sD S b=some b:=by show(if S b=true then some b else none)=_;rw[if_pos h]
theorem AG {S:Nat->Bool}{d c:Nat}(h:sD S d=some c):S d=true/\c=d:=by
 replace h:(if S d=true then some d else none)=some c:=h;split at h
 .rename_i e;exact⟨e,(Gt h).symm⟩
 .cases h
noncomputable def gF (ok:Ctx)(ρ:Ren)(v:Value):Value:=(nu (ok:=ok) (ρ:=ρ) v).choose
theorem kM (ρ:Ren)(v:Value):aj ok ρ (gF ok ρ v) v/\aj ok ρ (gF ok ρ v) (gF ok ρ v):=(nu (ok:=ok) (ρ:=ρ) v).choose_spec
noncomputable def sz (ok:Ctx)(ρ:Ren):Obj->Obj
 |.cells cs e z=>.cells (cs.map (gF ok ρ)) e (if cs.size=0 then z else(0,cs.size))
 |o=>o
noncomputable def gd (ok:Ctx)(S:Nat->Bool)(W:World):World:={W with heap:=W.heap.mapIdx λi o=>if S i=true then sz ok (sD S) o else o}
theorem fk (S:Nat->Bool)(W:World):(gd ok S W).heap.size=W.heap.size:=by simp[gd]
theorem fI {S:Nat->Bool}{W:World}{b:Nat}{cs:Array Value}{e:TypeId}{z:Nat×Nat}(hS:S b=true)(h:W.heap[b]?=some (.cells cs e z)):(gd ok S W).heap[b]?=some (.cells (cs.map (gF ok (sD S))) e (if cs.size=0 then z else(0,cs.size))):=by
 show(W.heap.mapIdx λi o=>if S i=true then sz ok (sD S) o else o)[b]?=_;rw[Array.getElem?_mapIdx,h];simp[hS,sz]
theorem vW {S:Nat->Bool}{W:World}{b:Nat}(hS:S b=false):(gd ok S W).heap[b]?=W.heap[b]?:=by
 show(W.heap.mapIdx λi o=>if S i=true then sz ok (sD S) o else o)[b]?=_;rw[Array.getElem?_mapIdx];cases W.heap[b]? with
 |none=>rfl
 |some o=>simp[hS]
def Eg:Value->Bool
 |.string _=>true
 |.bool _=>true
 |.int _ _=>true
 |_=>false
theorem Cz {ρ:Ren}{x v:Value}(hv:Eg v=true)(h:aj ok ρ x v):x=v:=by
 cases v with
 |string s=>
  generalize hv':Value.string s=v at h;cases h with
  |hole hh=>subst hv';cases hh
  |_=>first|rfl|(cases hv';done)
 |bool s=>
  generalize hv':Value.bool s=v at h;cases h with
  |hole hh=>subst hv';cases hh
  |_=>first|rfl|(cases hv';done)
 |int k s=>
  generalize hv':Value.int k s=v at h;cases h with
  |hole hh=>subst hv';cases hh
  |_=>first|rfl|(cases hv';done)
 |_=>cases hv
def xk (W V:World):Prop:=V.heap.size=W.heap.size/\∀b j v,Eg v=true->W.cell? ⟨b,j,none⟩=some v->V.cell? ⟨b,j,none⟩=some v
theorem sA {S:Nat->Bool}{W:World}(hS:∀b,S b=true->∃cs e z,W.heap[b]?=some (.cells cs e z)):xk W (gd ok S W):=by
 refine⟨fk S W,λb j v hv h=>?_⟩;cases hb:S b with
 |false=>simp only[World.cell?,vW hb]at h⊢;exact h
 |true=>
  obtain⟨cs,e,z,hc⟩:=hS b hb;simp only[World.cell?,hc,fI hb hc]at h⊢;have hc':cs[j]?=some v:=by simpa using h
  have:(cs.map (gF ok (sD S)))[j]?=some v:=by
   rw[Array.getElem?_map,hc'];exact congrArg some (Cz hv (kM _ v).1)
  simpa using this
theorem vX {S:Nat->Bool}{W:World}(hg:Gl.n<=W.heap.size)(hS:∀b,S b=true->∃cs e z,W.heap[b]?=some (.cells cs e z)):
  aH ok true (sD S) (re (gd ok S W) W.tape W.drawn) W/\aH ok true (sD S) (gd ok S W) (gd ok S W):=by
 have r1:∀cs:Array Value,am ok (sD S) (cs.map (gF ok (sD S))) cs:=λcs=>⟨by simp,λi x x' hx hx'=>by
  rw[Array.getElem?_map,hx']at hx;obtain rfl:=Gt hx;exact(kM _ x').1⟩
 have r2:∀cs:Array Value,am ok (sD S) (cs.map (gF ok (sD S))) (cs.map (gF ok (sD S))):=λcs=>⟨rfl,λi x x' hx hx'=>by
  rw[hx]at hx';obtain rfl:=Gt hx';rw[Array.getElem?_map]at hx;cases hc:cs[i]? with
  |none=>rw[hc]at hx;cases hx
  |some y=>rw[hc]at hx;obtain rfl:=Gt hx;exact(kM _ y).2⟩
 refine⟨⟨λd c hd=>?_,rfl,rfl,by show _<=(gd ok S W).heap.size;rw[fk];exact hg,hg⟩,⟨λd c hd=>?_,rfl,rfl,by rw[fk];exact hg,by rw[fk];exact hg⟩⟩
 .obtain⟨h1,rfl⟩:=AG hd;obtain⟨cs,e,z,hc⟩:=hS c h1;refine⟨_,_,fI h1 hc,hc,.cells (r1 cs) ?_⟩;by_cases h0:cs.size=0
  .rw[if_pos h0];exact .inl rfl
  .rw[if_neg h0];exact .inr ⟨rfl,by simp,by simp;omega⟩
 .obtain⟨h1,rfl⟩:=AG hd;obtain⟨cs,e,z,hc⟩:=hS c h1;exact⟨_,_,fI h1 hc,fI h1 hc,.cells (r2 cs) (.inl rfl)⟩
theorem yK {ρ:Ren}{v:Value}(h:aj ok ρ (.bool true) v):v=.bool true:=by cases h;rfl
end
theorem vY (f:Nat):((Tz.prog.funcs[f]?).map (·.ntmps)).getD 0=((Tryz.prog.funcs[f]?).map (·.ntmps)).getD 0:=Tz.g_nt Tryz.prog f
theorem CA {fns:List Nat}(hfns:qJ fns=true)(hini:fns.all (λf=>(Tryz.prog.inits.idxOf? f).isNone)=true){L:FuncId}(hL:(fns.contains L&&!Tz.shutL.contains L)=true){W:World}(hgl:j0.n<=W.heap.size)(hE:W.heap[0]?=some mc){xs:Array Value}(S:Nat->Bool)(hS0:S 0=false)(hS:∀b,S b=true->∃cs e z,W.heap[b]?=some (.cells cs e z))
  (hxs:∀(ok:Ctx) (ρ:@Ren j0),(∀b,S b=true->ρ b=some b)->@am j0 ok ρ xs xs)
  (hlaw:∀(ok:Ctx) (V:World),@bG j0 Tz.prog ok ground (@Dr24)->(∀f,ok.inn f=(fns.contains f&&!Tz.shutL.contains f))->xk W V->@ap j0 Tz.prog ok ground (@Dr24) (λv V'=>v=.bool true/\Bl V.heap.size V V') ⟨Frame.enter Tz.prog L xs .normal,[],V⟩):
  ∃M last o w' t',runNT Tryz.prog (M+1) (solo (G (Frame.enter Tryz.prog L xs .normal) []) W) #[]=(.ended o w',t')/\
   runN Tryz.prog M (solo (G (Frame.enter Tryz.prog L xs .normal) []) W)=.next last/\step Tryz.prog last=.ended o w'/\
   Conc.Good Tryz.prog (λv' W'=>v'=.bool true/\ax (λd=>d<W.heap.size) W W') last o w' t':=by
 letI:=j0;obtain⟨ok,h1,h2,h3⟩:∃ok:Ctx,(∀f,ok.fn f=fns.contains f)/\(∀f,ok.inn f=(fns.contains f&&!Tz.shutL.contains f))/\∀c,ok.code c=@aR j0 Tryz.prog ok.fn c:=⟨⟨λf=>fns.contains f,λf=>fns.contains f&&!Tz.shutL.contains f,λc=>@aR j0 Tryz.prog (λf=>fns.contains f) c⟩,λ_=>rfl,λ_=>rfl,λ_=>rfl⟩;have hinn:∀f,ok.inn f=true->fns.contains f=true/\Tz.shutL.contains f=false:=λf h=>by
  rw[h2,GQ]at h;exact⟨h.1,by simpa using h.2⟩
 obtain⟨hp0,hp⟩:=xj hfns h1 hinn h3;have E:bG Tz.prog ok ground (@Dr24):=⟨hp0,Ct h1 h2,AC,BE⟩;have hI:∀f,ok.inn f=true->Tryz.prog.inits.idxOf? f=none:=λf hf=>by
  have h4:=(hinn f hf).1;have h5:=hini;simp only[List.all_eq_true,List.contains_iff_mem]at h4 h5;have:=h5 f h4;simpa using this
 obtain⟨hw,hw0⟩:=vX (ok:=ok) hgl hS;have hx:=hxs ok (sD S) λb hb=>AF hb
 obtain⟨M,last,o,w',t',q1,q2,q3,q4⟩:=AE (ok:=ok) (W:=W) (V:=gd ok S W) (ρ:=sD S) (ρ0:=sD S) (F:=λd=>d<W.heap.size/\∀cs e z,S d=true->W.heap[d]?=some (.cells cs e z)->0<cs.size) hp0 hp (λf _=>vY f) Cr Cw hI (by rw[h2];exact hL) (hlaw ok (gd ok S W) E h2 (sA hS)) hx hx hw hw0 (λM W' hM hK=>⟨hM 0 ⟨(Gp.1 hE).1,λ_ _ _ h=>by rw[hS0]at h;cases h⟩,(hK.block 0 ⟨(Gp.1 hE).1,λ_ _ _ h=>by rw[hS0]at h;cases h⟩).trans hE⟩) (λd hd=>⟨hd.1,by
  cases hb:S d with
  |false=>exact .inl λb' hb'=>by obtain⟨a1,rfl⟩:=AG hb';rw[hb]at a1;cases a1
  |true=>
   obtain⟨cs,e,z,hc⟩:=hS d hb;have h0:=hd.2 cs e z hb hc;exact .inr ⟨d,AF hb,cs.map (gF ok (sD S)),e,by rw[fI hb hc,if_neg (by omega)];simp⟩⟩)
 refine⟨M,last,o,w',t',q1,q2,q3,q4.mono λv hv=>?_⟩;obtain⟨v0,V',σ,⟨rfl,hbl⟩,hv,hle,hw,hk⟩:=hv;refine⟨yK hv,λd hd=>?_,hk.size,hk.os,hk.out⟩;cases hb:S d with
 |false=>exact hk.block d ⟨hd,λ_ _ _ h=>by rw[hb]at h;cases h⟩
 |true=>
  obtain⟨cs,e,z,hc⟩:=hS d hb;by_cases h0:cs.size=0
  .obtain⟨o1,o2,i1,i2,i3⟩:=hw.heap d d (hle d d (AF hb));rw[hbl.block d (by rw[fk];exact hd),fI hb hc,if_pos h0]at i1;obtain rfl:=Gt i1;rw[i2,hc];cases i3 with
   |@cells _ c' _ _ z' hcc hz=>
    have hsz:c'.size=0:=by rw[<-hcc.size];simpa using h0
    have hz:z'=z:=hz.resolve_right (λh=>by have:=h.2.2;simp at this;omega);have h1:c'=#[]:=Array.eq_empty_of_size_eq_zero hsz;have h2:cs=#[]:=Array.eq_empty_of_size_eq_zero h0;rw[hz,h1,h2]
  .exact hk.block d ⟨hd,λcs' e' z' _ hc'=>by
    rw[hc]at hc';simp only[Option.some.injEq,Obj.cells.injEq]at hc';rw[<-hc'.1];omega⟩
