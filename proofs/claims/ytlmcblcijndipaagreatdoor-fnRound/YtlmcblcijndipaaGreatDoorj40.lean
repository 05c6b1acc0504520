import Derived.Test.YtlmcblcijndipaaGreatDoorj39
set_option linter.unusedVariables false
set_option linter.unusedSectionVars false
namespace Go.Proofs.YtlmcblcijndipaaGreatDoor
open Conc RowKit
section
variable [Gl]{P0 P:Program}{ok:Ctx}{c:Frame}{Dr:FuncId->Array Value->World->(Value->World->Prop)->Prop}{Q:Value->World->Prop}
theorem vc {ρ:Ren}:(v:Value)->∃x,ar ok ρ x v/\ar ok ρ x x
 |.bool b=>⟨.bool b,.bool b,.bool b⟩
 |.int k n=>⟨.int k n,.int k n,.int k n⟩
 |.string s=>⟨.string s,.string s,.string s⟩
 |.pointer none=>⟨.pointer none,.kT,.kT⟩
 |.slice none l k=>⟨.slice none l k,.dg l k,.dg l k⟩
 |.nilFunc=>⟨.nilFunc,.nilFunc,.nilFunc⟩
 |.nilIface=>⟨.nilIface,.nilIface,.nilIface⟩
 |.pointer (some a)=>⟨hole,.hole rfl,.hole rfl⟩
 |.slice (some a) l k=>⟨hole,.hole rfl,.hole rfl⟩
 |.float k b=>⟨hole,.hole rfl,.hole rfl⟩
 |.complex k a b=>⟨hole,.hole rfl,.hole rfl⟩
 |.map r=>⟨hole,.hole rfl,.hole rfl⟩
 |.chan r=>⟨hole,.hole rfl,.hole rfl⟩
 |.func f xs ys=>⟨hole,.hole rfl,.hole rfl⟩
 |.iface t v=>⟨hole,.hole rfl,.hole rfl⟩
 |.agg xs=>by
  have h:∀i:Fin xs.size,∃x,ar ok ρ x xs[i]/\ar ok ρ x x:=λi=>vc xs[i]
  refine⟨.agg (Array.ofFn λi=>(h i).choose),.agg aH λi x x' hx dB=>?_,.agg rfl λi x x' hx dB=>?_⟩
  .obtain⟨hi,rfl⟩:=acm.1 hx;obtain⟨ox,rfl⟩:=acm.1 dB;rw[Array.getElem_ofFn];exact(h ⟨i,ox⟩).choose_spec.1
  .rw[hx]at dB;obtain rfl:=acr dB;obtain⟨hi,rfl⟩:=acm.1 hx;rw[Array.getElem_ofFn];exact(h _).choose_spec.2
 |.tuple xs=>by
  have h:∀i:Fin xs.size,∃x,ar ok ρ x xs[i]/\ar ok ρ x x:=λi=>vc xs[i]
  refine⟨.tuple (Array.ofFn λi=>(h i).choose),.tuple aH λi x x' hx dB=>?_,.tuple rfl λi x x' hx dB=>?_⟩
  .obtain⟨hi,rfl⟩:=acm.1 hx;obtain⟨ox,rfl⟩:=acm.1 dB;rw[Array.getElem_ofFn];exact(h ⟨i,ox⟩).choose_spec.1
  .rw[hx]at dB;obtain rfl:=acr dB;obtain⟨hi,rfl⟩:=acm.1 hx;rw[Array.getElem_ofFn];exact(h _).choose_spec.2
termination_by v=>SizeOf.sizeOf v
decreasing_by
 all_goals
  have:=Array.sizeOf_get xs i i.isLt;simp;first|omega|(have h2:SizeOf.sizeOf xs[i]<SizeOf.sizeOf xs:=this;omega)
theorem Fq {fr:Frame}{W:World}:dD P (λ_=>False) (λ_=>False) (λ_=>False) (λb=>b<W) #[G fr []] (G fr []) W #[] (λ_=>0) where
 main:=rfl
 quit:=⟨λi g h0 h=>by
  have:i<1:=by simpa using(acm.1 h).1
  omega,λj _=>rfl⟩
 past:=⟨λsaid h=>by
  obtain⟨i,j,_,⟨a,b,h1,_⟩,_⟩:=h;simp[Trace.act?]at h1,λi a h=>by simp[touchAt,Trace.act?]at h,λi g h=>by simp[Trace.g?]at h,rfl,λi a h=>by simp[touchAt,Trace.act?]at h,λi op x h=>by simp at h,λi a h=>by simp[touchAt,Trace.act?]at h⟩
 who:=λi op h=>by simp at h
 lt:=λb h=>h.elim id (λx=>x.elim)
 jT:=λ_ _ _ _ h=>h
 low:=λ_ h=>h.elim
 un:=λi a h=>by simp[touchAt,Trace.act?]at h
 JX:=λ_ h=>h.elim
 vm:=λ_ h=>h.elim
end
section
variable [Gl]{P0 P:Program}{ok:Ctx}{c:Frame}{Dr:FuncId->Array Value->World->(Value->World->Prop)->Prop}{Q:Value->World->Prop}
theorem Jq {fr:Frame}{W:World}{fn:Func}{t:Tmp}(hm:fr.mode=.returning)(hd:fr.defers=[])(hk:fr.kind=.normal)(hf:P.funcs[fr.fn]?=some fn)(hr:fn.results=#[.tmp t])(hi:P.inits.idxOf? fr.fn=none):
  stepG P true (G fr []) W=.ended (.done (fr.tmps.getD t undef)) W #[]:=by
 rw[jg (by rw[hm];simp)];obtain⟨dv,de,jN,cO,po,eT,aY⟩:=fr;simp only at hd hm hk hf hi⊢;subst hd hm hk;have h1:(results fn de).runT P W #[]=(.ok (de.getD t undef) W,#[]):=by
  have h2:=Sem.runT_fst P (results fn de) W #[];have h3:((results fn de).runT P W #[]).2=_:=events_results_tmp (P:=P) (w:=W) hr de #[];rw[results_tmp hr]at h2;exact Prod.ext h2 h3
 simp only[unwind,hf,h1,doReturn,hi,GStep.after];simp[seen]
theorem KS (eh:dE P0 P0 ok)(hP:dE P0 P ok)(hN:∀f,ok.bI f=false->((P0.funcs[f]?).map (·.ntmps)).getD 0=((P.funcs[f]?).map (·.ntmps)).getD 0){Inv:(Nat->Prop)->World->Prop}(I_:Gl.ov<1000000000->Ee P)(hD:oA P ok Inv Dr)(hI:∀f,ok.bI f=true->P.inits.idxOf? f=none)
  {f:FuncId}{xs xs':Array Value}{V W:World}{ρ ρ0:Ren}(hf:ok.bI f=true)(hk:aF P0 ok c Dr Q ⟨Frame.enter P0 f xs .normal,[],V⟩)
  (hx:aA ok ρ xs xs')(Xz:aA ok ρ0 xs xs)(hw:bJ ok true ρ (re V W.tape W.drawn) W)(Lw:bJ ok true ρ0 V V){F:Nat->Prop}(So:∀M W',(∀d,F d->M d)->aO F W W'->Inv M W')(hF:∀d,F d->d<W.heap.size/\((∀b,ρ b≠some d)\/∃b,ρ b=some d/\Ro V b)):
  ∃M last o w' t',runNT P (M+1) (solo (G (Frame.enter P f xs' .normal) []) W) #[]=(.ended o w',t')/\runN P M (solo (G (Frame.enter P f xs' .normal) []) W)=.next last/\step P last=.ended o w'/\
   Conc.Good P (λv' W'=>∃v V' σ,Q v V'/\ar ok σ v v'/\ρ.le σ/\bJ ok true σ V' W'/\aO F W W') last o w' t':=by
 have hb:∀p:Program,th (Frame.enter p f xs .normal) []:=λp g hg=>by
  simp only[List.getLast?_singleton,Option.some.injEq]at hg;subst hg;rfl
 have my:fu P0 ok (St.re ⟨Frame.enter P0 f xs .normal,[],V⟩ W.tape W.drawn):=⟨ρ0,mq eh.toSame hf Xz,.nil,hb _,⟨Lw.heap,rfl,rfl,Lw.gV,Lw.gW⟩⟩;have hg:oC P0 P ok ρ [c] [] (G (Frame.enter P0 f xs .normal) ([]++[c])) (G (Frame.enter P f xs' .normal) ([]++[])):=.inside (mq hP.toSame hf hx) .nil (hb _);obtain⟨N,jw,W',jU,t',q',rP,M',σ,s',eA,r1,r2,r3,r4,r5,r6,r7,r8,fn,t,r9,r10⟩:=(hk W.tape W.drawn my).beside (F:=F) (abV:=W) (sl:=none) hP hN I_ hD So (aO.refl _ _) hg hw (λb d hb=>(hw.lt hb).2) Fq hF;obtain⟨N2,last,o,w',t2,k1,k2,k3,k4⟩:=r2.ends (sl:=jU) (Post:=λv' du=>∃v V' σ,Q v V'/\ar ok σ v v'/\ρ.le σ/\bJ ok true σ V' du/\aO F W du) (λd=>by
  obtain⟨e1,v,⟨l1,l2,l3,dv,l4,l5⟩,hq⟩:=r7 W'.tape d;have l1:s'.fr.mode=.returning:=l1;have l2:s'.fr.defers=[]:=l2;have l4:P0.funcs[s'.fr.fn]?=some dv:=l4;have l5:(results dv s'.fr.tmps).run P0 (re s'.V W'.tape d)=.ok v (re s'.V W'.tape d):=l5;have hd:eA.defers=[]:=by have:=r4.defers;rw[l2]at this;generalize eA.defers=x at this;cases this;rfl
  have hm:eA.mode=.returning:=by have:=r4.mode;rw[l1]at this;generalize eA.mode=x at this;cases this;rfl
  obtain rfl:dv=fn:=acr (l4.symm.trans r9);have l6:P.funcs[eA.fn]?=some dv:=by
   obtain⟨F,cd,f1,f2,_⟩:=hP.same _ r4.bI;rw[r4.fn,f2,<-f1];exact l4
  rw[results_tmp r10]at l5;simp only[Result.ok.injEq]at l5;refine⟨rfl,_,_,Jq (W:=W'.at d) hm hd r4.eT l6 r10 (by rw[r4.fn];exact hI _ r4.bI),λe he=>zO,v,_,σ,hq,?_,r3,⟨r5.heap,rfl,rfl,r5.gV,r5.gW⟩,?_⟩
  .rw[<-l5.1];exact r4.tmps.getD t
  .exact⟨r8.block,r8.size,r8.os,r8.out⟩)
 rw[solo_eq_crowd];refine⟨N+N2,last,o,w',t2,?_,?_,k3,k4⟩
 .rw[Nat.add_assoc];exact fF k1 _ _ _ (by simpa using r1)
 .rw[runN_add];have:runN P N (crowd #[G (Frame.enter P f xs' .normal) []] W none)=.next (crowd jw W' jU):=by
   rw[<-runNT_fst _ _ _ #[]];have:=congrArg Prod.fst r1;simpa using this
  rw[this];exact k2
end
section
variable [Gl]{ok:Ctx}
theorem TF (S:Nat->Bool)(d d' c:Nat)(h:(if S d=true then some d else none)=some c)(h':(if S d'=true then some d' else none)=some c):d=d':=by
 split at h<;>split at h'<;>simp_all
theorem Pb (S:Nat->Bool)(n d c:Nat)(h:(if S d=true then some d else none)=some c):d<n<->c<n:=by
 split at h<;>simp_all
def Bj (S:Nat->Bool):Ren:=⟨λd=>if S d=true then some d else none,TF S,Pb S Gl.n⟩
theorem L1 {S:Nat->Bool}{b:Nat}(h:S b=true):Bj S b=some b:=by show(if S b=true then some b else none)=_;rw[if_pos h]
theorem L2 {S:Nat->Bool}{d c:Nat}(h:Bj S d=some c):S d=true/\c=d:=by
 replace h:(if S d=true then some d else none)=some c:=h;split at h
 .rename_i e;exact⟨e,(acr h).symm⟩
 .cases h
noncomputable def lK (ok:Ctx)(ρ:Ren)(v:Value):Value:=(vc (ok:=ok) (ρ:=ρ) v).choose
theorem qQ (ρ:Ren)(v:Value):ar ok ρ (lK ok ρ v) v/\ar ok ρ (lK ok ρ v) (lK ok ρ v):=(vc (ok:=ok) (ρ:=ρ) v).choose_spec
noncomputable def Ai (ok:Ctx)(ρ:Ren):Obj->Obj
 |.cells cs e z=>.cells (cs.map (lK ok ρ)) e (if cs.size=0 then z else(0,cs.size))
 |o=>o
noncomputable def kM (ok:Ctx)(S:Nat->Bool)(W:World):World:={W with heap:=W.heap.mapIdx λi o=>if S i=true then Ai ok (Bj S) o else o}
theorem jy (S:Nat->Bool)(W:World):(kM ok S W).heap.size=W.heap.size:=by simp[kM]
theorem jZ {S:Nat->Bool}{W:World}{b:Nat}{cs:Array Value}{e:TypeId}{z:Nat×Nat}(hS:S b=true)(h:W.heap[b]?=some (.cells cs e z)):(kM ok S W).heap[b]?=some (.cells (cs.map (lK ok (Bj S))) e (if cs.size=0 then z else(0,cs.size))):=by
 show(W.heap.mapIdx λi o=>if S i=true then Ai ok (Bj S) o else o)[b]?=_;rw[Array.getElem?_mapIdx,h];simp[hS,Ai]
theorem E1 {S:Nat->Bool}{W:World}{b:Nat}(hS:S b=false):(kM ok S W).heap[b]?=W.heap[b]?:=by
 show(W.heap.mapIdx λi o=>if S i=true then Ai ok (Bj S) o else o)[b]?=_;rw[Array.getElem?_mapIdx];cases W.heap[b]? with
 |none=>rfl
 |some o=>simp[hS]
def U5:Value->Bool
 |.string _=>true
 |.bool _=>true
 |.int _ _=>true
 |_=>false
theorem On {ρ:Ren}{x v:Value}(hv:U5 v=true)(h:ar ok ρ x v):x=v:=by
 cases v with
 |string s=>
  generalize DZ:Value.string s=v at h;cases h with
  |hole hh=>subst DZ;cases hh
  |_=>first|rfl|(cases DZ;done)
 |bool s=>
  generalize DZ:Value.bool s=v at h;cases h with
  |hole hh=>subst DZ;cases hh
  |_=>first|rfl|(cases DZ;done)
 |int k s=>
  generalize DZ:Value.int k s=v at h;cases h with
  |hole hh=>subst DZ;cases hh
  |_=>first|rfl|(cases DZ;done)
 |_=>cases hv
def J3 (W V:World):Prop:=V.heap.size=W.heap.size/\∀b j v,U5 v=true->W.cell? ⟨b,j,none⟩=some v->V.cell? ⟨b,j,none⟩=some v
theorem Aj {S:Nat->Bool}{W:World}(hS:∀b,S b=true->∃cs e z,W.heap[b]?=some (.cells cs e z)):J3 W (kM ok S W):=by
 refine⟨jy S W,λb j v hv h=>?_⟩;cases hb:S b with
 |false=>simp only[World.cell?,E1 hb]at h⊢;exact h
 |true=>
  obtain⟨cs,e,z,hc⟩:=hS b hb;simp only[World.cell?,hc,jZ hb hc]at h⊢;have Ah:cs[j]?=some v:=qg;have:(cs.map (lK ok (Bj S)))[j]?=some v:=by
   rw[Array.getElem?_map,Ah];exact congrArg some (On hv (qQ _ v).1)
  simpa using this
theorem E2 {S:Nat->Bool}{W:World}(hg:Gl.n<=W)(hS:∀b,S b=true->∃cs e z,W.heap[b]?=some (.cells cs e z)):
  bJ ok true (Bj S) (re (kM ok S W) W.tape W.drawn) W/\bJ ok true (Bj S) (kM ok S W) (kM ok S W):=by
 have r1:∀cs:Array Value,aA ok (Bj S) (cs.map (lK ok (Bj S))) cs:=λcs=>⟨aH,λi x x' hx dB=>by
  rw[Array.getElem?_map,dB]at hx;obtain rfl:=acr hx;exact(qQ _ x').1⟩
 have r2:∀cs:Array Value,aA ok (Bj S) (cs.map (lK ok (Bj S))) (cs.map (lK ok (Bj S))):=λcs=>⟨rfl,λi x x' hx dB=>by
  rw[hx]at dB;obtain rfl:=acr dB;rw[Array.getElem?_map]at hx;cases hc:cs[i]? with
  |none=>rw[hc]at hx;cases hx
  |some y=>rw[hc]at hx;obtain rfl:=acr hx;exact(qQ _ y).2⟩
 refine⟨⟨λd c hd=>?_,rfl,rfl,by show _<=(kM ok S W).heap.size;rw[jy];exact hg,hg⟩,⟨λd c hd=>?_,rfl,rfl,by rw[jy];exact hg,by rw[jy];exact hg⟩⟩
 .obtain⟨h1,rfl⟩:=L2 hd;obtain⟨cs,e,z,hc⟩:=hS c h1;refine⟨_,_,jZ h1 hc,hc,.cells (r1 cs) ?_⟩;by_cases h0:cs.size=0
  .rw[if_pos h0];exact .inl rfl
  .rw[if_neg h0];exact .inr ⟨rfl,aH,cC⟩
 .obtain⟨h1,rfl⟩:=L2 hd;obtain⟨cs,e,z,hc⟩:=hS c h1;exact⟨_,_,jZ h1 hc,jZ h1 hc,.cells (r2 cs) (.inl rfl)⟩
theorem JA {ρ:Ren}{v:Value}(h:ar ok ρ true v):v=true:=by cases h;rfl
end
theorem Fx (f:Nat):((Tz.prog.funcs[f]?).map (·.ntmps)).getD 0=((Tryz.prog.funcs[f]?).map (·.ntmps)).getD 0:=Tz.r_ Tryz.prog f
theorem Pv {fns:List Nat}(aac:yM fns=true)(aai:fns.all (λf=>(Tryz.prog.inits.idxOf? f).isNone)=true){L:FuncId}(hL:(fns.contains L&&!Tz.gS.contains L)=true){W:World}(DR:qm.n<=W)(hE:W.heap[0]?=some vQ){xs:Array Value}(S:Nat->Bool)(VQ:S 0=false)(hS:∀b,S b=true->∃cs e z,W.heap[b]?=some (.cells cs e z))
  (IC:∀(ok:Ctx) (ρ:@Ren qm),(∀b,S b=true->ρ b=some b)->@aA qm ok ρ xs xs)
  (aam:∀(ok:Ctx) (V:World),@eI qm Tz.prog ok mV (@dt)->(∀f,ok.bI f=(fns.contains f&&!Tz.gS.contains f))->J3 W V->@aF qm Tz.prog ok mV (@dt) (λv V'=>v=true/\Bl V V V') ⟨Frame.enter Tz.prog L xs .normal,[],V⟩):
  ∃M last o w' t',runNT Tryz.prog (M+1) (solo (G (Frame.enter Tryz.prog L xs .normal) []) W) #[]=(.ended o w',t')/\
   runN Tryz.prog M (solo (G (Frame.enter Tryz.prog L xs .normal) []) W)=.next last/\step Tryz.prog last=.ended o w'/\
   Conc.Good Tryz.prog (λv' W'=>v'=true/\aO (λd=>d<W.heap.size) W W') last o w' t':=by
 letI:=qm;obtain⟨ok,h1,h2,h3⟩:∃ok:Ctx,(∀f,ok.fn f=fns.contains f)/\(∀f,ok.bI f=(fns.contains f&&!Tz.gS.contains f))/\∀c,ok.code c=@ce qm Tryz.prog ok.fn c:=⟨⟨λf=>fns.contains f,λf=>fns.contains f&&!Tz.gS.contains f,λc=>@ce qm Tryz.prog (λf=>fns.contains f) c⟩,λ_=>rfl,λ_=>rfl,λ_=>rfl⟩;have WF:∀f,ok.bI f=true->fns.contains f=true/\Tz.gS.contains f=false:=λf h=>by
  rw[h2,acP]at h;exact⟨h.1,by simpa using h.2⟩
 obtain⟨DY,hp⟩:=G7 aac h1 WF h3;have E:eI Tz.prog ok mV (@dt):=⟨DY,Py h1 h2,KO,Og⟩;have hI:∀f,ok.bI f=true->Tryz.prog.inits.idxOf? f=none:=λf hf=>by
  have h4:=(WF f hf).1;have h5:=aai;simp only[List.all_eq_true,List.contains_iff_mem]at h4 h5;have:=h5 f h4;simpa using this
 obtain⟨hw,hw0⟩:=E2 (ok:=ok) DR hS;have hx:=IC ok (Bj S) λb hb=>L1 hb
 obtain⟨M,last,o,w',t',q1,q2,q3,q4⟩:=KS (ok:=ok) (W:=W) (V:=kM ok S W) (ρ:=Bj S) (ρ0:=Bj S) (F:=λd=>d<W.heap.size/\∀cs e z,S d=true->W.heap[d]?=some (.cells cs e z)->0<cs.size) DY hp (λf _=>Fx f) Pf Oe hI (by rw[h2];exact hL) (aam ok (kM ok S W) E h2 (Aj hS)) hx hx hw hw0 (λM W' hM hK=>⟨hM 0 ⟨(acm.1 hE).1,λ_ _ _ h=>by rw[VQ]at h;cases h⟩,(hK.block 0 ⟨(acm.1 hE).1,λ_ _ _ h=>by rw[VQ]at h;cases h⟩).trans hE⟩) (λd hd=>⟨hd.1,by
  cases hb:S d with
  |false=>exact .inl λb' cZ=>by obtain⟨a1,rfl⟩:=L2 cZ;rw[hb]at a1;cases a1
  |true=>
   obtain⟨cs,e,z,hc⟩:=hS d hb;have h0:=hd.2 cs e z hb hc;exact .inr ⟨d,L1 hb,cs.map (lK ok (Bj S)),e,by rw[jZ hb hc,if_neg ab];simp⟩⟩)
 refine⟨M,last,o,w',t',q1,q2,q3,q4.mono λv hv=>?_⟩;obtain⟨v0,V',σ,⟨rfl,oq⟩,hv,hle,hw,hk⟩:=hv;refine⟨JA hv,λd hd=>?_,hk.size,hk.os,hk.out⟩;cases hb:S d with
 |false=>exact hk.block d ⟨hd,λ_ _ _ h=>by rw[hb]at h;cases h⟩
 |true=>
  obtain⟨cs,e,z,hc⟩:=hS d hb;by_cases h0:cs.size=0
  .obtain⟨o1,o2,i1,i2,i3⟩:=hw.heap d d (hle d d (L1 hb));rw[oq.block d (by rw[jy];exact hd),jZ hb hc,if_pos h0]at i1;obtain rfl:=acr i1;rw[i2,hc];cases i3 with
   |@cells _ c' _ _ z' K7 hz=>
    have iZ:c'.size=0:=by rw[<-K7.size];simpa using h0
    have hz:z'=z:=hz.resolve_right (λh=>by have:=h.2.2;simp at this;omega);have h1:c'=#[]:=Array.eq_empty_of_size_eq_zero iZ;have h2:cs=#[]:=Array.eq_empty_of_size_eq_zero h0;rw[hz,h1,h2]
  .exact hk.block d ⟨hd,λcs' e' z' _ Ah=>by
    rw[hc]at Ah;simp only[Option.some.injEq,Obj.cells.injEq]at Ah;rw[<-Ah.1];omega⟩
