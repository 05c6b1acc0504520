import Derived.Test.YtlmcblcijndipaaGreatDoorj40
set_option linter.defProp false
set_option linter.unusedVariables false
set_option linter.unusedSectionVars false
namespace Go.Proofs.YtlmcblcijndipaaGreatDoor
variable {xs:Array Value}{ok:Ctx}{c fr:Frame}{Dr:FuncId->Array Value->World->(Value->World->Prop)->Prop}{b:Nat}{S:Nat->Bool}{P P0:Program}{v:Value}{Q:Value->World->Prop}{W:World}
open Conc RowKit
section
variable [Gl]
def wi {ρ:Ren}:(v:Value)->∃x,aw ok ρ x v/\aw ok ρ x x
 |.bool b=>⟨.bool b,.bool b,.bool b⟩
 |.int k n=>⟨.int k n,.int k n,.int k n⟩
 |.string s=>⟨.string s,.string s,.string s⟩
 |.pointer none=>⟨.pointer none,.mD,.mD⟩
 |.slice none l k=>⟨.slice none l k,.dH l k,.dH l k⟩
 |.nilFunc=>⟨.nilFunc,.nilFunc,.nilFunc⟩
 |.nilIface=>⟨.nilIface,.nilIface,.nilIface⟩
 |.pointer (some a)=>⟨hole,.hole rfl,.hole rfl⟩
 |.slice (some a) l k=>⟨hole,.hole rfl,.hole rfl⟩
 |.float k b=>⟨hole,.hole rfl,.hole rfl⟩
 |.complex k a b=>⟨hole,.hole rfl,.hole rfl⟩
 |.map r=>⟨hole,.hole rfl,.hole rfl⟩
 |.chan r=>⟨hole,.hole rfl,.hole rfl⟩
 |.func f xs ys=>⟨hole,.hole rfl,.hole rfl⟩
 |.iface t v=>⟨hole,.hole rfl,.hole rfl⟩
 |.agg xs=>by
  have h:∀i:Fin xs.size,∃x,aw ok ρ x xs[i]/\aw ok ρ x x:=λi=>wi xs[i]
  refine⟨.agg<|Array.ofFn λi=>(h i).choose,.agg aG λi x x' hx dK=>?_,.agg rfl λi x x' hx dK=>?_⟩
  .obtain⟨hi,rfl⟩:=ac5.1 hx;obtain⟨nJ,rfl⟩:=ac5.1 dK;rw[Array.getElem_ofFn];exact(h ⟨i,nJ⟩).choose_spec.1
  .rw[hx]at dK;obtain rfl:=ac9 dK;obtain⟨hi,rfl⟩:=ac5.1 hx;rw[Array.getElem_ofFn];exact(h _).choose_spec.2
 |.tuple xs=>by
  have h:∀i:Fin xs.size,∃x,aw ok ρ x xs[i]/\aw ok ρ x x:=λi=>wi xs[i]
  refine⟨.tuple<|Array.ofFn λi=>(h i).choose,.tuple aG λi x x' hx dK=>?_,.tuple rfl λi x x' hx dK=>?_⟩
  .obtain⟨hi,rfl⟩:=ac5.1 hx;obtain⟨nJ,rfl⟩:=ac5.1 dK;rw[Array.getElem_ofFn];exact(h ⟨i,nJ⟩).choose_spec.1
  .rw[hx]at dK;obtain rfl:=ac9 dK;obtain⟨hi,rfl⟩:=ac5.1 hx;rw[Array.getElem_ofFn];exact(h _).choose_spec.2
termination_by v=>SizeOf.sizeOf v
decreasing_by
 all_goals
  have:=Array.sizeOf_get xs i i.isLt;simp;first|omega|(have h2:SizeOf.sizeOf xs[i]<SizeOf.sizeOf xs:=this;omega)
def Ho:dJ P (λ_=>False) (λ_=>False) (λ_=>False) (λb=>b<W) #[G fr []] (G fr []) W #[] (λ_=>0) where
 main:=rfl
 quit:=⟨λi g h0 h=>by
  have:i<1:=by simpa using(ac5.1 h).1
  omega,λj _=>rfl⟩
 past:=⟨λsaid h=>by
  let⟨i,j,_,⟨a,b,h1,_⟩,_⟩:=h;simp[Trace.act?]at h1,λi a h=>by simp[touchAt,Trace.act?]at h,λi g h=>by simp[Trace.g?]at h,rfl,λi a h=>by simp[touchAt,Trace.act?]at h,λi op x h=>by simp at h,λi a h=>by simp[touchAt,Trace.act?]at h⟩
 who:=λi op h=>by simp at h
 lt:=λb h=>h.elim id λx=>x.elim
 kw:=λ_ _ _ _ h=>h
 low:=λ_ h=>h.elim
 un:=λi a h=>by simp[touchAt,Trace.act?]at h
 Md:=λ_ h=>h.elim
 vm:=λ_ h=>h.elim
end
section
variable [Gl]
def LF {fn:Func}{t:Tmp}(hm:fr.mode=.returning)(hd:fr.defers=[])(hk:fr.kind=.normal)(hf:P.funcs[fr.fn]?=some fn)(hr:fn.results=#[.tmp t])(hi:P.inits.idxOf? fr.fn=none):
  stepG P true (G fr []) W=.ended (.done<|fr.tmps.getD t undef) W #[]:=by
 rw[ju (by rw[hm];simp)];let⟨dC,dj,jY,cU,pU,fo,bg⟩:=fr;simp only at hd hm hk hf hi⊢;subst hd hm hk;have h1:(results fn dj).runT P W #[]=(.ok (dj.getD t undef) W,#[]):=by
  have h2:=Sem.runT_fst P (results fn dj) W #[];have h3:((results fn dj).runT P W #[]).2=_:=events_results_tmp (P:=P) (w:=W) hr dj #[];rw[results_tmp hr]at h2;exact Prod.ext h2 h3
 simp only[unwind,hf,h1,doReturn,hi,GStep.after];simp[seen]
def No (eL:dL P0 P0 ok)(hP:dL P0 P ok)(hN:∀f,ok.aX f=false->((P0.funcs[f]?).map (·.ntmps)).getD 0=((P.funcs[f]?).map (·.ntmps)).getD 0){Inv:(Nat->Prop)->World->Prop}(hOv:Gl.ov<1000000000->BF P)(hD:pt P ok Inv Dr)(hI:∀f,ok.aX f=true->P.inits.idxOf? f=none)
  {f:FuncId}{xs':Array Value}{V:World}{ρ ρ0:Ren}(hf:ok.aX f=true)(hk:aj P0 ok c Dr Q ⟨Frame.enter P0 f xs .normal,[],V⟩)
  (hx:ax ok ρ xs xs')(g_:ax ok ρ0 xs xs)(hw:bN ok true ρ (re V W.tape W.drawn) W)(N7:bN ok true ρ0 V V){F:Nat->Prop}(Vb:∀M W',(∀d,F d->M d)->aO F W W'->Inv M W')(hF:∀d,F d->d<W.heap.size/\((∀b,ρ b≠some d)\/∃b,ρ b=some d/\Ro V b)):
  ∃M last o w' t',runNT P (M+1) (solo (G (Frame.enter P f xs' .normal) []) W) #[]=(.ended o w',t')/\runN P M (solo (G (Frame.enter P f xs' .normal) []) W)=.next last/\step P last=.ended o w'/\
   Conc.Good P (λv' W'=>∃v V' σ,Q v V'/\aw ok σ v v'/\ρ.le σ/\bN ok true σ V' W'/\aO F W W') last o w' t':=by
 have hb:∀p:Program,tU (Frame.enter p f xs .normal) []:=λp g hg=>by
  simp only[List.getLast?_singleton,Option.some.injEq]at hg;subst hg;rfl
 have nh:fK P0 ok (St.re ⟨Frame.enter P0 f xs .normal,[],V⟩ W.tape W.drawn):=⟨ρ0,m9 eL.toSame hf g_,.nil,hb _,⟨N7.heap,rfl,rfl,N7.gV,N7.gW⟩⟩;have hg:pv P0 P ok ρ [c] [] (G (Frame.enter P0 f xs .normal)<|[]++[c]) (G (Frame.enter P f xs' .normal)<|[]++[]):=.inside (m9 hP.toSame hf hx) .nil<|hb _;let⟨N,jK,W',kx,t',q',sP,M',σ,s',eV,r1,r2,r3,r4,r5,r6,r7,r8,fn,t,r9,r10⟩:=(hk W.tape W.drawn nh).beside (F:=F) (acF:=W) (sl:=none) hP hN hOv hD Vb (aO.refl _ _) hg hw (λb d hb=>(hw.lt hb).2) Ho hF;let⟨N2,last,o,w',t2,k1,k2,k3,k4⟩:=r2.ends (sl:=kx) (Post:=λv' dx=>∃v V' σ,Q v V'/\aw ok σ v v'/\ρ.le σ/\bN ok true σ V' dx/\aO F W dx) (λd=>by
  let⟨e1,v,⟨l1,l2,l3,dC,l4,l5⟩,hq⟩:=r7 W'.tape d;have l1:s'.fr.mode=.returning:=l1;have l2:s'.fr.defers=[]:=l2;have l4:P0.funcs[s'.fr.fn]?=some dC:=l4;have l5:(results dC s'.fr.tmps).run P0 (re s'.V W'.tape d)=.ok v (re s'.V W'.tape d):=l5;have hd:eV.defers=[]:=by have:=r4.defers;rw[l2]at this;generalize eV.defers=x at this;cases this;rfl
  have hm:eV.mode=.returning:=by have:=r4.mode;rw[l1]at this;generalize eV.mode=x at this;cases this;rfl
  obtain rfl:dC=fn:=ac9<|l4.symm.trans r9;have l6:P.funcs[eV.fn]?=some dC:=by
   let⟨F,cd,f1,f2,_⟩:=hP.same _ r4.aX;rw[r4.fn,f2,<-f1];exact l4
  rw[results_tmp r10]at l5;simp only[Result.ok.injEq]at l5;refine⟨rfl,_,_,LF (W:=W'.at d) hm hd r4.fo l6 r10 (by rw[r4.fn];exact hI _ r4.aX),λe he=>ic,v,_,σ,hq,?_,r3,⟨r5.heap,rfl,rfl,r5.gV,r5.gW⟩,?_⟩
  .rw[<-l5.1];exact r4.tmps.getD t
  .exact⟨r8.block,r8.size,r8.os,r8.out⟩)
 rw[solo_eq_crowd];refine⟨N+N2,last,o,w',t2,?_,?_,k3,k4⟩
 .rw[Nat.add_assoc];exact fU k1 _ _ _<|by simpa using r1
 .rw[runN_add];have:runN P N (crowd #[G (Frame.enter P f xs' .normal) []] W none)=.next (crowd jK W' kx):=by
   rw[<-runNT_fst _ _ _ #[]];have:=congrArg Prod.fst r1;simpa using this
  rw[this];exact k2
end
section
variable [Gl]
def Wu (S:Nat->Bool)(d d' c:Nat)(h:(if S d=true then some d else none)=some c)(h':(if S d'=true then some d' else none)=some c):d=d':=by
 split at h<;>split at h'<;>simp_all
def RP (S:Nat->Bool)(n d c:Nat)(h:(if S d=true then some d else none)=some c):d<n<->c<n:=by
 split at h<;>simp_all
def DE (S:Nat->Bool):Ren:=⟨λd=>if S d=true then some d else none,Wu S,RP S Gl.n⟩
def OD (h:S b=true):DE S b=some b:=by show(if S b=true then some b else none)=_;rw[if_pos h]
def OE {d c:Nat}(h:DE S d=some c):S d=true/\c=d:=by
 replace h:(if S d=true then some d else none)=some c:=h;split at h
 .rename_i e;exact⟨e,(ac9 h).symm⟩
 .cases h
noncomputable def my (ok:Ctx)(ρ:Ren)(v:Value):Value:=(wi (ok:=ok) (ρ:=ρ) v).choose
def rL (ρ:Ren)(v:Value):aw ok ρ (my ok ρ v) v/\aw ok ρ (my ok ρ v) (my ok ρ v):=(wi (ok:=ok) (ρ:=ρ) v).choose_spec
noncomputable def Cm (ok:Ctx)(ρ:Ren):Obj->Obj
 |.cells cs e z=>.cells (cs.map<|my ok ρ) e (if cs.size=0 then z else(0,cs.size))
 |o=>o
noncomputable def kZ (ok:Ctx)(S:Nat->Bool)(W:World):World:={W with heap:=W.heap.mapIdx λi o=>if S i=true then Cm ok (DE S) o else o}
def jL (S:Nat->Bool)(W:World):(kZ ok S W).heap.size=W.heap.size:=by simp[kZ]
def kC {cs:Array Value}{e:TypeId}{z:Nat×Nat}(hS:S b=true)(h:W.heap[b]?=some (.cells cs e z)):(kZ ok S W).heap[b]?=some (.cells (cs.map<|my ok<|DE S) e (if cs.size=0 then z else(0,cs.size))):=by
 show(W.heap.mapIdx λi o=>if S i=true then Cm ok (DE S) o else o)[b]?=_;rw[Array.getElem?_mapIdx,h];simp[hS,Cm]
def GX (hS:S b=false):(kZ ok S W).heap[b]?=W.heap[b]?:=by
 show(W.heap.mapIdx λi o=>if S i=true then Cm ok (DE S) o else o)[b]?=_;rw[Array.getElem?_mapIdx];cases W.heap[b]? with
 |none=>rfl
 |some o=>simp[hS]
def X5:Value->Bool
 |.string _=>true
 |.bool _=>true
 |.int _ _=>true
 |_=>false
def Q1 {ρ:Ren}{x:Value}(hv:X5 v=true)(h:aw ok ρ x v):x=v:=by
 cases v with
 |string s=>
  generalize AE:Value.string s=v at h;cases h with
  |hole hh=>subst AE;cases hh
  |_=>first|rfl|(cases AE;done)
 |bool s=>
  generalize AE:Value.bool s=v at h;cases h with
  |hole hh=>subst AE;cases hh
  |_=>first|rfl|(cases AE;done)
 |int k s=>
  generalize AE:Value.int k s=v at h;cases h with
  |hole hh=>subst AE;cases hh
  |_=>first|rfl|(cases AE;done)
 |_=>cases hv
def Mm (W V:World):Prop:=V.heap.size=W.heap.size/\∀b j v,X5 v=true->W.cell? ⟨b,j,none⟩=some v->V.cell? ⟨b,j,none⟩=some v
def Cn (hS:∀b,S b=true->∃cs e z,W.heap[b]?=some (.cells cs e z)):Mm W (kZ ok S W):=by
 refine⟨jL S W,λb j v hv h=>?_⟩;cases hb:S b with
 |false=>simp only[World.cell?,GX hb]at h⊢;exact h
 |true=>
  let⟨cs,e,z,hc⟩:=hS b hb;simp only[World.cell?,hc,kC hb hc]at h⊢;have Ci:cs[j]?=some v:=qJ;have:(cs.map<|my ok<|DE S)[j]?=some v:=by
   rw[Array.getElem?_map,Ci];exact congrArg some<|Q1 hv (rL _ v).1
  simpa using this
def GY (hg:Gl.n<=W)(hS:∀b,S b=true->∃cs e z,W.heap[b]?=some (.cells cs e z)):
  bN ok true (DE S) (re (kZ ok S W) W.tape W.drawn) W/\bN ok true (DE S) (kZ ok S W) (kZ ok S W):=by
 have r1:∀cs:Array Value,ax ok (DE S) (cs.map<|my ok<|DE S) cs:=λcs=>⟨aG,λi x x' hx dK=>by
  rw[Array.getElem?_map,dK]at hx;obtain rfl:=ac9 hx;exact(rL _ x').1⟩
 have r2:∀cs:Array Value,ax ok (DE S) (cs.map<|my ok<|DE S) (cs.map<|my ok<|DE S):=λcs=>⟨rfl,λi x x' hx dK=>by
  rw[hx]at dK;obtain rfl:=ac9 dK;rw[Array.getElem?_map]at hx;cases hc:cs[i]? with
  |none=>rw[hc]at hx;cases hx
  |some y=>rw[hc]at hx;obtain rfl:=ac9 hx;exact(rL _ y).2⟩
 refine⟨⟨λd c hd=>?_,rfl,rfl,by show _<=(kZ ok S W).heap.size;rw[jL];exact hg,hg⟩,⟨λd c hd=>?_,rfl,rfl,by rw[jL];exact hg,by rw[jL];exact hg⟩⟩
 .obtain⟨h1,rfl⟩:=OE hd;let⟨cs,e,z,hc⟩:=hS c h1;refine⟨_,_,kC h1 hc,hc,.cells (r1 cs) ?_⟩;by_cases h0:cs.size=0
  .rw[if_pos h0];exact .inl rfl
  .rw[if_neg h0];exact .inr ⟨rfl,aG,cH⟩
 .obtain⟨h1,rfl⟩:=OE hd;let⟨cs,e,z,hc⟩:=hS c h1;exact⟨_,_,kC h1 hc,kC h1 hc,.cells (r2 cs)<|.inl rfl⟩
def LO {ρ:Ren}(h:aw ok ρ true v):v=true:=by cases h;rfl
end
def Hw (f:Nat):((Tz.prog.funcs[f]?).map (·.ntmps)).getD 0=((Tryz.prog.funcs[f]?).map (·.ntmps)).getD 0:=Tz.aaE Tryz.prog f
def R9 {fns:List Nat}(aaY:Ax fns=true)(aa5:fns.all (λf=>(Tryz.prog.inits.idxOf? f).isNone)=true){L:FuncId}(hL:(fns.contains L&&!Tz.iv.contains L)=true)(F0:qQ.n<=W)(hE:W.heap[0]?=some xf)(S:Nat->Bool)(hS0:S 0=false)(hS:∀b,S b=true->∃cs e z,W.heap[b]?=some (.cells cs e z))
  (vU:∀(ok:Ctx) (ρ:@Ren qQ),(∀b,S b=true->ρ b=some b)->@ax qQ ok ρ xs xs)
  (aa9:∀(ok:Ctx) (V:World),@dM qQ Tz.prog ok ground (@bY)->(∀f,ok.aX f=(fns.contains f&&!Tz.iv.contains f))->Mm W V->@aj qQ Tz.prog ok ground (@bY) (λv V'=>v=true/\Bl V V V') ⟨Frame.enter Tz.prog L xs .normal,[],V⟩):
  ∃M last o w' t',runNT Tryz.prog (M+1) (solo (G (Frame.enter Tryz.prog L xs .normal) []) W) #[]=(.ended o w',t')/\
   runN Tryz.prog M (solo (G (Frame.enter Tryz.prog L xs .normal) []) W)=.next last/\step Tryz.prog last=.ended o w'/\
   Conc.Good Tryz.prog (λv' W'=>v'=true/\aO (λd=>d<W.heap.size) W W') last o w' t':=by
 letI:=qQ;obtain⟨ok,h1,h2,h3⟩:∃ok:Ctx,(∀f,ok.fn f=fns.contains f)/\(∀f,ok.aX f=(fns.contains f&&!Tz.iv.contains f))/\∀c,ok.code c=@dg qQ Tryz.prog ok.fn c:=⟨⟨λf=>fns.contains f,λf=>fns.contains f&&!Tz.iv.contains f,λc=>@dg qQ Tryz.prog (λf=>fns.contains f) c⟩,λ_=>rfl,λ_=>rfl,λ_=>rfl⟩;have Zr:∀f,ok.aX f=true->fns.contains f=true/\Tz.iv.contains f=false:=λf h=>by
  rw[h2,adx]at h;exact⟨h.1,by simpa using h.2⟩
 let⟨DC,hp⟩:=JI aaY h1 Zr h3;have E:dM Tz.prog ok ground (@bY):=⟨DC,Sc h1 h2,Nl,QS⟩;have hI:∀f,ok.aX f=true->Tryz.prog.inits.idxOf? f=none:=λf hf=>by
  have h4:=(Zr f hf).1;have h5:=aa5;simp only[List.all_eq_true,List.contains_iff_mem]at h4 h5;have:=h5 f h4;simpa using this
 let⟨hw,hw0⟩:=GY (ok:=ok) F0 hS;have hx:=vU ok (DE S) λb hb=>OD hb
 let⟨M,last,o,w',t',q1,q2,q3,q4⟩:=No (ok:=ok) (W:=W) (V:=kZ ok S W) (ρ:=DE S) (ρ0:=DE S) (F:=λd=>d<W.heap.size/\∀cs e z,S d=true->W.heap[d]?=some (.cells cs e z)->0<cs.size) DC hp (λf _=>Hw f) RX QP hI (by rw[h2];exact hL) (aa9 ok (kZ ok S W) E h2<|Cn hS) hx hx hw hw0 (λM W' hM hK=>⟨hM 0 ⟨(ac5.1 hE).1,λ_ _ _ h=>by rw[hS0]at h;cases h⟩,(hK.block 0 ⟨(ac5.1 hE).1,λ_ _ _ h=>by rw[hS0]at h;cases h⟩).trans hE⟩) (λd hd=>⟨hd.1,by
  cases hb:S d with
  |false=>exact .inl λb' dt=>by obtain⟨a1,rfl⟩:=OE dt;rw[hb]at a1;cases a1
  |true=>
   let⟨cs,e,z,hc⟩:=hS d hb;have h0:=hd.2 cs e z hb hc;exact .inr ⟨d,OD hb,cs.map<|my ok<|DE S,e,by rw[kC hb hc,if_neg ab];simp⟩⟩)
 refine⟨M,last,o,w',t',q1,q2,q3,q4.mono λv hv=>?_⟩;obtain⟨v0,V',σ,⟨rfl,pa⟩,hv,hle,hw,hk⟩:=hv;refine⟨LO hv,λd hd=>?_,hk.size,hk.os,hk.out⟩;cases hb:S d with
 |false=>exact hk.block d ⟨hd,λ_ _ _ h=>by rw[hb]at h;cases h⟩
 |true=>
  let⟨cs,e,z,hc⟩:=hS d hb;by_cases h0:cs.size=0
  .let⟨o1,o2,i1,i2,i3⟩:=hw.heap d d<|hle d d<|OD hb;rw[pa.block d (by rw[jL];exact hd),kC hb hc,if_pos h0]at i1;obtain rfl:=ac9 i1;rw[i2,hc];cases i3 with
   |@cells _ c' _ _ z' NC hz=>
    have jw:c'.size=0:=by rw[<-NC.size];simpa using h0
    have hz:z'=z:=hz.resolve_right (λh=>by have:=h.2.2;simp at this;omega);have h1:c'=#[]:=Array.eq_empty_of_size_eq_zero jw;have h2:cs=#[]:=Array.eq_empty_of_size_eq_zero h0;rw[hz,h1,h2]
  .exact hk.block d ⟨hd,λcs' e' z' _ Ci=>by
    rw[hc]at Ci;simp only[Option.some.injEq,Obj.cells.injEq]at Ci;rw[<-Ci.1];omega⟩
