import Derived.Test.YtlmcblcijndipaaGreatDoora34
set_option linter.defProp false
set_option linter.unusedVariables false
set_option linter.unusedSectionVars false
namespace Go.Proofs.YtlmcblcijndipaaGreatDoor
variable {xs:Array Value}{ok:Ctx}{c fr:Frame}{Dr:FuncId->Array Value->World->(Value->World->Prop)->Prop}{b:Nat}{S:Nat->Bool}{P P0:Program}{v:Value}{Q:Value->World->Prop}{W:World}
open Conc RowKit
section
variable [Gl]
def vI {ρ:Ren}:(v:Value)->∃x,ar ok ρ x v/\ar ok ρ x x
 |.bool b=>⟨.bool b,.bool b,.bool b⟩
 |.int k n=>⟨.int k n,.int k n,.int k n⟩
 |.string s=>⟨.string s,.string s,.string s⟩
 |.pointer none=>⟨.pointer none,.mz,.mz⟩
 |.slice none l k=>⟨.slice none l k,.dH l k,.dH l k⟩
 |.nilFunc=>⟨.nilFunc,.nilFunc,.nilFunc⟩
 |.nilIface=>⟨.nilIface,.nilIface,.nilIface⟩
 |.pointer (some a)=>⟨hole,.hole rfl,.hole rfl⟩
 |.slice (some a) l k=>⟨hole,.hole rfl,.hole rfl⟩
 |.float k b=>⟨hole,.hole rfl,.hole rfl⟩
 |.complex k a b=>⟨hole,.hole rfl,.hole rfl⟩
 |.map r=>⟨hole,.hole rfl,.hole rfl⟩
 |.chan r=>⟨hole,.hole rfl,.hole rfl⟩
 |.func f xs ys=>⟨hole,.hole rfl,.hole rfl⟩
 |.iface t v=>⟨hole,.hole rfl,.hole rfl⟩
 |.agg xs=>by
  have h:∀i:Fin xs.size,∃x,ar ok ρ x xs[i]/\ar ok ρ x x:=λi=>vI xs[i]
  refine⟨.agg<|Array.ofFn λi=>(h i).choose,.agg aF λi x x' hx dG=>?_,.agg rfl λi x x' hx dG=>?_⟩
  .obtain⟨hi,rfl⟩:=ac7.1 hx;obtain⟨oH,rfl⟩:=ac7.1 dG;rw[Array.getElem_ofFn];exact(h ⟨i,oH⟩).choose_spec.1
  .rw[hx]at dG;obtain rfl:=adb dG;obtain⟨hi,rfl⟩:=ac7.1 hx;rw[Array.getElem_ofFn];exact(h _).choose_spec.2
 |.tuple xs=>by
  have h:∀i:Fin xs.size,∃x,ar ok ρ x xs[i]/\ar ok ρ x x:=λi=>vI xs[i]
  refine⟨.tuple<|Array.ofFn λi=>(h i).choose,.tuple aF λi x x' hx dG=>?_,.tuple rfl λi x x' hx dG=>?_⟩
  .obtain⟨hi,rfl⟩:=ac7.1 hx;obtain⟨oH,rfl⟩:=ac7.1 dG;rw[Array.getElem_ofFn];exact(h ⟨i,oH⟩).choose_spec.1
  .rw[hx]at dG;obtain rfl:=adb dG;obtain⟨hi,rfl⟩:=ac7.1 hx;rw[Array.getElem_ofFn];exact(h _).choose_spec.2
termination_by v=>SizeOf.sizeOf v
decreasing_by
 all_goals
  have:=Array.sizeOf_get xs i i.isLt;simp;first|omega|(have h2:SizeOf.sizeOf xs[i]<SizeOf.sizeOf xs:=this;omega)
def GX:dJ P (λ_=>False) (λ_=>False) (λ_=>False) (λb=>b<W) #[G fr []] (G fr []) W #[] (λ_=>0) where
 main:=rfl
 quit:=⟨λi g h0 h=>by
  have:i<1:=by simpa using(ac7.1 h).1
  omega,λj _=>rfl⟩
 past:=⟨λsaid h=>by
  let⟨i,j,_,⟨a,b,h1,_⟩,_⟩:=h;simp[Trace.act?]at h1,λi a h=>by simp[touchAt,Trace.act?]at h,λi g h=>by simp[Trace.g?]at h,rfl,λi a h=>by simp[touchAt,Trace.act?]at h,λi op x h=>by simp at h,λi a h=>by simp[touchAt,Trace.act?]at h⟩
 who:=λi op h=>by simp at h
 lt:=λb h=>h.elim id λx=>x.elim
 ky:=λ_ _ _ _ h=>h
 low:=λ_ h=>h.elim
 un:=λi a h=>by simp[touchAt,Trace.act?]at h
 Lq:=λ_ h=>h.elim
 vm:=λ_ h=>h.elim
end
section
variable [Gl]
def KW {fn:Func}{t:Tmp}(hm:fr.mode=.returning)(hd:fr.defers=[])(hk:fr.kind=.normal)(hf:P.funcs[fr.fn]?=some fn)(hr:fn.results=#[.tmp t])(hi:P.inits.idxOf? fr.fn=none):
  stepG P true (G fr []) W=.ended (.done<|fr.tmps.getD t undef) W #[]:=by
 rw[jy (by rw[hm];simp)];let⟨dC,dl,j0,cY,pP,fp,bj⟩:=fr;simp only at hd hm hk hf hi⊢;subst hd hm hk;have h1:(results fn dl).runT P W #[]=(.ok (dl.getD t undef) W,#[]):=by
  have h2:=Sem.runT_fst P (results fn dl) W #[];have h3:((results fn dl).runT P W #[]).2=_:=events_results_tmp (P:=P) (w:=W) hr dl #[];rw[results_tmp hr]at h2;exact Prod.ext h2 h3
 simp only[unwind,hf,h1,doReturn,hi,GStep.after];simp[seen]
def My (eG:dM P0 P0 ok)(hP:dM P0 P ok)(hN:∀f,ok.bh f=false->((P0.funcs[f]?).map (·.ntmps)).getD 0=((P.funcs[f]?).map (·.ntmps)).getD 0){Inv:(Nat->Prop)->World->Prop}(hOv:Gl.ov<1000000000->Bh P)(hD:pj P ok Inv Dr)(hI:∀f,ok.bh f=true->P.inits.idxOf? f=none)
  {f:FuncId}{xs':Array Value}{V:World}{ρ ρ0:Ren}(hf:ok.bh f=true)(hk:ak P0 ok c Dr Q ⟨Frame.enter P0 f xs .normal,[],V⟩)
  (hx:ax ok ρ xs xs')(Zr:ax ok ρ0 xs xs)(hw:bO ok true ρ (re V W.tape W.drawn) W)(Nf:bO ok true ρ0 V V){F:Nat->Prop}(Ue:∀M W',(∀d,F d->M d)->aK F W W'->Inv M W')(hF:∀d,F d->d<W.heap.size/\((∀b,ρ b≠some d)\/∃b,ρ b=some d/\Ro V b)):
  ∃M last o w' t',runNT P (M+1) (solo (G (Frame.enter P f xs' .normal) []) W) #[]=(.ended o w',t')/\runN P M (solo (G (Frame.enter P f xs' .normal) []) W)=.next last/\step P last=.ended o w'/\
   Conc.Good P (λv' W'=>∃v V' σ,Q v V'/\ar ok σ v v'/\ρ.le σ/\bO ok true σ V' W'/\aK F W W') last o w' t':=by
 have hb:∀p:Program,tG (Frame.enter p f xs .normal) []:=λp g hg=>by
  simp only[List.getLast?_singleton,Option.some.injEq]at hg;subst hg;rfl
 have m8:fJ P0 ok (St.re ⟨Frame.enter P0 f xs .normal,[],V⟩ W.tape W.drawn):=⟨ρ0,mX eG.toSame hf Zr,.nil,hb _,⟨Nf.heap,rfl,rfl,Nf.gV,Nf.gW⟩⟩;have hg:pn P0 P ok ρ [c] [] (G (Frame.enter P0 f xs .normal)<|[]++[c]) (G (Frame.enter P f xs' .normal)<|[]++[]):=.inside (mX hP.toSame hf hx) .nil<|hb _;let⟨N,jN,W',kz,t',q',sE,M',σ,s',eQ,r1,r2,r3,r4,r5,r6,r7,r8,fn,t,r9,r10⟩:=(hk W.tape W.drawn m8).beside (F:=F) (acH:=W) (sl:=none) hP hN hOv hD Ue (aK.refl _ _) hg hw (λb d hb=>(hw.lt hb).2) GX hF;let⟨N2,last,o,w',t2,k1,k2,k3,k4⟩:=r2.ends (sl:=kz) (Post:=λv' dx=>∃v V' σ,Q v V'/\ar ok σ v v'/\ρ.le σ/\bO ok true σ V' dx/\aK F W dx) (λd=>by
  let⟨e1,v,⟨l1,l2,l3,dC,l4,l5⟩,hq⟩:=r7 W'.tape d;have l1:s'.fr.mode=.returning:=l1;have l2:s'.fr.defers=[]:=l2;have l4:P0.funcs[s'.fr.fn]?=some dC:=l4;have l5:(results dC s'.fr.tmps).run P0 (re s'.V W'.tape d)=.ok v (re s'.V W'.tape d):=l5;have hd:eQ.defers=[]:=by have:=r4.defers;rw[l2]at this;generalize eQ.defers=x at this;cases this;rfl
  have hm:eQ.mode=.returning:=by have:=r4.mode;rw[l1]at this;generalize eQ.mode=x at this;cases this;rfl
  obtain rfl:dC=fn:=adb<|l4.symm.trans r9;have l6:P.funcs[eQ.fn]?=some dC:=by
   let⟨F,cd,f1,f2,_⟩:=hP.same _ r4.bh;rw[r4.fn,f2,<-f1];exact l4
  rw[results_tmp r10]at l5;simp only[Result.ok.injEq]at l5;refine⟨rfl,_,_,KW (W:=W'.at d) hm hd r4.fp l6 r10 (by rw[r4.fn];exact hI _ r4.bh),λe he=>ia,v,_,σ,hq,?_,r3,⟨r5.heap,rfl,rfl,r5.gV,r5.gW⟩,?_⟩
  .rw[<-l5.1];exact r4.tmps.getD t
  .exact⟨r8.block,r8.size,r8.os,r8.out⟩)
 rw[solo_eq_crowd];refine⟨N+N2,last,o,w',t2,?_,?_,k3,k4⟩
 .rw[Nat.add_assoc];exact fR k1 _ _ _<|by simpa using r1
 .rw[runN_add];have:runN P N (crowd #[G (Frame.enter P f xs' .normal) []] W none)=.next (crowd jN W' kz):=by
   rw[<-runNT_fst _ _ _ #[]];have:=congrArg Prod.fst r1;simpa using this
  rw[this];exact k2
end
section
variable [Gl]
def Vi (S:Nat->Bool)(d d' c:Nat)(h:(if S d=true then some d else none)=some c)(h':(if S d'=true then some d' else none)=some c):d=d':=by
 split at h<;>split at h'<;>simp_all
def QM (S:Nat->Bool)(n d c:Nat)(h:(if S d=true then some d else none)=some c):d<n<->c<n:=by
 split at h<;>simp_all
def Df (S:Nat->Bool):Ren:=⟨λd=>if S d=true then some d else none,Vi S,QM S Gl.n⟩
def NK (h:S b=true):Df S b=some b:=by show(if S b=true then some b else none)=_;rw[if_pos h]
def NL {d c:Nat}(h:Df S d=some c):S d=true/\c=d:=by
 replace h:(if S d=true then some d else none)=some c:=h;split at h
 .rename_i e;exact⟨e,(adb h).symm⟩
 .cases h
noncomputable def mq (ok:Ctx)(ρ:Ren)(v:Value):Value:=(vI (ok:=ok) (ρ:=ρ) v).choose
def rB (ρ:Ren)(v:Value):ar ok ρ (mq ok ρ v) v/\ar ok ρ (mq ok ρ v) (mq ok ρ v):=(vI (ok:=ok) (ρ:=ρ) v).choose_spec
noncomputable def BY (ok:Ctx)(ρ:Ren):Obj->Obj
 |.cells cs e z=>.cells (cs.map<|mq ok ρ) e (if cs.size=0 then z else(0,cs.size))
 |o=>o
noncomputable def kZ (ok:Ctx)(S:Nat->Bool)(W:World):World:={W with heap:=W.heap.mapIdx λi o=>if S i=true then BY ok (Df S) o else o}
def jP (S:Nat->Bool)(W:World):(kZ ok S W).heap.size=W.heap.size:=by simp[kZ]
def kH {cs:Array Value}{e:TypeId}{z:Nat×Nat}(hS:S b=true)(h:W.heap[b]?=some (.cells cs e z)):(kZ ok S W).heap[b]?=some (.cells (cs.map<|mq ok<|Df S) e (if cs.size=0 then z else(0,cs.size))):=by
 show(W.heap.mapIdx λi o=>if S i=true then BY ok (Df S) o else o)[b]?=_;rw[Array.getElem?_mapIdx,h];simp[hS,BY]
def Gy (hS:S b=false):(kZ ok S W).heap[b]?=W.heap[b]?:=by
 show(W.heap.mapIdx λi o=>if S i=true then BY ok (Df S) o else o)[b]?=_;rw[Array.getElem?_mapIdx];cases W.heap[b]? with
 |none=>rfl
 |some o=>simp[hS]
def Xd:Value->Bool
 |.string _=>true
 |.bool _=>true
 |.int _ _=>true
 |_=>false
def P3 {ρ:Ren}{x:Value}(hv:Xd v=true)(h:ar ok ρ x v):x=v:=by
 cases v with
 |string s=>
  generalize Ay:Value.string s=v at h;cases h with
  |hole hh=>subst Ay;cases hh
  |_=>first|rfl|(cases Ay;done)
 |bool s=>
  generalize Ay:Value.bool s=v at h;cases h with
  |hole hh=>subst Ay;cases hh
  |_=>first|rfl|(cases Ay;done)
 |int k s=>
  generalize Ay:Value.int k s=v at h;cases h with
  |hole hh=>subst Ay;cases hh
  |_=>first|rfl|(cases Ay;done)
 |_=>cases hv
def Lu (W V:World):Prop:=V.heap.size=W.heap.size/\∀b j v,Xd v=true->W.cell? ⟨b,j,none⟩=some v->V.cell? ⟨b,j,none⟩=some v
def BZ (hS:∀b,S b=true->∃cs e z,W.heap[b]?=some (.cells cs e z)):Lu W (kZ ok S W):=by
 refine⟨jP S W,λb j v hv h=>?_⟩;cases hb:S b with
 |false=>simp only[World.cell?,Gy hb]at h⊢;exact h
 |true=>
  let⟨cs,e,z,hc⟩:=hS b hb;simp only[World.cell?,hc,kH hb hc]at h⊢;have BW:cs[j]?=some v:=oO;have:(cs.map<|mq ok<|Df S)[j]?=some v:=by
   rw[Array.getElem?_map,BW];exact congrArg some<|P3 hv (rB _ v).1
  simpa using this
def Gz (hg:Gl.n<=W)(hS:∀b,S b=true->∃cs e z,W.heap[b]?=some (.cells cs e z)):
  bO ok true (Df S) (re (kZ ok S W) W.tape W.drawn) W/\bO ok true (Df S) (kZ ok S W) (kZ ok S W):=by
 have r1:∀cs:Array Value,ax ok (Df S) (cs.map<|mq ok<|Df S) cs:=λcs=>⟨aF,λi x x' hx dG=>by
  rw[Array.getElem?_map,dG]at hx;obtain rfl:=adb hx;exact(rB _ x').1⟩
 have r2:∀cs:Array Value,ax ok (Df S) (cs.map<|mq ok<|Df S) (cs.map<|mq ok<|Df S):=λcs=>⟨rfl,λi x x' hx dG=>by
  rw[hx]at dG;obtain rfl:=adb dG;rw[Array.getElem?_map]at hx;cases hc:cs[i]? with
  |none=>rw[hc]at hx;cases hx
  |some y=>rw[hc]at hx;obtain rfl:=adb hx;exact(rB _ y).2⟩
 refine⟨⟨λd c hd=>?_,rfl,rfl,by show _<=(kZ ok S W).heap.size;rw[jP];exact hg,hg⟩,⟨λd c hd=>?_,rfl,rfl,by rw[jP];exact hg,by rw[jP];exact hg⟩⟩
 .obtain⟨h1,rfl⟩:=NL hd;let⟨cs,e,z,hc⟩:=hS c h1;refine⟨_,_,kH h1 hc,hc,.cells (r1 cs) ?_⟩;by_cases h0:cs.size=0
  .rw[if_pos h0];exact .inl rfl
  .rw[if_neg h0];exact .inr ⟨rfl,aF,cU⟩
 .obtain⟨h1,rfl⟩:=NL hd;let⟨cs,e,z,hc⟩:=hS c h1;exact⟨_,_,kH h1 hc,kH h1 hc,.cells (r2 cs)<|.inl rfl⟩
def K1 {ρ:Ren}(h:ar ok ρ true v):v=true:=by cases h;rfl
end
def G7 (f:Nat):((Tz.prog.funcs[f]?).map (·.ntmps)).getD 0=((Tryz.prog.funcs[f]?).map (·.ntmps)).getD 0:=Tz.aat Tryz.prog f
def Q6 {fns:List Nat}(aaR:Aq fns=true)(aaY:fns.all (λf=>(Tryz.prog.inits.idxOf? f).isNone)=true){L:FuncId}(hL:(fns.contains L&&!Tz.iq.contains L)=true)(Fv:qJ.n<=W)(hE:W.heap[0]?=some wO)(S:Nat->Bool)(X3:S 0=false)(hS:∀b,S b=true->∃cs e z,W.heap[b]?=some (.cells cs e z))
  (vA:∀(ok:Ctx) (ρ:@Ren qJ),(∀b,S b=true->ρ b=some b)->@ax qJ ok ρ xs xs)
  (aa2:∀(ok:Ctx) (V:World),@ee qJ Tz.prog ok ground (@cX)->(∀f,ok.bh f=(fns.contains f&&!Tz.iq.contains f))->Lu W V->@ak qJ Tz.prog ok ground (@cX) (λv V'=>v=true/\Bl V V V') ⟨Frame.enter Tz.prog L xs .normal,[],V⟩):
  ∃M last o w' t',runNT Tryz.prog (M+1) (solo (G (Frame.enter Tryz.prog L xs .normal) []) W) #[]=(.ended o w',t')/\
   runN Tryz.prog M (solo (G (Frame.enter Tryz.prog L xs .normal) []) W)=.next last/\step Tryz.prog last=.ended o w'/\
   Conc.Good Tryz.prog (λv' W'=>v'=true/\aK (λd=>d<W.heap.size) W W') last o w' t':=by
 letI:=qJ;obtain⟨ok,h1,h2,h3⟩:∃ok:Ctx,(∀f,ok.fn f=fns.contains f)/\(∀f,ok.bh f=(fns.contains f&&!Tz.iq.contains f))/\∀c,ok.code c=@dh qJ Tryz.prog ok.fn c:=⟨⟨λf=>fns.contains f,λf=>fns.contains f&&!Tz.iq.contains f,λc=>@dh qJ Tryz.prog (λf=>fns.contains f) c⟩,λ_=>rfl,λ_=>rfl,λ_=>rfl⟩;have YG:∀f,ok.bh f=true->fns.contains f=true/\Tz.iq.contains f=false:=λf h=>by
  rw[h2,adz]at h;exact⟨h.1,by simpa using h.2⟩
 let⟨FC,hp⟩:=Ja aaR h1 YG h3;have E:ee Tz.prog ok ground (@cX):=⟨FC,Q9 h1 h2,Mq,PV⟩;have hI:∀f,ok.bh f=true->Tryz.prog.inits.idxOf? f=none:=λf hf=>by
  have h4:=(YG f hf).1;have h5:=aaY;simp only[List.all_eq_true,List.contains_iff_mem]at h4 h5;have:=h5 f h4;simpa using this
 let⟨hw,hw0⟩:=Gz (ok:=ok) Fv hS;have hx:=vA ok (Df S) λb hb=>NK hb
 let⟨M,last,o,w',t',q1,q2,q3,q4⟩:=My (ok:=ok) (W:=W) (V:=kZ ok S W) (ρ:=Df S) (ρ0:=Df S) (F:=λd=>d<W.heap.size/\∀cs e z,S d=true->W.heap[d]?=some (.cells cs e z)->0<cs.size) FC hp (λf _=>G7 f) QS PR hI (by rw[h2];exact hL) (aa2 ok (kZ ok S W) E h2<|BZ hS) hx hx hw hw0 (λM W' hM hK=>⟨hM 0 ⟨(ac7.1 hE).1,λ_ _ _ h=>by rw[X3]at h;cases h⟩,(hK.block 0 ⟨(ac7.1 hE).1,λ_ _ _ h=>by rw[X3]at h;cases h⟩).trans hE⟩) (λd hd=>⟨hd.1,by
  cases hb:S d with
  |false=>exact .inl λb' dw=>by obtain⟨a1,rfl⟩:=NL dw;rw[hb]at a1;cases a1
  |true=>
   let⟨cs,e,z,hc⟩:=hS d hb;have h0:=hd.2 cs e z hb hc;exact .inr ⟨d,NK hb,cs.map<|mq ok<|Df S,e,by rw[kH hb hc,if_neg aa];simp⟩⟩)
 refine⟨M,last,o,w',t',q1,q2,q3,q4.mono λv hv=>?_⟩;obtain⟨v0,V',σ,⟨rfl,oG⟩,hv,hle,hw,hk⟩:=hv;refine⟨K1 hv,λd hd=>?_,hk.size,hk.os,hk.out⟩;cases hb:S d with
 |false=>exact hk.block d ⟨hd,λ_ _ _ h=>by rw[hb]at h;cases h⟩
 |true=>
  let⟨cs,e,z,hc⟩:=hS d hb;by_cases h0:cs.size=0
  .let⟨o1,o2,i1,i2,i3⟩:=hw.heap d d<|hle d d<|NK hb;rw[oG.block d (by rw[jP];exact hd),kH hb hc,if_pos h0]at i1;obtain rfl:=adb i1;rw[i2,hc];cases i3 with
   |@cells _ c' _ _ z' MJ hz=>
    have jQ:c'.size=0:=by rw[<-MJ.size];simpa using h0
    have hz:z'=z:=hz.resolve_right (λh=>by have:=h.2.2;simp at this;omega);have h1:c'=#[]:=Array.eq_empty_of_size_eq_zero jQ;have h2:cs=#[]:=Array.eq_empty_of_size_eq_zero h0;rw[hz,h1,h2]
  .exact hk.block d ⟨hd,λcs' e' z' _ BW=>by
    rw[hc]at BW;simp only[Option.some.injEq,Obj.cells.injEq]at BW;rw[<-BW.1];omega⟩
