import Derived.Test.YtjoalkgmgmmedaaGreatDoorj32
set_option linter.defProp false
set_option linter.unusedVariables false
set_option linter.unusedSectionVars false
open Array renaming getElem?_map->aa,getElem_ofFn->ad,eq_empty_of_size_eq_zero->au,ofFn->ay
open Go renaming Value->ao,World->ax,results->aB,results_tmp->aE,FuncId->aF
open Go.Frame renaming enter->ac
open Go.Trace renaming act?->ai
open SizeOf renaming sizeOf->av
namespace Go.Proofs.YtjoalkgmgmmedaaGreatDoor
variable {xs:Array ao}{ok:Ctx}{c fr:Frame}{Dr:aF->Array ao->ax->(ao->ax->Prop)->Prop}{b:Nat}{S:Nat->Bool}{P afn:Program}{v:ao}{Q:ao->ax->Prop}{W:ax}
open Conc RowKit
section
variable [Gl]
def xR {ρ:Ren}:(v:ao)->∃x,aq ok ρ x v/\aq ok ρ x x
 |.bool b=>⟨.bool b,.bool b,.bool b⟩
 |.int k n=>⟨.int k n,.int k n,.int k n⟩
 |.string s=>⟨.string s,.string s,.string s⟩
 |.pointer none=>⟨.pointer none,.kP,.kP⟩
 |.slice none l k=>⟨.slice none l k,.dr l k,.dr l k⟩
 |.nilFunc=>⟨.nilFunc,.nilFunc,.nilFunc⟩
 |.nilIface=>⟨.nilIface,.nilIface,.nilIface⟩
 |.pointer (some a)=>⟨hole,.hole rfl,.hole rfl⟩
 |.slice (some a) l k=>⟨hole,.hole rfl,.hole rfl⟩
 |.float k b=>⟨hole,.hole rfl,.hole rfl⟩
 |.complex k a b=>⟨hole,.hole rfl,.hole rfl⟩
 |.map r=>⟨hole,.hole rfl,.hole rfl⟩
 |.chan r=>⟨hole,.hole rfl,.hole rfl⟩
 |.func f xs ys=>⟨hole,.hole rfl,.hole rfl⟩
 |.iface t v=>⟨hole,.hole rfl,.hole rfl⟩
 |.agg xs=>by
  have h:∀i:Fin xs.size,∃x,aq ok ρ x xs[i]/\aq ok ρ x x:=λi=>xR xs[i]
  refine⟨.agg<|ay λi=>(h i).choose,.agg aP λi x x' hx eX=>?_,.agg rfl λi x x' hx eX=>?_⟩
  .obtain⟨hi,rfl⟩:=afM.1 hx;obtain⟨p8,rfl⟩:=afM.1 eX;rw[ad];exact(h ⟨i,p8⟩).choose_spec.1
  .rw[hx]at eX;obtain rfl:=afQ eX;obtain⟨hi,rfl⟩:=afM.1 hx;rw[ad];exact(h _).choose_spec.2
 |.tuple xs=>by
  have h:∀i:Fin xs.size,∃x,aq ok ρ x xs[i]/\aq ok ρ x x:=λi=>xR xs[i]
  refine⟨.tuple<|ay λi=>(h i).choose,.tuple aP λi x x' hx eX=>?_,.tuple rfl λi x x' hx eX=>?_⟩
  .obtain⟨hi,rfl⟩:=afM.1 hx;obtain⟨p8,rfl⟩:=afM.1 eX;rw[ad];exact(h ⟨i,p8⟩).choose_spec.1
  .rw[hx]at eX;obtain rfl:=afQ eX;obtain⟨hi,rfl⟩:=afM.1 hx;rw[ad];exact(h _).choose_spec.2
termination_by v=>av v
decreasing_by
 all_goals
  have:=Array.sizeOf_get xs i i.isLt;simp;first|omega|(have h2:av xs[i]<av xs:=this;omega)
def Js:dP P (λ_=>False) (λ_=>False) (λ_=>False) (λb=>b<W) #[G fr []] (G fr []) W #[] (λ_=>0) where
 main:=rfl
 quit:=⟨λi g h0 h=>by
  have:i<1:=by simpa using(afM.1 h).1
  omega,λj _=>rfl⟩
 past:=⟨λsaid h=>by
  let⟨i,j,_,⟨a,b,h1,_⟩,_⟩:=h;simp[ai]at h1,λi a h=>by simp[touchAt,ai]at h,λi g h=>by simp[Trace.g?]at h,rfl,λi a h=>by simp[touchAt,ai]at h,λi op x h=>by simp at h,λi a h=>by simp[touchAt,ai]at h⟩
 who:=λi op h=>by simp at h
 lt:=λb h=>h.elim id λx=>x.elim
 lg:=λ_ _ _ _ h=>h
 low:=λ_ h=>h.elim
 un:=λi a h=>by simp[touchAt,ai]at h
 Om:=λ_ h=>h.elim
 vm:=λ_ h=>h.elim
end
section
variable [Gl]
def NH {fn t}(s:fr.mode=.returning)(u:fr.defers=[])(hk:fr.kind=.normal)(x:P.funcs[fr.fn]?=some fn)(hr:fn.results=#[.tmp t])(y:P.inits.idxOf? fr.fn=none):
  stepG P true (G fr []) W=.ended (.done<|fr.tmps.getD t undef) W #[]:=by
 rw[gn cO];let⟨A,r,B,C,D,J,N⟩:=fr;have O:(aB fn r).runT P W #[]=(.ok (r.getD t undef) W,#[]):=by
  have R:=Sem.runT_fst P (aB fn r) W #[];have T:((aB fn r).runT P W #[]).2=_:=events_results_tmp hr r #[];grind [aE,Prod.ext]
 grind [unwind,doReturn,GStep.after,seen]
def Pl (eV:dQ afn afn ok)(R:dQ afn P ok)(T:¬Gl.XA P/\Gl.top P)(hN:∀f,ok.aN f=false->((afn.funcs[f]?).map (·.ntmps)).getD 0=((P.funcs[f]?).map (·.ntmps)).getD 0){Inv}(U:Gl.ov<1000000000->Dx P)(hD:qa P ok Inv Dr)(hI:∀f,ok.aN f->P.inits.idxOf? f=none)
  {f xs' V}{ρ r:Ren}(hf:ok.aN f)(hk:ae afn ok c Dr Q ⟨ac afn f xs .normal,[],V⟩)
  (hx:aA ok ρ xs xs')(Y:aA ok r xs xs)(hw:bw ok true ρ (re V W.tape W.drawn) W)(D:bw ok true r V V){F}(Y0:∀M W',(∀d,F d->M d)->aU F W W'->Inv M W')(hF:∀d,F d->d<W/\((∀b,ρ b≠some d)\/∃b,ρ b=some d/\Ro V b)):
  ∃M last o w' Z,runNT P (M+1) (solo (G (ac P f xs' .normal) []) W) #[]=(.ended o w',Z)/\runN P M (solo (G (ac P f xs' .normal) []) W)=.next last/\step P last=.ended o w'/\
   Conc.Good P (λv' W'=>∃v u σ,Q v u/\aq ok σ v v'/\ρ.le σ/\bw ok true σ u W'/\aU F W W') last o w' Z:=by
 have hb:∀p:Program,wh (ac p f xs .normal) []:=λp g hg=>by
  simp at hg;subst hg;rfl
 obtain⟨N,kJ,W',ot,Z,q',tU,M',σ,s',y,r1,r2,r3,s,J,r6,r7,O,rk,fn,t,r9,A⟩:=(hk W.tape W.drawn<|⟨r,lp eV.toSame hf Y,.nil,hb _,⟨D.heap,rfl,rfl,D.gV,D.gW,D.gs⟩⟩).beside R T hN U hD Y0 (aU.refl _ _) (.inside (lp R.toSame hf hx) .nil<|hb _) hw (λb d hb=>(hw.lt hb).2) Js hF;obtain⟨N2,last,o,w',t2,k1,k2,k3,k4⟩:=r2.ends (Post:=λv' dN=>∃v u σ,Q v u/\aq ok σ v v'/\ρ.le σ/\bw ok true σ u dN/\aU F W dN) (λd=>by
  obtain⟨e1,v,⟨l1,l2,l3,d7,B,C⟩,hq⟩:=r7 W'.tape d;have l1:s'.fr.mode=.returning:=l1;have l2:s'.fr.defers=[]:=l2;have B:afn.funcs[s'.fr.fn]?=some d7:=B;have C:=C;have hd:y.defers=[]:=by have:=s.defers;rw[l2]at this;generalize y.defers=x at this;cases this;rfl
  have hm:y.mode=.returning:=by have:=s.mode;rw[l1]at this;generalize y.mode=x at this;cases this;rfl
  obtain rfl:=afQ<|B.symm.trans r9;obtain⟨F2,l6,lr⟩:∃F2,P.funcs[y.fn]?=some F2/\F2.results=d7.results:=by
   obtain⟨F,cd,Yv,f1,f2,f3,_⟩:=R.same _ s.aN;rw[f1]at B;exact⟨{F with body:=some Yv},by rw[s.fn];exact f2,by show F.results=d7.results;rw[afQ B]⟩
  rw[aE A]at C;simp only[Result.ok.injEq]at C;refine⟨rfl,_,_,NH hm hd rk l6 (lr.trans A) (by rw[s.fn];exact hI _ s.aN),λe he=>jc,v,_,σ,hq,?_,r3,⟨J.heap,rfl,rfl,J.gV,J.gW,J.gs⟩,?_⟩
  .rw[<-C.1];exact s.tmps.getD t
  .exact⟨O.block,O.size,O.os,O.out⟩)
 rw[solo_eq_crowd];refine⟨N+N2,last,o,w',t2,?_,?_,k3,k4⟩
 .exact runNT_add k1 _ _ _ ab
 grind [runN_add,runNT_fst]
end
section
variable [Gl]
def Z3 (S:Nat->Bool)(d d' c)(h:(if S d then some d else none)=some c)(e:(if S d' then some d' else none)=some c):d=d':=gC
def UO (S:Nat->Bool)(n d c)(h:(if S d then some d else none)=some c):d<n<->c<n:=gC
def E8 (S:Nat->Bool):Ren:=⟨λd=>if S d then some d else none,Z3 S,UO S Gl.n⟩
def GA (h:S b):E8 S b=some b:=by show(if S b=true then some b else none)=_;rw[if_pos h]
def QF {d c}(h:E8 S d=some c):S d/\c=d:=by
 replace h:(if S d=true then some d else none)=some c:=h;grind
noncomputable def nh (ok:Ctx)(ρ:Ren)(v:ao):Value:=(xR (ok:=ok) (ρ:=ρ) v).choose
def lW (ρ:Ren) v:aq ok ρ (nh ok ρ v) v/\aq ok ρ (nh ok ρ v) (nh ok ρ v):=(xR v).choose_spec
noncomputable def D8 (ok:Ctx)(ρ:Ren):Obj->Obj
 |.cells cs e z=>.cells (cs.map<|nh ok ρ) e (if cs.size=0 then z else(0,cs.size))
 |o=>o
noncomputable def nj (ok:Ctx)(S:Nat->Bool)(W:ax):World:={W with heap:=W.heap.mapIdx λi o=>if S i then D8 ok (E8 S) o else o}
theorem kz (S W):(nj ok S W)=W.heap.size:=by simp[nj]
def jL {cs e z}(d:S b)(h:W.heap[b]?=some (.cells cs e z)):(nj ok S W).heap[b]?=some (.cells (cs.map<|nh ok<|E8 S) e (if cs.size=0 then z else(0,cs.size))):=by
 show(W.heap.mapIdx λi o=>if S i=true then D8 ok (E8 S) o else o)[b]?=_;grind [D8]
theorem zt (d:S b=false):(nj ok S W).heap[b]?=W.heap[b]?:=by
 show(W.heap.mapIdx λi o=>if S i=true then D8 ok (E8 S) o else o)[b]?=_;grind
def flat:ao->Bool
 |.string _=>true
 |.bool _=>true
 |.int _ _=>true
 |_=>false
def K_ {p:Prop}(x9:p:=by
  cases h with
  |hole hh=>subst FN;cases hh
  |_=>first|rfl|(cases FN;done)):p:=x9
def TG {ρ:Ren}{x}(a:flat v)(h:aq ok ρ x v):x=v:=by
 cases v with
 |string s=>
  generalize FN:Value.string s=v at h;exact K_
 |bool s=>
  generalize FN:Value.bool s=v at h;exact K_
 |int k s=>
  generalize FN:Value.int k s=v at h;exact K_
 |_=>cases a
def Reads (W V:ax):Prop:=V=W.heap.size/\(∀b j v,flat v->W.cell? ⟨b,j,none⟩=some v->V.cell? ⟨b,j,none⟩=some v)/\∀(b:Nat) cs e z,W.heap[b]?=some (Obj.cells cs e z)->∃d f,V.heap[b]?=some (Obj.cells d e f)/\d.size=cs.size/\∀(i:Nat) x t u,d[i]?=some x->cs[i]?=some (.iface t u)->x.cells=#[x]
def D9 (n:∀b,S b->∃cs e z,W.heap[b]?=some (.cells cs e z)/\∀(i:Nat) x,cs[i]?≠some (.int .u8 x)):Reads W (nj ok S W):=by
 refine⟨kz S W,λb j v r h=>?_,λb cs e z h=>?_⟩
 .cases d:S b with
  |false=>grind [World.cell?,zt]
  |true=>
   let⟨cs,e,z,l,w⟩:=n b d;simp only[World.cell?,l,jL d l]at h⊢;have s:cs[j]?=some v:=Iv;have:(cs.map<|nh ok<|E8 S)[j]?=some v:=by
    rw[aa,s];exact congrArg some<|TG r (lW _ v).1
   assumption
 cases d:S b with
 |false=>exact⟨cs,z,(zt d).trans h,rfl,λi x t u f g=>by rw[f]at g;cases g;rfl⟩
 |true=>exact⟨_,_,jL d h,aP,λi x t u f g=>by
   rw[aa,g]at f;have:=(lW (ok:=ok) (E8 S)<|.iface t u).1;rw[afQ f]at this;cases this<;>rfl⟩
def I1 (u:Gl.n<=W)(s:∀g,ok.fn (2000000+g)->S g)(hS:∀b,S b->∃cs e z,W.heap[b]?=some (.cells cs e z)/\∀(i:Nat) x,cs[i]?≠some (.int .u8 x)):
  bw ok true (E8 S) (re (nj ok S W) W.tape W.drawn) W/\bw ok true (E8 S) (nj ok S W) (nj ok S W):=by
 have D:∀cs:Array ao,aA ok (E8 S) (cs.map<|nh ok<|E8 S) cs:=λcs=>⟨aP,λi x B f t=>by
  rw[aa,t]at f;obtain rfl:=afQ f;exact(lW _ B).1⟩
 have J:∀cs:Array ao,aA ok (E8 S) (cs.map<|nh ok<|E8 S) (cs.map<|nh ok<|E8 S):=λcs=>⟨rfl,λi x B f t=>by
  rw[f]at t;obtain rfl:=afQ t;rw[aa]at f;cases hc:cs[i]? with
  |none=>grind
  |some y=>rw[hc]at f;obtain rfl:=afQ f;exact(lW _ y).2⟩
 refine⟨⟨λd c A=>?_,rfl,rfl,by show _<=(nj ok S W).heap.size;rw[kz];exact u,u,⟨λg h=>GA<|s g h,λ_=>rfl⟩⟩,⟨λd c A=>?_,rfl,rfl,by grind [kz],by rw[kz];exact u,⟨λg h=>GA<|s g h,λ_=>rfl⟩⟩⟩
 .obtain⟨r,rfl⟩:=QF A;let⟨cs,e,z,hc,N⟩:=hS c r;refine⟨_,_,jL r hc,hc,.cells (D cs) ?_⟩;by_cases C:cs.size=0
  .rw[if_pos C];exact .inl rfl
  rw[if_neg C];refine .inr ⟨rfl,aP,dj,λi x f=>?_⟩;rw[aa]at f;let⟨y,R,O⟩:=af3.1 f;have:=(lW (ok:=ok) (E8 S) y).1;rw[O]at this;cases this;grind
 obtain⟨r,rfl⟩:=QF A;let⟨cs,e,z,hc,N⟩:=hS c r;exact⟨_,_,jL r hc,jL r hc,.cells (J cs)<|.inl rfl⟩
def NR {ρ:Ren}(h:aq ok ρ true v):v=true:=by cases h;rfl
end
def Jz (f:Nat):((Tz.prog.funcs[f]?).map (·.ntmps)).getD 0=((Tryz.prog.funcs[f]?).map (·.ntmps)).getD 0:=Tz.acY Tryz.prog f
def U8 {r}(A:Cr r=true)(aI:r.all (λf=>(Tryz.prog.inits.idxOf? f).isNone)=true){L:aF}(hL:(r.contains L&&!Tz.sv.contains L)=true)(E4:oK.n<=W)(B:W.heap[3]?=some II)(S:Nat->Bool)(C:∀g,r.contains (2000000+g)=true->S g=true)(D:S 3=false)(hS:∀b,S b=true->∃cs e z,W.heap[b]?=some (.cells cs e z)/\∀(i:Nat) (x:Int),cs[i]?≠some (.int .u8 x))
  (vh:∀(ok:Ctx) (ρ:@Ren oK),(∀b,S b=true->ρ b=some b)->@aA oK ok ρ xs xs)
  (J:∀(ok:Ctx) (V:ax),@dB oK Tz.prog ok ground (@aS)->(∀f,ok.aN f=(r.contains f&&!Tz.sv.contains f))->Reads W V->@ae oK Tz.prog ok ground (@aS) (λv Y=>v=true/\Bl V V Y) ⟨ac Tz.prog L xs .normal,[],V⟩):
  ∃M last o w' u,runNT Tryz.prog (M+1) (solo (G (ac Tryz.prog L xs .normal) []) W) #[]=(.ended o w',u)/\
   runN Tryz.prog M (solo (G (ac Tryz.prog L xs .normal) []) W)=.next last/\step Tryz.prog last=.ended o w'/\
   Conc.Good Tryz.prog (λv' W'=>v'=true/\aU (λd=>d<W.heap.size) W W') last o w' u:=by
 letI:=oK;obtain⟨ok,h4,N,Z,h3⟩:∃ok:Ctx,(∀f,ok.ex f=Tz.xG.contains f)/\(∀f,ok.fn f=r.contains f)/\(∀f,ok.aN f=(r.contains f&&!Tz.sv.contains f))/\∀c,ok.code c=@codeOk oK Tryz.prog ok.fn c:=⟨⟨λf=>r.contains f,λf=>r.contains f&&!Tz.sv.contains f,λc=>@codeOk oK Tryz.prog (λf=>r.contains f) c,λf=>Tz.xG.contains f⟩,λ_=>rfl,λ_=>rfl,λ_=>rfl,λ_=>rfl⟩;have O:∀f,ok.aN f=true->r.contains f=true/\Tz.sv.contains f=false:=λf h=>by
  grind
 let⟨s,hp⟩:=Lo A h4 N O h3;have hI:∀f,ok.aN f=true->Tryz.prog.inits.idxOf? f=none:=λf hf=>by
  grind
 let⟨hw,R⟩:=I1 E4 (λg h=>C g<|(N _).symm.trans h) hS;have hx:=vh ok (E8 S) λb hb=>GA hb
 let⟨M,last,o,w',u,q1,q2,q3,q4⟩:=Pl (F:=λd=>d<W.heap.size/\∀cs e z,S d=true->W.heap[d]?=some (.cells cs e z)->0<cs.size) s hp Z8 (λf _=>Jz f) UT Ts hI cO (J ok (nj ok S W) (⟨s,Vb N Z,Pf,Tw⟩) Z<|D9 hS) hx hx hw R (λM W' hM hK=>⟨hM 3 ⟨(afM.1 B).1,λ_ _ _ h=>cO⟩,(hK.block 3 ⟨(afM.1 B).1,λ_ _ _ h=>by rw[D]at h;cases h⟩).trans B⟩) (λd hd=>⟨hd.1,by
  cases hb:S d with
  |false=>exact .inl λb' dl=>by obtain⟨a1,rfl⟩:=QF dl;grind
  |true=>
   let⟨cs,e,z,hc,hn⟩:=hS d hb;have y:=hd.2 cs e z hb hc;exact .inr ⟨d,GA hb,cs.map<|nh ok<|E8 S,e,by rw[jL hb hc,if_neg ab];simp⟩⟩)
 refine⟨M,last,o,w',u,q1,q2,q3,q4.mono λv hv=>?_⟩;obtain⟨v0,Y,σ,⟨rfl,oO⟩,hv,hle,hw,hk⟩:=hv;refine⟨NR hv,λd hd=>?_,hk.size,hk.os,hk.out⟩;cases hb:S d with
 |false=>exact hk.block d ⟨hd,λ_ _ _ h=>by rw[hb]at h;cases h⟩
 |true=>
  let⟨cs,e,z,hc,hn⟩:=hS d hb;by_cases y:cs.size=0
  .let⟨o1,o2,i1,i2,i3⟩:=hw.heap d d<|hle d d<|GA hb;rw[oO.block d (by rw[kz];exact hd),jL hb hc,if_pos y]at i1;obtain rfl:=afQ i1;rw[i2,hc];cases i3 with
   |@cells _ c' _ _ z' Cv T=>
    have iP:c'.size=0:=by rw[<-Cv.size];simpa using y
    have T:z'=z:=T.resolve_right (λh=>by have:=h.2.2;simp at this;omega);rw[T,(au iP),(au y)]
  exact hk.block d ⟨hd,λaL e' z' _ U=>by
   rw[hc]at U;simp at U;rw[<-U.1];omega⟩
