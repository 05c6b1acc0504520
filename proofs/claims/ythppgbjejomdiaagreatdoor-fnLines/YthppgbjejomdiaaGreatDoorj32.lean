import Derived.Test.YthppgbjejomdiaaGreatDoorj31
import Derived.HandedFind
set_option linter.all false
open Array renaming getElem_ofFn->aj,getElem?_map->ao,eq_empty_of_size_eq_zero->ax,ofFn->ay
open Go renaming Value->aa,World->ac,results->av,runNT_stays->az
open Go.Trace renaming act?->ad
open SizeOf renaming sizeOf->au
namespace Go.Proofs.YthppgbjejomdiaaGreatDoor
variable {xs:Array aa}{ok:Ctx}{c fr:Frame}{Dr:FuncId->Array aa->ac->(aa->ac->Prop)->Prop}{b:Nat}{S:Nat->Bool}{P af8:Program}{v:aa}{Q:aa->ac->Prop}{W:ac}
open Conc RowKit
section
variable [Gl]
def yp {ρ:Ren}:(v:aa)->∃x,ar ok ρ x v/\ar ok ρ x x
 |.bool b=>⟨.bool b,.bool b,.bool b⟩
 |.int k n=>⟨.int k n,.int k n,.int k n⟩
 |.string s=>⟨.string s,.string s,.string s⟩
 |.pointer none=>⟨.pointer none,.kX,.kX⟩
 |.slice none l k=>⟨.slice none l k,.dj l k,.dj l k⟩
 |.nilFunc=>⟨.nilFunc,.nilFunc,.nilFunc⟩
 |.nilIface=>⟨.nilIface,.nilIface,.nilIface⟩
 |.pointer (some a)=>⟨hole,.hole rfl,.hole rfl⟩
 |.slice (some a) l k=>⟨hole,.hole rfl,.hole rfl⟩
 |.float k b=>⟨hole,.hole rfl,.hole rfl⟩
 |.complex k a b=>⟨hole,.hole rfl,.hole rfl⟩
 |.map r=>⟨hole,.hole rfl,.hole rfl⟩
 |.chan r=>⟨hole,.hole rfl,.hole rfl⟩
 |.func f xs ys=>⟨hole,.hole rfl,.hole rfl⟩
 |.iface t v=>⟨hole,.hole rfl,.hole rfl⟩
 |.agg xs=>by
  have h:∀i:Fin xs.size,∃x,ar ok ρ x xs[i]/\ar ok ρ x x:=λi=>yp xs[i]
  refine⟨.agg<|ay λi=>(h i).choose,.agg aN λi x x' hx fe=>?_,.agg rfl λi x x' hx fe=>?_⟩
  .obtain⟨hi,rfl⟩:=agy.1 hx;obtain⟨qe,rfl⟩:=agy.1 fe;rw[aj];exact(h ⟨i,qe⟩).choose_spec.1
  .rw[hx]at fe;obtain rfl:=agC fe;obtain⟨hi,rfl⟩:=agy.1 hx;rw[aj];exact(h _).choose_spec.2
 |.tuple xs=>by
  have h:∀i:Fin xs.size,∃x,ar ok ρ x xs[i]/\ar ok ρ x x:=λi=>yp xs[i]
  refine⟨.tuple<|ay λi=>(h i).choose,.tuple aN λi x x' hx fe=>?_,.tuple rfl λi x x' hx fe=>?_⟩
  .obtain⟨hi,rfl⟩:=agy.1 hx;obtain⟨qe,rfl⟩:=agy.1 fe;rw[aj];exact(h ⟨i,qe⟩).choose_spec.1
  .rw[hx]at fe;obtain rfl:=agC fe;obtain⟨hi,rfl⟩:=agy.1 hx;rw[aj];exact(h _).choose_spec.2
termination_by v=>au v
decreasing_by
 all_goals
  have:=Array.sizeOf_get xs i i.isLt;simp;first|omega|(have h2:au xs[i]<au xs:=this;omega)
def JZ:dR P (λ_=>False) (λ_=>False) (λ_=>False) (λb=>b<W) #[G fr []] (G fr []) W #[] (λ_=>0) where
 main:=rfl
 quit:=⟨λi g h0 h=>by
  have:i<1:=by simpa using(agy.1 h).1
  omega,λj _=>rfl⟩
 past:=⟨λsaid h=>by
  let⟨i,j,_,⟨a,b,h1,_⟩,_⟩:=h;simp[ad]at h1,λi a h=>by simp[touchAt,ad]at h,λi g h=>by simp[Trace.g?]at h,rfl,λi a h=>by simp[touchAt,ad]at h,λi op x h=>by simp at h,λi a h=>by simp[touchAt,ad]at h⟩
 who:=λi op h=>by simp at h
 lt:=λb h=>h.elim id λx=>x.elim
 ly:=λ_ _ _ _ h=>h
 low:=λ_ h=>h.elim
 un:=λi a h=>by simp[touchAt,ad]at h
 OZ:=λ_ h=>h.elim
 vm:=λ_ h=>h.elim
end
section
variable [Gl]
def Oo {fn t}(s:fr.mode=.returning)(u:fr.defers=[])(hk:fr.kind=.normal)(x:P.funcs[fr.fn]?=some fn)(hr:fn.results=#[.tmp t])(y:P.inits.idxOf? fr.fn=none): stepG P true (G fr []) W=.ended (.done<|fr.tmps.getD t undef) W #[]:=by rw[gr cQ];let⟨A,r,B,C,D,J,N⟩:=fr;(have O:(av fn r).runT P W #[]=(.ok (r.getD t undef) W,#[]):=by have R:=Sem.runT_fst P (av fn r) W #[];have T:((av fn r).runT P W #[]).2=_:=events_results_tmp hr r #[];grind [results_tmp,Prod.ext]);grind [unwind,doReturn,GStep.after,seen]
def P1 (fd:dV af8 af8 ok)(R:dV af8 P ok)(T:¬Gl.Yr P/\Gl.top P)(hN:∀f,ok.aP f=false->((af8.funcs[f]?).map (·.ntmps)).getD 0=((P.funcs[f]?).map (·.ntmps)).getD 0){Inv}(U:Gl.ov<1000000000->DU P)(hD:qh P ok Inv Dr)(hI:∀f,ok.aP f->P.inits.idxOf? f=none) {f xs' V}{ρ r:Ren}(hf:ok.aP f)(hk:ae af8 ok c Dr Q ⟨Frame.enter af8 f xs .normal,[],V⟩) (hx:aB ok ρ xs xs')(Y:aB ok r xs xs)(hw:bw ok true ρ (re V W.tape W.drawn) W)(J:bw ok true r V V){F}(ZV:∀M W',(∀d,F d->M d)->aU F W W'->Inv M W')(hF:∀d,F d->d<W/\∀b,ρ b≠some d): ∃M last o w' Z,runNT P (M+1) (solo (G (Frame.enter P f xs' .normal) []) W) #[]=(.ended o w',Z)/\runN P M (solo (G (Frame.enter P f xs' .normal) []) W)=.next last/\step P last=.ended o w'/\Conc.Good P (λv' W'=>∃v u σ,Q v u/\ar ok σ v v'/\ρ.le σ/\bw ok true σ u W'/\aU F W W'/\Y8 ρ V W W') last o w' Z:=by (have hb:∀p:Program,wM (Frame.enter p f xs .normal) []:=λp g hg=>by simp at hg;subst hg;rfl);obtain⟨N,kR,W',oE,Z,q',uh,M',σ,s',y,r1,r2,r3,s,O,r6,r7,A,rk,fn,t,r9,B⟩:=(hk W.tape W.drawn<|⟨r,lF fd.toSame hf Y,.nil,hb _,⟨J.heap,rfl,rfl,J.gV,J.gW,J.gs⟩⟩).beside R T hN U hD ZV (aU.refl _ _) (.inside (lF R.toSame hf hx) .nil<|hb _) hw (λb d hb=>(hw.lt hb).2) JZ hF;obtain⟨N2,last,o,w',t2,k1,k2,k3,k4⟩:=r2.ends (Post:=λv' dD=>∃v u σ,Q v u/\ar ok σ v v'/\ρ.le σ/\bw ok true σ u dD/\aU F W dD/\Y8 ρ V W dD) (λd=>by obtain⟨e1,v,⟨l1,l2,l3,ee,C,D⟩,hq⟩:=r7 W'.tape d;have l1:s'.fr.mode=.returning:=l1;have l2:s'.fr.defers=[]:=l2;have C:af8.funcs[s'.fr.fn]?=some ee:=C;have D:=D;(have hd:y.defers=[]:=by have:=s.defers;rw[l2]at this;generalize y.defers=x at this;cases this;rfl);(have hm:y.mode=.returning:=by have:=s.mode;rw[l1]at this;generalize y.mode=x at this;cases this;rfl);obtain rfl:=agC<|C.symm.trans r9;(obtain⟨F2,l6,lr⟩:∃F2,P.funcs[y.fn]?=some F2/\F2.results=ee.results:=by obtain⟨F,cd,Zp,f1,f2,f3,_⟩:=R.same _ s.aP;rw[f1]at C;exact⟨{F with body:=some Zp},by rw[s.fn];exact f2,by show F.results=ee.results;rw[agC C]⟩);rw[results_tmp B]at D;simp only[Result.ok.injEq]at D;refine⟨rfl,_,_,Oo hm hd rk l6 (lr.trans B) (by rw[s.fn];exact hI _ s.aP),λe he=>ji,v,_,σ,hq,?_,r3,⟨O.heap,rfl,rfl,O.gV,O.gW,O.gs⟩,?_⟩;rw[<-D.1];exact s.tmps.getD t;exact⟨⟨A.1.block,A.1.size,A.1.os,A.1.out⟩,A.2⟩);rw[solo_eq_crowd];refine⟨N+N2,last,o,w',t2,?_,?_,k3,k4⟩;exact runNT_add k1 _ _ _ ab;grind [runN_add,runNT_fst]
end
def aaJ {p:Prop}(x9:p:=by cases h with|hole hh=>subst Gg;cases hh|_=>first|rfl|(cases Gg;done)):p:=x9
section
variable [Gl]{fz:Bool}
def S_ (S:Nat->Bool)(d d' c)(h:(if S d then some d else none)=some c)(e:(if S d' then some d' else none)=some c):d=d':=f7
def Vt (S:Nat->Bool)(n d c)(h:(if S d then some d else none)=some c):d<n<->c<n:=f7
def Fy (S:Nat->Bool):Ren:=⟨λd=>if S d then some d else none,S_ S,Vt S Gl.n⟩
def Da (h:S b):Fy S b=some b:=by show(if S b=true then some b else none)=_;rw[if_pos h]
def Rm {d c}(h:Fy S d=some c):S d/\c=d:=by replace h:(if S d=true then some d else none)=some c:=h;grind
noncomputable def mg (ok:Ctx)(ρ:Ren)(v:aa):Value:=(yp (ok:=ok) (ρ:=ρ) v).choose
def pc (ρ:Ren) v:ar ok ρ (mg ok ρ v) v/\ar ok ρ (mg ok ρ v) (mg ok ρ v):=(yp v).choose_spec
noncomputable def Ey (ok:Ctx)(fz:Bool)(ρ:Ren):Obj->Obj
 |.cells cs e z=>.cells (cs.map<|mg ok ρ) e (if fz&&0<cs.size then(0,cs.size)else z)
 |o=>o
noncomputable def nB (ok:Ctx)(fz:Bool)(S:Nat->Bool)(W:ac):World:={W with heap:=W.heap.mapIdx λi o=>if S i then Ey ok fz (Fy S) o else o}
theorem kJ (S W):(nB ok fz S W)=(W:Nat):=by simp[nB]
def iU {cs e z}(d:S b)(h:W.heap[b]?=some (.cells cs e z)):(nB ok fz S W).heap[b]?=some (.cells (cs.map<|mg ok<|Fy S) e (if fz&&0<cs.size then(0,cs.size)else z)):=by show(W.heap.mapIdx λi o=>if S i=true then Ey ok fz (Fy S) o else o)[b]?=_;grind [Ey]
theorem zQ (d:S b=false):(nB ok fz S W).heap[b]?=W.heap[b]?:=by show(W.heap.mapIdx λi o=>if S i=true then Ey ok fz (Fy S) o else o)[b]?=_;grind
def flat:aa->Bool
 |.string _=>true
 |.bool _=>true
 |.int _ _=>true
 |_=>false
def Um {ρ:Ren}{x}(a:flat v)(h:ar ok ρ x v):x=v:=by cases v with|string s=>generalize Gg:Value.string s=v at h;exact aaJ|bool s=>generalize Gg:Value.bool s=v at h;exact aaJ|int k s=>generalize Gg:Value.int k s=v at h;exact aaJ|_=>cases a
def Reads (W V:ac):Prop:=V=(W:Nat)/\(∀b j v,flat v->W.cell? ⟨b,j,none⟩=some v->V.cell? ⟨b,j,none⟩=some v)/\∀(b:Nat) cs e z,W.heap[b]?=some (Obj.cells cs e z)->∃d f,V.heap[b]?=some (Obj.cells d e f)/\d.size=cs.size/\∀(i:Nat) x t u,d[i]?=some x->cs[i]?=some (.iface t u)->x.cells=#[x]
def Ez (n:∀b,S b->∃cs e z,W.heap[b]?=some (.cells cs e z)):Reads W (nB ok fz S W):=by refine⟨kJ S W,λb j v r h=>?_,λb cs e z h=>?_⟩;cases d:S b;grind [World.cell?,zQ];let⟨cs,e,z,l⟩:=n b d;simp only[World.cell?,l,iU d l]at h⊢;have s:cs[j]?=some v:=I3;(have:(cs.map<|mg ok<|Fy S)[j]?=some v:=by rw[ao,s];exact congrArg some<|Um r (pc _ v).1);assumption;cases d:S b;exact⟨cs,z,(zQ d).trans h,rfl,λi x t u f g=>by rw[f]at g;cases g;rfl⟩;exact⟨_,_,iU d h,aN,λi x t u f g=>by rw[ao,g]at f;have:=(pc (ok:=ok) (Fy S)<|.iface t u).1;rw[agC f]at this;cases this<;>rfl⟩
def zR (u:Gl.n<=W)(s:∀g,ok.fn (2000000+g)->S g)(hS:∀b,S b->∃cs e z,W.heap[b]?=some (.cells cs e z)): bw ok true (Fy S) (re (nB ok fz S W) W.tape W.drawn) W/\bw ok true (Fy S) (nB ok fz S W) (nB ok fz S W):=by have D:∀cs:Array aa,aB ok (Fy S) (cs.map<|mg ok<|Fy S) cs:=λcs=>⟨aN,λi x B f t=>by rw[ao,t]at f;obtain rfl:=agC f;exact(pc _ B).1⟩;have J:∀cs:Array aa,aB ok (Fy S) (cs.map<|mg ok<|Fy S) (cs.map<|mg ok<|Fy S):=λcs=>⟨rfl,λi x B f t=>by rw[f]at t;obtain rfl:=agC t;rw[ao]at f;rcases hc:cs[i]? with _|y;grind;rw[hc]at f;obtain rfl:=agC f;exact(pc _ y).2⟩;refine⟨⟨λd c A=>?_,rfl,rfl,by show _<=(nB ok fz S W).heap.size;rw[kJ];exact u,u,⟨λg h=>Da<|s g h,λ_=>rfl⟩⟩,⟨λd c A=>?_,rfl,rfl,by grind [kJ],by rw[kJ];exact u,⟨λg h=>Da<|s g h,λ_=>rfl⟩⟩⟩;obtain⟨r,rfl⟩:=Rm A;let⟨cs,e,z,hc⟩:=hS c r;refine⟨_,_,iU r hc,hc,.cells (D cs) ?_⟩;split;rename_i C;simp at C;exact .inr ⟨rfl,aN,by simpa using C.2⟩;exact .inl rfl;obtain⟨r,rfl⟩:=Rm A;let⟨cs,e,z,hc⟩:=hS c r;exact⟨_,_,iU r hc,iU r hc,.cells (J cs)<|.inl rfl⟩
def OB {ρ:Ren}(h:ar ok ρ true v):v=true:=by cases h;rfl
end
def J6 (f:Nat):((Tz.prog.funcs[f]?).map (·.ntmps)).getD 0=((Tryz.prog.funcs[f]?).map (·.ntmps)).getD 0:=Tz.adP Tryz.prog f
def VO {r}(N:CM r=true)(aE:r.all (λf=>(Tryz.prog.inits.idxOf? f).isNone)=true){L:FuncId}(hL:(r.contains L&&!Tz.sG.contains L)=true)(Z:oW.n<=W)(O:W.heap[3]?=some zr)(S:Nat->Bool)(u:∀g,r.contains (2000000+g)=true->S g=true)(x:S 3=false)(hS:∀b,S b=true->∃cs e z,W.heap[b]?=some (.cells cs e z)) (vD:∀(ok:Ctx) (ρ:@Ren oW),(∀b,S b=true->ρ b=some b)->@aB oW ok ρ xs xs) (R:∀(ok:Ctx) (V:ac),@dC oW Tz.prog ok ground (@aS)->(∀f,ok.aP f=(r.contains f&&!Tz.sG.contains f))->Reads W V->@ae oW Tz.prog ok ground (@aS) (λv V'=>v=true/\Bl V V V') ⟨Frame.enter Tz.prog L xs .normal,[],V⟩): ∃M last o w' C,runNT Tryz.prog (M+1) (solo (G (Frame.enter Tryz.prog L xs .normal) []) W) #[]=(.ended o w',C)/\runN Tryz.prog M (solo (G (Frame.enter Tryz.prog L xs .normal) []) W)=.next last/\step Tryz.prog last=.ended o w'/\Conc.Good Tryz.prog (λv' W'=>v'=true/\aU (λd=>d<W) W W') last o w' C:=by
 letI:=oW;obtain⟨ok,h4,D,h2,h3⟩:∃ok:Ctx,(∀f,ok.ex f=Tz.xX.contains f)/\(∀f,ok.fn f=r.contains f)/\(∀f,ok.aP f=(r.contains f&&!Tz.sG.contains f))/\∀c,ok.code c=@codeOk oW Tryz.prog ok.fn c:=⟨⟨λf=>r.contains f,λf=>r.contains f&&!Tz.sG.contains f,λc=>@codeOk oW Tryz.prog (λf=>r.contains f) c,λf=>Tz.xX.contains f⟩,λ_=>rfl,λ_=>rfl,λ_=>rfl,λ_=>rfl⟩;have T:∀f,ok.aP f=true->r.contains f=true/\Tz.sG.contains f=false:=λf h=>by grind
 let⟨ID,hp⟩:=L4 N h4 D T h3;have hI:∀f,ok.aP f=true->Tryz.prog.inits.idxOf? f=none:=λf hf=>by grind
 have hx:=vD ok (Fy S) λb hb=>Da hb;have run:=λfz=>P1 (F:=λd=>d<W/\S d=false) ID hp W_ (λf _=>J6 f) Vy T9 hI cQ (R ok (nB ok fz S W) (⟨ID,VR D h2,PV,Ud⟩) h2<|Ez hS) hx hx (zR Z (λg h=>u g<|(D _).symm.trans h) hS).1 (zR Z (λg h=>u g<|(D _).symm.trans h) hS).2 (λM W' hM hK=>⟨hM 3 ⟨(agy.1 O).1,x⟩,(hK.block 3 ⟨(agy.1 O).1,x⟩).trans O⟩) λd hd=>⟨hd.1,λb hb=>by obtain⟨a1,rfl⟩:=Rm hb;rw[hd.2]at a1;cases a1⟩;let⟨M,last,o,w',C,q1,q2,q3,q4⟩:=run false;let⟨gt,aG,aI,y,Oz,p1,p2,p3,p4⟩:=run true;obtain rfl:y=w':=by have e1:=az _ q1<|gt+1;have J:=az _ p1<|M+1;rw[Nat.add_comm]at J;rw[e1]at J;simp at J;exact J.1.2.symm
 let⟨_,_,⟨_,_,_,_,_,_,_,_,U⟩,_⟩:=p4;refine⟨M,last,o,y,C,q1,q2,q3,q4.mono λv hv=>?_⟩;obtain⟨v0,V',σ,⟨rfl,pa⟩,hv,hle,hw,hk,dZ⟩:=hv;refine⟨OB hv,λd hd=>?_,hk.size,hk.os,hk.out⟩;cases hb:S d;exact hk.block d ⟨hd,hb⟩;let⟨cs,e,z,hc⟩:=hS d hb;let⟨o1,o2,i1,i2,i3⟩:=hw.heap d d<|hle d d<|Da hb;rw[pa.block d (by rw[kJ];exact hd),iU hb hc]at i1;obtain rfl:=agC i1;cases i3 with|@cells _ A _ _ z' CR s=>(have iV:cs.size=A.size:=by simpa using CR.size);(have Y:A=cs:=by rcases agJ cs.size with B|B;exact(ax (iV▸B:A.size=0)).trans (ax B).symm;have:=(U d d (Da hb) ⟨cs.map<|mg ok<|Fy S,e,by rw[iU hb hc,if_pos (by simpa using B)];simp⟩).1;simp[bare,hc,i2]at this;exact this);subst Y;rcases s with s|⟨_,s,B⟩;rw[i2,hc,s];simp;simp at s;exact(dZ d d (Da hb) ⟨A.map<|mg ok<|Fy S,e,by rw[iU hb hc];simp[s]⟩).2 ⟨A,e,by rw[hc,s]⟩
