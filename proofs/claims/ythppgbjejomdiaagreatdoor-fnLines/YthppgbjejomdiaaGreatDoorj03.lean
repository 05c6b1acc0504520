import Derived.Test.YthppgbjejomdiaaGreatDoorj02
import Derived.Conc.Beside
import Derived.Conc.CrowdRun
set_option linter.all false
set_option maxHeartbeats 1000000
open Array renaming getElem?_push->bE
open Bool renaming false_eq_true->bH,not_true->b6
open Go renaming World->aa,Goroutine->ao,stepG->au,Event->aI,Value->aL,mark->a0,Frame->a4,seen->a5,Program->a7,Trace->a8,Question->a9,Next->be,results->bk,MemOp->bm,GStep->bz,HappensBefore->bO,deafBehind->bV,resolve->bW
open Go.Conc renaming Deaf->az,touchAt->bb,mem_ofEvents->bi,woken->b4,deafBehind_still->b8,again_running->cb,touchAt_of->ce
open Go.ConcN renaming Mode->bv,cell_of_block->cl,isOpen->cn,Deaf_still->co
open Go.ConcR renaming mk->bo,loc_of_ofEvent->bB,again_blocked->cf,ofEvent_loc_mark->ci
open Go.Frame renaming eval->bj,enter->bM,catches->b5
open Go.GStep renaming after->av
open Go.Goroutine renaming callers->bX,frame->b0
open Go.MemAct renaming ofEvent->a6,touch?->bK
open Go.MemOp renaming ofEvents->bn
open Go.Value renaming int->ax
open Go.World renaming frozen?->br,cell?->bt
open Go.stepG renaming apply->aE,exec->aV,oper->b7
open Nat renaming lt_of_mul_lt_mul_right->bA,le_add_right->bJ,lt_wfRel->b9,add_mul->ca,rec->cc
open Or renaming inl->ac,inr->ad
open Prod renaming Lex->bR,lex->bS
namespace Go.Proofs.YthppgbjejomdiaaGreatDoor
open Conc
variable {Anch:(Nat->Prop)->(Nat->Prop)->ao->aa->Prop}{Stop:(Nat->Prop)->ao->aa->Prop}{es:Array aI}{m str:Bool}{ok:Ctx}{e:aI}{X:aI->Prop}{c O fr fr2 r0:a4}{g g' D:ao}{Hw Ib:Int}{cs cs2 rest:List a4}{l:Loc}{ay:Loc->Prop}{B K b c' cJ f i j k x:Nat}{v y:Nat->Loc->Prop}{M R S A:Nat->Prop}{P af8:a7}{p:Prop}{t u:a8}{Q:aL->aa->Prop}{V C N W W' aj w w' w2:aa}{F:aa->bz}
section
def YA (x9:p:=by rw[go hr]at e;simp at e;obtain⟨rfl,rfl,rfl⟩:=e;exact⟨h1,h2,λτ d hA=>go<|h3 τ d hA⟩):p:=x9
def ac1 (x9:p:=by
 show(if((ops[i]?).map (Region.wanted ·<|yielded ops tmps)).getD false then stepG.oper af8 true ⟨ee,tmps,.inRegion ops (i::rest)::k,defers,.run,kind,roundOf⟩ (c::cs) none w
   else .go (G (Frame.finish ⟨ee,tmps,.inRegion ops (i::rest)::k,defers,.run,kind,roundOf⟩ undef)<|c::cs) w)=_
 grind):p:=x9
variable [Gl]
def Sh (F:aa->bz)(V:aa):Prop:=((∃D N es,F V=.go D N es)\/∃o w es,F V=.ended o w es)/\∀D N es,F V=.go D N es->V.drawn<=N.drawn/\N.tape=V.tape/\
 ∀τ d,mN V.tape V.drawn τ d (N.drawn-V.drawn)->F (re V τ d)=.go D (re N τ<|d+(N.drawn-V.drawn)) es
omit [Gl] in
def fu (g:ao)(es:Array aI)(h:∀w,F w=.go g w es):Sh F V:=by refine⟨ac ⟨_,_,_,h V⟩,?_⟩;grind
omit [Gl] in
def qW (h:∃o w es,F V=.ended o w es):Sh F V:=by refine⟨ad h,?_⟩;grind
omit [Gl] in
def IV {s:bz}(h:(∃D N z,s=.go D N z)\/∃o w z,s=.ended o w z):(∃D N z,av es s=.go D N z)\/∃o w z,av es s=.ended o w z:=by rcases h with⟨_,_,_,rfl⟩|⟨_,_,_,rfl⟩;exact ac ⟨_,_,_,rfl⟩;exact ad ⟨_,_,_,rfl⟩
def yF {ρ:Ren}{α β:Type}{A s}{s':Sem β}(T:ag af8 P ok str A ρ s s')(hw:bw ok str ρ V W) {E:Array aI->Array aI}{k:α->ao}{kp:aL->Option ao}(Z:∀w a w' es,s.runT af8 w #[]=(.ok a w',es)->F w=.go (k a) w' (E es)) (hp:∀w v w' es,s.runT af8 w #[]=(.halt (.panic v) w',es)->match kp v with|some g=>F w=.go g w' (E es)|none=>∃o u U,F w=.ended o u U)(hs:∀w r es,s.runT af8 w #[]=(r,es)->Result.stops r->∃o u U,F w=.ended o u U):Sh F V:=by generalize z:s.runT af8 V #[]=x;let⟨r,e1⟩:=x;constructor;rcases T.sound #[] #[] hw z with dZ|⟨σ,r',C,W',d',_,Y,_,_⟩;grind;(cases Y with|ok _ _=>grind|@panic v v' C W' _ _=>grind);intro D N Eg e;rcases T.shift #[] hw z with dZ|⟨h1,h2,h3⟩;grind;rcases T.sound #[] #[] hw z with dZ|⟨σ,r',C,W',d',_,Y,_,_⟩;grind;cases Y with|@ok a b C W' _ _=>rw[Z _ _ _ _ z]at e;obtain⟨rfl,rfl,rfl⟩:=e;exact⟨h1,h2,λτ d hA=>Z _ _ _ _<|h3 τ d hA⟩|@panic v v' C W' _ _=>have h6:=hp _ _ _ _ z;rcases hk:kp v with _|g;grind;rw[hk]at h6;rw[h6]at e;obtain⟨rfl,rfl,rfl⟩:=e;refine⟨h1,h2,λτ d hA=>?_⟩;have:=hp _ _ _ _<|h3 τ d hA;rw[hk]at this;exact this
section
variable {ρ:Ren}
def LQ (p:a7)(fr:a4)(cs:List a4):be->ao
 |.value v=>G (fr.finish v) cs
 |.skip=>G (fr.finish undef) cs
 |.enter f xs=>G (bM p f xs .normal) (fr::cs)
 |.round l f xs a b=>G (Frame.round l f xs a b .normal) (fr::cs)
 |.recover=>wi fr cs
 |_=>G fr cs
def yV (hS:Same af8 P ok){s s'}(Z:ag af8 P ok str (λσ x y=>oF ok σ x y) ρ s s')(hf:cV P ok ρ fr O)(hw:bw ok str ρ V W):Sh (λw=>aE af8 true fr cs none s w) V:=by
 have Y:=hf.early.1;have lw:=hf.todo.Rf;generalize hr:s.runT af8 V #[]=x;let⟨r,e1⟩:=x;constructor;rcases Z.sound #[] #[] hw hr with T|⟨σ,r',C,W',d',_,h5,_,_⟩;cases r with|ok a w=>cases T|halt U w=>cases U with|stuck y=>simp only[aE,if_true,hr,av];grind|unsupported u=>(cases u with|initOrder g=>cases T|_=>simp only[aE,if_true,hr,av];grind)|_=>cases T
 cases h5 with|@ok a b C W' hN _=>(cases hN with|value hv=>simp only[aE,if_true,hr,av];grind|skip=>simp only[aE,if_true,hr,av];grind|recover=>exact ac ⟨_,_,_,nP hS.ZN.1 hr Y⟩|enter f eK hx=>exact ac ⟨_,_,_,mQ hr lw.1 Y⟩|round f hl hi hx ha hb=>simp only[aE,if_true,hr,av];grind)|panic _ _=>simp only[aE,if_true,hr,av];grind
 intro D N Eg e;have stop:Result.stops r=true->False:=by intro T;simp at e;cases r with|ok a w=>cases T|halt U w=>cases U with|stuck y=>simp only[aE,if_true,hr,av]at e;cases e|unsupported u=>(cases u with|initOrder g=>cases T|_=>simp only[aE,if_true,hr,av]at e;cases e)|_=>cases T
 rcases Z.shift #[] hw hr with T|⟨h1,h2,h3⟩;exact(stop T).elim;rcases Z.sound #[] #[] hw hr with T|⟨σ,r',C,W',d',_,h5,_,_⟩;exact(stop T).elim;simp at e⊢;cases h5 with|@ok a b C W' hN _=>(have go:∀{w w':aa} {es:Array aI},s.runT af8 w #[]=(.ok a w',es)->aE af8 true fr cs none s w=.go (LQ af8 fr cs a) w' (a5 af8 fr.fn es):=by intro w w' es U;cases hN with|value hv=>simp only[aE,if_true,U,av,Y];simp[G,LQ]|skip=>simp only[aE,if_true,U,av,Y];simp[G,LQ]|recover=>exact nP hS.ZN.1 U Y|enter f eK hx=>exact mQ U lw.1 Y|round f hl hi hx ha hb=>simp only[aE,if_true,U,av,Y];simp[G,LQ]);exact YA|@panic v v' C W' _ _=>(have go:∀{w w':aa} {es:Array aI},s.runT af8 w #[]=(.halt (.panic v) w',es)->aE af8 true fr cs none s w=.go (G (fr.raise [{v,recovered:=false}]) cs) w' (a5 af8 fr.fn es):=by intro w w' es U;simp only[aE,if_true,U,av,Y];simp[G]);exact YA
omit [Gl] in
def Sh.congr {n:aa->bz}(h:Sh F V)(e:∀w,n w=F w):Sh n V:=by refine⟨by rw[e];exact h.1,?_⟩;intro D N es o;rw[e]at o;let⟨z,E,L⟩:=h.2 D N es o;grind
def Aj (hk:fr.kind=.normal\/fr.kind=.deferred)(hw:bw ok str ρ V W)(z)(T:∀c,z=some c->ok.code c){l U}(Y:ρ l=some U): Sh (λw=>let(r,es):=(Instr.endRound l z).runT af8 w #[];av (a5 af8 fr.fn es)<|match r with|.ok v w=>doReturn af8 m fr (c::cs) none v w|.halt _ w=>.ended (.stuck "range over a function: no such loop"<|fr.pos af8) w) V:=by refine yF (af8:=af8) (P:=af8) (E:=λes=>a5 af8 fr.fn es) (k:=λv=>G (kQ fr.kind c v) cs) (kp:=λ_=>none) (xI Y z T) hw ?_ ?_ ?_;grind [gK,av];simp_all [av];intro w r es h Z;cases r with|ok a w=>cases Z|halt hh w=>simp_all [av]
def Ui (Y:dV af8 P ok)(Z:cV P ok ρ fr O)(hw:bw ok str ρ V W)(hm:fr.mode=.run):Sh (λw=>aV af8 m true fr (c::cs) none w) V:=by
 obtain⟨fn,tmps,aZ,defers,a2,kind,roundOf⟩:=fr;obtain⟨ee,dw,gU,cZ,pT,eC,bp⟩:=O;have ht:=Z.todo;have T:=Z.round;have se:=Z.fn;have hk:=Z.kind;have vU:=Z.eC;have qy:=Z.mode;have hi:=Z.aP;simp at ht T se hk vU hm qy hi;subst hm se eC;cases qy;cases ht with
 |nil=>rcases T with _|U;exact fu _ _ λw=>rfl;exact Aj hk hw none aN U
 |@cons x x' k k' hx mZ=>
  cases hx with
  |inBlock id=>exact fu _ _ λw=>rfl|inLoop fy=>exact fu _ _ λw=>rfl|inRangeFunc U=>exact qW ⟨_,_,_,rfl⟩|@endRangeFunc l l' U=>
   refine yF (E:=λes=>a5 af8 ee es) (k:=λj=>G ⟨ee,tmps,(j.map Item.code).toList++k,defers,.run,kind,roundOf⟩<|c::cs)
    (kp:=λv=>some<|G (Frame.raise ⟨ee,tmps,.endRangeFunc l::k,defers,.run,kind,roundOf⟩ [{v,recovered:=false}])<|c::cs) (AW Y.tab U) hw ?_ ?_ ?_
   grind [aV,av,G];grind [aV,av,G];intro w r es h dZ;cases r with|ok a w=>cases dZ|halt hh w=>cases hh<;>first|cases dZ;done|(simp only[aV,h,av];exact⟨_,_,_,rfl⟩)
  |beginRound=>refine(yV Y.toSame (s':=do bp.elim (stuck "beginRound: no round") Instr.beginRound;pure .skip) ?_ Z hw).congr λw=>rfl;refine yH (A:=λ_ _ _=>True) ?_;rcases T with _|U;exact .halt _ _;exact sJ Y.tab U
  |@inRegion ops fN aZ ho=>rcases aZ with _|⟨i,rest⟩;exact fu _ _ λw=>rfl;by_cases xh:((ops[i]?).map (Region.wanted ·<|yielded ops tmps)).getD false=true;rcases Te:ops[i]? with _|o;grind;obtain⟨o',a3,h1⟩:=ho.get Te;(have e0:∀w:aa,aV af8 m true ⟨ee,tmps,.inRegion ops (i::rest)::k,defers,.run,kind,roundOf⟩ (c::cs) none w=b7 af8 true ⟨ee,tmps,.inRegion ops (i::rest)::k,defers,.run,kind,roundOf⟩ (c::cs) none w:=by exact λw=>ac1);rcases h1 with bF|a1;refine(yV (cs:=c::cs) Y.toSame (Sa Y bF (Z.eval hw.gl) (λ_=>⟨rfl,rfl⟩) λ_=>rfl) Z hw).congr λw=>?_;rw[e0];simp[b7,Frame.oper?,Te];split;rename_i e;exact absurd e (bF.dead.2 _).1;rfl;obtain⟨x,a1⟩:=Option.isSome_iff_exists.1 a1;obtain⟨oc,iw,hd⟩:=CF (fr:=⟨ee,tmps,.inRegion ops (i::rest)::k,defers,.run,kind,roundOf⟩) (w:=V) Te a1;exact qW ⟨_,_,_,(e0 V).trans hd⟩;exact fu (G (Frame.finish ⟨ee,tmps,.inRegion ops (i::rest)::k,defers,.run,kind,roundOf⟩ undef)<|c::cs) #[] λw=>ac1
  |@code cd Zp fy=>
   (have bl:∀{o:Operand} {a b:Code},cd=.cond o a b->Sh (λw=>aV af8 m true ⟨ee,tmps,.code cd::k,defers,.run,kind,roundOf⟩ (c::cs) none w) V:=by intro o a b e;subst e;cases he:bj ⟨ee,tmps,.code (.cond o a b)::k,defers,.run,kind,roundOf⟩ o with|bool t=>exact fu _ #[] λw=>by simp[aV,he];rfl|_=>exact qW<|by simp_all [aV]);have bq:∀{id:Nat} {a:Array Oper} (d:Bool),cd=.region id a d->Sh (λw=>aV af8 m true ⟨ee,tmps,.code cd::k,defers,.run,kind,roundOf⟩ (c::cs) none w) V:=by intro id a d e;subst e;cases d;exact fu _ _ λw=>rfl;have hq:(Question.order ee id).forced=false:=rfl;constructor;simp only[aV,choose,Sem.run,hq,b6,bH,if_false];grind;intro D N es h;simp only[aV,choose,Sem.run,hq,b6,bH,if_false,GStep.go.injEq]at h⊢;obtain⟨rfl,rfl,rfl⟩:=h;refine⟨Nat.le_succ _,rfl,λτ d hA=>?_⟩;have:τ d (.order ee id)=V.tape V.drawn (.order ee id):=(hA 0 aN _).symm;simp only[re,this,true_and,and_true];simp
   cases fy with
   |seq _ _=>exact fu _ _ λw=>rfl
   |block _=>exact fu _ _ λw=>rfl
   |loop _=>exact fu _ _ λw=>rfl
   |region d ho=>grind
   |cond _ _ _=>grind
   |same fy=>
   cases cd with
   |skip=>exact fu _ _ λw=>rfl|refuse y=>exact qW ⟨_,_,_,rfl⟩|seq a b=>exact fu _ _ λw=>rfl|cond o a b=>grind|block id b=>exact fu _ _ λw=>rfl|loop b=>exact fu _ _ λw=>rfl|exit id=>rcases mZ.exit (id:=id)with⟨n1,n2⟩|⟨q,q',s1,s2,hq⟩;(cases T with|none=>exact qW (by simp_all [aV,Option.elim_none])|@some l l' U=>refine(Aj (af8:=af8) (m:=m) (c:=c) (cs:=cs) (fr:=⟨ee,tmps,.code (.exit id)::k,defers,.run,kind,some l⟩) hk hw (some<|.exit id) (by simp[Y.code,codeOk]) U).congr λw=>?_;simp[aV,n1,Option.elim_none];rfl);exact fu _ #[] λw=>by simp[aV,s1,Option.elim_some];rfl
   |ret=>rcases T with _|U;exact fu _ _ λw=>rfl;exact Aj hk hw (some .ret) (by simp[Y.code,codeOk]) U
   |region id ops d=>grind|rangeFunc f params a b=>
    simp[codeOk,Bool.and_eq_true]at fy;let FA:Nat->List Deferred->aa->GStep:=λl a0 w=>aE af8 true ⟨ee,tmps,.inRangeFunc l::k,a0++defers,.run,kind,roundOf⟩ (c::cs) none (do let d <-bW (bj ⟨ee,tmps,.inRangeFunc l::k,a0++defers,.run,kind,roundOf⟩) {callee:=.value f,args:=#[.const<|.func (.yield l) #[] #[]],argTypes:=#[]} 0;invoke d.target d.args) w;have TA:∀w,aV af8 m true ⟨ee,tmps,.code (.rangeFunc f params a b)::k,defers,.run,kind,roundOf⟩ (c::cs) none w=
      (let(r,es):=(Instr.enterLoop ee tmps params a b roundOf).runT af8 w #[];av (a5 af8 ee es)<|match r with
       |.ok (l,a0) w=>FA l a0 w
       |.halt _ w=>.ended _ w):=λw=>rfl
    refine Sh.congr ?_ TA;generalize fT:(Instr.enterLoop ee tmps params a b roundOf).runT af8 V #[]=x;obtain⟨r,e1⟩:=x;have hR:=vl (af8:=af8) (P:=P) (str:=str) ee hi Z.tmps params ((Y.code a).trans fy.1.2) ((Y.code b).trans fy.2) T;have Xu:∀{σ:Ren} {l l':Nat} {a0 uQ:List Deferred} {C W':aa},ρ.le σ->σ l=some l'->jE ok σ a0 uQ->bw ok str σ C W'->Sh (FA l a0) C:=by
     intro σ l l' a0 uQ C W' h4 U OW aG;have XF:cV P ok σ ⟨ee,tmps,.inRangeFunc l::k,a0++defers,.run,kind,roundOf⟩ ⟨ee,dw,.inRangeFunc l'::k',uQ++cZ,.run,kind,bp⟩:=
      ⟨rfl,hi,Z.tmps.mono h4,.cons (.inRangeFunc U)<|mZ.mono h4,OW.append<|Z.defers.mono h4,.run,hk,rfl,T.mono h4⟩
     refine yV Y.toSame (s':=do let d <-bW (bj ⟨ee,dw,.inRangeFunc l'::k',uQ++cZ,.run,kind,bp⟩) {callee:=.value f,args:=#[.const<|.func (.yield l') #[] #[]],argTypes:=#[]} 0;invoke d.target d.args) ?_ XF aG;have h_:=XF.eval aG.gl f fy.1.1;unfold bW;dsimp only;generalize bj ⟨ee,tmps,.inRangeFunc l::k,a0++defers,.run,kind,roundOf⟩ f=v at h_;generalize bj ⟨ee,dw,.inRangeFunc l'::k',uQ++cZ,.run,kind,bp⟩ f=v' at h_;cases h_ with|func se e1 g1 e2 D=>exact aW<|ww Y.tab Y.toCallable (.fn se ⟨e2,D⟩) (aB.append ⟨e1,g1⟩<|by simpa[bj]using(aB.nil.push<|.func (.yield U) rfl aB.nil.at_ rfl aB.nil.at_))|nilFunc=>exact im Y.tab .nilDeref rfl|hole _=>exact .dead _ _ λV=>qD Y.hole _ V|_=>exact .halt _ _
    refine⟨?_,?_⟩;simp only[fT];rcases hR.sound #[] #[] hw fT with dZ|⟨σ,r',C,W',d',h1,h2,h4,h5⟩;(cases r with|ok a w=>cases dZ|halt hh w=>exact ad ⟨_,_,_,rfl⟩);(cases h2 with|panic _ _=>exact ad ⟨_,_,_,rfl⟩|@ok j j' C W' hv aG=>exact IV (Xu h4.le hv.1 hv.2 aG).1);intro D N es h';simp only[fT]at h';rcases hR.sound #[] #[] hw fT with dZ|⟨σ,r',C,W',d',h1,h2,h4,h5⟩;exact ac7;rcases hR.shift #[] hw fT with dZ|⟨s1,s2,s3⟩;exact ac7;cases h2 with|panic _ _=>exact(gb h').elim|@ok j j' C W' hv aG=>obtain⟨l,a0⟩:=j;obtain⟨l',uQ⟩:=j';obtain⟨U,OW⟩:=hv;obtain⟨Ug,h3⟩:=lY h';have h3:FA l a0 C=.go D N Ug:=h3;obtain⟨q1,q2,q3⟩:=(Xu h4.le U OW aG).2 D N Ug h3;simp only[iH]at s1 s2 s3;(have he:es=a5 af8 ee e1++Ug:=by have:=h';simp at this;rw[h3]at this;simp[av,GStep.go.injEq,true_and]at this;exact this.symm);refine⟨ab,by rw[q2,s2],λτ d hA=>?_⟩;(have Uv:mN C.tape C.drawn τ (d+(C.drawn-V.drawn)) (N.drawn-C.drawn):=by have:mN V.tape V.drawn τ d ((C.drawn-V.drawn)+(N.drawn-C.drawn)):=hA.less ab;have:=this.tail;rw[show V.drawn+_=C.drawn by omega]at this;rw[s2];exact this);simp only[(s3 τ d<|hA.less ab),reR];rw[(q3 τ _ Uv),he,show d+_+_=d+(N.drawn-V.drawn) by omega];rfl
   |_=>cases fy
def OA (hP:dV af8 P ok)(Y:cV P ok ρ fr O)(hw:bw ok str ρ V W)(hm:fr.mode≠.run):Sh (λw=>unwind af8 m fr (c::cs) none w) V:=by
 let⟨fn,tmps,U,aG,Z,kind,T⟩:=fr;let⟨ee,dw,gU,cZ,pT,eC,bp⟩:=O;have se:=Y.fn;have hk:=Y.kind;have qy:=Y.mode;have hi:=Y.aP;have hd:=Y.defers;simp only at se hk hm qy hi hd;subst se;let⟨F,cd,a2,f1,f2,f3,f4⟩:=hP.same ee hi;cases hd with
 |@cons d0 a3 ds bl hr bq=>
  cases hr with
  |@call f xs bs ys vy aZ a1 vD bx=>exact fu _ #[] λw=>pn (hP.left f aZ<|hP.inx f a1) rfl
  |@mark r0 VH hr=>
  refine yF (af8:=af8) (P:=P) (E:=λes=>a5 af8 ee es) (k:=λj=>G ⟨ee,tmps,U,j++ds,Z,kind,T⟩<|c::cs) (kp:=λ_=>none) (Mh hr) hw ?_ ?_ ?_;grind [unwind,av,G];simp_all [unwind,av];intro w r es h dZ;cases r with|ok a w=>cases dZ|halt hh w=>simp_all [unwind,av]
 |nil=>cases qy with|run=>grind|@panicking ch bF vR=>(have c1:b5 af8 ⟨ee,tmps,U,[],.panicking ch,kind,T⟩=false:=by grind [b5]);refine fu (G (c.raise ch) cs) #[] λw=>?_;simp only[unwind,c1,bH,if_false];rfl|returning=>refine yF (P:=P) (E:=λes=>a5 af8 ee es) (k:=λv=>G (kQ kind c v) cs) (kp:=λ_=>none) (pI hP.tab F Y.tmps) hw ?_ ?_ ?_;grind [unwind,av,gK];simp_all [unwind,av];intro w r es h dZ;cases r with|ok a w=>cases dZ|halt hh w=>cases hh<;>(simp only[unwind,f1,h,av];exact⟨_,_,_,rfl⟩)
def Ff (T:dV af8 P ok)(U:cV P ok ρ fr O)(hw:bw ok str ρ V W):Sh (λw=>au af8 m (G fr<|c::cs) w) V:=by by_cases z:fr.mode=.run;exact(Ui T U hw z).congr λw=>rO z;exact(OA T U hw z).congr λw=>gr z
end
end
section
section
variable [Gl]
structure St where
 fr:a4
 cs:List a4
 V:aa
def St.re (s:St)(τ:Nat->a9->Nat)(d:Nat):St:=⟨s.fr,s.cs,Proofs.YthppgbjejomdiaaGreatDoor.re s.V τ d⟩
section
variable (af8:a7)(c:a4)(Q:aL->aa->Prop)
def Ends (s:St):Prop:=s.cs=[]/\∃v,s.fr.leaving af8 s.V (.returned v)/\Q v s.V
def fP (s s':St):Prop:=∃es,au af8 true (G s.fr<|s.cs++[c]) s.V=.go (G s'.fr<|s'.cs++[c]) s'.V es
def FD:Nat->St->Prop
 |0,s=>Ends af8 Q s
 |n+1,s=>∃z,fP af8 c s z/\FD n z
def xS (s' s:St):Prop:=∃τ d,fP af8 c (s.re τ d) s'
def H (s:St):Prop:=∀τ d,∃n,FD af8 c Q n (s.re τ d)
end
def gj (af8:a7)(ok:Ctx)(s:St):Prop:=∃ρ,cV af8 ok ρ s.fr s.fr/\je af8 ok ρ s.cs s.cs/\wM s.fr s.cs/\bw ok true ρ s.V s.V
structure kw (af8)(c:a4):Prop where
 ret:∀v w,∃o w' es,au af8 true (G (c.finish v) []) w=.ended o w' es
 pan:∀ch w,∃o w' es,au af8 true (G (c.raise ch) []) w=.ended o w' es
theorem gj.re {s}(h:gj af8 ok s)(τ:Nat->a9->Nat) d:gj af8 ok (s.re τ d):=by let⟨ρ,o,z,E,n⟩:=h;exact⟨ρ,o,z,E,n.heap,rfl,rfl,n.gV,n.gW,n.gs⟩
def Edge (s:St):Prop:=s.cs=[]/\s.fr.mode≠.run/\s.fr.defers=[]
def vO (hP:dV af8 af8 ok){s}(hs:gj af8 ok s)(he:Edge s)(h:stepG af8 true (G s.fr<|s.cs++[c]) s.V=.go D N es): (∃v,D=G (c.finish v) [])\/∃Y,D=G (c.raise Y) []:=by let⟨ρ,h1,_,hb,_⟩:=hs;let⟨fr,cs,V⟩:=s;let⟨e1,e2,e3⟩:=he;subst e1;have hk:=congrArg Prod.snd<|hb fr rfl;rw[gr e2]at h;let⟨F,cd,_,f1,_⟩:=hP.same _ h1.aP;let⟨fn,tmps,T,Z,U,kind,z⟩:=fr;subst e3 hk;cases U with|run=>grind|panicking Y=>(have c1:Frame.catches af8 ⟨fn,tmps,T,[],.panicking Y,.normal,z⟩=false:=by grind [Frame.catches]);simp only[unwind,c1,List.nil_append,Bool.false_eq_true,if_false,GStep.go.injEq]at h;exact .inr ⟨Y,h.1.symm⟩|returning=>simp only[unwind,f1,List.nil_append]at h;let⟨Ug,h3⟩:=lY h;generalize (results F tmps).runT af8 V #[]=x at h3;let⟨r,e⟩:=x;cases r with|ok v w=>simp[doReturn]at h3;exact .inl ⟨v,h3.1.symm⟩|halt hh w=>grind
def fP.inside (z:dV af8 af8 ok){s s'}(hs:gj af8 ok s)(h:fP af8 c s s'):¬Edge s:=by intro he;let⟨es,h⟩:=h;rcases vO z hs he h with⟨v,e⟩|⟨T,e⟩<;>simp_all [G]
def Dx (hP:dV af8 af8 ok)(jp:∀f,ok.fn f->ok.aP f){s}(hs:gj af8 ok s)(he:¬Edge s)(h:stepG af8 true (G s.fr<|s.cs++[c]) s.V=.go D N es): ∃s',D=G s'.fr (s'.cs++[c])/\N=s'.V/\gj af8 ok s':=by obtain⟨ρ,h1,h2,h3,h4⟩:=hs;obtain⟨σ,T,W2,Eg,e,hg,hw,_,_⟩:=vr hP h1 h2 h3 h4 (λa b=>λd=>he ⟨a,b,d⟩) h;rw[h]at e;obtain⟨rfl,rfl,_⟩:=e;generalize Y:D=T at hg;(have qw:qj af8 af8 ok σ [c] [c] D T:=by rw[Y]at*;omega);cases qw with|@inside fr O cs aG Z a2 a3=>have e1:=congrArg Goroutine.frame Y;have U:=congrArg Goroutine.callers Y;simp only[G]at e1 U;have U:=agS U;subst e1 U;exact⟨⟨fr,cs,N⟩,rfl,rfl,σ,Z,a2,a3,hw⟩|door Z a2=>grind
def fP.self (T:dV af8 af8 ok)(U:∀f,ok.fn f->ok.aP f){s s'}(hs:gj af8 ok s)(h:fP af8 c s s'):gj af8 ok s':=by have Y:=h.inside T hs;let⟨es,h⟩:=h;let⟨Z,e1,e2,h2⟩:=Dx T U hs Y h;let⟨fr,cs,V⟩:=s';simp_all [G]
def fP.sh (T:dV af8 af8 ok){s s'}(hs:gj af8 ok s)(h:fP af8 c s s'):s.V.drawn<=s'.V.drawn/\s'.V.tape=s.V.tape/\∀τ d,mN s.V.tape s.V.drawn τ d (s'.V.drawn-s.V.drawn)->fP af8 c (s.re τ d) (s'.re τ<|d+(s'.V.drawn-s.V.drawn)):=by let⟨ρ,U,Z,h3,Y⟩:=hs;let⟨es,h⟩:=h;cases z:s.cs++[c]with|nil=>simp_all|cons a l=>have:=(Ff T U Y).2 _ _ _ (by rw[<-z];exact h);refine⟨this.1,this.2.1,λτ d hA=>⟨es,?_⟩⟩;grind [St.re]
theorem Ends.re (n:dV af8 af8 ok)(o:∀v w τ d,Q v w->Q v (re w τ d)){s}(z:gj af8 ok s)(h:Ends af8 Q s)(τ:Nat->Question->Nat) d:Ends af8 Q (s.re τ d):=by let⟨E,v,⟨L,T,U,fn,Y,l5⟩,Z⟩:=h;let⟨ρ,r1,_,_,r4⟩:=z;refine⟨E,v,⟨L,T,U,fn,Y,?_⟩,o _ _ _ _ Z⟩;generalize hx:(results fn s.fr.tmps).runT af8 s.V #[]=x;let⟨r,e1⟩:=x;(have hr:r=.ok v s.V:=by simp_all);subst hr;rcases(pI n.tab fn r1.tmps).shift #[] r4 hx with dZ|⟨_,_,h3⟩;cases dZ;have:=h3 τ d (by intro i hi;simp[iH]at hi);have h4:=Sem.runT_fst af8 (results fn s.fr.tmps) (Proofs.YthppgbjejomdiaaGreatDoor.re s.V τ d) #[];rw[this]at h4;show(results fn s.fr.tmps).run af8 (Proofs.YthppgbjejomdiaaGreatDoor.re s.V τ d)=.ok v (Proofs.YthppgbjejomdiaaGreatDoor.re s.V τ d);grind [reR,iH]
def FD.shift (T:dV af8 af8 ok)(Y:∀f,ok.fn f->ok.aP f)(Z:∀v w τ d,Q v w->Q v (re w τ d)):∀n {s:St},gj af8 ok s->FD af8 c Q n s->∀τ d,(∀i q,s.V.tape (s.V.drawn+i) q=τ (d+i) q)->FD af8 c Q n (s.re τ d):=by intro n;induction n with|zero=>intro s hs h τ d _;exact Ends.re T Z hs h τ d|succ n ih=>intro s hs h τ d hA;let⟨s',U,h2⟩:=h;let⟨k1,k2,k3⟩:=U.sh T hs;refine⟨_,k3 τ d λi _ q=>hA i q,ih (U.self T Y hs) h2 τ _ λi q=>?_⟩;rw[k2];have:=hA (s'.V.drawn-s.V.drawn+i) q;grind
omit [Gl] in
def fP.det {s T Y:St}(U:fP af8 c s T)(z:fP af8 c s Y):T=Y:=by let⟨_,U⟩:=U;let⟨_,z⟩:=z;rw[U]at z;simp at z;let⟨e,e2,_⟩:=z;have Z:=congrArg b0 e;have e4:=congrArg bX e;simp only[G]at Z e4;let⟨a,b,d⟩:=T;simp_all
omit [Gl] in
def vP {s:St}(n:Ends af8 Q s):Edge s:=by let⟨o,v,⟨E,z,_⟩,_⟩:=n;exact⟨o,cQ,z⟩
theorem H.succ (Y:dV af8 af8 ok)(jp:∀f,ok.fn f->ok.aP f)(hQ:∀v w τ d,Q v w->Q v (re w τ d)){s s'}(hs:gj af8 ok s)(hH:H af8 c Q s)(h:xS af8 c s' s):H af8 c Q s'/\gj af8 ok s':=by
 let⟨τ,d,h⟩:=h;have uC:=hs.re τ d;let⟨k1,k2,k3⟩:=h.sh Y uC;have qA:=h.self Y jp uC;refine⟨λU Z=>?_,qA⟩;have aG:d<=s'.V.drawn:=k1;let T:Nat->a9->Nat:=λi q=>if i<s'.V.drawn then τ i q else U (Z+(i-s'.V.drawn)) q
 have hA:mN (s.re τ d).V.tape (s.re τ d).V.drawn T d (s'.V.drawn-(s.re τ d).V.drawn):=by intro i hi q;show τ (d+i) q=T (d+i) q;simp only[T];have qe:i<s'.V.drawn-d:=hi;rw[if_pos ab]
 have h2:=k3 T d hA;let⟨n,hn⟩:=hH T d;have e1:(s.re τ d).re T d=s.re T d:=rfl;rw[e1]at h2;cases n with|zero=>exact absurd (vP hn) (h2.inside Y<|hs.re T d)|succ n=>let⟨s2,g1,D⟩:=hn;have:=g1.det h2;subst this;refine⟨n,?_⟩;(have e2:d+(s'.V.drawn-(s.re τ d).V.drawn)=s'.V.drawn:=by show d+(s'.V.drawn-d)=_;omega);rw[e2]at D;have:=FD.shift Y jp hQ n (qA.re T s'.V.drawn) D U Z (λi q=>by show T (s'.V.drawn+i) q=U (Z+i) q;simp only[T];rw[if_neg ab];congr 1;omega);exact this
omit [Gl] in
def vJ {s:St}(h:¬Acc (xS af8 c) s):∃f:Nat->St,f 0=s/\∀n,xS af8 c (f<|n+1) (f n):=by (have step:∀s:{s:St //¬Acc (xS af8 c) s},∃T:{s:St //¬Acc (xS af8 c) s},xS af8 c T.1 s.1:=by intro ⟨s,hs⟩;apply agU;intro U;apply hs;refine⟨_,λy Y=>?_⟩;apply agU;intro Z;simp_all);let g:Nat->{s:St //¬Acc (xS af8 c) s}:=λn=>cc ⟨s,h⟩ (λ_ x=>(step x).choose) n;exact⟨λn=>(g n).1,rfl,λn=>(step<|g n).choose_spec⟩
omit [Gl] in
def G2 (D:Nat->Nat)(Z:∀n,D n<=D (n+1))(t:Nat->Nat->a9->Nat):∃T:Nat->a9->Nat,∀n j q,D n+j<D (n+1)->T (D n+j) q=t n j q:=by
 have o:∀n k,D n<=D (n+k):=by
  intro n k;induction k with
  |zero=>grind
  |succ k L=>grind
 have z:∀p,(∃n,p<D (n+1))->∃n,p<D (n+1)/\∀m,m<n->¬p<D (m+1):=by
  intro p ⟨n,hn⟩;induction n using Nat.strongRecOn with
  |ind n L=>
   grind
 classical
 refine⟨λp q=>if h:∃n,p<D (n+1)then t (z p h).choose (p-D (z p h).choose) q else 0,λn j q U=>?_⟩;have h:∃Y,D n+j<D (Y+1):=⟨n,U⟩;simp;have E:=(z (D n+j) h).choose_spec;have:(z (D n+j) h).choose=n:=by
  generalize (z (D n+j) h).choose=m at E;rcases Nat.lt_trichotomy m n with hl|rfl|hg
  .have h1:=E.1;have h2:=o (m+1)<|n-(m+1);grind
  .rfl
  grind
 grind
def Pd (Z:dV af8 af8 ok)(jp:∀f,ok.fn f->ok.aP f)(hQ:∀v w τ d,Q v w->Q v (re w τ d)){s}(hs:gj af8 ok s)(hH:H af8 c Q s):Acc (xS af8 c) s:=by
 apply agU;intro hn;let⟨f,f0,Y⟩:=vJ hn;have all:∀n,H af8 c Q (f n)/\gj af8 ok (f n):=by intro n;induction n with|zero=>grind|succ n ih=>grind [H.succ]
 let τ:Nat->Nat->a9->Nat:=λn=>(Y n).choose;let d:Nat->Nat:=λn=>(Y n).choose_spec.choose;have g:∀n,fP af8 c ((f n).re (τ n)<|d n) (f<|n+1):=λn=>(Y n).choose_spec.choose_spec;let D:Nat->Nat:=λn=>cc 0 (λn x=>x+((f<|n+1).V.drawn-d n)) n;have hD:∀n,D (n+1)=D n+((f<|n+1).V.drawn-d n):=λn=>rfl;let⟨T,hT⟩:=G2 D (λn=>cQ) λn j q=>τ n (d n+j) q;have go:∀n,fP af8 c ((f n).re T<|D n) ((f<|n+1).re T<|D<|n+1):=by intro n;let⟨_,_,k3⟩:=(g n).sh Z<|(all n).2.re (τ n)<|d n;have:=k3 T (D n) (λi hi q=>by show τ n (d n+i) q=T (D n+i) q;have qe:i<(f<|n+1).V.drawn-d n:=hi;rw[hT n i q cQ]);assumption
 have U:∀N n,¬FD af8 c Q N ((f n).re T<|D n):=by intro N;induction N with|zero=>intro n h;exact absurd (vP h) ((go n).inside Z<|(all n).2.re T<|D n)|succ N ih=>intro n h;let⟨s',h1,h2⟩:=h;have:=h1.det<|go n;grind
 let⟨N,hN⟩:=hH T 0;rw[<-f0]at hN;exact U N 0 hN
def H.step (Y:dV af8 af8 ok)(jp:∀f,ok.fn f->ok.aP f)(hQ:∀v w τ d,Q v w->Q v (re w τ d)){s}(hs:gj af8 ok s)(Z:H af8 c Q s)(τ:Nat->a9->Nat) d: (Edge s/\Ends af8 Q (s.re τ d))\/(¬Edge s/\∃s',fP af8 c (s.re τ d) s'/\xS af8 c s' s/\H af8 c Q s'/\gj af8 ok s'):=by let⟨n,U⟩:=Z τ d;cases n with|zero=>exact ac ⟨vP (s:=s.re τ d) U,U⟩|succ n=>let⟨s',T,_⟩:=U;exact ad ⟨λhe=>T.inside Y (hs.re τ d) he,s',T,⟨τ,d,T⟩,(H.succ Y jp hQ hs Z ⟨τ,d,T⟩)⟩
omit [Gl] in
def mF (h:au P true (G fr cs) w=.go (G fr2 cs2) w2 es):step P (lone fr cs w)=.next (lone fr2 cs2 w2):=by refine step_lone_go ?_;have:({frame:=fr,callers:=cs,status:=.running,dying:=none}:ao)=G fr cs:=rfl;rw[this,h];rfl
omit [Gl] in
def iD {o:Outcome}(h:au P true (G fr cs) w=.ended o w2 es):step P (lone fr cs w)=.ended o w2:=by refine step_lone_ended ?_;have:({frame:=fr,callers:=cs,status:=.running,dying:=none}:ao)=G fr cs:=rfl;simp_all
omit [Gl] in
def qI (h:lone fr cs w=lone fr2 cs2 w2):fr=fr2/\cs=cs2/\w=w2:=by simp_all [lone]
def Jm (hP:dV af8 af8 ok)(jp:∀f,ok.fn f->ok.aP f)(hF:kw af8 c){U wE v}(hl:U.leaving af8 wE (.returned v))(hq:Q v wE): ∀n {s:St},gj af8 ok s->runN af8 n (lone s.fr (s.cs++[c]) s.V)=.next (lone U [c] wE)->∃k,FD af8 c Q k s:=by intro n;induction n with|zero=>intro s hs h;simp[runN]at h;let⟨e1,Y,e3⟩:=qI h;(have Y:s.cs=[]:=by simp_all);refine⟨0,Y,v,?_,?_⟩;all_goals grind|succ n ih=>intro s hs h;let⟨ρ,h1,h2,h3,h4⟩:=hs;have hs:gj af8 ok s:=⟨ρ,h1,h2,h3,h4⟩;(have hk:(∃D N es,stepG af8 true (G s.fr<|s.cs++[c]) s.V=.go D N es)\/∃o w es,stepG af8 true (G s.fr<|s.cs++[c]) s.V=.ended o w es:=by cases aG:s.cs++[c]with|nil=>simp_all|cons a l=>exact(Ff hP h1 h4).1);simp[runN]at h;rcases hk with⟨D,N,es,T⟩|⟨o,w,es,T⟩;by_cases he:Edge s;exfalso;(have Z:∀fr2,D=G fr2 []->(∀w,∃o w' es,stepG af8 true (G fr2 []) w=.ended o w' es)->False:=by intro fr2 e lu;subst e;rw[mF T]at h;cases n with|zero=>simp[runN]at h;let⟨_,Y,_⟩:=qI h;grind|succ n=>let⟨o,w',iw,hh⟩:=lu N;simp only[runN,iD hh]at h;grind);rcases vO hP hs he T with⟨v,e⟩|⟨ch,e⟩;exact Z _ e<|hF.ret v;exact Z _ e<|hF.pan ch;let⟨s',e1,Y,h5⟩:=Dx hP jp hs he T;subst e1 Y;rw[mF T]at h;let⟨k,hk⟩:=ih h5 h;exact⟨k+1,s',⟨es,T⟩,hk⟩;rw[iD T]at h;grind
def IK (T:dV af8 af8 ok)(U:∀f,ok.fn f->ok.aP f)(hF:kw af8 c){f xs}(hs:gj af8 ok ⟨bM af8 f xs .normal,[],V⟩) (Y:∀τ d,Calls af8 f xs (re V τ d) λe w'=>∃v,e=.returned v/\Q v w'):H af8 c Q ⟨bM af8 f xs .normal,[],V⟩:=by intro τ d;obtain⟨e,w',fr,⟨v,rfl,hq⟩,⟨n,Z⟩,_,hl⟩:=Y τ d [c];exact Jm T U hF hl hq n (hs.re τ d) Z
structure lU (af8 P ok str c rb Q)(ρ:Ren)(s:St)(g W):Prop where
 at_:∃O cs',g=G O (cs'++rb)/\cV P ok ρ s.fr O/\je P ok ρ s.cs cs'
 bot:wM s.fr s.cs
 w:bw ok str ρ (re s.V W.tape W.drawn) W
 self:gj af8 ok s
 h:H af8 c Q s
 acc:Acc (xS af8 c) s
section
variable {rb:List a4}{ρ:Ren}{s:St}
def lU.rely (h:lU af8 P ok str c rb Q ρ s g W)(hk:∀b d,ρ b=some d->aj.heap[d]?=W.heap[d]?)(z:Gl.n<=aj):lU af8 P ok str c rb Q ρ s g aj:=by refine⟨h.at_,h.bot,⟨λb d hb=>?_,rfl,rfl,h.w.gV,z,h.w.gs⟩,h.self,h.h,h.acc⟩;let⟨o,T,U,Y,Z⟩:=h.w.heap b d hb;exact⟨o,T,U,(hk b d hb).trans Y,Z⟩
def lU.running (h:lU af8 P ok str c rb Q ρ s g W):g.status=.running:=by obtain⟨O,z,rfl,_⟩:=h.at_;rfl
def lU.step (fd:dV af8 af8 ok)(hP:dV af8 P ok)(jp:∀f,ok.fn f->ok.aP f)(hQ:∀v w τ d,Q v w->Q v (re w τ d))(m)(aG:rb=r0::rest)(h:lU af8 P ok str c rb Q ρ s g W): (∃σ v Y C W' es,au P m g W=.go (G (r0.finish Y) rest) W' es/\ar ok σ v Y/\Q v C/\bw ok str σ C W'/\Kept ρ (re s.V W.tape W.drawn) W σ C W'/\∀e∈es,pV σ (re s.V W.tape W.drawn) e)\/∃σ s' g' W' es,au P m g W=.go g' W' es/\xS af8 c s' s/\lU af8 P ok str c rb Q σ s' g' W'/\Kept ρ (re s.V W.tape W.drawn) W σ s'.V W'/\∀e∈es,pV σ (re s.V W.tape W.drawn) e:=by
 obtain⟨O,aZ,rfl,T,hc⟩:=h.at_;rcases h.h.step fd jp hQ h.self W.tape W.drawn with⟨he,hE⟩|⟨he,s',bl,QA,hH,qA⟩;left;obtain⟨e1,v,⟨l1,l2,l3,fn,l4,l5⟩,hq⟩:=hE;have e1:s.cs=[]:=e1;have l1:s.fr.mode=.returning:=l1;have l2:s.fr.defers=[]:=l2;have l5:(bk fn s.fr.tmps).run af8 (re s.V W.tape W.drawn)=.ok v _:=l5;have Fu:aZ=[]:=by rw[e1]at hc;cases hc;rfl
 subst Fu;have hd:O.defers=[]:=by have:=T.defers;rw[l2]at this;generalize O.defers=x at this;cases this;rfl
 have hm:O.mode=.returning:=by have:=T.mode;rw[l1]at this;generalize O.mode=x at this;cases this;rfl
 obtain⟨Z,l4,lr⟩:∃Z,P.funcs[O.fn]?=some Z/\Z.results=fn.results:=by obtain⟨F,cd,Zp,f1,f2,f3,_⟩:=hP.same _ T.aP;have U:af8.funcs[s.fr.fn]?=some fn:=l4;rw[f1]at U;exact⟨{F with body:=some Zp},by rw[T.fn];exact f2,by show F.results=fn.results;rw[agC U]⟩
 generalize hx:(bk fn s.fr.tmps).runT af8 (re s.V W.tape W.drawn) #[]=x;obtain⟨r,e⟩:=x;have hr:r=.ok v (re s.V W.tape W.drawn):=by have:=Sem.runT_fst af8 (bk fn s.fr.tmps) (re s.V W.tape W.drawn) #[];rw[hx,l5]at this;exact this
 subst hr;rcases(pI hP.tab fn T.tmps).sound #[] #[] h.w hx with dZ|⟨σ,r',C,W',d',h1,h2,h4,h5⟩;cases dZ;cases h2 with|@ok _ Y _ W' hv bq=>refine⟨σ,v,Y,_,W',a5 P O.fn d',?_,hv,hq,bq,h4,λx hx=>h5 x<|kM _ _ _ x hx⟩;rw[gr (by rw[hm];simp)];have hk:=T.eC.trans<|congrArg Prod.snd<|h.bot s.fr cQ;(have p6:∀t,bk Z t=bk fn t:=λt=>by simp[bk,lr]);obtain⟨ee,dw,gU,cZ,pT,eC,bp⟩:=O;subst hd hm hk aG;simp only[unwind,l4,p6,h1,doReturn,av];simp[G]
 right;obtain⟨es,IB⟩:=bl;have hl:s.cs=[]->s.fr.mode≠.run->s.fr.defers≠[]:=λa b d=>he ⟨a,b,d⟩;obtain⟨σ,D,W2,Eg,e,hg,hw,hk,oA⟩:=vr hP T hc h.bot h.w hl IB;have bs:∃fr2 cs2,D=G fr2 (cs2++rb)/\cV P ok σ s'.fr fr2/\je P ok σ s'.cs cs2/\wM s'.fr s'.cs:=by generalize hz:G s'.fr (s'.cs++[c])=z at hg;cases hg with|@inside fr fr2 cs cs2 a1 a2 a3=>have z1:=congrArg b0 hz;have z2:=congrArg bX hz;replace z2:=agS z2;subst z1 z2;exact⟨fr2,cs2,rfl,a1,a2,a3⟩|door a1 a2=>rw[jp _ a1]at a2;cases a2
 obtain⟨fr2,cs2,rfl,b1,b2,b3⟩:=bs;refine⟨σ,s',_,W2,Eg,e,QA,⟨⟨fr2,cs2,rfl,b1,b2⟩,b3,⟨hw.heap,rfl,rfl,hw.gV,hw.gW,hw.gs⟩,qA,hH,h.acc.inv QA⟩,hk,oA⟩
end
end
inductive Rk:Type
 |leaf
 |node (f:aa->Rk)
def Rk.lt (r:Rk):Rk->Prop
 |.leaf=>False
 |.node f=>∃w,r=f w
def Rk.wf:WellFounded Rk.lt:=⟨λr=>by
 induction r with
 |leaf=>exact⟨_,λy h=>h.elim⟩
 |node f T=>exact⟨_,λy ⟨w,e⟩=>e▸T w⟩⟩
structure aU (S:Nat->Prop)(W aj:aa):Prop where
 block:∀b,S b->aj.heap[b]?=W.heap[b]?
 size:(W:Nat)<=aj
 os:aj.os=W.os
 out:aj.output=W.output
def aU.refl (S W):aU S W W:=⟨λ_ _=>rfl,agw _,rfl,rfl⟩
def aU.trans {o}(h:aU S W aj)(n:aU S aj o):aU S W o:=⟨λb z=>(n.block b z).trans<|h.block b z,agz h.size n.size,n.os.trans h.os,n.out.trans h.out⟩
def aU.mono (h:aU S W aj)(l:∀b,A b->S b):aU A W aj:=⟨λb n=>h.block b<|l b n,h.size,h.os,h.out⟩
def grow (M:Nat->Prop)(W W':aa):Nat->Prop:=λb=>M b\/(W<=b/\b<W')
def Iw (X:aI->Prop)(M Ro:Nat->Prop)(e:aI):Prop:=
 (e.sync=false/\∃a,e.loc=.cell a/\(M a.block\/(Ro a.block/\e.write=false)))\/(e.sync=false/\∃r,e.loc=.obj r/\(M r\/(Ro r/\e.write=false)))\/(∃m,mute m/\e=⟨.mark m,false,true⟩)\/X e
structure fM (X)(M Ro:Nat->Prop)(W W':aa)(es:Array aI):Prop where
 keep:∀b,b<(W:Nat)->¬M b->W'.heap[b]?=W.heap[b]?
 size:(W:Nat)<=W'
 tape:W'.tape=W.tape
 os:W'.os=W.os
 out:W'.output=W.output
 ev:∀e∈es,Iw X (grow M W W') Ro e
section
variable (P:a7)(m:Bool)(I:aa->Prop)(X:aI->Prop)(Ro:Nat->Prop)
def PT (Stop:(Nat->Prop)->ao->aa->Prop):Rk->(Nat->Prop)->ao->aa->Prop
 |.leaf,M,g,W=>∀aj,aU (λb=>M b\/Ro b) W aj->I aj->Stop M g aj
 |.node f,M,g,W=>(∀aj,aU (λb=>M b\/Ro b) W aj->I aj->Stop M g aj)\/
   (g.status=.running/\∀aj,aU (λb=>M b\/Ro b) W aj->I aj->∃g' W' es,au P m g aj=.go g' W' es/\fM X M Ro aj W' es/\PT Stop (f aj) (grow M aj W') g' W')
def ET (Stop:(Nat->Prop)->ao->aa->Prop)(M:Nat->Prop)(g:ao)(W:aa):Prop:=∃r,PT P m I X Ro Stop r M g W
end
section
variable {I:aa->Prop}{Ro:Nat->Prop}{h:(Nat->Prop)->ao->aa->Prop}
def PT.rely {r}(h:PT P m I X Ro Stop r M g W)(k:aU (λb=>M b\/Ro b) W aj):PT P m I X Ro Stop r M g aj:=by cases r with|leaf=>exact λU T i=>h U (k.trans T) i|node f=>rcases h with h|⟨hs,h⟩;exact ac λU T i=>h U (k.trans T) i;exact ad ⟨hs,λU T i=>h U (k.trans T) i⟩
def ET.rely (h:ET P m I X Ro Stop M g W)(k:aU (λb=>M b\/Ro b) W aj):ET P m I X Ro Stop M g aj:=let⟨r,n⟩:=h;⟨r,n.rely k⟩
def ET.stop (h:∀aj,aU (λb=>M b\/Ro b) W aj->I aj->Stop M g aj):ET P m I X Ro Stop M g W:=⟨.leaf,h⟩
def ET.step (hs:g.status=.running)(h:∀aj,aU (λb=>M b\/Ro b) W aj->I aj->∃g' W' es,au P m g aj=.go g' W' es/\fM X M Ro aj W' es/\ET P m I X Ro Stop (grow M aj W') g' W'):ET P m I X Ro Stop M g W:=by
 classical
 have:∀aj,∃r,aU (λb=>M b\/Ro b) W aj->I aj->∃g' W' es,au P m g aj=.go g' W' es/\fM X M Ro aj W' es/\PT P m I X Ro Stop r (grow M aj W') g' W':=by
  intro aj;by_cases k:aU (λb=>M b\/Ro b) W aj
  .by_cases i:I aj
   .let⟨g',W',es,a,b,r,z⟩:=h aj k i;exact⟨r,λ_ _=>⟨g',W',es,a,b,z⟩⟩
   exact⟨.leaf,λ_ x=>absurd x i⟩
  exact⟨.leaf,λx=>absurd x k⟩
 exact⟨.node λaj=>(this aj).choose,ad ⟨hs,λaj k i=>(this aj).choose_spec k i⟩⟩
structure Bj (Sp M:Nat->Prop)(W:aa):Prop where
 own:∀b,Sp b->¬M b
 lt:∀b,Sp b->b<W
def Bj.grow {Sp}(h:Bj Sp M W)(z:(W:Nat)<=W'):Bj Sp (grow M W W') W':=
 ⟨λb n o=>o.elim (h.own b n) λx=>by have:=h.lt b n;omega,λb n=>by have:=h.lt b n;omega⟩
def Bj.rely {Sp}(h:Bj Sp M W)(o:(W:Nat)<=aj):Bj Sp M aj:=⟨h.own,λb n=>by have:=h.lt b n;omega⟩
def KZ (Sp:Nat->Prop)(I:aa->Prop):Prop:=∀W W',(∀b,Sp b->W'.heap[b]?=W.heap[b]?)->I W->I W'
def YO (x9:p:=by rcases hk.new b d hb with x|⟨_,x⟩;grind;exact .inr<|agz kr.size x):p:=x9
section
variable [Gl]
def ua (ρ:Ren)(V:aa)(M Ro:Nat->Prop):Prop:=∀b d,ρ b=some d->M d\/(Ro d/\Proofs.YthppgbjejomdiaaGreatDoor.Ro V b)
def Uh {ρ σ:Ren}(E:ua ρ V M Ro)(L:Kept ρ V W σ C W')(T:∀b d,σ b=some d->d<W')(U:pV σ V e):Iw X (grow M W W') Ro e:=by (have Y:∀b d,σ b=some d->grow M W W' d\/(Ro d/\Proofs.YthppgbjejomdiaaGreatDoor.Ro V b):=by intro b d z;rcases L.new b d z with h|⟨_,h⟩;rcases E b d h with h|h;exact ac<|ac h;grind;exact ac<|ad ⟨h,T b d z⟩);rcases U with⟨s,a,Z,o,r,w⟩|⟨s,r,r',o,h,n⟩|h;(.refine ac ⟨s,Z,o,?_⟩;rcases Y _ _ r.blk with x|⟨x,y⟩;all_goals grind);refine ad<|ac ⟨s,r',o,?_⟩;grind;exact ad<|ad<|ac h
def ua.step {ρ σ:Ren}(E:ua ρ V M Ro)(hk:Kept ρ V W σ C W')(L:∀b d,σ b=some d->d<W'):ua σ C (grow M W W') Ro:=by intro b d n;rcases hk.new b d n with h|⟨_,h⟩;rcases E b d h with x|⟨x,y⟩;exact ac<|ac x;let⟨cs,e,z⟩:=y;exact ad ⟨x,cs,e,by rw[(hk.ro b d h ⟨cs,e,z⟩).1];exact z⟩;exact ac<|ad ⟨h,L b d n⟩
def ua.Z_ {ρ σ:Ren}(E:ua ρ V M Ro)(hk:Kept ρ V W σ C W')(L:∀b d,σ b=some d->d<W')(he:∀e∈es,pV σ V e)(T:∀b d,ρ b=some d->Ro d->Proofs.YthppgbjejomdiaaGreatDoor.Ro V b->mP W W' d->W'.heap[d]?=W.heap[d]?):fM X M Ro W W' es:=by refine⟨λb U Y=>?_,hk.size,hk.tape,hk.os,hk.out,λe n=>Uh E hk L<|he e n⟩;by_cases h:∃x,ρ x=some b;let⟨x,n⟩:=h;rcases E x b n with y|⟨z,y⟩;grind;exact T x b n z y (hk.ro x b n y).2;exact hk.keep b U λx n=>h ⟨x,n⟩
def Ld {ρ σ:Ren}(h:bw ok false ρ V W)(T:bw ok false σ C W')(l:ρ.le σ) b d (hb:ρ b=some d)(U:Proofs.YthppgbjejomdiaaGreatDoor.Ro V b)(e:mP W W' d):W'.heap[d]?=W.heap[d]?:=by replace e:=e.1;let⟨o,o',z,Y,Z⟩:=h.heap b d hb;let⟨p,p',g1,D,g3⟩:=T.heap b d<|l _ _ hb;let⟨c,el,hc⟩:=U;rw[hc]at z;obtain rfl:=agC z;unfold bare at e;rw[Y,D]at e⊢;cases Z with|cells _ hz=>cases g3 with|cells _ hy=>simp[aaQ]at hz hy e⊢;grind|_=>cases e
def ET.call (fd:dV af8 af8 ok)(hP:dV af8 P ok)(jp:∀f,ok.fn f->ok.aP f)(hQ:∀v w τ d,Q v w->Q v (re w τ d)){ρ:Ren}{s} (Nk:∀{σ:Ren} {v v':aL} {C W':aa} {M':Nat->Prop},ar ok σ v v'->Q v C->bw ok false σ C W'->ua σ C M' Ro->(∀b,M b->M' b)->aU Ro W W'->aU (λb=>M b/\∀x,ρ x≠some b) W W'->(∀b d,ρ b=some d->σ b=some d)->(∀b d,σ b=some d->ρ b=some d\/W<=d)->I W'->(∀b,M' b->b<W')->(∀b,M' b->M b\/W<=b)->ET P m I X Ro Stop M' (G (r0.finish v') rest) W') {Sp}(hI:KZ Sp I)(tV:∀b,Ro b->Sp b)(hN:Bj Sp M W)(Z:∀b,M b->b<W)(hi:I W) (h:lU af8 P ok false c (r0::rest) Q ρ s g W)(hh:ua ρ (re s.V W.tape W.drawn) M Ro):ET P m I X Ro Stop M g W:=by
 have aZ:∀(s:St) (_:Acc (xS af8 c) s) {T:Ren} {g:ao} {U:aa} {M':Nat->Prop},lU af8 P ok false c (r0::rest) Q T s g U->ua T (re s.V U.tape U.drawn) M' Ro->Bj Sp M' U->I U->
   (∀b,M b->M' b)->aU Ro W U->aU (λb=>M b/\∀x,ρ x≠some b) W U->(∀b d,ρ b=some d->T b=some d)->(∀b d,T b=some d->ρ b=some d\/(W:Nat)<=d)->(∀b,M' b->b<U)->(∀b,M' b->M b\/(W:Nat)<=b)->ET P m I X Ro Stop M' g U:=by
  intro s Qd;induction Qd with
  |intro s _ ih=>
   intro T g U M' h hh hN hi hM k1 k2 le new H_ nw;refine ET.step h.running λaj k qF=>?_
   have Lt:ua T (re s.V aj.tape aj.drawn) M' Ro:=hh;have ut:=hN.rely k.size;have kr:=k1.trans<|k.mono λb hb=>ad hb;have km:=k2.trans<|k.mono λb hb=>ac<|hM b hb.1;have Ye:∀{W':aa},(aj:Nat)<=(W':Nat)->∀b,grow M' aj W' b->b<W':=λhz b hb=>hb.elim (λx=>agx (agx (H_ b x) k.size) hz) And.right
   have Yf:∀{W':aa},∀b,grow M' aj W' b->M b\/(W:Nat)<=b:=λb hb=>hb.elim (nw b) λx=>ad<|agz kr.size x.1
   have Rh:∀b,b<(W:Nat)->(∀x,ρ x≠some b)->∀x,T x≠some b:=by
    grind
   have hr:=h.rely (λb d hb=>k.block d<|(hh b d hb).imp id And.left)<|agz h.w.gW k.size;rcases hr.step fd hP jp hQ m rfl with⟨σ,v,v',C,W',es,e1,hv,hq,hw,hk,oA⟩|⟨σ,s',g',W',es,e1,QA,h2,hk,oA⟩
   .have aG:∀b d,σ b=some d->d<W':=λb d hb=>(hw.lt hb).2
    have Y:=Lt.Z_ (X:=X) hk aG oA λb d hb _=>Ld hr.w hw hk.le b d hb
    refine⟨_,W',es,e1,Y,Nk hv hq hw (Lt.step hk aG) (λb hb=>ac<|hM b hb) (kr.trans<|⟨λb hb=>Y.keep b (ut.lt b<|tV b hb)<|ut.own b<|tV b hb,hk.size,hk.os,hk.out⟩) (km.trans<|⟨λb hb=>hk.keep b (agx (Z b hb.1) kr.size)<|Rh b (Z b hb.1) hb.2,hk.size,hk.os,hk.out⟩) (λb d hb=>hk.le _ _<|le _ _ hb) (λb d hb=>?_) (hI aj W' (λx hx=>Y.keep x (ut.lt x hx)<|ut.own x hx) qF) (Ye hk.size) Yf⟩;exact YO
   have aG:∀b d,σ b=some d->d<W':=λb d hb=>(h2.w.lt hb).2
   have Y:=Lt.Z_ (X:=X) hk aG oA λb d hb _=>Ld hr.w h2.w hk.le b d hb
   refine⟨g',W',es,e1,Y,ih s' QA h2 (show ua σ s'.V (grow M' aj W') Ro from Lt.step hk aG) (ut.grow hk.size) (hI aj W' (λx hx=>Y.keep x (ut.lt x hx)<|ut.own x hx) qF) (λb hb=>ac<|hM b hb) (kr.trans<|⟨λb hb=>Y.keep b (ut.lt b<|tV b hb)<|ut.own b<|tV b hb,hk.size,hk.os,hk.out⟩) (km.trans<|⟨λb hb=>hk.keep b (agx (Z b hb.1) kr.size)<|Rh b (Z b hb.1) hb.2,hk.size,hk.os,hk.out⟩) (λb d hb=>hk.le _ _<|le _ _ hb) (λb d hb=>?_) (Ye hk.size) Yf⟩;exact YO
 exact aZ s h.acc h hh hN hi (λ_ h=>h) (aU.refl _ _) (aU.refl _ _) (λ_ _ h=>h) (λ_ _ h=>ac h) Z λ_ h=>ac h
end
end
section
open ConcN (CT Apart Ok0 OkW RelBy PermW sumTo upd)
open ConcR (stA)
def RkN (n:Nat)(f g:Nat->Rk):Prop:=∃i,i<n/\Rk.lt (f i) (g i)/\∀j,j≠i->f j=g j
def RkN.wf n:WellFounded (RkN n):=by induction n with|zero=>exact⟨λg=>⟨_,λf ⟨i,h,_⟩=>absurd h ab⟩⟩|succ n ih=>(have T:∀r:Rk,Acc Rk.lt r->∀g:Nat->Rk,Acc (RkN n) g->g n=r->Acc (RkN<|n+1) g:=by intro r hr;induction hr with|intro r _ U=>intro g hg;induction hg with|intro g _ Y=>refine λe=>⟨_,λf ⟨i,hi,Z,hs⟩=>?_⟩;by_cases h:i=n;subst h;rw[e]at Z;exact U _ Z f (ih.apply f) rfl;exact Y f ⟨i,ab,Z,hs⟩<|(hs n ab).trans e);exact⟨λg=>T _ (Rk.wf.apply _) g (ih.apply g) rfl⟩
def Rk.nat:Nat->Rk
 |0=>.leaf
 |n+1=>.node λ_=>Rk.nat n
def Rk.nat_lt n (w:aa):Rk.lt (Rk.nat n) (Rk.nat<|n+1):=⟨w,rfl⟩
section
variable {Sh:Loc->Prop}{Own Rd:Nat->Loc->Prop}
def rr (t:a8)(l:Loc):Prop:=∀i a,bb t i=some a->a.loc≠l
def CT.grow (h:CT Sh Own Rd t j)(T:∀k l,1<=k->k<=j->v k l->Own k l\/rr t l)(U:∀k l,1<=k->k<=j->y k l->Rd k l\/rr t l)(lo:∀k l,1<=k->k<=j->Own k l->v k l)(Y:∀k l,1<=k->k<=j->Rd k l->y k l):CT Sh v y t j:=
 ⟨h.quiet,λk n o l z=>(T k l n o z).elim (h.own k n o l) λx i a E e=>absurd e<|x i a E,λk n o l z=>(U k l n o z).elim (h.rd k n o l) λx i a E e=>absurd e<|x i a E,
  λl L z=>h.free l L λk n o=>⟨λx=>(z k n o).1<|lo k l n o x,λx=>(z k n o).2<|Y k l n o x⟩,λl L z=>h.mine l L λk n o x=>z k n o<|lo k l n o x,h.nr,h.gs⟩
def nq (h:∀i a,bb t i=some a->a.loc.low B)(n:¬l.low B):rr t l:=λi a o e=>n<|e▸h i a o
variable (ay:Loc->Prop)(Sh:Loc->Prop)(Own Rd:Nat->Loc->Prop)(Wg J jB K B:Nat)
structure Tr (t):Prop where
 ct:CT Sh Own Rd t K
 old:∀i (op:bm),t[i]?=some op->op.g<J->∀a,op.act.touch?=some a->Knows t 0 i\/(ay a.loc/\a.kind=.atomic)
 over:∀i g,t.g? i=some g->g≠0->g<J->t.counts i->∃q,t.g? q=some 0/\bO t i q
 mem:∀i a,bb t i=some a->a.loc.isMemory
 seen:∀i a,bb t i=some a->a.loc.low B
 t0:jB<=t.size
 GU:∀i,jB<=i->t.act? i≠some (.mark<|.release<|stA Wg)
 born:∀i (op:bm),t[i]?=some op->J<=op.g->jB<=i
 atom:∀(i:Nat) (op:bm),t[i]?=some op->J<=op.g->∀a,op.act.touch?=some a->a.kind=.atomic->Sh a.loc
structure FG (op:bm):Prop where
 mem:∀a,op.act.touch?=some a->a.loc.isMemory
 low:∀a,op.act.touch?=some a->a.loc.low B
 GU:op.act≠.mark (.release<|stA Wg)
 atom:J<=op.g->∀a,op.act.touch?=some a->a.kind=.atomic->Sh a.loc
end
section
variable {Sh:Loc->Prop}{Own Rd:Nat->Loc->Prop}{Wg J jB:Nat}
def Tr.mono {n}(h:Tr ay Sh Own Rd Wg J jB K B t)(o:B<=n):Tr ay Sh Own Rd Wg J jB K n t:=
 ⟨h.ct,h.old,h.over,h.mem,λi a z=>Loc.low_mono o<|h.seen i a z,h.t0,h.GU,h.born,h.atom⟩
def Tr.TQ {K'}(h:Tr ay Sh Own Rd Wg J jB K B t)(hc:CT Sh Own Rd (t++u) K')(hu:∀n∈u,FG Sh Wg J B n)(ho:∀n∈u,n.g<J->n.g=0\/n.act.touch?=none):Tr ay Sh Own Rd Wg J jB K' B (t++u):=by refine⟨hc,λi n L E a T=>?_,λi g E h0 hJ aP=>?_,λi a T=>?_,λi a T=>?_,by have:=h.t0;simp;omega,λi L e=>?_,λi n L E=>?_,λi n L E a T hk=>?_⟩;rcases getElem?_append_cases L with⟨_,qe⟩|⟨_,U⟩;exact(h.old i n qe E a T).imp (·.app u) id;rcases ho n U E with e|e;have:=knows_own L;grind;grind;let⟨n,Y,aZ⟩:=agP.1 E;rcases getElem?_append_cases Y with⟨aG,BK⟩|⟨_,Z⟩;let⟨q,hq,hb⟩:=h.over i g (by grind [g?_old]) h0 hJ<|(counts_old aG).1 aP;(have a1:q<t.size:=by let⟨z,hz,_⟩:=agP.1 hq;grind);exact⟨q,by grind [g?_old],hb_app u hb⟩;rcases ho n Z ab with e|e;omega;let⟨x,hx,_⟩:=aP;grind [Trace.act?];let⟨n,Y,Qs⟩:=touch_of T;rcases getElem?_append_cases Y with⟨_,BK⟩|⟨_,Z⟩;exact h.mem i a (by grind [touchAt_of]);exact(hu n Z).mem a Qs;let⟨n,Y,Qs⟩:=touch_of T;rcases getElem?_append_cases Y with⟨_,BK⟩|⟨_,Z⟩;exact h.seen i a (by grind [touchAt_of]);exact(hu n Z).low a Qs;let⟨n,Y,Qs⟩:=agP.1 e;rcases getElem?_append_cases Y with⟨_,BK⟩|⟨_,Z⟩;exact h.GU i L (by grind [act?_of]);exact(hu n Z).GU Qs;rcases getElem?_append_cases L with⟨_,qe⟩|⟨uy,_⟩;exact h.born i n qe E;exact agz h.t0 uy;rcases getElem?_append_cases L with⟨_,qe⟩|⟨_,U⟩;exact h.atom i n qe E a T hk;exact(hu n U).atom E a T hk
def Tr.grow (h:Tr ay Sh Own Rd Wg J jB K B t)(z:∀k l,1<=k->k<=K->v k l->Own k l\/¬l.low B)(E:∀k l,1<=k->k<=K->y k l->Rd k l\/¬l.low B)(L:∀k l,1<=k->k<=K->Own k l->v k l)(T:∀k l,1<=k->k<=K->Rd k l->y k l):Tr ay Sh v y Wg J jB K B t:=
 ⟨CT.grow h.ct (λk l n o x=>(z k l n o x).imp id<|nq h.seen) (λk l n o x=>(E k l n o x).imp id<|nq h.seen) L T,h.old,h.over,h.mem,h.seen,h.t0,h.GU,h.born,h.atom⟩
def Tr.app0 (A:Apart Sh Own Rd)(h:Tr ay Sh Own Rd Wg J jB K B t)(o:∀n∈u,Ok0 Sh Own Rd K n)(z:∀n∈u,FG Sh Wg J B n):Tr ay Sh Own Rd Wg J jB K B (t++u):=
 h.TQ (h.ct.app0 A o) z λn E _=>ac (o n E).1
def Tr.appW (A:Apart Sh Own Rd)(h:Tr ay Sh Own Rd Wg J jB K B t)(T:J<=k)(z:k<=K)(U:1<=J)(o:∀n∈u,OkW Sh Own Rd k n)(E:∀n∈u,FG Sh Wg J B n):Tr ay Sh Own Rd Wg J jB K B (t++u):=
 h.TQ (h.ct.appW A ab z o) E λn L Y=>by have:=(o n L).1;omega
def Tr.Pf (A:Apart Sh Own Rd)(h:Tr ay Sh Own Rd Wg J jB K B t)(E:1<=k)(L:k<=K)(T:∀n∈u,n.g=k)(U:∀n∈u,n.act.touch?=none)(Y:∀n∈u,n.act≠.mark (.release<|stA Wg)):Tr ay Sh Own Rd Wg J jB K B (t++u):=
 h.TQ (h.ct.appW A E L λn o=>⟨T n o,λx Z=>f7⟩) (λn o=>⟨λa z=>f7,λa z=>f7,Y n o,λ_ a z=>f7⟩) λn o _=>ad<|U n o
def Tr.fork (A:Apart Sh Own Rd)(h:Tr ay Sh Own Rd Wg J jB K B t){x y}(Y:x.g=0/\x.act=.go (K+1))(U:y.g=K+1/\y.act=.start)(h0:az t 0=0):Tr ay Sh Own Rd Wg J jB (K+1) B (t++#[x,y]):=by have hm:∀T∈#[x,y],T=x\/T=y:=λT Z=>cQ;refine h.TQ (h.ct.fork A Y U h0) (λT Z=>?_) λT Z hg=>?_;rcases hm T Z with rfl|rfl;exact⟨λa z=>(by rw[Y.2]at z;cases z),λa z=>(by rw[Y.2]at z;cases z),cQ,λ_ a z=>(by rw[Y.2]at z;cases z)⟩;exact⟨λa z=>(by rw[U.2]at z;cases z),λa z=>(by rw[U.2]at z;cases z),cQ,λ_ a z=>(by rw[U.2]at z;cases z)⟩;rcases hm T Z with rfl|rfl;omega;exact ad (by rw[U.2];rfl)
structure mO (ay:Loc->Prop) B (t):Prop where
 clean:∀said,¬Race said t
 known:∀i a,bb t i=some a->Knows t 0 i\/(ay a.loc/\a.kind=.atomic)
 over:t.HandedOver
 hears:az t 0=0
 seen:∀i a,bb t i=some a->a.loc.low B
 quiet:Quiet ay t
 mem:∀i a,bb t i=some a->a.loc.isMemory
def mO.tr (h:mO ay B t)(hs:∀l,Sh l->ay l\/rr t l)(ls:∀l,ay l->Sh l)(E:∀(i:Nat) (n:bm),t[i]?=some n->n.g<J)(hJ:K+1=J)(U:∀k l,k<J->¬Own k l/\¬Rd k l):Tr ay Sh Own Rd Wg J t.size K B t:=by have Y:∀l,¬Sh l->Perm t 0 l:=λl o i a Z e=>(h.known i a Z).resolve_right λx=>o<|ls l<|e▸x.1;refine⟨⟨λi n x z hx L=>?_,λk _ kK l o=>absurd o (U k l ab).1,λk _ kK l o=>absurd o (U k l ab).2,λl o _=>Y l o,λl o _=>.of<|Y l o,h.clean,λi n z=>f7⟩,λi n z _ a Z=>h.known i a<|by grind [ce],λi g T h0 _ hc=>h.over i g T h0 hc,h.mem,h.seen,agw _,λi z e=>?_,λi n z T=>absurd (E i n z) ab,λi n z T=>absurd (E i n z) ab⟩;exact(hs _ L).elim (λe=>h.quiet i n x z hx e) λe=>absurd rfl (e i x<|by grind [ce]);have:=lt_of_act? e;omega
def Tr.past (h:Tr ay Sh Own Rd Wg J jB K B t)(ls:∀l,ay l->Sh l){q}(hq:t.act? q=some (.mark<|.acquire<|stA Wg))(hg:t.g? q=some 0)(hh:t.heard q)(all:∀k,J<=k->k<=K->∃r,RelBy (stA Wg) t k r/\r<q)(hd:az t 0=0):mO Sh B t:=by
 have Z:∀i k,J<=k->t.g? i=some k->t.counts i->∃q,t.g? q=some 0/\bO t i q:=by intro i k hJ hk L;let⟨n,ho,aP⟩:=agP.1 hk;let⟨r,T,aZ⟩:=all k hJ<|aP▸h.ct.gs i n ho;let⟨or,a1,bp⟩:=agP.1 T.g;have eU:=h.born r or a1 ab;have ed:bO t r q:=.single<|ad ⟨.marked aZ (ad T.act) hq λk hk _=>h.GU k ab,T.heard,hh⟩;have bq:=Nat.le_of_not_lt λE=>T.after i E hk L;rcases agE i r with E|Y;exact⟨q,hg,.trans (.single<|ac ⟨E,k,hk,T.g⟩) ed⟩;grind
 refine⟨h.ct.nr,λi a ha=>?_,λi g a2 h0 L=>?_,hd,h.seen,h.ct.quiet,h.mem⟩;let⟨n,ho,Qs⟩:=touch_of ha;rcases agE n.g J with E|Y;exact(h.old i n ho E a Qs).imp id λx=>⟨ls _ x.1,x.2⟩;have hk:t.g? i=some n.g:=by grind [Trace.g?]
 by_cases L:t.counts i;let⟨p,hp,hb⟩:=Z i n.g Y hk L;let⟨z,hz,a3⟩:=agP.1 hp;exact ac ⟨p,z,hz,a3,ad hb⟩;have U:=agU λbl=>L ⟨a,ha,h.mem i a ha,ac bl⟩;exact ad ⟨h.atom i n ho Y a Qs U,U⟩;rcases agE g J with E|Y;exact h.over i g a2 h0 E L;grind
end
end
section
open ConcN (CT Apart Ok0 OkW RelBy PermW sumTo upd WgLive RW DWs AtR0 WSit CTag WD Mode Vc pend phi PayAt Has)
open ConcR (stA smA WgAt KK rd wr mk)
structure Ph where
 P:a7
 ty:TypeId
 Wg:Nat
 tk:Addr
 Bs:Nat
 bty:TypeId
 wd:Nat
 n:Nat
 L:Nat
 J:Nat
 jB:Nat
 Ze:List Nat->List aL->(Nat->Prop)->aa->Prop
 pl:ConcR.Payload
namespace Ph
variable (p:Ph)
def Sp (b:Nat):Prop:=b=p.Wg\/b=p.tk.block\/b=p.Bs
def kC (w:aa)(x:Nat):Prop:=w.cell? p.tk=some (ax .i64 x)/\w.frozen? p.tk=false
def rX (cs:Array aL)(w:aa):Prop:=w.heap[p.Bs]?=some (.cells cs p.bty)/\cs.size=p.n*p.wd
def I (w:aa):Prop:=WgLive p.ty p.Wg w/\(∃x,p.kC w x)/\∃cs,p.rX cs w
def Vi:KZ p.Sp p.I:=by rintro w w' h ⟨⟨n,o,z⟩,⟨x,Y,E⟩,cs,L,T⟩;have U:=h p.tk.block<|ad<|ac rfl;exact⟨⟨n,o,(h p.Wg<|ac rfl).trans z⟩,⟨x,by grind [bt],by simpa[br,U]using E⟩,cs,(h p.Bs<|ad<|ad rfl).trans L,T⟩
structure aaT k (vs:List aL)(w w':aa):Prop where
 size:w'=(w:Nat)
 tape:w'.tape=w.tape
 os:w'.os=w.os
 out:w'.output=w.output
 block:∀b,b≠p.Bs->w'.heap[b]?=w.heap[b]?
 len:vs.length=p.wd
 put:∀cs,p.rX cs w->∃cs',p.rX cs' w'/\∀o,cs'[o]?=if k*p.wd<=o/\o<(k+1)*p.wd then vs[o-k*p.wd]? else cs[o]?
def Slot (k:Nat)(n:List aL)(w:aa):Prop:=n.length=p.wd/\∀cs,p.rX cs w->∀o,o<p.wd->cs[k*p.wd+o]?=n[o]?
def oD (_:aI):Prop:=False
def dO (e:aI):Prop:=∃a,a.block=p.Wg/\(e=⟨.mark<|.read a,false,true⟩\/e=⟨.mark<|.write a,false,true⟩)
section
variable (k:Nat)(Ro:Nat->Prop)
def Cq (seq:List Nat)(M:Nat->Prop)(g:ao)(W:aa):Prop:=
 g.status=.running/\((∃cs,p.rX cs W)->∃g' W' es T,au p.P false g W=.go g' W' es/\p.aaT k T W W'/\(∀e∈es,e.sync=false/\∃a,e.loc=.cell a/\a.block=p.Bs/\k*p.wd<=a.off/\a.off<(k+1)*p.wd)/\
  ∃z C c v m,p.Ze seq T z W'/\(∀b,z b->M b)/\M C/\¬z C/\@Goes p.P false (@RW p.pl p.ty p.Wg C c 0 0) (@DWs p.pl p.Wg (λ_ _=>False) (λ_ _=>False) C c 1) (@AtR0 p.pl p.P p.ty p.Wg C c 0 1 v) m g' W')
def ll:Nat->Nat->List Nat->(Nat->Prop)->ao->aa->Prop
 |0,T,seq=>λM g W=>g.status=.running/\∀x,T<=x->x<4611686018427387904->p.kC W x->p.L<=x/\
   ∃g',au p.P false g W=.go g' (W.setCell p.tk<|ax .i64<|x+1) #[rd p.tk,wr p.tk]/\ET p.P false p.I oD Ro (Cq p k seq) M g' (W.setCell p.tk<|ax .i64<|x+1)
 |f+1,T,seq=>λM g W=>g.status=.running/\∀x,T<=x->x<4611686018427387904->p.kC W x->
   ∃g',au p.P false g W=.go g' (W.setCell p.tk<|ax .i64<|x+1) #[rd p.tk,wr p.tk]/\
    (p.L<=x->ET p.P false p.I oD Ro (Cq p k seq) M g' (W.setCell p.tk<|ax .i64<|x+1))/\(x<p.L->ET p.P false p.I oD Ro (ll f (x+1)<|seq++[x]) M g' (W.setCell p.tk<|ax .i64<|x+1))
end
section
variable (Fin:(Nat->Prop)->(Nat->Prop)->ao->aa->Prop)(Anch:(Nat->Prop)->(Nat->Prop)->ao->aa->Prop)(Ro:Nat->Prop)
def AtAcq (M:Nat->Prop)(g:ao)(W:aa):Prop:=g.status=.running/\∃g',au p.P true g W=.go g' W #[bo<|.acquire<|stA p.Wg]/\Fin Ro M g' W
def AtKe (M:Nat->Prop)(g:ao)(W:aa):Prop:=g.status=.running/\∃g',au p.P true g W=.go g' W #[bo .enable]/\ET p.P true p.I p.dO Ro (p.AtAcq Fin Ro) M g' W
def AtW4 (M:Nat->Prop)(g:ao)(W:aa):Prop:=g.status=.running/\(WgAt p.ty p.Wg W 0 0->∃g',au p.P true g W=.go g' W #[rd<|stA p.Wg]/\ET p.P true p.I p.dO Ro (p.AtKe Fin Ro) M g' W)
def AtW3 (M:Nat->Prop)(g:ao)(W:aa):Prop:=
 g.status=.running/\g.offers=none/\((∃z,WgAt p.ty p.Wg W z 0)->au p.P true g W=.go {g with status:=.blocked} W #[])/\
  (WgAt p.ty p.Wg W 0 1->∃g',au p.P true g W=.go g' (W.setCell (smA p.Wg)<|ax .u32 0) (semEvents<|smA p.Wg)/\ET p.P true p.I p.dO Ro (p.AtW4 Fin Ro) M g' (W.setCell (smA p.Wg)<|ax .u32 0))
def AtW2 (z:Nat)(M:Nat->Prop)(g:ao)(W:aa):Prop:=
 g.status=.running/\∀v:Nat,v<2147483648->WgAt p.ty p.Wg W (v*KK) 0->
  (v=z->∃g',au p.P true g W=.go g' (W.setCell (stA p.Wg)<|ax .u64<|v*KK+1) #[rd<|stA p.Wg,wr<|stA p.Wg]/\ET p.P true p.I p.dO Ro (p.AtW3 Fin Ro) M g' (W.setCell (stA p.Wg)<|ax .u64<|v*KK+1))/\
  (v≠z->∃g',au p.P true g W=.go g' W #[rd<|stA p.Wg]/\ET p.P true p.I p.dO Ro (Anch Ro) M g' W)
def AtW1 (M:Nat->Prop)(g:ao)(W:aa):Prop:=
 g.status=.running/\∀v:Nat,v<2147483648->WgAt p.ty p.Wg W (v*KK) 0->∃g',au p.P true g W=.go g' W #[rd<|stA p.Wg]/\
  (v=0->ET p.P true p.I p.dO Ro (p.AtKe Fin Ro) M g' W)/\(v≠0->ET p.P true p.I p.dO Ro (p.AtW2 Fin Anch Ro v) M g' W)
def AtKd (M:Nat->Prop)(g:ao)(W:aa):Prop:=g.status=.running/\∃g',au p.P true g W=.go g' W #[bo .disable]/\ET p.P true p.I p.dO Ro (Anch Ro) M g' W
variable (k:Nat)(be:(Nat->Prop)->(Nat->Prop)->ao->aa->Prop)
def AtGo (M:Nat->Prop)(g:ao)(W:aa):Prop:=
 g.status=.running/\∃g' n o,au p.P true g W=.spawn g' n W #[]/\n.status=.running/\(∀b,Ro b->o b)/\(∀b,o b->Ro b\/M b)/\
  ET p.P false p.I oD o (p.ll k o p.L 0 []) (λ_=>False) n W/\be o (λb=>M b/\¬o b) g' W
def AtKeS (M:Nat->Prop)(g:ao)(W:aa):Prop:=g.status=.running/\∃g',au p.P true g W=.go g' W #[bo .enable]/\ET p.P true p.I p.dO Ro (p.AtGo Ro k be) M g' W
def AtA1 (M:Nat->Prop)(g:ao)(W:aa):Prop:=
 g.status=.running/\∀v:Nat,v<2147483647->WgAt p.ty p.Wg W (v*KK) 0->
  ∃g',au p.P true g W=.go g' (W.setCell (stA p.Wg)<|ax .u64<|(v+1)*KK) #[rd<|stA p.Wg,wr<|stA p.Wg]/\ET p.P true p.I p.dO Ro (p.AtKeS Ro k be) M g' (W.setCell (stA p.Wg)<|ax .u64<|(v+1)*KK)
def AtKdS (M:Nat->Prop)(g:ao)(W:aa):Prop:=g.status=.running/\∃g',au p.P true g W=.go g' W #[bo .disable]/\ET p.P true p.I p.dO Ro (p.AtA1 Ro k be) M g' W
end
section
variable (Fin:(Nat->Prop)->(Nat->Prop)->ao->aa->Prop)(Anch:(Nat->Prop)->(Nat->Prop)->ao->aa->Prop)
def Spawns:Nat->(Nat->Prop)->(Nat->Prop)->ao->aa->Prop
 |0,Ro=>λM g W=>ET p.P true p.I p.dO Ro (p.AtKd Anch Ro) M g W
 |r+1,Ro=>λM g W=>ET p.P true p.I p.dO Ro (p.AtKdS Ro (p.n-(r+1))<|Spawns r) M g W
inductive gX:CTag->Nat->Rk->Nat->Nat->(Nat->Prop)->(Nat->Prop)->ao->aa->Prop
 |skd {r:Nat} {ρ:Rk} {Ro M:Nat->Prop} {g:ao} {w:aa}:r<p.n->PT p.P true p.I p.dO Ro (p.AtKdS Ro (p.n-(r+1))<|p.Spawns Anch r) ρ M g w->gX (.sp r 5) (p.n-(r+1)) ρ 0 0 Ro M g w
 |sa1 {r:Nat} {ρ:Rk} {Ro M:Nat->Prop} {g:ao} {w:aa}:r<p.n->PT p.P true p.I p.dO Ro (p.AtA1 Ro (p.n-(r+1))<|p.Spawns Anch r) ρ M g w->gX (.sp r 4) (p.n-(r+1)) ρ 0 1 Ro M g w
 |ske {r:Nat} {ρ:Rk} {Ro M:Nat->Prop} {g:ao} {w:aa}:r<p.n->PT p.P true p.I p.dO Ro (p.AtKeS Ro (p.n-(r+1))<|p.Spawns Anch r) ρ M g w->gX (.sp r 3) (p.n-(r+1)) ρ 0 1 Ro M g w
 |sgo {r:Nat} {ρ:Rk} {Ro M:Nat->Prop} {g:ao} {w:aa}:r<p.n->PT p.P true p.I p.dO Ro (p.AtGo Ro (p.n-(r+1))<|p.Spawns Anch r) ρ M g w->gX (.sp r 2) (p.n-(r+1)) ρ 0 0 Ro M g w
 |kd {ρ:Rk} {Ro M:Nat->Prop} {g:ao} {w:aa}:PT p.P true p.I p.dO Ro (p.AtKd Anch Ro) ρ M g w->gX .kd p.n ρ 0 0 Ro M g w
 |anch {ρ:Rk} {Ro M:Nat->Prop} {g:ao} {w:aa}:PT p.P true p.I p.dO Ro (Anch Ro) ρ M g w->gX .anch p.n ρ 0 1 Ro M g w
 |w1 {ρ:Rk} {Ro M:Nat->Prop} {g:ao} {w:aa}:PT p.P true p.I p.dO Ro (p.AtW1 Fin Anch Ro) ρ M g w->gX .w1 p.n ρ 0 1 Ro M g w
 |w2 {vs:Nat} {ρ:Rk} {Ro M:Nat->Prop} {g:ao} {w:aa}:PT p.P true p.I p.dO Ro (p.AtW2 Fin Anch Ro vs) ρ M g w->gX (.w2 vs) p.n ρ 0 1 Ro M g w
 |w3 {ρ:Rk} {Ro M:Nat->Prop} {g:ao} {w:aa}:PT p.P true p.I p.dO Ro (p.AtW3 Fin Ro) ρ M g w->gX .w3 p.n ρ 1 1 Ro M g w
 |blk {ρ:Rk} {Ro M:Nat->Prop} {g:ao} {w:aa}:g.status=.running->g.offers=none->PT p.P true p.I p.dO Ro (p.AtW3 Fin Ro) ρ M g w->(∀q,aU (λb=>M b\/Ro b) w q->p.I q->p.AtW3 Fin Ro M g q)->gX .blk p.n ρ 0 1 Ro M {g with status:=.blocked} w
 |w4 {ρ:Rk} {Ro M:Nat->Prop} {g:ao} {w:aa}:PT p.P true p.I p.dO Ro (p.AtW4 Fin Ro) ρ M g w->gX .w4 p.n ρ 0 1 Ro M g w
 |ke {ρ:Rk} {Ro M:Nat->Prop} {g:ao} {w:aa}:PT p.P true p.I p.dO Ro (p.AtKe Fin Ro) ρ M g w->gX .ke p.n ρ 0 1 Ro M g w
 |acq {ρ:Rk} {Ro M:Nat->Prop} {g:ao} {w:aa}:PT p.P true p.I p.dO Ro (p.AtAcq Fin Ro) ρ M g w->gX .acq p.n ρ 0 0 Ro M g w
inductive ox where
 |jG (f lo:Nat) (seq:List Nat)
 |put (seq:List Nat)
 |lib (s:Nat) (seq:List Nat) (vs:List aL) (Mr:Nat->Prop)
def ox.stage:ox->Nat
 |.lib s _ _ _=>s
 |_=>7
def ox.cost:ox->Nat
 |.jG f _ _=>9+f
 |.put _=>8
 |.lib s _ _ _=>s
def ox.seq:ox->List Nat
 |.jG _ _ s=>s
 |.put s=>s
 |.lib _ s _ _=>s
inductive WS k (Ro:Nat->Prop):ox->Rk->Nat->(Nat->Prop)->ao->aa->Prop
 |jG {f lo:Nat} {seq:List Nat} {ρ:Rk} {M:Nat->Prop} {g:ao} {w:aa}:PT p.P false p.I oD Ro (p.ll k Ro f lo seq) ρ M g w->WS k Ro (.jG f lo seq) ρ 0 M g w
 |put {seq:List Nat} {ρ:Rk} {M:Nat->Prop} {g:ao} {w:aa}:PT p.P false p.I oD Ro (p.Cq k seq) ρ M g w->WS k Ro (.put seq) ρ 0 M g w
 |lib {s m d C c:Nat} {v:aL} {seq:List Nat} {vs:List aL} {Mr M:Nat->Prop} {g:ao} {w:aa}:M C->¬Mr C->@WSit p.pl p.P p.ty p.Wg C c (λ_ _=>False) (λ_ _=>False) 0 1 v s m d g w->WS k Ro (.lib s seq vs Mr) (Rk.nat m) d M g w
end
end Ph
end
section
open ConcN (CT Apart Ok0 OkW RelBy PermW sumTo upd WgLive RW DWs AtR0 WSit CTag WD Mode Vc pend phi PayAt Has upd_same upd_ne)
open ConcR (stA smA WgAt KK rd wr)
def fU (S:Nat->Prop):Loc->Prop
 |.cell a=>S a.block
 |.obj r=>S r
 |_=>False
def fU.mono (h:∀b,S b->A b):∀{l:Loc},fU S l->fU A l
 |.cell _,x|.obj _,x=>h _ x
def fU.some:∀{l:Loc},fU S l->∃b,S b/\fU (·=b) l
 |.cell _,x|.obj _,x=>⟨_,x,rfl⟩
def fU.eq {n}:∀{l:Loc},fU (·=b) l->fU (·=n) l->b=n
 |.cell _,x,y|.obj _,x,y=>x.symm.trans y
def fU.low (h:∀b,S b->b<B):∀{l:Loc},fU S l->l.low B
 |.cell _,x|.obj _,x=>h _ x
def fU.Vn (h:B<=b):∀{l:Loc},fU (·=b) l->¬l.low B
 |.cell _,x,y|.obj _,x,y=>by cases x;exact absurd y<|Nat.not_lt.2 h
namespace Ph
variable (p:Ph)(ay:Loc->Prop)
def tE (k:Nat)(l:Loc):Prop:=∃a,l=.cell a/\a.block=p.Bs/\k*p.wd<=a.off/\a.off<(k+1)*p.wd
def Own (M:Nat->Nat->Prop)(k:Nat)(l:Loc):Prop:=p.J<=k/\(fU (M<|k-p.J+1) l\/p.tE (k-p.J) l)
def Rd (Ro:Nat->Nat->Prop)(k:Nat)(l:Loc):Prop:=p.J<=k/\fU (Ro<|k-p.J+1) l
def Sh (l:Loc):Prop:=ay l\/∃a,l=.cell a/\(a.block=p.Wg\/a.block=p.tk.block)
structure Geo:Prop where
 wt:p.Wg≠p.tk.block
 wb:p.Wg≠p.Bs
 tb:p.tk.block≠p.Bs
 aeV:∀a,a.block=p.Bs->¬ay (.cell a)
 J1:1<=p.J
structure K1 (cJ:Nat)(M Ro:Nat->Nat->Prop)(w:aa):Prop where
 Eb:∀i k,i≠k->∀b,M i b->¬M k b
 ro:∀i k b,M i b->¬Ro k b
 sp:∀i b,p.Sp b->¬M i b/\¬Ro i b
 lt:∀i b,M i b\/Ro i b->b<w
 qa:∀b,p.Sp b->b<w
 ly:∀i b,M i b\/Ro i b->∀l,fU (·=b) l->¬ay l
 base:cJ<=w
variable {p}{ay}{M Ro:Nat->Nat->Prop}
def tE.eq {k'}(h:p.tE k l)(n:p.tE k' l):k=k':=by obtain⟨a,rfl,_,o,z⟩:=h;let⟨E,e,_,L,T⟩:=n;cases e;have:∀x y:Nat,x*p.wd<=a.off->a.off<(y+1)*p.wd->x<=y:=λx y U Y=>agT<|bA (a:=p.wd) f7;grind
def tE.fU (h:p.tE k l):fU (·=p.Bs) l:=by obtain⟨a,rfl,h,_⟩:=h;exact h
def Me (h:p.Sh ay l):ay l\/fU (λb=>b=p.Wg\/b=p.tk.block) l:=h.imp id λ⟨_,e,h⟩=>e▸h
def K1.apart (h:K1 p ay cJ M Ro w)(G:Geo p ay):Apart (p.Sh ay) (p.Own M) (p.Rd Ro):=by refine⟨λk k' l ⟨Y,h1⟩ ⟨vU,L⟩=>?_,λk k' l ⟨Y,h1⟩ ⟨vU,L⟩=>?_,λk l ⟨Y,h1⟩ T=>?_,λk l ⟨Y,h1⟩ T=>?_⟩;rcases h1 with h1|h1<;>rcases L with L|L;let⟨b,n,o⟩:=h1.some;let⟨U,z,E⟩:=L.some;obtain rfl:=o.eq E;rcases Nat.decEq _ _ with Z|he;exact absurd z<|h.Eb _ _ Z b n;omega;let⟨b,n,o⟩:=h1.some;obtain rfl:=o.eq L.fU;exact absurd n (h.sp _ _<|ad<|ad rfl).1;let⟨b,n,o⟩:=L.some;obtain rfl:=o.eq h1.fU;exact absurd n (h.sp _ _<|ad<|ad rfl).1;have:=h1.eq L;omega;let⟨U,z,E⟩:=L.some;rcases h1 with h1|h1;let⟨b,n,o⟩:=h1.some;obtain rfl:=o.eq E;exact h.ro _ _ b n z;obtain rfl:=E.eq h1.fU;exact(h.sp _ _<|ad<|ad rfl).2 z;rcases h1 with h1|h1;let⟨b,n,o⟩:=h1.some;rcases Me T with x|x;exact h.ly _ b (ac n) l o x;let⟨U,z,E⟩:=x.some;obtain rfl:=o.eq E;exact(h.sp _ b<|z.imp id ac).1 n;rcases Me T with x|x;obtain⟨a,rfl,ha,_⟩:=h1;exact G.aeV a ha x;let⟨U,z,E⟩:=x.some;obtain rfl:=h1.fU.eq E;exact z.elim (λe=>G.wb e.symm) λe=>G.tb e.symm;let⟨b,n,o⟩:=h1.some;rcases Me T with x|x;exact h.ly _ b (ad n) l o x;let⟨U,z,E⟩:=x.some;obtain rfl:=o.eq E;exact(h.sp _ b<|z.imp id ac).2 n
def K1.grow (h:K1 p ay cJ M Ro w)(hS:∀l,ay l->l.low cJ) i (L:(w:Nat)<=w'):K1 p ay cJ (upd M i<|grow (M i) w w') Ro w':=by (have n:∀k b,upd M i (Proofs.YthppgbjejomdiaaGreatDoor.grow (M i) w w') k b->M k b\/(k=i/\(w:Nat)<=b/\b<w'):=by intro k b hb;by_cases e:k=i;subst e;rw[upd_same]at hb;exact hb.imp id λx=>⟨rfl,x⟩;simp_all [upd_ne]);refine⟨λk E U b hb T=>?_,λk E b hb T=>?_,λk b hb=>⟨λhk=>?_,(h.sp k b hb).2⟩,λk b hb=>?_,λb hb=>agx (h.qa b hb) L,λk b hb l Y Z=>?_,agz h.base L⟩;rcases n _ _ hb with x|⟨x,y,z⟩<;>rcases n _ _ T with x'|⟨x',y',z'⟩;exact h.Eb k E U b x x';have:=h.lt k b<|ac x;omega;have:=h.lt E b<|ac x';omega;omega;rcases n _ _ hb with x|⟨x,y,z⟩;exact h.ro k E b x T;have:=h.lt E b<|ad T;omega;rcases n _ _ hk with x|⟨x,y,z⟩;exact(h.sp k b hb).1 x;have:=h.qa b hb;omega;rcases hb with hb|hb;rcases n _ _ hb with x|⟨x,y,z⟩;exact agx (h.lt k b<|ac x) L;omega;exact agx (h.lt k b<|ad hb) L;rcases hb with hb|hb;rcases n _ _ hb with x|⟨x,y,z⟩;exact h.ly k b (ac x) l Y Z;exact Y.Vn (agz h.base y)<|hS l Z;exact h.ly k b (ad hb) l Y Z
def K1.at (h:K1 p ay cJ M Ro w)(n:(w:Nat)<=w'):K1 p ay cJ M Ro w':=
 ⟨h.Eb,h.ro,h.sp,λi b o=>agx (h.lt i b o) n,λb o=>agx (h.qa b o) n,h.ly,agz h.base n⟩
def Mq (h:Tr ay (p.Sh ay) (p.Own M) (p.Rd Ro) p.Wg p.J p.jB K w t) i (L:(w:Nat)<=w'):Tr ay (p.Sh ay) (p.Own<|upd M i<|grow (M i) w w') (p.Rd Ro) p.Wg p.J p.jB K w' t:=by refine(h.grow (λk l _ _ ⟨z,n⟩=>?_) (λk l _ _ n=>ac n) (λk l _ _ ⟨z,n⟩=>⟨z,n.imp (fU.mono λb o=>?_) id⟩) λk l _ _ n=>n).mono L;rcases n with n|n;by_cases e:k-p.J+1=i;rw[e,upd_same]at n;let⟨b,o,E⟩:=n.some;rcases o with o|⟨o,_⟩;exact ac ⟨z,ac<|by rw[e];exact fU.mono (λ_ (y:_=b)=>y▸o) E⟩;exact ad<|E.Vn o;rw[upd_ne _ _ e]at n;exact ac ⟨z,ac n⟩;exact ac ⟨z,ad n⟩;by_cases e:k-p.J+1=i;rw[e,upd_same];rw[e]at o;exact ac o;simp_all [upd_ne]
def ku (h:Iw X S R e)(U:X e->(a6 e).touch?=none){x}(n:(a6 e).touch?=some x):x.kind=.plain/\x.loc.isMemory/\(fU S x.loc\/(fU R x.loc/\x.write=false)):=by let⟨E,wr,Y⟩:=e;rcases h with⟨o,a,z,h⟩|⟨o,r,z,h⟩|h|h;subst o z;simp[a6,bK]at n;subst n;exact⟨rfl,rfl,h.imp id λy=>⟨y.1,y.2⟩⟩;subst o z;simp[a6,bK]at n;subst n;exact⟨rfl,rfl,h.imp id λy=>⟨y.1,y.2⟩⟩;(.let⟨m,L,T⟩:=h;cases T;cases m<;>first|(cases L;done)|(cases n;done));grind
def ie {m}(h:Iw X S R e)(o:X e->e.loc≠.mark m)(z:mute m=false):e.loc≠.mark m:=by rcases h with⟨_,a,n,_⟩|⟨_,r,n,_⟩|h|h<;>grind
end Ph
section
variable {I:aa->Prop}{Ro:Nat->Prop}{r:Rk}
def PT.cases (h:PT P m I X Ro Stop r M g W):(∀aj,aU (λb=>M b\/Ro b) W aj->I aj->Stop M g aj)\/∃f,r=.node f/\g.status=.running/\∀aj,aU (λb=>M b\/Ro b) W aj->I aj->∃g' W' es,au P m g aj=.go g' W' es/\fM X M Ro aj W' es/\PT P m I X Ro Stop (f aj) (grow M aj W') g' W':=by cases r with|leaf=>exact ac h|node f=>exact Or.imp id (λx=>⟨f,rfl,x⟩) h
def PT.running (n:∀M g W,Stop M g W->g.status=.running)(h:PT P m I X Ro Stop r M g W)(i:I W):g.status=.running:=by rcases h.cases with h|⟨_,_,h,_⟩;exact n _ _ _<|h W (aU.refl _ _) i;omega
end
namespace Ph
variable {p:Ph}{Fin:(Nat->Prop)->(Nat->Prop)->ao->aa->Prop}{tag:CTag}{d:Nat}{ρ:Rk}{Ro:Nat->Prop}{a:ao}{q:aa}{pl:ox}
def gX.rely (h:p.gX Fin Anch tag j ρ x d Ro M a w)(n:aU (λb=>M b\/Ro b) w q):p.gX Fin Anch tag j ρ x d Ro M a q:=by cases h with|skd o h=>exact .skd o (h.rely n)|sa1 o h=>exact .sa1 o (h.rely n)|ske o h=>exact .ske o (h.rely n)|sgo o h=>exact .sgo o (h.rely n)|kd h=>exact .kd (h.rely n)|anch h=>exact .anch (h.rely n)|w1 h=>exact .w1 (h.rely n)|w2 h=>exact .w2 (h.rely n)|w3 h=>exact .w3 (h.rely n)|blk o E L h=>exact .blk o E (L.rely n) λT z i=>h T (n.trans z) i|w4 h=>exact .w4 (h.rely n)|ke h=>exact .ke (h.rely n)|acq h=>exact .acq<|h.rely n
def gX.status (n:∀Ro M g W,Anch Ro M g W->g.status=.running)(h:p.gX Fin Anch tag j ρ x d Ro M a w)(i:p.I w):(a.status=.running/\tag≠.blk)\/(a.status=.blocked/\tag=.blk):=by cases h with|skd _ h=>exact ac ⟨h.running (λ_ _ _ x=>x.1) i,aN⟩|sa1 _ h=>exact ac ⟨h.running (λ_ _ _ x=>x.1) i,aN⟩|ske _ h=>exact ac ⟨h.running (λ_ _ _ x=>x.1) i,aN⟩|sgo _ h=>exact ac ⟨h.running (λ_ _ _ x=>x.1) i,aN⟩|kd h=>exact ac ⟨h.running (λ_ _ _ x=>x.1) i,aN⟩|anch h=>exact ac ⟨h.running (λ_ _ _ x=>n _ _ _ _ x) i,aN⟩|w1 h=>exact ac ⟨h.running (λ_ _ _ x=>x.1) i,aN⟩|w2 h=>exact ac ⟨h.running (λ_ _ _ x=>x.1) i,aN⟩|w3 h=>exact ac ⟨h.running (λ_ _ _ x=>x.1) i,aN⟩|blk _ _ _ _=>grind|w4 h=>exact ac ⟨h.running (λ_ _ _ x=>x.1) i,aN⟩|ke h=>exact ac ⟨h.running (λ_ _ _ x=>x.1) i,aN⟩|acq h=>exact ac ⟨h.running (λ_ _ _ x=>x.1) i,aN⟩
def gX.wokenBy (n:∀Ro M g W,Anch Ro M g W->g.status=.running)(h:p.gX Fin Anch tag j ρ x d Ro M a w)(i:p.I w)(g g'): ∃tag' o,p.gX Fin Anch tag' j ρ o d Ro M (woken p.P g g' w a) w/\(tag'=tag\/(tag=.blk/\tag'=.w3))/\(mayWake p.P g->g'.status=.running->tag'≠.blk):=by unfold b4;split;rcases h.status n i with⟨U,z⟩|⟨_,rfl⟩;grind [cb];(cases h with|blk E L T Y=>exact⟨.w3,1,by rw[cf E L];exact .w3 T,ad ⟨rfl,rfl⟩,λ_ _=>aN⟩);grind
def VQ {C c}(z:M C)(hk:aU (λb=>M b\/Ro b) w q)(i:p.I q):@RW p.pl p.ty p.Wg C c 0 0 w q:=
 letI:=p.pl;⟨λb h=>absurd h<|agA b,λ_=>i.1,λ⟨cs,h,T⟩=>⟨cs,(hk.block C<|ac z).trans h,T⟩,cl (hk.block C<|ac z) 0⟩
def WS.rely (h:p.WS k Ro pl ρ d M g w)(n:aU (λb=>M b\/Ro b) w q)(i:p.I q):p.WS k Ro pl ρ d M g q:=by cases h with|jG h=>exact .jG (h.rely n)|put h=>exact .put (h.rely n)|lib hC o h=>exact .lib hC o<|@WSit.rely p.pl _ _ _ _ _ _ _ _ _ _ _ _ _ _ _ _ h<|VQ hC n i
def ll.running {T seq}(h:p.ll k Ro f T seq M g W):g.status=.running:=by cases f<;>exact h.1
def WS.status (h:p.WS k Ro pl ρ d M g w)(i:p.I w):g.status=.running\/(g.status=.finished/\pl.stage=1):=by cases h with|jG h=>exact ac (h.running (λ_ _ _ x=>x.running) i)|put h=>exact ac (h.running (λ_ _ _ x=>x.1) i)|lib hC o h=>rename_i s _ _ _ _ _ _ _;exact if n:s=1 then(@WSit.status p.pl _ _ _ _ _ _ _ _ _ _ _ _ _ _ _ h).imp id λx=>⟨x,n⟩else ac (@Go.ConcN.WSit.running_of p.pl _ _ _ _ _ _ _ _ _ _ _ _ _ _ _ h n)
def WS.woken (h:p.WS k Ro pl ρ d M g w)(i:p.I w)(a a' w'):woken p.P a a' w' g=g:=by unfold b4;split;exact cb _<|(h.status i).imp id And.left;rfl
end Ph
end
section
open ConcN (CT Apart Ok0 OkW RelBy PermW sumTo sumTo_upd sumTo_congr upd WgLive RW DWs AtR0 WSit CTag WD Vc cnt pend phi phi_mono phi_retag PayAt Has upd_same upd_ne get_map_set get_map_set_same)
open ConcR (stA smA WgAt KK rd wr g_of_ofEvents)
namespace Ph
structure Gh where
 gs:Array ao
 w:aa
 sl:Option (Nat×Nat)
 j:Nat
 D:Nat->ox
 tag:CTag
 ρ:Rk
 x:Nat
 a:ao
 M:Nat->Nat->Prop
 Ro:Nat->Nat->Prop
 R:Nat->Rk
 c:Nat
 st:Int
 sm:Int
def bZ (D:Nat->ox)(i:Nat):WD:=⟨(D i).stage,0,0⟩
def ox.dP:ox->Nat
 |.jG _ _ _=>0
 |_=>1
def ox.lo:ox->Nat->Prop
 |.jG _ z _,c=>z<=c
 |_,_=>True
def Gh.μ (p:Ph)(G:Gh):Nat×(Nat->Rk)×Rk×Nat:=(phi p.n (Vc G.j<|bZ G.D) G.tag+(p.L+20)*(p.n-G.j)+sumTo G.j (λi=>(G.D i).cost),G.R,G.ρ,G.x)
def Lt4 (p:Ph):Nat×(Nat->Rk)×Rk×Nat->Nat×(Nat->Rk)×Rk×Nat->Prop:=bR (·<·) (bR (RkN<|p.J+p.n) (bR Rk.lt (·<·)))
def Lt4.wf (p):WellFounded (Lt4 p):=(bS b9<|bS ⟨_,RkN.wf _⟩<|bS ⟨_,Rk.wf⟩ b9).wf
variable (p:Ph)(ay:Loc->Prop)(cJ:Nat)(Fin Anch:(Nat->Prop)->(Nat->Prop)->ao->aa->Prop)
structure Fact i (pl:ox)(Mi:Nat->Prop) c (w t):Prop where
 seq:∀x∈pl.seq,x<p.L
 lo:pl.lo c
 out:pl.dP=1->p.L<c
 lib:∀s seq vs Mr,pl=.lib s seq vs Mr->p.Slot i vs w/\(p.Ze seq vs Mr w/\∀b,Mr b->Mi b)/\(s<=6->∃r,RelBy (stA p.Wg) t (p.J+i) r)
structure Inv (G:Gh)(t):Prop where
 size:G.gs.size=p.J+G.j
 jn:G.j<=p.n
 main:G.gs[0]?=some G.a
 sit:p.gX Fin Anch G.tag G.j G.ρ G.x (az t 0) (G.Ro 0) (G.M 0) G.a G.w
 wk:∀i,i<G.j->∃g,G.gs[p.J+i]?=some g/\p.WS i (G.Ro<|i+1) (G.D i) (G.R<|p.J+i) (az t<|p.J+i) (G.M<|i+1) g G.w
 old:∀i,0<i->i<p.J->∃g q,G.gs[i]?=some g/\QuitsD p.P q (az t i) g/\G.R i=Rk.nat q
 above:∀k,p.J+G.j<=k->az t k=0
 jl:K1 p ay cJ G.M G.Ro G.w
 tr:Tr ay (p.Sh ay) (p.Own G.M) (p.Rd G.Ro) p.Wg p.J p.jB (p.J-1+G.j) G.w t
 wg:WgAt p.ty p.Wg G.w G.st G.sm
 tk:p.kC G.w G.c
 bs:∃cs,p.rX cs G.w
 mode:bv G.j (bZ G.D) G.tag G.st G.sm
 fact:∀i,i<G.j->p.Fact i (G.D i) (G.M<|i+1) G.c G.w t
 Zz:∀x,x<p.L->x<G.c->∃i,i<G.j/\x∈(G.D i).seq
 bound:G.c<=p.L+sumTo G.j λi=>(G.D i).dP
def TG (μ:Nat×(Nat->Rk)×Rk×Nat)(m:Machine)(t:a8):Prop:=∃G,m=crowd G.gs G.w G.sl/\μ=G.μ p/\p.Inv ay cJ Fin Anch G t
def kz:Prop:=∀seq n M w w',p.Ze seq n M w->aU M w w'->p.Ze seq n M w'
abbrev Nx (G:Gh)(t:a8)(i:Nat):Prop:=∃n o z,runT p.P (crowd G.gs G.w G.sl) i=(.next n,o)/\Lt4 p z (G.μ p)/\p.TG ay cJ Fin Anch z n (t++o)
variable {p}{ay}{cJ}{Fin Anch}{G:Gh}
def Inv.I (h:p.Inv ay cJ Fin Anch G t):p.I G.w:=⟨⟨_,_,h.wg⟩,⟨_,h.tk⟩,h.bs⟩
def Inv.at (Y:p.kz)(h:p.Inv ay cJ Fin Anch G t) d (sl):p.Inv ay cJ Fin Anch {G with w:=G.w.at d,sl:=sl} t:=by have k:∀S,aU S G.w (G.w.at d):=λS=>⟨λ_ _=>rfl,agw _,rfl,rfl⟩;exact⟨h.size,h.jn,h.main,h.sit.rely<|k _,λT U=>let⟨g,Z,h2⟩:=h.wk T U;⟨g,Z,h2.rely (k _) h.I⟩,h.old,h.above,h.jl.at<|agw _,h.tr,h.wg,h.tk,h.bs,h.mode,λT U=>let f:=h.fact T U;⟨f.seq,f.lo,f.out,λs seq vs Mr e=>let⟨a,b,c⟩:=f.lib s seq vs Mr e;⟨a,⟨Y _ _ _ _ _ b.1<|k _,b.2⟩,c⟩⟩,h.Zz,h.bound⟩
def Inv.keep (h:p.Inv ay cJ Fin Anch G t)(T:(G.w:Nat)<=w')(U:∀b,b<(G.w:Nat)->¬G.M i b->¬p.Sp b->w'.heap[b]?=G.w.heap[b]?)(n:k≠i)(z:w'.os=G.w.os/\w'.output=G.w.output):aU (λb=>G.M k b\/G.Ro k b) G.w w':=
 ⟨λb o=>U b (h.jl.lt k b o) (λE=>o.elim (h.jl.Eb i k (Ne.symm n) b E)<|h.jl.ro i k b E) λL=>o.elim (h.jl.sp k b L).1 (h.jl.sp k b L).2,T,z.1,z.2⟩
def In (D) i (pl):bZ (upd D i pl)=upd (bZ D) i ⟨pl.stage,0,0⟩:=by grind [bZ,upd_same,upd_ne]
def Fact.other {pl U c}(Z:p.kz)(f:p.Fact i pl U c w t)(hc:c<=c')(hk:aU U w w')(hs:∀T,p.Slot i T w->p.Slot i T w')(hu:∀op∈u,op.g=k)(Y:k≠p.J+i):p.Fact i pl U c' w' (t++u):=
 ⟨f.seq,by have:=f.lo;cases pl<;>simp[ox.lo]at this⊢<;>first|trivial|omega,λe=>agx (f.out e) hc,λs seq T Mr e=>let⟨a,b,d⟩:=f.lib s seq T Mr e;⟨hs T a,⟨Z _ _ _ _ _ b.1<|hk.mono b.2,b.2⟩,λh6=>let⟨r,hr⟩:=d h6;⟨r,hr.appOther hu Y⟩⟩⟩
def Inv.stepW (hR:p.kz)(cO:Geo p ay)(hS:∀l,ay l->l.low cJ)(oX:∀Ro M g W,Anch Ro M g W->g.status=.running)(h:p.Inv ay cJ Fin Anch G t)(hi:i<G.j){pl'}{ρ':Rk} (hg:G.gs[p.J+i]?=some g)(hgo:stepG p.P false g G.w=.go g' w' es)(iV:(G.w:Nat)<=w')(wZ:∀b,b<(G.w:Nat)->¬G.M (i+1) b->¬p.Sp b->w'.heap[b]?=G.w.heap[b]?) (pd:p.WS i (G.Ro<|i+1) pl' ρ' (deafBehind (Deaf t<|p.J+i) es) (grow (G.M<|i+1) G.w w') g' w') (eK:∀op∈MemOp.ofEvents (p.J+i) g.frame.fn g.frame.place es,OkW (p.Sh ay) (p.Own<|upd G.M (i+1)<|grow (G.M<|i+1) G.w w') (p.Rd G.Ro) (p.J+i) op)(bF:∀op∈MemOp.ofEvents (p.J+i) g.frame.fn g.frame.place es,FG (p.Sh ay) p.Wg p.J w' op) (kS:WgAt p.ty p.Wg w' Ib Hw)(vC:p.kC w' c')(bN:∃cs,p.rX cs w') (uz:∀tag',(tag'=G.tag\/(G.tag=.blk/\tag'=.w3))->(mayWake p.P g->g'.status=.running->tag'≠.blk)->ConcN.Mode G.j (upd (bZ G.D) i ⟨pl'.stage,0,0⟩) tag' Ib Hw) (hfi:p.Fact i pl' (grow (G.M<|i+1) G.w w') c' w' (t++MemOp.ofEvents (p.J+i) g.frame.fn g.frame.place es))(hfo:∀k,k≠i->∀vs,p.Slot k vs G.w->p.Slot k vs w')(CR:G.c<=c') (abs:∀x,x<p.L->G.c<=x->x<c'->x∈pl'.seq)(aeu:∀x∈(G.D i).seq,x∈pl'.seq)(hb:c'<=p.L+sumTo G.j λk=>(upd G.D i pl' k).dP) (aG:(pl'.cost<(G.D i).cost/\cnt ⟨pl'.stage,0,0⟩<=cnt ⟨(G.D i).stage,0,0⟩)\/(pl'.cost=(G.D i).cost/\pl'.stage=(G.D i).stage/\Rk.lt ρ' (G.R<|p.J+i)))(Qt:w'.os=G.w.os/\w'.output=G.w.output:=by first|exact⟨rfl,rfl⟩|exact⟨hp.os,hp.out⟩|exact⟨uB.os,uB.out⟩|exact⟨hA.os,hA.output⟩|exact⟨Nc.os,Nc.output⟩|exact⟨hk.os,hk.out⟩): p.Nx ay cJ Fin Anch G t (p.J+i):=by
 have i':p.I w':=⟨⟨_,_,kS⟩,⟨_,vC⟩,bN⟩;have hJ:=cO.J1;let⟨tag',x',A_,g9,U3⟩:=(h.sit.rely<|h.keep (i:=i+1) (k:=0) iV wZ ab Qt).wokenBy oX i' g g';have Ql:∀k,k≠p.J+i->Deaf (t++MemOp.ofEvents (p.J+i) g.frame.fn g.frame.place es) k=Deaf t k:=λk hk=>Deaf_other t (Ne.symm hk) _ g_of_ofEvents;have Nb:upd G.M (i+1) (grow (G.M<|i+1) G.w w') 0=G.M 0:=upd_ne _ _ ab;have yd:=h.size;let G':Gh:={gs:=(G.gs.map<|Go.Conc.woken p.P g g' w').setIfInBounds (p.J+i) g',w:=w',sl:=G.sl,j:=G.j,D:=upd G.D i pl',tag:=tag',ρ:=G.ρ,x:=x',a:=Go.Conc.woken p.P g g' w' G.a,M:=upd G.M (i+1)<|grow (G.M<|i+1) G.w w',Ro:=G.Ro,R:=upd G.R (p.J+i) ρ',c:=c',st:=Ib,sm:=Hw};have hI:p.Inv ay cJ Fin Anch G' (t++MemOp.ofEvents (p.J+i) g.frame.fn g.frame.place es):=by refine⟨f7,h.jn,?_,?_,λk hk=>?_,λk h0 hk=>?_,λk hk=>?_,h.jl.grow hS (i+1) iV,(Mq h.tr (i+1) iV).appW ((h.jl.grow hS (i+1) iV).apart cO) ab (by show p.J+i<=p.J-1+G.j;omega) hJ eK bF,kS,vC,bN,?_,λk hk=>?_,λx hx hxc=>?_,hb⟩;rw[get_map_set _ _ _ _ ab,h.main];rfl;grind;by_cases e:k=i;grind [upd_same,Deaf_own];let⟨gk,h1,h2⟩:=h.wk k hk;have h3:=h2.rely (h.keep (i:=i+1) (k:=k+1) iV wZ ab Qt) i';refine⟨gk,by rw[get_map_set _ _ _ _ ab,h1,Option.map_some,h3.woken i'],?_⟩;simp only[G',upd_ne G.D _ e,upd_ne G.R ρ' (show p.J+k≠p.J+i by omega),upd_ne G.M _ (show k+1≠i+1 by omega)];rw[Ql _ ab];exact h3;let⟨gk,q,h1,h2,h3⟩:=h.old k h0 hk;refine⟨gk,q,by rw[get_map_set _ _ _ _ ab,h1,Option.map_some,woken_quitsD h2],?_,?_⟩;rw[Ql _ ab];exact h2;simp only[G',upd_ne G.R ρ' (show k≠p.J+i by omega)];exact h3;have vU:p.J+G.j<=k:=hk;rw[Ql _ ab];exact h.above k hk;rw[In];exact uz tag' g9 U3;by_cases e:k=i;subst e;simp only[G',upd_same];exact hfi;simp only[G',upd_ne G.D _ e,upd_ne G.M _ (show k+1≠i+1 by omega)];exact(h.fact k hk).other hR CR ((h.keep (i:=i+1) (k:=k+1) iV wZ ab Qt).mono λb hb=>.inl hb) (hfo k e) g_of_ofEvents ab;rcases agE x G.c with dQ|uy;let⟨k,hk,hxk⟩:=h.Zz x hx dQ;refine⟨k,hk,?_⟩;by_cases e:k=i;subst e;simp only[G',upd_same];exact aeu x hxk;simp only[G',upd_ne G.D _ e];exact hxk;exact⟨i,hi,by simp only[G',upd_same];exact abs x hx uy hxc⟩
 refine⟨_,_,G'.μ p,(runT_crowd_go (P:=p.P) (sl:=G.sl) (i:=p.J+i) hg<|by rw[show((p.J+i)==0)=false by simp;omega];exact hgo),?_,G',rfl,rfl,hI⟩;have e2:=sumTo_upd G.D pl' ox.cost hi;have ev:Vc G.j (bZ<|upd G.D i pl')+cnt (bZ G.D i)=Vc G.j (bZ G.D)+cnt ⟨pl'.stage,0,0⟩:=by rw[In];exact(sumTo_upd (bZ G.D) (⟨pl'.stage,0,0⟩:WD) cnt hi)
 show Lt4 p (phi p.n (Vc G.j<|bZ<|upd G.D i pl') tag'+(p.L+20)*(p.n-G.j)+sumTo G.j (λk=>(upd G.D i pl' k).cost),upd G.R (p.J+i) ρ',G.ρ,x') _;rw[phi_retag p.n _ g9];rcases aG with⟨h1,h2⟩|⟨h1,h2,h3⟩;refine Prod.Lex.left _ _ ?_;have hv:Vc G.j (bZ<|upd G.D i pl')<=Vc G.j (bZ G.D):=by simp only[bZ]at ev h2⊢;omega
 have:=phi_mono p.n hv G.tag;omega;have hv:Vc G.j (bZ<|upd G.D i pl')=Vc G.j (bZ G.D):=by(have:cnt (⟨pl'.stage,0,0⟩:WD)=cnt (bZ G.D i):=by show(if 5<=pl'.stage then 1 else 0)=(if 5<=(G.D i).stage then 1 else 0);rw[h2]);omega
 have hc:sumTo G.j (λk=>(upd G.D i pl' k).cost)=sumTo G.j (λk=>(G.D k).cost):=ab;rw[hv,hc];refine Prod.Lex.right _<|Prod.Lex.left _ _ ⟨p.J+i,?_,by rw[upd_same];exact h3,λk hk=>upd_ne _ _ hk⟩;have:=h.jn;omega
end Ph
namespace Ph
variable {p:Ph}{Fin:(Nat->Prop)->(Nat->Prop)->ao->aa->Prop}{G:Gh}
def Inv.acK (hR:p.kz)(cO:Geo p ay)(oX:∀Ro M g W,Anch Ro M g W->g.status=.running)(h:p.Inv ay cJ Fin Anch G t)(E:0<i)(hi:i<p.J)(hg:G.gs[i]?=some g)(L:g.status=.running): p.Nx ay cJ Fin Anch G t i:=by let⟨T,q,Ls,hq,U⟩:=h.old i E hi;(obtain rfl:g=T:=by rw[hg]at Ls;grind);cases q with|zero=>rw[hq.1]at L;grind|succ q=>rcases hq with⟨hf,_⟩|⟨_,g',es,hm,dZ,Bh⟩;grind;have i':=h.I;have yd:=h.size;let⟨z,x',A_,g9,U3⟩:=h.sit.wokenBy oX i' g g';have Ql:∀k,k≠i->Deaf (t++MemOp.ofEvents i g.frame.fn g.frame.place es) k=Deaf t k:=λk o=>Deaf_other t (Ne.symm o) _ g_of_ofEvents;let Y:={G with gs:=(G.gs.map<|Go.Conc.woken p.P g g' G.w).setIfInBounds i g',tag:=z,x:=x',a:=Go.Conc.woken p.P g g' G.w G.a,R:=upd G.R i<|Rk.nat q};(have hI:p.Inv ay cJ Fin Anch Y (t++MemOp.ofEvents i g.frame.fn g.frame.place es):=by refine⟨f7,h.jn,?_,?_,λk o=>?_,λk E o=>?_,λk o=>?_,h.jl,?_,h.wg,h.tk,h.bs,h.mode.retag g9,λk o=>(h.fact k o).other hR (agw _) (aU.refl _ _) (λ_ x=>x) g_of_ofEvents ab,h.Zz,h.bound⟩;rw[get_map_set _ _ _ _ ab,h.main];rfl;grind;let⟨gk,Z,h2⟩:=h.wk k o;refine⟨gk,?_,?_⟩;rw[get_map_set _ _ _ _ ab,Z,Option.map_some,h2.woken i'];grind [upd_ne];(.by_cases e:k=i;grind [Deaf_own,upd_same];let⟨gk,q',Z,h2,h3⟩:=h.old k E o;refine⟨gk,q',?_,?_,?_⟩;rw[get_map_set _ _ _ _ (Ne.symm e),Z,Option.map_some,woken_quitsD h2];all_goals grind [upd_ne]);have vU:=o;rw[Ql _ ab];exact h.above k o;refine h.tr.Pf (h.jl.apart cO) ab ab g_of_ofEvents (λop bF=>?_) λop bF=>?_;obtain⟨e,he,rfl⟩:=Go.Conc.mem_ofEvents bF;exact touch_mute<|hm e he;obtain⟨e,he,rfl⟩:=Go.Conc.mem_ofEvents bF;intro hx;have hl:=Go.ConcR.loc_of_ofEvent hx;have aG:=hm e he;let⟨aP,_,_⟩:=e;simp at hl;subst hl;cases aG);refine⟨_,_,Y.μ p,(runT_crowd_go hg<|by rw[show(i==0)=false by simp;omega];exact(dZ G.w)),?_,Y,rfl,rfl,hI⟩;show Lt4 p (phi p.n _ z+_*_+sumTo G.j (λk=>(G.D k).cost),upd G.R i _,G.ρ,x') _;rw[phi_retag p.n _ g9];exact Prod.Lex.right _<|Prod.Lex.left _ _ ⟨i,ab,by rw[upd_same,U];exact Rk.nat_lt q G.w,λk o=>upd_ne _ _ o⟩
def Inv.step0 (hR:p.kz)(cO:Geo p ay)(hS:∀l,ay l->l.low cJ)(h:p.Inv ay cJ Fin Anch G t){a' tag'}{ρ':Rk}{x'} (hgo:stepG p.P true G.a G.w=.go a' w' es)(iV:(G.w:Nat)<=w')(wZ:∀b,b<(G.w:Nat)->¬G.M 0 b->¬p.Sp b->w'.heap[b]?=G.w.heap[b]?) (pd:p.gX Fin Anch tag' G.j ρ' x' (deafBehind (Deaf t 0) es) (G.Ro 0) (grow (G.M 0) G.w w') a' w') (eK:∀op∈MemOp.ofEvents 0 G.a.frame.fn G.a.frame.place es,Ok0 (p.Sh ay) (p.Own<|upd G.M 0<|grow (G.M 0) G.w w') (p.Rd G.Ro) (p.J-1+G.j) op)(bF:∀op∈MemOp.ofEvents 0 G.a.frame.fn G.a.frame.place es,FG (p.Sh ay) p.Wg p.J w' op) (kS:WgAt p.ty p.Wg w' Ib Hw)(vC:p.kC w' G.c)(bN:∃cs,p.rX cs w')(uz:ConcN.Mode G.j (bZ G.D) tag' Ib Hw)(hfo:∀k vs,p.Slot k vs G.w->p.Slot k vs w') (aG:phi p.n (Vc G.j<|bZ G.D) tag'<phi p.n (Vc G.j<|bZ G.D) G.tag\/(phi p.n (Vc G.j<|bZ G.D) tag'=phi p.n (Vc G.j<|bZ G.D) G.tag/\(Rk.lt ρ' G.ρ\/(ρ'=G.ρ/\x'<G.x))))(Qt:w'.os=G.w.os/\w'.output=G.w.output:=by first|exact⟨rfl,rfl⟩|exact⟨hp.os,hp.out⟩|exact⟨uB.os,uB.out⟩|exact⟨hA.os,hA.output⟩|exact⟨Nc.os,Nc.output⟩|exact⟨hk.os,hk.out⟩): p.Nx ay cJ Fin Anch G t 0:=by have i':p.I w':=⟨⟨_,_,kS⟩,⟨_,vC⟩,bN⟩;have hJ:=cO.J1;have yd:=h.size;have Ql:∀k,k≠0->Deaf (t++MemOp.ofEvents 0 G.a.frame.fn G.a.frame.place es) k=Deaf t k:=λk hk=>Deaf_other t (Ne.symm hk) _ g_of_ofEvents;let G':={G with gs:=(G.gs.map<|Go.Conc.woken p.P G.a a' w').setIfInBounds 0 a',w:=w',tag:=tag',ρ:=ρ',x:=x',a:=a',M:=upd G.M 0<|grow (G.M 0) G.w w',st:=Ib,sm:=Hw};(have hI:p.Inv ay cJ Fin Anch G' (t++MemOp.ofEvents 0 G.a.frame.fn G.a.frame.place es):=by refine⟨f7,h.jn,get_map_set_same _ _ _ ab,by grind [Deaf_own,upd_same],λk hk=>?_,λk h0 hk=>?_,λk hk=>?_,h.jl.grow hS 0 iV,(Mq h.tr 0 iV).app0 ((h.jl.grow hS 0 iV).apart cO) eK bF,kS,vC,bN,uz,λk hk=>?_,h.Zz,h.bound⟩;let⟨gk,h1,h2⟩:=h.wk k hk;have h3:=h2.rely (h.keep iV wZ ab Qt) i';refine⟨gk,?_,?_⟩;rw[get_map_set _ _ _ _ ab,h1,Option.map_some,h3.woken i'];grind [upd_ne];let⟨gk,q,h1,h2,h3⟩:=h.old k h0 hk;refine⟨gk,q,?_,?_,h3⟩;rw[get_map_set _ _ _ _ ab,h1,Option.map_some,woken_quitsD h2];grind;have vU:=hk;rw[Ql _ ab];exact h.above k hk;simp[G'];exact(h.fact k hk).other hR ab ((h.keep iV wZ ab Qt).mono λb hb=>.inl hb) (hfo k) g_of_ofEvents ab);refine⟨_,_,G'.μ p,(runT_crowd_go h.main (show stepG p.P (0==0) G.a G.w=_ from hgo)),?_,G',rfl,rfl,hI⟩;show Lt4 p (phi p.n (Vc G.j<|bZ G.D) tag'+_*(p.n-G.j)+sumTo G.j (λk=>(G.D k).cost),G.R,ρ',x') _;rcases aG with h1|⟨h1,h2⟩;exact Prod.Lex.left _ _ ab;rw[h1];refine Prod.Lex.right _<|Prod.Lex.right _ ?_;grind
end Ph
end
section
open ConcN (CT Apart Ok0 OkW RelBy PermW sumTo sumTo_upd sumTo_upd_out sumTo_congr upd WgLive RW DWs AtR0 WSit CTag WD Vc cnt pend phi phi_mono phi_retag PayAt Has upd_same upd_ne get_map_set get_map_set_same)
open ConcR (stA smA WgAt KK rd wr g_of_ofEvents)
namespace Ph
variable {p:Ph}{Fin:(Nat->Prop)->(Nat->Prop)->ao->aa->Prop}{G:Gh}
def Inv.spawn (cO:Geo p ay)(h:p.Inv ay cJ Fin Anch G t){r}(hr:r<p.n)(g9:G.tag=.sp r 2)(hj:G.j=p.n-(r+1))(hd:az t 0=0) (dE:p.AtGo (G.Ro 0) (p.n-(r+1)) (p.Spawns Anch r) (G.M 0) G.a G.w): p.Nx ay cJ Fin Anch G t 0:=by
 let⟨_,g',U,sv,bl,cj,ck,zN,⟨rc,vR⟩,zO⟩:=dE;have yd:G.gs.size=p.J+G.j:=h.size;have hJ:=cO.J1;have fT:=runT_crowd_spawn (P:=p.P) (sl:=G.sl) (i:=0) h.main (show au p.P (0==0) G.a G.w=_ from bl);rw[<-hj]at vR;obtain⟨T,aG,A_,BK,bp,LE,bq⟩:∃T aG,p.gX Fin Anch T (G.j+1) aG 0 0 sv (λb=>G.M 0 b/\¬sv b) g' G.w/\cn T/\pend T=0/\(∀vs,T≠.w2 vs)/\∀v v',phi p.n v' T<phi p.n v (.sp r 2):=by cases r with|zero=>let⟨aG,hn⟩:=zO;have e:G.j+1=p.n:=ab;exact⟨.kd,aG,e▸.kd hn,trivial,rfl,aN,λv v'=>by simp only[phi];omega⟩|succ r=>let⟨aG,hn⟩:=zO;have e:G.j+1=p.n-(r+1):=ab;exact⟨.sp r 5,aG,e▸.skd ab hn,trivial,rfl,aN,λv v'=>by simp only[phi];omega⟩
 let M':Nat->Nat->Prop:=upd (upd G.M 0 λb=>G.M 0 b/\¬sv b) (G.j+1) λ_=>False;let R':Nat->Nat->Prop:=upd (upd G.Ro 0 sv) (G.j+1) sv;have M0:M' 0=λb=>G.M 0 b/\¬sv b:=by simp only[M'];rw[upd_ne _ _ ab,upd_same]
 have R0:R' 0=sv:=by simp only[R'];rw[upd_ne _ _ ab,upd_same]
 have Mj:M' (G.j+1)=λ_=>False:=by simp only[M'];rw[upd_same]
 have Rj:R' (G.j+1)=sv:=by simp only[R'];rw[upd_same]
 have Mk:∀k,k≠0->k≠G.j+1->M' k=G.M k:=λk h0 h1=>by simp only[M'];rw[upd_ne _ _ h1,upd_ne _ _ h0]
 have aZ:∀k,k≠0->k≠G.j+1->R' k=G.Ro k:=λk h0 h1=>by simp only[R'];rw[upd_ne _ _ h1,upd_ne _ _ h0]
 have mM:∀k b,M' k b->G.M k b/\(k=0->¬sv b):=λk b hb=>by by_cases e1:k=G.j+1;subst e1;rw[Mj]at hb;exact hb.elim;by_cases e0:k=0;subst e0;rw[M0]at hb;exact⟨hb.1,λ_=>hb.2⟩;rw[Mk k e0 e1]at hb;exact⟨hb,λe=>absurd e e0⟩
 have mR:∀k b,R' k b->G.Ro k b\/sv b:=λk b hb=>by by_cases e1:k=G.j+1;subst e1;rw[Rj]at hb;exact ad hb;by_cases e0:k=0;subst e0;rw[R0]at hb;exact ad hb;rw[aZ k e0 e1]at hb;exact ac hb
 have a1:∀b,sv b->G.M 0 b\/G.Ro 0 b:=λb hb=>(zN b hb).symm;have a2:K1 p ay cJ M' R' G.w:=by refine⟨λi k bx b Z hk=>h.jl.Eb i k bx b (mM i b Z).1 (mM k b hk).1,λi k b Z hk=>?_,λi b hs=>⟨λZ=>(h.jl.sp i b hs).1 (mM i b Z).1,λZ=>?_⟩,λi b hb=>?_,h.jl.qa,λi b hb l hl=>?_,h.jl.base⟩;rcases mR k b hk with x|x;exact h.jl.ro i k b (mM i b Z).1 x;by_cases e:i=0;exact(mM i b Z).2 e x;rcases a1 b x with y|y;exact h.jl.Eb i 0 e b (mM i b Z).1 y;exact h.jl.ro i 0 b (mM i b Z).1 y;rcases mR i b Z with x|x;exact(h.jl.sp i b hs).2 x;exact(a1 b x).elim (h.jl.sp 0 b hs).1 (h.jl.sp 0 b hs).2;rcases hb with hb|hb;exact h.jl.lt i b<|ac (mM i b hb).1;exact(mR i b hb).elim (λx=>h.jl.lt i b<|ad x) λx=>h.jl.lt 0 b<|a1 b x;rcases hb with hb|hb;exact h.jl.ly i b (ac (mM i b hb).1) l hl;exact(mR i b hb).elim (λx=>h.jl.ly i b (ad x) l hl) λx=>h.jl.ly 0 b (a1 b x) l hl
 let X:MemOp:={g:=0,fn:=G.a.frame.fn,pos:=G.a.frame.place,act:=.go G.gs.size};let Y:MemOp:={g:=G.gs.size,fn:=U.frame.fn,pos:=G.a.frame.place,act:=.start};have bN:((bn 0 G.a.frame.fn G.a.frame.place #[]).push X).push Y=#[X,Y]:=by rw[ofEvents_eq,Array.map_empty];rfl
 have b1:∀op∈#[X,Y],op=X\/op=Y:=λop bF=>by simpa using bF
 have UR:∀k,az (t++#[X,Y]) k=az t k:=λk=>co t k _ λop bF=>by rcases b1 op bF with rfl|rfl<;>simp[X,Y]
 have b2:Tr ay (p.Sh ay) (p.Own M') (p.Rd R') p.Wg p.J p.jB (p.J-1+G.j+1) G.w (t++#[X,Y]):=by(have h1:Tr ay (p.Sh ay) (p.Own M') (p.Rd R') p.Wg p.J p.jB (p.J-1+G.j) G.w t:=by refine h.tr.grow (λk l _ hk ⟨hx,hy⟩=>ac ⟨hx,?_⟩) (λk l _ hk ⟨hx,hy⟩=>ac ⟨hx,?_⟩) (λk l _ hk ⟨hx,hy⟩=>⟨hx,?_⟩) λk l _ hk ⟨hx,hy⟩=>⟨hx,?_⟩;rwa [Mk _ ab ab]at hy;rwa [aZ _ ab ab]at hy;rwa [Mk _ ab ab];rwa [aZ _ ab ab]);exact h1.fork (a2.apart cO) ⟨rfl,by show MemAct.go G.gs.size=_;rw[yd];congr 1;omega⟩ ⟨by show G.gs.size=_;rw[yd];omega,rfl⟩ hd
 let D':Nat->ox:=upd G.D G.j<|.jG p.L 0 [];have Dk:∀k,k<G.j->D' k=G.D k:=λk hk=>upd_ne _ _ ab;have Dj:D' G.j=.jG p.L 0 []:=upd_same _ _ _;have hrel:∀i r,i<G.j->RelBy (stA p.Wg) t (p.J+i) r->RelBy (stA p.Wg) (t++#[X,Y]) (p.J+i) r:=λi r Z hb=>by(have e:t++#[X,Y]=(t++#[X])++#[Y]:=by apply Array.ext';simp);rw[e];exact(hb.appOther (g:=0) (by simp[X]) ab).appOther (g:=G.gs.size) (by simp[Y]) ab
 let G':Gh:={gs:=(G.gs.setIfInBounds 0 g').push U,w:=G.w,sl:=G.sl,j:=G.j+1,D:=D',tag:=T,ρ:=aG,x:=0,a:=g',M:=M',Ro:=R',R:=upd G.R (p.J+G.j) rc,c:=G.c,st:=G.st,sm:=G.sm};have a3:∀k,k≠0->k<p.J+G.j->((G.gs.setIfInBounds 0 g').push U)[k]?=G.gs[k]?:=λk h0 hk=>by rw[bE,if_neg cY,Array.getElem?_setIfInBounds_ne ab]
 have b3:Vc (G.j+1) (bZ D')=Vc G.j (bZ G.D)+1:=by show sumTo G.j (λi=>cnt<|bZ D' i)+cnt (bZ D' G.j)=_;(have:cnt (bZ D' G.j)=1:=by simp only[bZ,Dj];rfl);rw[this,sumTo_congr (g:=λi=>cnt<|bZ G.D i) λi Z=>by simp only[bZ,Dk i Z]];rfl
 have hI:p.Inv ay cJ Fin Anch G' (t++#[X,Y]):=by refine⟨by simp[G',yd];omega,by show G.j+1<=p.n;omega,?_,?_,λk hk=>?_,λk h0 hk=>?_,λk hk=>?_,a2,b2,h.wg,h.tk,h.bs,?_,λk hk=>?_,λx hx cd=>?_,?_⟩;show((G.gs.setIfInBounds 0 g').push U)[0]?=some g';rw[bE,if_neg cY];exact Array.getElem?_setIfInBounds_self_of_lt ab;show p.gX Fin Anch T (G.j+1) aG 0 (az (t++#[X,Y]) 0) (R' 0) (M' 0) g' G.w;rw[UR,hd,R0,M0];exact A_;have vU:k<G.j+1:=hk;by_cases e:k=G.j;subst e;refine⟨U,?_,?_⟩;show((G.gs.setIfInBounds 0 g').push U)[p.J+G.j]?=_;rw[bE,if_pos (by simp[yd])];simp only[G',Dj,upd_same,Mj,Rj];rw[UR,h.above _ (agw _)];exact .jG vR;let⟨gk,h1,h2⟩:=h.wk k ab;refine⟨gk,?_,?_⟩;rw[<-h1];exact a3 _ ab ab;simp only[G',Dk k ab,upd_ne G.R rc (show p.J+k≠p.J+G.j by omega),Mk (k+1) ab ab,aZ (k+1) ab ab];rw[UR];exact h2;let⟨gk,q,h1,h2,h3⟩:=h.old k h0 hk;refine⟨gk,q,?_,by rw[UR];exact h2,?_⟩;rw[<-h1];exact a3 _ ab ab;simp only[G',upd_ne G.R rc (show k≠p.J+G.j by omega)];exact h3;have vU:p.J+(G.j+1)<=k:=hk;rw[UR];exact h.above k ab;have hm:=h.mode;rw[g9]at hm;show bv (G.j+1) (bZ D') T G.st G.sm;generalize dZ:G.st=st at hm;generalize cp:G.sm=sm at hm;(cases hm with|opn h1 h2 h3=>have:=Go.ConcN.Mode.opn (j:=G.j+1) (D:=bZ D') (tag:=T) BK (λi Z=>by by_cases e:i=G.j;subst e;left;simp only[bZ,Dj];rfl;have:=h2 i ab;simpa only[bZ,Dk i ab]using this) λvs e=>absurd e<|LE vs;rw[b3,bp]at this;exact this|reg h1=>exact h1.elim|last _ h1=>exact h1.elim|fin h1=>exact h1.elim);have vU:k<G.j+1:=hk;by_cases e:k=G.j;subst e;simp only[G',Dj];exact⟨λx hx=>absurd hx<|by simp[ox.seq],agB _,λe=>by simp[ox.dP]at e,λs seq vs Mr e=>by cases e⟩;have f:=h.fact k ab;simp only[G',Dk k ab,Mk (k+1) ab ab];exact⟨f.seq,f.lo,f.out,λs seq vs Mr e=>let⟨a,b,c⟩:=f.lib s seq vs Mr e;⟨a,b,λh6=>let⟨r,hr⟩:=c h6;⟨r,hrel k r ab hr⟩⟩⟩;let⟨i,Z,ch⟩:=h.Zz x hx cd;exact⟨i,by show i<G.j+1;omega,by simp only[G',Dk i Z];exact ch⟩;show G.c<=p.L+(sumTo G.j (λi=>(D' i).dP)+(D' G.j).dP);have:=h.bound;rw[sumTo_congr (g:=λi=>(G.D i).dP) λi Z=>by rw[Dk i Z]];omega
 refine⟨_,_,G'.μ p,fT,?_,G',rfl,rfl,?_⟩;show Lt4 p (phi p.n (Vc (G.j+1)<|bZ D') T+(p.L+20)*(p.n-(G.j+1))+(sumTo G.j (λk=>(D' k).cost)+(D' G.j).cost),upd G.R (p.J+G.j) rc,aG,0) (phi p.n (Vc G.j<|bZ G.D) G.tag+(p.L+20)*(p.n-G.j)+sumTo G.j (λi=>(G.D i).cost),G.R,G.ρ,G.x);refine Prod.Lex.left _ _ ?_;have h1:=bq (Vc G.j<|bZ G.D)<|Vc (G.j+1)<|bZ D';rw[sumTo_congr (g:=λi=>(G.D i).cost) λi Z=>by rw[Dk i Z],Dj,g9];have e1:p.n-G.j=p.n-(G.j+1)+1:=ab;rw[e1,Nat.mul_add,Nat.mul_one];simp only[ox.cost];omega;rw[bN];exact hI
end Ph
end
section
open ConcN (CT Apart Ok0 OkW RelBy PermW sumTo sumTo_upd sumTo_upd_out sumTo_congr sumTo_le upd WgLive RW DWs AtR0 WSit CTag WD Vc cnt pend phi phi_mono phi_retag PayAt Has upd_same upd_ne get_map_set get_map_set_same)
open ConcR (stA smA WgAt KK rd wr g_of_ofEvents)
def cU (h:w'=(w:Nat)):grow M w w'=M:=by funext b;simp[grow];grind
namespace Ph
variable {p:Ph}{Fin:(Nat->Prop)->(Nat->Prop)->ao->aa->Prop}{G:Gh}{M Ro:Nat->Nat->Prop}{fn:FuncId}{pos:String}
def EvS (p:Ph)(e:aI):Prop:=(∃m,e.loc=.mark m/\(m=.disable\/m=.enable\/(∃a,m=.releaseMerge a)\/∃a,m=.acquire a))\/∃a wr,e=⟨.cell a,wr,true⟩/\(a.block=p.Wg\/a.block=p.tk.block)
def EvS.touch (h:p.EvS e){x}(n:(a6 e).touch?=some x):x.kind=.atomic/\∃a,x.loc=.cell a/\(a.block=p.Wg\/a.block=p.tk.block):=by rcases h with⟨m,o,h⟩|⟨a,wr,rfl,h⟩;rw[ci o]at n;rcases h with rfl|rfl|⟨a,rfl⟩|⟨a,rfl⟩<;>cases n;cases n;grind
def EvS.GU (h:p.EvS e):a6 e≠.mark (.release<|stA p.Wg):=by intro n;have o:=bB n;rcases h with⟨m,z,h⟩|⟨a,wr,rfl,h⟩<;>grind
def rH (T:p.Wg<w)(U:p.tk.block<w)(h:∀e∈es,p.EvS e){g}:∀E∈bn g fn pos es,FG (p.Sh ay) p.Wg p.J w E:=by intro E L;obtain⟨e,z,rfl⟩:=bi L;refine⟨λa n=>?_,λa n=>?_,(h e z).GU,λ_ a n _=>?_⟩;let⟨_,b,o,_⟩:=(h e z).touch n;rw[o];rfl;let⟨_,b,o,e2⟩:=(h e z).touch n;rw[o];show b.block<_;rcases e2 with e2|e2<;>rw[e2]<;>assumption;let⟨_,b,o,e2⟩:=(h e z).touch n;exact ad ⟨b,o,e2⟩
def GZ {Own Rd}(h:∀e∈es,p.EvS e){g}:∀n∈bn g fn pos es,OkW (p.Sh ay) Own Rd g n:=by intro n o;obtain⟨e,z,rfl⟩:=bi o;refine⟨rfl,λx E=>?_⟩;let⟨L,b,T,U⟩:=(h e z).touch E;exact ac ⟨ad ⟨b,T,U⟩,cQ,by rw[L];simp⟩
def GX {Own Rd}(h:∀e∈es,p.EvS e):∀n∈bn 0 fn pos es,Ok0 (p.Sh ay) Own Rd K n:=by intro n o;obtain⟨e,z,rfl⟩:=bi o;refine⟨rfl,λx E=>?_⟩;let⟨U,b,L,T⟩:=(h e z).touch E;exact ac ⟨ad ⟨b,L,T⟩,cQ⟩
def GY (E:K1 p ay cJ (upd M (i+1)<|grow (M<|i+1) w w') Ro w')(L:fM oD (M<|i+1) (Ro<|i+1) w w' es):∀o∈bn (p.J+i) fn pos es,OkW (p.Sh ay) (p.Own<|upd M (i+1)<|grow (M<|i+1) w w') (p.Rd Ro) (p.J+i) o/\FG (p.Sh ay) p.Wg p.J w' o:=by intro o Z;obtain⟨e,T,rfl⟩:=bi Z;have z:=λx n=>ku (L.ev e T) (λy=>y.elim) (x:=x) n;refine⟨⟨rfl,λx n=>?_⟩,λx n=>(z x n).2.1,λx n=>?_,λn=>?_,λ_ x n hk=>?_⟩;rcases(z x n).2.2 with h|⟨h,U⟩;exact ad<|ac ⟨bJ _ _,ac<|by grind [upd_same]⟩;exact ad<|ad ⟨⟨bJ _ _,cQ⟩,U⟩;rcases(z x n).2.2 with h|⟨h,U⟩;exact h.low λb Y=>E.lt (i+1) b (ac<|by simp_all [upd_same]);exact h.low λb Y=>E.lt (i+1) b<|ad Y;exact ie (L.ev e T) (λy=>y.elim) rfl<|bB n;grind
def kC.set (h:p.kC w x)(y:Nat):p.kC (w.setCell p.tk<|ax .i64 y) y:=by let⟨z,T⟩:=h;unfold bt at z;unfold br at T;rcases hb:w.heap[p.tk.block]? with _|o;grind;cases o with|cells c U Y=>rw[hb]at z T;by_cases hs:p.tk.spot.isSome;grind;(have Z:(w.setCell p.tk<|ax .i64 y).heap[p.tk.block]?=some (.cells (c.setIfInBounds p.tk.off<|ax .i64 y) U Y):=by simp[World.setCell,Array.getElem?_modify,hb,hs]);refine⟨?_,?_⟩<;>grind [bt,br]|_=>grind
def kC.of_block (h:p.kC w x)(e:w'.heap[p.tk.block]?=w.heap[p.tk.block]?):p.kC w' x:=⟨by simpa[bt,e]using h.1,by simpa[br,e]using h.2⟩
def Slot.of_block {n}(h:p.Slot k n w)(e:w'.heap[p.Bs]?=w.heap[p.Bs]?):p.Slot k n w':=⟨h.1,λcs o=>h.2 cs ⟨e▸o.1,o.2⟩⟩
def rX.of_block {cs}(h:p.rX cs w)(e:w'.heap[p.Bs]?=w.heap[p.Bs]?):p.rX cs w':=⟨e.trans h.1,h.2⟩
def MV (D:Nat->ox) j:sumTo j (λi=>(D i).dP)<=j:=by
 have:=sumTo_le (f:=λi=>(D i).dP) (c:=1) (j:=j) λi _=>by cases T:D i<;>simp[ox.dP]
 omega
def lI {D tag tag' n o}(h:bv j D tag n o)(z:tag'=tag\/(tag=.blk/\tag'=.w3)){s}(E:(D i).stage=s):bv j (upd D i ⟨s,0,0⟩) tag' n o:=by have:=(h.same (i:=i) 0 0).retag z;grind
def Inv.Yj (hR:p.kz)(cO:Geo p ay)(hS:∀l,ay l->l.low cJ)(oX:∀Ro M g W,Anch Ro M g W->g.status=.running)(h:p.Inv ay cJ Fin Anch G t)(hi:i<G.j){ρ':Rk} (hg:G.gs[p.J+i]?=some g)(hgo:au p.P false g G.w=.go g' w' es)(hp:fM oD (G.M<|i+1) (G.Ro<|i+1) G.w w' es)(hd:az t (p.J+i)=0) (pd:p.WS i (G.Ro<|i+1) (G.D i) ρ' 0 (grow (G.M<|i+1) G.w w') g' w')(UU:∀s seq vs U,G.D i≠.lib s seq vs U)(aG:Rk.lt ρ' (G.R<|p.J+i)): p.Nx ay cJ Fin Anch G t (p.J+i):=by
 have Z:=h.jl.grow hS (i+1) hp.size;have T:∀b,p.Sp b->w'.heap[b]?=G.w.heap[b]?:=λb hb=>hp.keep b (h.jl.qa b hb) (h.jl.sp (i+1) b hb).1;have f:=h.fact i hi;have Qk:bV (az t<|p.J+i) es=0:=by rw[hd];exact b8 (λe he=>⟨ie (hp.ev e he) (λy=>y.elim) rfl,ie (hp.ev e he) (λy=>y.elim) rfl⟩) 0
 let⟨cs,Y⟩:=h.bs;refine h.stepW hR cO hS oX hi hg hgo hp.size (λb hb hn _=>hp.keep b hb hn) cQ (λop bF=>(GY Z hp op bF).1) (λop bF=>(GY Z hp op bF).2) (h.wg.of_block<|T _<|ac rfl) (h.tk.of_block<|T _<|ad<|ac rfl) ⟨cs,Y.of_block<|T _<|ad<|ad rfl⟩
  (λtag' ht _=>lI h.mode ht rfl) ⟨f.seq,f.lo,f.out,λs seq vs U e=>absurd e<|UU s seq vs U⟩ (λk _ vs hs=>hs.of_block<|T _<|ad<|ad rfl) ab (λx _ h1 h2=>ab) (λx hx=>hx) ?_ (ad ⟨rfl,rfl,aG⟩)
 have e:(λk=>(upd G.D i (G.D i) k).dP)=λk=>(G.D k).dP:=by grind [upd_same,upd_ne]
 rw[e];exact h.bound
end Ph
namespace Ph
variable {p:Ph}{Fin:(Nat->Prop)->(Nat->Prop)->ao->aa->Prop}{G:Gh}
def Inv.PM (hR:p.kz)(cO:Geo p ay)(hS:∀l,ay l->l.low cJ)(oX:∀Ro M g W,Anch Ro M g W->g.status=.running)(h:p.Inv ay cJ Fin Anch G t)(hi:i<G.j){ρ':Rk}{lo seq pl'}(U:G.D i=.jG f lo seq) (hg:G.gs[p.J+i]?=some g)(hgo:au p.P false g G.w=.go g' (G.w.setCell p.tk<|ax .i64<|G.c+1) #[rd p.tk,wr p.tk])(hd:az t (p.J+i)=0) (pd:p.WS i (G.Ro<|i+1) pl' ρ' 0 (G.M<|i+1) g' (G.w.setCell p.tk<|ax .i64<|G.c+1))(Y:pl'.cost<9+f)(dZ:pl'.stage=7)(UU:∀s seq vs Z,pl'≠.lib s seq vs Z) (aZ:∀x∈pl'.seq,x<p.L)(a1:∀x∈seq,x∈pl'.seq)(Td:pl'.lo (G.c+1))(abs:G.c<p.L->G.c∈pl'.seq)(EA:pl'.dP=1->p.L<G.c+1)(hb:G.c<p.L\/pl'.dP=1): p.Nx ay cJ Fin Anch G t (p.J+i):=by
 have T:=aside_setCell G.w p.tk<|ax .i64<|G.c+1;have oA:∀e∈#[rd p.tk,wr p.tk],p.EvS e:=by intro e he;simp at he;rcases he with rfl|rfl<;>exact ad ⟨_,_,rfl,ad rfl⟩
 have Qk:bV (az t<|p.J+i) #[rd p.tk,wr p.tk]=0:=by rw[hd];rfl
 have hW:p.Wg<(G.w.setCell p.tk<|ax .i64<|G.c+1).heap.size:=by rw[T.size];exact h.jl.qa _<|ac rfl
 have hT:p.tk.block<(G.w.setCell p.tk<|ax .i64<|G.c+1).heap.size:=by rw[T.size];exact h.jl.qa _<|ad<|ac rfl
 let⟨cs,a2⟩:=h.bs;have zY:(bZ G.D i).stage=7:=by simp[bZ,U];rfl
 refine h.stepW hR cO hS oX hi (c':=G.c+1) hg hgo cQ (λb _ _ hn=>T.block b λe=>hn<|ad<|ac e) (by rw[Qk,(cU T.size)];exact pd) (GZ oA) (rH hW hT oA) (h.wg.of_block<|T.block _ cO.wt) (h.tk.set _) ⟨cs,a2.of_block<|T.block _<|Ne.symm cO.tb⟩
  (λtag' ht _=>by rw[dZ];exact lI h.mode ht zY) ⟨aZ,Td,EA,λs seq vs Z e=>absurd e<|UU s seq vs Z⟩ (λk _ vs hs=>hs.of_block<|T.block _<|Ne.symm cO.tb) ab (λx hx h1 h2=>?_) (λx hx=>a1 x<|by rw[U]at hx;exact hx) ?_ (ac ⟨by rw[U];exact Y,by rw[dZ,U];exact agw _⟩)
 grind;have e:=sumTo_upd G.D pl' ox.dP hi;have e0:(G.D i).dP=0:=by rw[U];rfl
 have:=h.bound;omega
def Inv.ZM (hR:p.kz)(cO:Geo p ay)(hS:∀l,ay l->l.low cJ)(oX:∀Ro M g W,Anch Ro M g W->g.status=.running)(hL:p.L+p.n<4611686018427387904)(h:p.Inv ay cJ Fin Anch G t)(Y:i<G.j){lo seq}(Z:G.D i=.jG f lo seq) (hg:G.gs[p.J+i]?=some g)(hd:az t (p.J+i)=0)(hs:PT p.P false p.I oD (G.Ro<|i+1) (p.ll i (G.Ro<|i+1) f lo seq) (G.R<|p.J+i) (G.M<|i+1) g G.w): p.Nx ay cJ Fin Anch G t (p.J+i):=by
 have fa:=h.fact i Y;rw[Z]at fa;have Td:=fa.lo;have aZ:∀x∈seq,x<p.L:=fa.seq;have hc:G.c<4611686018427387904:=by have:=h.bound;have:=MV G.D G.j;have:=h.jn;omega
 rcases hs.cases with dE|⟨fr,hr,a2,dt⟩;have dZ:=dE G.w (aU.refl _ _) h.I;cases f with|zero=>let⟨uy,g',T,a1,uB⟩:=dZ.2 G.c Td hc h.tk;exact h.PM hR cO hS oX Y Z hg T hd (.put uB) (by grind [ox.cost]) rfl aN aZ (λx U=>U) trivial (λU=>ab) (λ_=>ab) (ad rfl)|succ f=>let⟨g',T,uB,zO⟩:=dZ.2 G.c Td hc h.tk;rcases agE G.c p.L with aG|uy;let⟨a1,hn⟩:=zO aG;refine h.PM hR cO hS oX Y Z hg T hd (.jG hn) (by grind [ox.cost]) rfl aN (λx U=>?_) (λx U=>List.mem_append_left _ U) (agw _) (λ_=>by simp[ox.seq]) (λe=>by cases e)<|ac aG;rcases agX.1 U with U|U<;>grind;let⟨a1,hp⟩:=uB uy;exact h.PM hR cO hS oX Y Z hg T hd (.put hp) (by grind [ox.cost]) rfl aN aZ (λx U=>U) trivial (λU=>ab) (λ_=>ab) (ad rfl)
 let⟨g',w',es,T,hp,hn⟩:=dt G.w (aU.refl _ _) h.I;exact h.Yj hR cO hS oX Y hg T hp hd (by rw[Z];exact .jG hn) cQ (by rw[hr];exact⟨_,rfl⟩)
def Inv.aeP (hR:p.kz)(cO:Geo p ay)(hS:∀l,ay l->l.low cJ)(oX:∀Ro M g W,Anch Ro M g W->g.status=.running)(h:p.Inv ay cJ Fin Anch G t)(hi:i<G.j){seq}(Y:G.D i=.put seq) (hg:G.gs[p.J+i]?=some g)(hd:az t (p.J+i)=0)(hs:PT p.P false p.I oD (G.Ro<|i+1) (p.Cq i seq) (G.R<|p.J+i) (G.M<|i+1) g G.w): p.Nx ay cJ Fin Anch G t (p.J+i):=by
 have fa:=h.fact i hi;rw[Y]at fa;rcases hs.cases with dE|⟨fr,hr,cd,dt⟩;let⟨_,dZ⟩:=dE G.w (aU.refl _ _) h.I;let⟨g',w',es,vs,hgo,uB,oA,Mr,C,c,v,m,p6,bp,hC,ZT,bq⟩:=dZ h.bs;have XG:grow (G.M<|i+1) G.w w'=G.M (i+1):=cU uB.size;have a3:∀e∈es,a6 e=.access e/\∃a:Addr,e.loc=.cell a/\e.sync=false:=λe he=>by let⟨Z,a,U,_⟩:=oA e he;let⟨ch,wr,sy⟩:=e;simp at Z U;subst Z U;exact⟨rfl,a,rfl,rfl⟩
 have EC:∀e∈es,∀x,(a6 e).touch?=some x->x.kind=.plain/\p.tE i x.loc:=λe he x z=>by let⟨Z,a,U,h3,h4,h5⟩:=oA e he;rw[(a3 e he).1]at z;simp[bK,Z]at z;subst z;exact⟨rfl,a,U,h3,h4,h5⟩
 have Qk:bV (az t<|p.J+i) es=0:=by rw[hd];refine b8 (λe he=>?_) 0;grind
 have ks:=uB.block;let⟨cs,bl⟩:=h.bs;let⟨bx,Jy,T⟩:=uB.put cs bl;have aZ:∀{w:aa} {a b:Array aL},p.rX a w->p.rX b w->a=b:=λZ U=>by have:=Z.1.symm.trans U.1;simpa using this
 have b3:p.Slot i vs w':=by refine⟨uB.len,λd hd o ho=>?_⟩;obtain rfl:=aZ hd Jy;rw[T,if_pos (by constructor;(· omega);rw[ca];omega)];congr 1;omega
 have Ti:∀k,k≠i->∀vs,p.Slot k vs G.w->p.Slot k vs w':=by refine λk hk vs hs=>⟨hs.1,λd hd o ho=>?_⟩;obtain rfl:=aZ hd Jy;rw[T,if_neg,hs.2 cs bl o ho];intro ⟨Z,U⟩;(have a1:i*p.wd<(k+1)*p.wd:=by rw[ca k];omega);have a2:k*p.wd<(i+1)*p.wd:=ab;have b1:=bA a1;have b2:=bA a2;omega
 have zY:(bZ G.D i).stage=7:=by simp[bZ,Y];rfl
 have ei:p.J+i-p.J=i:=ab;refine h.stepW hR cO hS oX hi (pl':=.lib 7 seq vs Mr) (ρ':=Rk.nat m) hg hgo (by rw[uB.size];exact agw _) (λb _ _ hn=>ks b λe=>hn<|ad<|ad e) ?_ (λop bF=>?_) (λop bF=>?_) (h.wg.of_block<|ks _ cO.wb) (h.tk.of_block<|ks _ cO.tb) ⟨bx,Jy⟩
   (λtag' ht _=>lI h.mode ht zY) ⟨fa.seq,trivial,λ_=>fa.out rfl,λs sq v' cj e=>?_⟩ Ti ab (λx _ Z U=>ab) (λx z=>by rw[Y]at z;exact z) ?_ (ac ⟨by rw[Y];simp[ox.cost],by rw[Y];exact agw _⟩)
 rw[Qk,XG];exact .lib hC ZT<|@WSit.r0 p.pl _ _ _ _ _ _ _ _ _ _ _ _ _ bq;obtain⟨e,he,rfl⟩:=bi bF;refine⟨rfl,λx z=>ad<|ac ⟨bJ _ _,ad ?_⟩⟩;rw[ei];exact(EC e he x z).2;obtain⟨e,he,rfl⟩:=bi bF;refine⟨λx z=>?_,λx z=>?_,λz=>?_,λ_ x z hk=>?_⟩;let⟨_,a,e1,_⟩:=EC e he x z;rw[e1];rfl;let⟨_,a,e1,e2,_⟩:=EC e he x z;rw[e1];show a.block<_;rw[e2,uB.size];exact h.jl.qa _<|ad<|ad rfl;have:=bB z;let⟨_,a,U,_⟩:=a3 e he;rw[U]at this;cases this;rw[(EC e he x z).1]at hk;cases hk;cases e;exact⟨b3,⟨p6,by rw[XG];exact bp⟩,λh6=>absurd h6 ab⟩;have e:sumTo G.j (λk=>(upd G.D i (.lib 7 seq vs Mr) k).dP)+(G.D i).dP=sumTo G.j (λk=>(G.D k).dP)+1:=sumTo_upd G.D (.lib 7 seq vs Mr) ox.dP hi;have e0:(G.D i).dP=1:=by rw[Y];rfl
 have:=h.bound;omega;let⟨g',w',es,hgo,hp,hn⟩:=dt G.w (aU.refl _ _) h.I;exact h.Yj hR cO hS oX hi hg hgo hp hd (by rw[Y];exact .put hn) (by rw[Y];simp) (by rw[hr];exact⟨_,rfl⟩)
end Ph
end
