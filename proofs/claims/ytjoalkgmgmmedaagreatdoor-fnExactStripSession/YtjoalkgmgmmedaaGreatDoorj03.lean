import Derived.Test.YtjoalkgmgmmedaaGreatDoorj02
import Derived.Conc.Beside
import Derived.Conc.CrowdRun
set_option linter.unusedVariables false
set_option linter.defProp false
set_option maxHeartbeats 1000000
open Array renaming getElem?_push->br
open Bool renaming false_eq_true->a6,not_true->ce
open Go renaming Goroutine->aa,World->ac,stepG->aI,Value->be,Event->bj,results->bk,Question->bn,Program->bB,Frame->bE,deafBehind->bL,mark->bV,HappensBefore->b4,Trace->b6,seen->b9,MemOp->cf,Next->cp,doReturn->cq,resolve->cz,GStep->cA,runN->cN
open Go.Conc renaming mem_ofEvents->ax,getElem?_append_cases->aL,woken->a0,Deaf->a9,touchAt->bO,touchAt_of->bW,runT_crowd_go->b5,woken_quitsD->b8,Deaf_other->cc,deafBehind_still->cl,touch_of->cu,Deaf_own->cv,again_running->cw
open Go.ConcN renaming Mode->bb,cell_of_block->cF,isOpen->cL,Deaf_still->cM
open Go.ConcR renaming loc_of_ofEvent->a5,mk->bR,again_blocked->cB,ofEvent_loc_mark->cC
open Go.Frame renaming eval->bi,catches->bt,enter->b0
open Go.GStep renaming after->ad
open Go.Goroutine renaming callers->bo,frame->bA
open Go.MemAct renaming ofEvent->aV,touch?->bS
open Go.MemOp renaming ofEvents->ao
open Go.Value renaming int->bv
open Go.World renaming frozen?->bz,cell?->bH
open Go.stepG renaming apply->av,exec->aE,oper->ci
open Nat renaming lt_of_mul_lt_mul_right->a8,le_add_right->bM,lt_wfRel->cn,add_mul->co,rec->cE
open Ne renaming symm->bI
open Option renaming map_some->a4,elim_none->b7
open Or renaming inl->au,inr->aB
open Prod renaming Lex->ca,lex->cb,snd->cx
open Prod.Lex renaming left->a7,right->bm
namespace Go.Proofs.YtjoalkgmgmmedaaGreatDoor
open Conc
variable {Anch:(Nat->Prop)->(Nat->Prop)->aa->ac->Prop}{Stop:(Nat->Prop)->aa->ac->Prop}{es:Array bj}{m str:Bool}{ok:Ctx}{e:bj}{X:bj->Prop}{c O fr fr2 r0:bE}{g g' D:aa}{G3 Hf:Int}{cs cs2 rest:List bE}{l:Loc}{ay:Loc->Prop}{B K b c' cI f i j k x:Nat}{v y:Nat->Loc->Prop}{M R S A:Nat->Prop}{P afn:bB}{p:Prop}{t u:b6}{Q:be->ac->Prop}{V C N W W' ai w w' w2:ac}{F:ac->cA}
section
variable [Gl]
def Sh (F:ac->cA)(V:ac):Prop:=((∃D N es,F V=.go D N es)\/∃o w es,F V=.ended o w es)/\∀D N es,F V=.go D N es->V.drawn<=N.drawn/\N.tape=V.tape/\
 ∀τ d,mG V.tape V.drawn τ d (N.drawn-V.drawn)->F (re V τ d)=.go D (re N τ<|d+(N.drawn-V.drawn)) es
omit [Gl] in
def fo (g:aa)(es:Array bj)(h:∀w,F w=.go g w es):Sh F V:=by
 refine⟨au ⟨_,_,_,h V⟩,?_⟩;grind
omit [Gl] in
def qP (h:∃o w es,F V=.ended o w es):Sh F V:=by
 refine⟨aB h,?_⟩;grind
omit [Gl] in
def Il {s:cA}(h:(∃D N z,s=.go D N z)\/∃o w z,s=.ended o w z):(∃D N z,ad es s=.go D N z)\/∃o w z,ad es s=.ended o w z:=by
 rcases h with⟨_,_,_,rfl⟩|⟨_,_,_,rfl⟩
 .exact au ⟨_,_,_,rfl⟩
 exact aB ⟨_,_,_,rfl⟩
def yl {ρ:Ren}{α β:Type}{A s}{s':Sem β}(T:ag afn P ok str A ρ s s')(hw:bw ok str ρ V W)
  {E:Array bj->Array bj}{k:α->aa}{kp:be->Option aa}(Z:∀w a w' es,s.runT afn w #[]=(.ok a w',es)->F w=.go (k a) w' (E es))
  (hp:∀w v w' es,s.runT afn w #[]=(.halt (.panic v) w',es)->match kp v with|some g=>F w=.go g w' (E es)|none=>∃o u U,F w=.ended o u U)(hs:∀w r es,s.runT afn w #[]=(r,es)->Result.stops r->∃o u U,F w=.ended o u U):Sh F V:=by
 generalize z:s.runT afn V #[]=x;let⟨r,e1⟩:=x;refine⟨?_,?_⟩
 .rcases T.sound #[] #[] hw z with dZ|⟨σ,r',C,W',d',_,Y,_,_⟩
  .grind
  cases Y with
  |ok _ _=>grind
  |@panic v v' C W' _ _=>
   grind
 intro D N DO e;rcases T.shift #[] hw z with dZ|⟨h1,h2,h3⟩
 .grind
 rcases T.sound #[] #[] hw z with dZ|⟨σ,r',C,W',d',_,Y,_,_⟩
 .grind
 cases Y with
 |@ok a b C W' _ _=>
  rw[Z _ _ _ _ z]at e;obtain⟨rfl,rfl,rfl⟩:=e;exact⟨h1,h2,λτ d hA=>Z _ _ _ _<|h3 τ d hA⟩
 |@panic v v' C W' _ _=>
  have h6:=hp _ _ _ _ z;cases hk:kp v with
  |none=>
   grind
  |some g=>
   rw[hk]at h6;rw[h6]at e;obtain⟨rfl,rfl,rfl⟩:=e;refine⟨h1,h2,λτ d hA=>?_⟩;have:=hp _ _ _ _<|h3 τ d hA;rw[hk]at this;exact this
section
variable {ρ:Ren}
def Lb (p:bB)(fr:bE)(cs:List bE):cp->aa
 |.value v=>G (fr.finish v) cs
 |.skip=>G (fr.finish undef) cs
 |.enter f xs=>G (b0 p f xs .normal) (fr::cs)
 |.round l f xs a b=>G (Frame.round l f xs a b .normal) (fr::cs)
 |.recover=>vH fr cs
 |_=>G fr cs
def XI (x9:p:=by
  rw[go hr]at e;simp at e;obtain⟨rfl,rfl,rfl⟩:=e;exact⟨h1,h2,λτ d hA=>go<|h3 τ d hA⟩):p:=x9
def yH (hS:Same afn P ok){s s'}(Z:ag afn P ok str (λσ x y=>oy ok σ x y) ρ s s')(hf:cU P ok ρ fr O)(hw:bw ok str ρ V W):Sh (λw=>av afn true fr cs none s w) V:=by
 have Y:=hf.early.1;have kY:=hf.todo.QB;generalize hr:s.runT afn V #[]=x;let⟨r,e1⟩:=x;refine⟨?_,?_⟩
 .rcases Z.sound #[] #[] hw hr with T|⟨σ,r',C,W',d',_,h5,_,_⟩
  .cases r with
   |ok a w=>cases T
   |halt U w=>
    cases U with
    |stuck y=>simp only[av,if_true,hr,ad];grind
    |unsupported u=>
     cases u with
     |initOrder g=>cases T
     |_=>simp only[av,if_true,hr,ad];grind
    |_=>cases T
  cases h5 with
  |@ok a b C W' hN _=>
   cases hN with
   |value hv=>simp only[av,if_true,hr,ad];exact au ⟨_,_,_,rfl⟩
   |skip=>simp only[av,if_true,hr,ad];exact au ⟨_,_,_,rfl⟩
   |recover=>exact au ⟨_,_,_,nE hS.YT.1 hr Y⟩
   |enter f eF hx=>exact au ⟨_,_,_,mI hr kY.1 Y⟩
   |round f hl hi hx ha hb=>simp only[av,if_true,hr,ad];exact au ⟨_,_,_,rfl⟩
  |panic _ _=>simp only[av,if_true,hr,ad];exact au ⟨_,_,_,rfl⟩
 intro D N DO e;have stop:Result.stops r=true->False:=by
  intro T;simp at e;cases r with
  |ok a w=>cases T
  |halt U w=>
   cases U with
   |stuck y=>simp only[av,if_true,hr,ad]at e;cases e
   |unsupported u=>
    cases u with
    |initOrder g=>cases T
    |_=>simp only[av,if_true,hr,ad]at e;cases e
   |_=>cases T
 rcases Z.shift #[] hw hr with T|⟨h1,h2,h3⟩
 .exact(stop T).elim
 rcases Z.sound #[] #[] hw hr with T|⟨σ,r',C,W',d',_,h5,_,_⟩
 .exact(stop T).elim
 simp only at e⊢;cases h5 with
 |@ok a b C W' hN _=>
  have go:∀{w w':ac} {es:Array bj},s.runT afn w #[]=(.ok a w',es)->av afn true fr cs none s w=.go (Lb afn fr cs a) w' (b9 afn fr.fn es):=by
   intro w w' es U;cases hN with
   |value hv=>simp only[av,if_true,U,ad,Y];simp[G,Lb]
   |skip=>simp only[av,if_true,U,ad,Y];simp[G,Lb]
   |recover=>exact nE hS.YT.1 U Y
   |enter f eF hx=>exact mI U kY.1 Y
   |round f hl hi hx ha hb=>simp only[av,if_true,U,ad,Y];simp[G,Lb]
  exact XI
 |@panic v v' C W' _ _=>
  have go:∀{w w':ac} {es:Array bj},s.runT afn w #[]=(.halt (.panic v) w',es)->av afn true fr cs none s w=.go (G (fr.raise [{v,recovered:=false}]) cs) w' (b9 afn fr.fn es):=by
   intro w w' es U;simp only[av,if_true,U,ad,Y];simp[G]
  exact XI
omit [Gl] in
def Sh.congr {n:ac->cA}(h:Sh F V)(e:∀w,n w=F w):Sh n V:=by
 refine⟨by rw[e];exact h.1,?_⟩;intro D N es o;rw[e]at o;let⟨z,E,L⟩:=h.2 D N es o;grind
def zN (hk:fr.kind=.normal\/fr.kind=.deferred)(hw:bw ok str ρ V W)(z)(T:∀c,z=some c->ok.code c){l U}(Y:ρ l=some U):
  Sh (λw=>let(r,es):=(Instr.endRound l z).runT afn w #[];ad (b9 afn fr.fn es)<|match r with|.ok v w=>cq afn m fr (c::cs) none v w|.halt _ w=>.ended (.stuck "range over a function: no such loop"<|fr.pos afn) w) V:=by
 refine yl (afn:=afn) (P:=afn) (E:=λes=>b9 afn fr.fn es) (k:=λv=>G (kI fr.kind c v) cs) (kp:=λ_=>none) (xk Y z T) hw ?_ ?_ ?_
 .grind [gH,ad]
 .simp_all [ad]
 intro w r es h Z;cases r with
 |ok a w=>cases Z
 |halt hh w=>simp_all [ad]
def aca (x9:p:=by
  show(if((ops[i]?).map (Region.wanted ·<|yielded ops tmps)).getD false then stepG.oper afn true ⟨d7,tmps,.inRegion ops (i::rest)::k,defers,.run,kind,roundOf⟩ (c::cs) none w
   else .go (G (Frame.finish ⟨d7,tmps,.inRegion ops (i::rest)::k,defers,.run,kind,roundOf⟩ undef)<|c::cs) w)=_
  grind):p:=x9
def TD (Y:dQ afn P ok)(Z:cU P ok ρ fr O)(hw:bw ok str ρ V W)(hm:fr.mode=.run):Sh (λw=>aE afn m true fr (c::cs) none w) V:=by
 obtain⟨fn,tmps,aZ,defers,a2,kind,roundOf⟩:=fr;obtain⟨d7,dt,gS,cX,pJ,eu,bp⟩:=O;have ht:=Z.todo;have T:=Z.round;have rQ:=Z.fn;have hk:=Z.kind;have wD:=Z.eu;have qr:=Z.mode;have hi:=Z.aN;simp only at ht T rQ hk wD hm qr hi;subst hm rQ eu;cases qr;cases ht with
 |nil=>
  cases T with
  |none=>exact fo _ _ λw=>rfl
  |some U=>exact zN hk hw none aP U
 |@cons x x' k k' hx mE=>
  cases hx with
  |inBlock id=>exact fo _ _ λw=>rfl
  |inLoop fq=>exact fo _ _ λw=>rfl
  |inRangeFunc U=>exact qP ⟨_,_,_,rfl⟩
  |@endRangeFunc l l' U=>
   refine yl (P:=P) (E:=λes=>b9 afn d7 es) (k:=λj=>G ⟨d7,tmps,(j.map Item.code).toList++k,defers,.run,kind,roundOf⟩<|c::cs)
    (kp:=λv=>some<|G (Frame.raise ⟨d7,tmps,.endRangeFunc l::k,defers,.run,kind,roundOf⟩ [{v,recovered:=false}])<|c::cs) (AD Y.tab U) hw ?_ ?_ ?_
   .grind [aE,ad,G]
   .grind [aE,ad,G]
   intro w r es h dZ;cases r with
   |ok a w=>cases dZ
   |halt hh w=>cases hh<;>first|cases dZ;done|(simp only[aE,h,ad];exact⟨_,_,_,rfl⟩)
  |beginRound=>
   refine(yH Y.toSame (s':=do bp.elim (stuck "beginRound: no round") Instr.beginRound;pure .skip) ?_ Z hw).congr λw=>rfl
   refine yq (A:=λ_ _ _=>True) ?_;cases T with
   |none=>exact .halt _ _
   |some U=>exact sA Y.tab U
  |@inRegion ops fI aZ ho=>
   cases aZ with
   |nil=>exact fo _ _ λw=>rfl
   |cons i rest=>
    by_cases wI:((ops[i]?).map (Region.wanted ·<|yielded ops tmps)).getD false=true
    .cases Su:ops[i]? with
     |none=>grind
     |some o=>
      obtain⟨o',a3,h1⟩:=ho.get Su;have e0:∀w:ac,aE afn m true ⟨d7,tmps,.inRegion ops (i::rest)::k,defers,.run,kind,roundOf⟩ (c::cs) none w=ci afn true ⟨d7,tmps,.inRegion ops (i::rest)::k,defers,.run,kind,roundOf⟩ (c::cs) none w:=by
       intro w;exact aca
      rcases h1 with bF|a1
      .refine(yH (cs:=c::cs) Y.toSame (Rt Y bF (Z.eval hw.gl) (λ_=>⟨rfl,rfl⟩) λ_=>rfl) Z hw).congr λw=>?_
       rw[e0];simp only[ci,Frame.oper?,Su];split
       .rename_i e;exact absurd e (bF.dead.2 _).1
       .rfl
      obtain⟨x,a1⟩:=Option.isSome_iff_exists.1 a1;obtain⟨oc,iq,hd⟩:=Ci (fr:=⟨d7,tmps,.inRegion ops (i::rest)::k,defers,.run,kind,roundOf⟩) (w:=V) Su a1;exact qP ⟨_,_,_,(e0 V).trans hd⟩
    refine fo (G (Frame.finish ⟨d7,tmps,.inRegion ops (i::rest)::k,defers,.run,kind,roundOf⟩ undef)<|c::cs) #[] λw=>?_
    exact aca
  |@code cd Yv fq=>
   have bl:∀{o:Operand} {a b:Code},cd=.cond o a b->Sh (λw=>aE afn m true ⟨d7,tmps,.code cd::k,defers,.run,kind,roundOf⟩ (c::cs) none w) V:=by
    intro o a b e;subst e;cases he:bi ⟨d7,tmps,.code (.cond o a b)::k,defers,.run,kind,roundOf⟩ o with
    |bool t=>exact fo _ #[] λw=>by simp only[aE,he];rfl
    |_=>exact qP<|by simp_all [aE]
   have bq:∀{id:Nat} {a:Array Oper} (d:Bool),cd=.region id a d->Sh (λw=>aE afn m true ⟨d7,tmps,.code cd::k,defers,.run,kind,roundOf⟩ (c::cs) none w) V:=by
    intro id a d e;subst e;cases d with
    |false=>exact fo _ _ λw=>rfl
    |true=>
     have hq:(Question.order d7 id).forced=false:=rfl;refine⟨?_,?_⟩
     .simp only[aE,choose,Sem.run,hq,ce,a6,if_false];grind
     intro D N es h;simp only[aE,choose,Sem.run,hq,ce,a6,if_false,GStep.go.injEq]at h⊢;obtain⟨rfl,rfl,rfl⟩:=h;refine⟨Nat.le_succ _,rfl,λτ d hA=>?_⟩;have:τ d (.order d7 id)=V.tape V.drawn (.order d7 id):=(hA 0 aP _).symm;simp only[re,this,true_and,and_true];simp
   cases fq with
   |seq _ _=>exact fo _ _ λw=>rfl
   |block _=>exact fo _ _ λw=>rfl
   |loop _=>exact fo _ _ λw=>rfl
   |region d ho=>grind
   |cond _ _ _=>grind
   |same fq=>
   cases cd with
   |skip=>exact fo _ _ λw=>rfl
   |refuse y=>exact qP ⟨_,_,_,rfl⟩
   |seq a b=>exact fo _ _ λw=>rfl
   |cond o a b=>grind
   |block id b=>exact fo _ _ λw=>rfl
   |loop b=>exact fo _ _ λw=>rfl
   |exit id=>
    rcases mE.exit (id:=id)with⟨n1,n2⟩|⟨q,q',s1,s2,hq⟩
    .cases T with
     |none=>exact qP (by simp_all [aE,b7])
     |@some l l' U=>
      refine(zN (afn:=afn) (m:=m) (c:=c) (cs:=cs) (fr:=⟨d7,tmps,.code (.exit id)::k,defers,.run,kind,some l⟩) hk hw (some<|.exit id) (by simp[Y.code,codeOk]) U).congr λw=>?_
      simp only[aE,n1,b7];rfl
    .exact fo _ #[] λw=>by simp only[aE,s1,Option.elim_some];rfl
   |ret=>
    cases T with
    |none=>exact fo _ _ λw=>rfl
    |some U=>exact zN (fr:=⟨d7,tmps,.code .ret::k,defers,.run,kind,some _⟩) hk hw (some .ret) (by simp[Y.code,codeOk]) U
   |region id ops d=>grind
   |rangeFunc f params a b=>
    simp only[codeOk,Bool.and_eq_true]at fq;let FA:Nat->List Deferred->ac->GStep:=λl bV w=>av afn true ⟨d7,tmps,.inRangeFunc l::k,bV++defers,.run,kind,roundOf⟩ (c::cs) none (do let d <-cz (bi ⟨d7,tmps,.inRangeFunc l::k,bV++defers,.run,kind,roundOf⟩) {callee:=.value f,args:=#[.const<|.func (.yield l) #[] #[]],argTypes:=#[]} 0;invoke d.target d.args) w
    have SM:∀w,aE afn m true ⟨d7,tmps,.code (.rangeFunc f params a b)::k,defers,.run,kind,roundOf⟩ (c::cs) none w=
      (let(r,es):=(Instr.enterLoop d7 tmps params a b roundOf).runT afn w #[];ad (b9 afn d7 es)<|match r with
       |.ok (l,bV) w=>FA l bV w
       |.halt _ w=>.ended _ w):=λw=>rfl
    refine Sh.congr ?_ SM;generalize fO:(Instr.enterLoop d7 tmps params a b roundOf).runT afn V #[]=x;obtain⟨r,e1⟩:=x;have hR:=uU (afn:=afn) (P:=P) (str:=str) d7 hi Z.tmps params ((Y.code a).trans fq.1.2) ((Y.code b).trans fq.2) T;have Wu:∀{σ:Ren} {l l':Nat} {bV uB:List Deferred} {C W':ac},ρ.le σ->σ l=some l'->jw ok σ bV uB->bw ok str σ C W'->Sh (FA l bV) C:=by
     intro σ l l' bV uB C W' h4 U Oi aF;have WG:cU P ok σ ⟨d7,tmps,.inRangeFunc l::k,bV++defers,.run,kind,roundOf⟩ ⟨d7,dt,.inRangeFunc l'::k',uB++cX,.run,kind,bp⟩:=
      ⟨rfl,hi,Z.tmps.mono h4,.cons (.inRangeFunc U)<|mE.mono h4,Oi.append<|Z.defers.mono h4,.run,hk,rfl,T.mono h4⟩
     refine yH Y.toSame (s':=do let d <-cz (bi ⟨d7,dt,.inRangeFunc l'::k',uB++cX,.run,kind,bp⟩) {callee:=.value f,args:=#[.const<|.func (.yield l') #[] #[]],argTypes:=#[]} 0;invoke d.target d.args) ?_ WG aF;have Zl:=WG.eval aF.gl f fq.1.1;unfold cz;dsimp only;generalize bi ⟨d7,tmps,.inRangeFunc l::k,bV++defers,.run,kind,roundOf⟩ f=v at Zl;generalize bi ⟨d7,dt,.inRangeFunc l'::k',uB++cX,.run,kind,bp⟩ f=v' at Zl;cases Zl with
     |func rQ e1 g1 e2 D=>
      exact aW<|vR Y.tab Y.toCallable (.fn rQ ⟨e2,D⟩) (aA.append ⟨e1,g1⟩<|by simpa[bi]using(aA.nil.push<|.func (.yield U) rfl aA.nil.at_ rfl aA.nil.at_))
     |nilFunc=>exact ij Y.tab .nilDeref rfl
     |hole _=>exact .dead _ _ λV=>qw Y.hole _ V
     |_=>exact .halt _ _
    refine⟨?_,?_⟩
    .simp only[fO];rcases hR.sound #[] #[] hw fO with dZ|⟨σ,r',C,W',d',h1,h2,h4,h5⟩
     .cases r with
      |ok a w=>cases dZ
      |halt hh w=>exact aB ⟨_,_,_,rfl⟩
     cases h2 with
     |panic _ _=>exact aB ⟨_,_,_,rfl⟩
     |@ok j j' C W' hv aF=>
      exact Il (Wu h4.le hv.1 hv.2 aF).1
    intro D N es h';simp only[fO]at h';rcases hR.sound #[] #[] hw fO with dZ|⟨σ,r',C,W',d',h1,h2,h4,h5⟩
    .exact ach
    rcases hR.shift #[] hw fO with dZ|⟨s1,s2,s3⟩
    .exact ach
    cases h2 with
    |panic _ _=>exact(fY h').elim
    |@ok j j' C W' hv aF=>
     obtain⟨l,bV⟩:=j;obtain⟨l',uB⟩:=j';obtain⟨U,Oi⟩:=hv;obtain⟨TA,h3⟩:=lL h';have h3:FA l bV C=.go D N TA:=h3;obtain⟨q1,q2,q3⟩:=(Wu h4.le U Oi aF).2 D N TA h3;simp only[iD]at s1 s2 s3;have he:es=b9 afn d7 e1++TA:=by
      have:=h';simp only at this;rw[h3]at this;simp only[ad,GStep.go.injEq,true_and]at this;exact this.symm
     refine⟨ab,by rw[q2,s2],λτ d hA=>?_⟩;have TQ:mG C.tape C.drawn τ (d+(C.drawn-V.drawn)) (N.drawn-C.drawn):=by
      have:mG V.tape V.drawn τ d ((C.drawn-V.drawn)+(N.drawn-C.drawn)):=hA.less ab;have:=this.tail;rw[show V.drawn+_=C.drawn by omega]at this;rw[s2];exact this
     simp only[(s3 τ d<|hA.less ab),reR];rw[(q3 τ _ TQ),he,show d+_+_=d+(N.drawn-V.drawn) by omega];rfl
   |_=>cases fq
def NQ (hP:dQ afn P ok)(Y:cU P ok ρ fr O)(hw:bw ok str ρ V W)(hm:fr.mode≠.run):Sh (λw=>unwind afn m fr (c::cs) none w) V:=by
 let⟨fn,tmps,U,aF,Z,kind,T⟩:=fr;let⟨d7,dt,gS,cX,pJ,eu,bp⟩:=O;have rQ:=Y.fn;have hk:=Y.kind;have qr:=Y.mode;have hi:=Y.aN;have hd:=Y.defers;simp only at rQ hk hm qr hi hd;subst rQ;let⟨F,cd,a2,f1,f2,f3,f4⟩:=hP.same d7 hi;cases hd with
 |@cons d0 a3 ds bl hr bq=>
  cases hr with
  |@call f xs bs ys vc aZ a1 vh bx=>exact fo _ #[] λw=>o0 (hP.left f aZ<|hP.inx f a1) rfl
  |@mark r0 U2 hr=>
  refine yl (afn:=afn) (P:=P) (E:=λes=>b9 afn d7 es) (k:=λj=>G ⟨d7,tmps,U,j++ds,Z,kind,T⟩<|c::cs) (kp:=λ_=>none) (LC hr) hw ?_ ?_ ?_
  .grind [unwind,ad,G]
  .simp_all [unwind,ad]
  intro w r es h dZ;cases r with
  |ok a w=>cases dZ
  |halt hh w=>simp_all [unwind,ad]
 |nil=>
  cases qr with
  |run=>grind
  |@panicking ch bF vw=>
   have c1:bt afn ⟨d7,tmps,U,[],.panicking ch,kind,T⟩=false:=by grind [bt]
   refine fo (G (c.raise ch) cs) #[] λw=>?_
   simp only[unwind,c1,a6,if_false];rfl
  |returning=>
   refine yl (P:=P) (E:=λes=>b9 afn d7 es) (k:=λv=>G (kI kind c v) cs) (kp:=λ_=>none) (pz hP.tab F Y.tmps) hw ?_ ?_ ?_
   .grind [unwind,ad,gH]
   .simp_all [unwind,ad]
   intro w r es h dZ;cases r with
   |ok a w=>cases dZ
   |halt hh w=>cases hh<;>(simp only[unwind,f1,h,ad];exact⟨_,_,_,rfl⟩)
def EP (T:dQ afn P ok)(U:cU P ok ρ fr O)(hw:bw ok str ρ V W):Sh (λw=>aI afn m (G fr<|c::cs) w) V:=by
 by_cases z:fr.mode=.run
 .exact(TD T U hw z).congr λw=>rE z
 exact(NQ T U hw z).congr λw=>gn z
end
structure St where
 fr:bE
 cs:List bE
 V:ac
def St.re (s:St)(τ:Nat->bn->Nat)(d:Nat):St:=⟨s.fr,s.cs,Proofs.YtjoalkgmgmmedaaGreatDoor.re s.V τ d⟩
section
variable (afn:bB)(c:bE)(Q:be->ac->Prop)
def Ends (s:St):Prop:=s.cs=[]/\∃v,s.fr.leaving afn s.V (.returned v)/\Q v s.V
def fK (s s':St):Prop:=∃es,aI afn true (G s.fr<|s.cs++[c]) s.V=.go (G s'.fr<|s'.cs++[c]) s'.V es
def Fb:Nat->St->Prop
 |0,s=>Ends afn Q s
 |n+1,s=>∃z,fK afn c s z/\Fb n z
def xC (s' s:St):Prop:=∃τ d,fK afn c (s.re τ d) s'
def H (s:St):Prop:=∀τ d,∃n,Fb afn c Q n (s.re τ d)
end
def ge (afn:bB)(ok:Ctx)(s:St):Prop:=∃ρ,cU afn ok ρ s.fr s.fr/\ja afn ok ρ s.cs s.cs/\wh s.fr s.cs/\bw ok true ρ s.V s.V
structure j9 (afn)(c:bE):Prop where
 ret:∀v w,∃o w' es,aI afn true (G (c.finish v) []) w=.ended o w' es
 pan:∀ch w,∃o w' es,aI afn true (G (c.raise ch) []) w=.ended o w' es
theorem ge.re {s}(h:ge afn ok s)(τ:Nat->bn->Nat) d:ge afn ok (s.re τ d):=by
 let⟨ρ,o,z,E,n⟩:=h;exact⟨ρ,o,z,E,n.heap,rfl,rfl,n.gV,n.gW,n.gs⟩
def Edge (s:St):Prop:=s.cs=[]/\s.fr.mode≠.run/\s.fr.defers=[]
def vr (hP:dQ afn afn ok){s}(hs:ge afn ok s)(he:Edge s)(h:aI afn true (G s.fr<|s.cs++[c]) s.V=.go D N es):
  (∃v,D=G (c.finish v) [])\/∃Y,D=G (c.raise Y) []:=by
 let⟨ρ,h1,_,hb,_⟩:=hs;let⟨fr,cs,V⟩:=s;let⟨e1,e2,e3⟩:=he;subst e1;have hk:=congrArg cx<|hb fr rfl;rw[gn e2]at h;let⟨F,cd,_,f1,_⟩:=hP.same _ h1.aN;let⟨fn,tmps,T,Z,U,kind,z⟩:=fr;subst e3 hk;cases U with
 |run=>grind
 |panicking Y=>
  have c1:bt afn ⟨fn,tmps,T,[],.panicking Y,.normal,z⟩=false:=by grind [bt]
  simp only[unwind,c1,List.nil_append,a6,if_false,GStep.go.injEq]at h;exact aB ⟨Y,h.1.symm⟩
 |returning=>
  simp only[unwind,f1,List.nil_append]at h;let⟨TA,h3⟩:=lL h;generalize (bk F tmps).runT afn V #[]=x at h3;let⟨r,e⟩:=x;cases r with
  |ok v w=>
   simp[cq]at h3;exact au ⟨v,h3.1.symm⟩
  |halt hh w=>grind
def fK.inside (z:dQ afn afn ok){s s'}(hs:ge afn ok s)(h:fK afn c s s'):¬Edge s:=by
 intro he;let⟨es,h⟩:=h;rcases vr z hs he h with⟨v,e⟩|⟨T,e⟩<;>simp_all [G]
def C5 (hP:dQ afn afn ok)(jq:∀f,ok.fn f->ok.aN f){s}(hs:ge afn ok s)(he:¬Edge s)(h:aI afn true (G s.fr<|s.cs++[c]) s.V=.go D N es):
  ∃s',D=G s'.fr (s'.cs++[c])/\N=s'.V/\ge afn ok s':=by
 obtain⟨ρ,h1,h2,h3,h4⟩:=hs;obtain⟨σ,T,W2,DO,e,hg,hw,_,_⟩:=uY hP h1 h2 h3 h4 (λa b=>λd=>he ⟨a,b,d⟩) h;rw[h]at e;obtain⟨rfl,rfl,_⟩:=e;generalize Y:D=T at hg;have qp:qc afn afn ok σ [c] [c] D T:=by rw[Y]at*;omega
 cases qp with
 |@inside fr O cs aF Z a2 a3=>
  have e1:=congrArg bA Y;have U:=congrArg bo Y;simp only[G]at e1 U;have U:=af6 U;subst e1 U;exact⟨⟨fr,cs,N⟩,rfl,rfl,σ,Z,a2,a3,hw⟩
 |door Z a2=>grind
def fK.self (T:dQ afn afn ok)(U:∀f,ok.fn f->ok.aN f){s s'}(hs:ge afn ok s)(h:fK afn c s s'):ge afn ok s':=by
 have Y:=h.inside T hs;let⟨es,h⟩:=h;let⟨Z,e1,e2,h2⟩:=C5 T U hs Y h;let⟨fr,cs,V⟩:=s';simp_all [G]
def fK.sh (T:dQ afn afn ok){s s'}(hs:ge afn ok s)(h:fK afn c s s'):s.V.drawn<=s'.V.drawn/\s'.V.tape=s.V.tape/\
  ∀τ d,mG s.V.tape s.V.drawn τ d (s'.V.drawn-s.V.drawn)->fK afn c (s.re τ d) (s'.re τ<|d+(s'.V.drawn-s.V.drawn)):=by
 let⟨ρ,U,Z,h3,Y⟩:=hs;let⟨es,h⟩:=h;cases z:s.cs++[c]with
 |nil=>simp_all
 |cons a l=>
  have:=(EP T U Y).2 _ _ _ (by rw[<-z];exact h);refine⟨this.1,this.2.1,λτ d hA=>⟨es,?_⟩⟩;grind [St.re]
theorem Ends.re (n:dQ afn afn ok)(o:∀v w τ d,Q v w->Q v (re w τ d)){s}(z:ge afn ok s)(h:Ends afn Q s)(τ:Nat->bn->Nat) d:Ends afn Q (s.re τ d):=by
 let⟨E,v,⟨L,T,U,fn,Y,l5⟩,Z⟩:=h;let⟨ρ,r1,_,_,r4⟩:=z;refine⟨E,v,⟨L,T,U,fn,Y,?_⟩,o _ _ _ _ Z⟩;generalize hx:(bk fn s.fr.tmps).runT afn s.V #[]=x;let⟨r,e1⟩:=x;have hr:r=.ok v s.V:=by
  simp_all
 subst hr;rcases(pz n.tab fn r1.tmps).shift #[] r4 hx with dZ|⟨_,_,h3⟩
 .cases dZ
 have:=h3 τ d (by intro i hi;simp[iD]at hi);have h4:=Sem.runT_fst afn (bk fn s.fr.tmps) (Proofs.YtjoalkgmgmmedaaGreatDoor.re s.V τ d) #[];rw[this]at h4;show(bk fn s.fr.tmps).run afn (Proofs.YtjoalkgmgmmedaaGreatDoor.re s.V τ d)=.ok v (Proofs.YtjoalkgmgmmedaaGreatDoor.re s.V τ d);grind [reR,iD]
def Fb.shift (T:dQ afn afn ok)(Y:∀f,ok.fn f->ok.aN f)(Z:∀v w τ d,Q v w->Q v (re w τ d)):∀n {s:St},ge afn ok s->Fb afn c Q n s->∀τ d,(∀i q,s.V.tape (s.V.drawn+i) q=τ (d+i) q)->Fb afn c Q n (s.re τ d):=by
 intro n;induction n with
 |zero=>intro s hs h τ d _;exact Ends.re T Z hs h τ d
 |succ n ih=>
  intro s hs h τ d hA;let⟨s',U,h2⟩:=h;let⟨k1,k2,k3⟩:=U.sh T hs;refine⟨_,k3 τ d λi _ q=>hA i q,ih (U.self T Y hs) h2 τ _ λi q=>?_⟩;rw[k2];have:=hA (s'.V.drawn-s.V.drawn+i) q;grind
omit [Gl] in
def fK.det {s T Y:St}(U:fK afn c s T)(z:fK afn c s Y):T=Y:=by
 let⟨_,U⟩:=U;let⟨_,z⟩:=z;rw[U]at z;simp at z;let⟨e,e2,_⟩:=z;have Z:=congrArg bA e;have e4:=congrArg bo e;simp only[G]at Z e4;let⟨a,b,d⟩:=T;simp_all
omit [Gl] in
def vt {s:St}(n:Ends afn Q s):Edge s:=by
 let⟨o,v,⟨E,z,_⟩,_⟩:=n;exact⟨o,cO,z⟩
theorem H.succ (Y:dQ afn afn ok)(jq:∀f,ok.fn f->ok.aN f)(hQ:∀v w τ d,Q v w->Q v (re w τ d)){s s'}(hs:ge afn ok s)(hH:H afn c Q s)(h:xC afn c s' s):H afn c Q s'/\ge afn ok s':=by
 let⟨τ,d,h⟩:=h;have uk:=hs.re τ d;let⟨k1,k2,k3⟩:=h.sh Y uk;have qt:=h.self Y jq uk;refine⟨λU Z=>?_,qt⟩;have aF:d<=s'.V.drawn:=k1;let T:Nat->bn->Nat:=λi q=>if i<s'.V.drawn then τ i q else U (Z+(i-s'.V.drawn)) q
 have hA:mG (s.re τ d).V.tape (s.re τ d).V.drawn T d (s'.V.drawn-(s.re τ d).V.drawn):=by
  intro i hi q;show τ (d+i) q=T (d+i) q;simp only[T];have p8:i<s'.V.drawn-d:=hi;rw[if_pos ab]
 have h2:=k3 T d hA;let⟨n,hn⟩:=hH T d;have e1:(s.re τ d).re T d=s.re T d:=rfl;rw[e1]at h2;cases n with
 |zero=>exact absurd (vt hn) (h2.inside Y<|hs.re T d)
 |succ n=>
  let⟨s2,g1,D⟩:=hn;have:=g1.det h2;subst this;refine⟨n,?_⟩;have e2:d+(s'.V.drawn-(s.re τ d).V.drawn)=s'.V.drawn:=by show d+(s'.V.drawn-d)=_;omega
  rw[e2]at D;have:=Fb.shift Y jq hQ n (qt.re T s'.V.drawn) D U Z (λi q=>by
   show T (s'.V.drawn+i) q=U (Z+i) q;simp only[T];rw[if_neg ab];congr 1;omega)
  exact this
omit [Gl] in
def vo {s:St}(h:¬Acc (xC afn c) s):∃f:Nat->St,f 0=s/\∀n,xC afn c (f<|n+1) (f n):=by
 have step:∀s:{s:St //¬Acc (xC afn c) s},∃T:{s:St //¬Acc (xC afn c) s},xC afn c T.1 s.1:=by
  intro ⟨s,hs⟩;apply af8;intro U;apply hs;refine⟨_,λy Y=>?_⟩;apply af8;intro Z;simp_all
 let g:Nat->{s:St //¬Acc (xC afn c) s}:=λn=>cE ⟨s,h⟩ (λ_ x=>(step x).choose) n
 exact⟨λn=>(g n).1,rfl,λn=>(step<|g n).choose_spec⟩
omit [Gl] in
def GB (D:Nat->Nat)(Z:∀n,D n<=D (n+1))(t:Nat->Nat->bn->Nat):∃T:Nat->bn->Nat,∀n j q,D n+j<D (n+1)->T (D n+j) q=t n j q:=by
 have o:∀n k,D n<=D (n+k):=by
  intro n k;induction k with
  |zero=>grind
  |succ k L=>grind
 have z:∀p,(∃n,p<D (n+1))->∃n,p<D (n+1)/\∀m,m<n->¬p<D (m+1):=by
  intro p ⟨n,hn⟩;induction n using Nat.strongRecOn with
  |ind n L=>
   grind
 classical
 refine⟨λp q=>if h:∃n,p<D (n+1)then t (z p h).choose (p-D (z p h).choose) q else 0,λn j q U=>?_⟩;have h:∃Y,D n+j<D (Y+1):=⟨n,U⟩;simp;have E:=(z (D n+j) h).choose_spec;have:(z (D n+j) h).choose=n:=by
  generalize (z (D n+j) h).choose=m at E;rcases Nat.lt_trichotomy m n with hl|rfl|hg
  .have h1:=E.1;have h2:=o (m+1)<|n-(m+1);grind
  .rfl
  grind
 grind
def OD (hP:dQ afn afn ok)(jq:∀f,ok.fn f->ok.aN f)(hQ:∀v w τ d,Q v w->Q v (re w τ d)){s}(hs:ge afn ok s)(hH:H afn c Q s):Acc (xC afn c) s:=by
 apply af8;intro hn;let⟨f,f0,Z⟩:=vo hn;have Y:∀n,H afn c Q (f n)/\ge afn ok (f n):=by
  intro n;induction n with
  |zero=>grind
  |succ n ih=>grind [H.succ]
 let τ:Nat->Nat->bn->Nat:=λn=>(Z n).choose
 let d:Nat->Nat:=λn=>(Z n).choose_spec.choose
 have g:∀n,fK afn c ((f n).re (τ n)<|d n) (f<|n+1):=λn=>(Z n).choose_spec.choose_spec
 let D:Nat->Nat:=λn=>cE 0 (λn x=>x+((f<|n+1).V.drawn-d n)) n
 have hD:∀n,D (n+1)=D n+((f<|n+1).V.drawn-d n):=λn=>rfl
 let⟨T,hT⟩:=GB D (λn=>cO) λn j q=>τ n (d n+j) q;have go:∀n,fK afn c ((f n).re T<|D n) ((f<|n+1).re T<|D<|n+1):=by
  intro n;let⟨_,_,k3⟩:=(g n).sh hP<|(Y n).2.re (τ n)<|d n;have:=k3 T (D n) (λi hi q=>by
   show τ n (d n+i) q=T (D n+i) q;have p8:i<(f<|n+1).V.drawn-d n:=hi;rw[hT n i q cO])
  assumption
 have U:∀N n,¬Fb afn c Q N ((f n).re T<|D n):=by
  intro N;induction N with
  |zero=>intro n h;exact absurd (vt h) ((go n).inside hP<|(Y n).2.re T<|D n)
  |succ N ih=>
   intro n h;let⟨s',h1,h2⟩:=h;have:=h1.det<|go n;grind
 let⟨N,hN⟩:=hH T 0;rw[<-f0]at hN;exact U N 0 hN
def H.step (Y:dQ afn afn ok)(jq:∀f,ok.fn f->ok.aN f)(hQ:∀v w τ d,Q v w->Q v (re w τ d)){s}(hs:ge afn ok s)(Z:H afn c Q s)(τ:Nat->bn->Nat) d:
  (Edge s/\Ends afn Q (s.re τ d))\/(¬Edge s/\∃s',fK afn c (s.re τ d) s'/\xC afn c s' s/\H afn c Q s'/\ge afn ok s'):=by
 let⟨n,U⟩:=Z τ d;cases n with
 |zero=>exact au ⟨vt (s:=s.re τ d) U,U⟩
 |succ n=>
  let⟨s',T,_⟩:=U;exact aB ⟨λhe=>T.inside Y (hs.re τ d) he,s',T,⟨τ,d,T⟩,(H.succ Y jq hQ hs Z ⟨τ,d,T⟩)⟩
omit [Gl] in
def mu (h:aI P true (G fr cs) w=.go (G fr2 cs2) w2 es):step P (lone fr cs w)=.next (lone fr2 cs2 w2):=by
 refine step_lone_go ?_;have:({frame:=fr,callers:=cs,status:=.running,dying:=none}:aa)=G fr cs:=rfl;rw[this,h];rfl
omit [Gl] in
def iz {o:Outcome}(h:aI P true (G fr cs) w=.ended o w2 es):step P (lone fr cs w)=.ended o w2:=by
 refine step_lone_ended ?_;have:({frame:=fr,callers:=cs,status:=.running,dying:=none}:aa)=G fr cs:=rfl;simp_all
omit [Gl] in
def qB (h:lone fr cs w=lone fr2 cs2 w2):fr=fr2/\cs=cs2/\w=w2:=by
 simp_all [lone]
def IM (hP:dQ afn afn ok)(jq:∀f,ok.fn f->ok.aN f)(hF:j9 afn c){U wE v}(hl:U.leaving afn wE (.returned v))(hq:Q v wE):
  ∀n {s:St},ge afn ok s->cN afn n (lone s.fr (s.cs++[c]) s.V)=.next (lone U [c] wE)->∃k,Fb afn c Q k s:=by
 intro n;induction n with
 |zero=>
  intro s hs h;simp[cN]at h;let⟨e1,Y,e3⟩:=qB h;have Y:s.cs=[]:=by
   simp_all
  refine⟨0,Y,v,?_,?_⟩;all_goals grind
 |succ n ih=>
  intro s hs h;let⟨ρ,h1,h2,h3,h4⟩:=hs;have hs:ge afn ok s:=⟨ρ,h1,h2,h3,h4⟩;have hk:(∃D N es,aI afn true (G s.fr<|s.cs++[c]) s.V=.go D N es)\/∃o w es,aI afn true (G s.fr<|s.cs++[c]) s.V=.ended o w es:=by
   cases aF:s.cs++[c]with
   |nil=>simp_all
   |cons a l=>exact(EP hP h1 h4).1
  simp[cN]at h;rcases hk with⟨D,N,es,T⟩|⟨o,w,es,T⟩
  .by_cases he:Edge s
   .exfalso;have Z:∀fr2,D=G fr2 []->(∀w,∃o w' es,aI afn true (G fr2 []) w=.ended o w' es)->False:=by
     intro fr2 e pP;subst e;rw[mu T]at h;cases n with
     |zero=>
      simp[cN]at h;let⟨_,Y,_⟩:=qB h;grind
     |succ n=>
      let⟨o,w',iq,hh⟩:=pP N;simp only[cN,iz hh]at h;grind
    rcases vr hP hs he T with⟨v,e⟩|⟨ch,e⟩
    .exact Z _ e (hF.ret v)
    exact Z _ e<|hF.pan ch
   let⟨s',e1,Y,h5⟩:=C5 hP jq hs he T;subst e1 Y;rw[mu T]at h;let⟨k,hk⟩:=ih h5 h;exact⟨k+1,s',⟨es,T⟩,hk⟩
  rw[iz T]at h;grind
def Ib (T:dQ afn afn ok)(U:∀f,ok.fn f->ok.aN f)(hF:j9 afn c){f xs}(hs:ge afn ok ⟨b0 afn f xs .normal,[],V⟩)
  (Y:∀τ d,Calls afn f xs (re V τ d) λe w'=>∃v,e=.returned v/\Q v w'):H afn c Q ⟨b0 afn f xs .normal,[],V⟩:=by
 intro τ d;obtain⟨e,w',fr,⟨v,rfl,hq⟩,⟨n,Z⟩,_,hl⟩:=Y τ d [c];exact IM T U hF hl hq n (hs.re τ d) Z
structure lI (afn P ok str c rb Q)(ρ:Ren)(s:St)(g W):Prop where
 at_:∃O cs',g=G O (cs'++rb)/\cU P ok ρ s.fr O/\ja P ok ρ s.cs cs'
 bot:wh s.fr s.cs
 w:bw ok str ρ (re s.V W.tape W.drawn) W
 self:ge afn ok s
 h:H afn c Q s
 acc:Acc (xC afn c) s
section
variable {rb:List bE}{ρ:Ren}{s:St}
def lI.rely (h:lI afn P ok str c rb Q ρ s g W)(hk:∀b d,ρ b=some d->ai.heap[d]?=W.heap[d]?)(z:Gl.n<=ai):lI afn P ok str c rb Q ρ s g ai:=by
 refine⟨h.at_,h.bot,⟨λb d hb=>?_,rfl,rfl,h.w.gV,z,h.w.gs⟩,h.self,h.h,h.acc⟩;let⟨o,T,U,Y,Z⟩:=h.w.heap b d hb;exact⟨o,T,U,(hk b d hb).trans Y,Z⟩
def lI.running (h:lI afn P ok str c rb Q ρ s g W):g.status=.running:=by
 obtain⟨O,z,rfl,_⟩:=h.at_;rfl
def lI.step (eV:dQ afn afn ok)(hP:dQ afn P ok)(jq:∀f,ok.fn f->ok.aN f)(hQ:∀v w τ d,Q v w->Q v (re w τ d))(m)(aF:rb=r0::rest)(h:lI afn P ok str c rb Q ρ s g W):
  (∃σ v Y C W' es,aI P m g W=.go (G (r0.finish Y) rest) W' es/\aq ok σ v Y/\Q v C/\bw ok str σ C W'/\Kept ρ (re s.V W.tape W.drawn) W σ C W'/\∀e∈es,pL σ (re s.V W.tape W.drawn) e)\/
  ∃σ s' g' W' es,aI P m g W=.go g' W' es/\xC afn c s' s/\lI afn P ok str c rb Q σ s' g' W'/\Kept ρ (re s.V W.tape W.drawn) W σ s'.V W'/\∀e∈es,pL σ (re s.V W.tape W.drawn) e:=by
 obtain⟨O,aZ,rfl,T,hc⟩:=h.at_;rcases h.h.step eV jq hQ h.self W.tape W.drawn with⟨he,hE⟩|⟨he,s',bl,PX,hH,qt⟩
 .left;obtain⟨e1,v,⟨l1,l2,l3,fn,l4,l5⟩,hq⟩:=hE;have e1:s.cs=[]:=e1;have l1:s.fr.mode=.returning:=l1;have l2:s.fr.defers=[]:=l2;have l5:(bk fn s.fr.tmps).run afn (re s.V W.tape W.drawn)=.ok v _:=l5;have Cu:aZ=[]:=by rw[e1]at hc;cases hc;rfl
  subst Cu;have hd:O.defers=[]:=by have:=T.defers;rw[l2]at this;generalize O.defers=x at this;cases this;rfl
  have hm:O.mode=.returning:=by have:=T.mode;rw[l1]at this;generalize O.mode=x at this;cases this;rfl
  obtain⟨Z,l4,lr⟩:∃Z,P.funcs[O.fn]?=some Z/\Z.results=fn.results:=by
   obtain⟨F,cd,Yv,f1,f2,f3,_⟩:=hP.same _ T.aN;have U:afn.funcs[s.fr.fn]?=some fn:=l4;rw[f1]at U;exact⟨{F with body:=some Yv},by rw[T.fn];exact f2,by show F.results=fn.results;rw[afQ U]⟩
  generalize hx:(bk fn s.fr.tmps).runT afn (re s.V W.tape W.drawn) #[]=x;obtain⟨r,e⟩:=x;have hr:r=.ok v (re s.V W.tape W.drawn):=by
   have:=Sem.runT_fst afn (bk fn s.fr.tmps) (re s.V W.tape W.drawn) #[];rw[hx,l5]at this;exact this
  subst hr;rcases(pz hP.tab fn T.tmps).sound #[] #[] h.w hx with dZ|⟨σ,r',C,W',d',h1,h2,h4,h5⟩
  .cases dZ
  cases h2 with
  |@ok _ Y _ W' hv bq=>
   refine⟨σ,v,Y,_,W',b9 P O.fn d',?_,hv,hq,bq,h4,λx hx=>h5 x<|kD _ _ _ x hx⟩;rw[gn (by rw[hm];simp)];have hk:=T.eu.trans<|congrArg cx<|h.bot s.fr cO;have pT:∀t,bk Z t=bk fn t:=λt=>by simp[bk,lr]
   obtain⟨d7,dt,gS,cX,pJ,eu,bp⟩:=O;subst hd hm hk aF;simp only[unwind,l4,pT,h1,cq,ad];simp[G]
 right;obtain⟨es,Mu⟩:=bl;have hl:s.cs=[]->s.fr.mode≠.run->s.fr.defers≠[]:=λa b d=>he ⟨a,b,d⟩
 obtain⟨σ,D,W2,DO,e,hg,hw,hk,oj⟩:=uY hP T hc h.bot h.w hl Mu;have bs:∃fr2 cs2,D=G fr2 (cs2++rb)/\cU P ok σ s'.fr fr2/\ja P ok σ s'.cs cs2/\wh s'.fr s'.cs:=by
  generalize hz:G s'.fr (s'.cs++[c])=z at hg;cases hg with
  |@inside fr fr2 cs cs2 a1 a2 a3=>
   have z1:=congrArg bA hz;have z2:=congrArg bo hz;replace z2:=af6 z2;subst z1 z2;exact⟨fr2,cs2,rfl,a1,a2,a3⟩
  |door a1 a2=>rw[jq _ a1]at a2;cases a2
 obtain⟨fr2,cs2,rfl,b1,b2,b3⟩:=bs;refine⟨σ,s',_,W2,DO,e,PX,⟨⟨fr2,cs2,rfl,b1,b2⟩,b3,⟨hw.heap,rfl,rfl,hw.gV,hw.gW,hw.gs⟩,qt,hH,h.acc.inv PX⟩,hk,oj⟩
end
end
inductive Rk:Type
 |leaf
 |node (f:ac->Rk)
def Rk.lt (r:Rk):Rk->Prop
 |.leaf=>False
 |.node f=>∃w,r=f w
def Rk.wf:WellFounded Rk.lt:=⟨λr=>by
 induction r with
 |leaf=>exact⟨_,λy h=>h.elim⟩
 |node f T=>exact⟨_,λy ⟨w,e⟩=>e▸T w⟩⟩
structure aU (S:Nat->Prop)(W ai:ac):Prop where
 block:∀b,S b->ai.heap[b]?=W.heap[b]?
 size:W.heap.size<=ai
 os:ai.os=W.os
 out:ai.output=W.output
def aU.refl (S W):aU S W W:=⟨λ_ _=>rfl,afK _,rfl,rfl⟩
def aU.trans {o}(h:aU S W ai)(n:aU S ai o):aU S W o:=⟨λb z=>(n.block b z).trans<|h.block b z,afN h.size n.size,n.os.trans h.os,n.out.trans h.out⟩
def aU.mono (h:aU S W ai)(l:∀b,A b->S b):aU A W ai:=⟨λb n=>h.block b<|l b n,h.size,h.os,h.out⟩
def grow (M:Nat->Prop)(W W':ac):Nat->Prop:=λb=>M b\/(W<=b/\b<W')
def Hz (X:bj->Prop)(M Ro:Nat->Prop)(e:bj):Prop:=
 (e.sync=false/\∃a,e.loc=.cell a/\(M a.block\/(Ro a.block/\e.write=false)))\/(e.sync=false/\∃r,e.loc=.obj r/\(M r\/(Ro r/\e.write=false)))\/(∃m,mute m/\e=⟨.mark m,false,true⟩)\/X e
structure fH (X)(M Ro:Nat->Prop)(W W':ac)(es:Array bj):Prop where
 keep:∀b,b<W.heap.size->¬M b->W'.heap[b]?=W.heap[b]?
 size:W.heap.size<=W'
 tape:W'.tape=W.tape
 os:W'.os=W.os
 out:W'.output=W.output
 ev:∀e∈es,Hz X (grow M W W') Ro e
section
variable (P:bB)(m:Bool)(I:ac->Prop)(X:bj->Prop)(Ro:Nat->Prop)
def PT (Stop:(Nat->Prop)->aa->ac->Prop):Rk->(Nat->Prop)->aa->ac->Prop
 |.leaf,M,g,W=>∀ai,aU (λb=>M b\/Ro b) W ai->I ai->Stop M g ai
 |.node f,M,g,W=>(∀ai,aU (λb=>M b\/Ro b) W ai->I ai->Stop M g ai)\/
   (g.status=.running/\∀ai,aU (λb=>M b\/Ro b) W ai->I ai->∃g' W' es,aI P m g ai=.go g' W' es/\fH X M Ro ai W' es/\PT Stop (f ai) (grow M ai W') g' W')
def ET (Stop:(Nat->Prop)->aa->ac->Prop)(M:Nat->Prop)(g:aa)(W:ac):Prop:=∃r,PT P m I X Ro Stop r M g W
end
section
variable {I:ac->Prop}{Ro:Nat->Prop}{h:(Nat->Prop)->aa->ac->Prop}
def PT.rely {r}(h:PT P m I X Ro Stop r M g W)(k:aU (λb=>M b\/Ro b) W ai):PT P m I X Ro Stop r M g ai:=by
 cases r with
 |leaf=>exact λU T i=>h U (k.trans T) i
 |node f=>
  rcases h with h|⟨hs,h⟩
  .exact au λU T i=>h U (k.trans T) i
  exact aB ⟨hs,λU T i=>h U (k.trans T) i⟩
def ET.rely (h:ET P m I X Ro Stop M g W)(k:aU (λb=>M b\/Ro b) W ai):ET P m I X Ro Stop M g ai:=let⟨r,n⟩:=h;⟨r,n.rely k⟩
def ET.stop (h:∀ai,aU (λb=>M b\/Ro b) W ai->I ai->Stop M g ai):ET P m I X Ro Stop M g W:=⟨.leaf,h⟩
def ET.step (hs:g.status=.running)(h:∀ai,aU (λb=>M b\/Ro b) W ai->I ai->∃g' W' es,aI P m g ai=.go g' W' es/\fH X M Ro ai W' es/\ET P m I X Ro Stop (grow M ai W') g' W'):ET P m I X Ro Stop M g W:=by
 classical
 have:∀ai,∃r,aU (λb=>M b\/Ro b) W ai->I ai->∃g' W' es,aI P m g ai=.go g' W' es/\fH X M Ro ai W' es/\PT P m I X Ro Stop r (grow M ai W') g' W':=by
  intro ai;by_cases k:aU (λb=>M b\/Ro b) W ai
  .by_cases i:I ai
   .let⟨g',W',es,a,b,r,z⟩:=h ai k i;exact⟨r,λ_ _=>⟨g',W',es,a,b,z⟩⟩
   exact⟨.leaf,λ_ x=>absurd x i⟩
  exact⟨.leaf,λx=>absurd x k⟩
 exact⟨.node λai=>(this ai).choose,aB ⟨hs,λai k i=>(this ai).choose_spec k i⟩⟩
structure AX (Sp M:Nat->Prop)(W:ac):Prop where
 own:∀b,Sp b->¬M b
 lt:∀b,Sp b->b<W
def AX.grow {Sp}(h:AX Sp M W)(z:W.heap.size<=W'):AX Sp (grow M W W') W':=
 ⟨λb n o=>o.elim (h.own b n) λx=>by have:=h.lt b n;omega,λb n=>by have:=h.lt b n;omega⟩
def AX.rely {Sp}(h:AX Sp M W)(o:W.heap.size<=ai):AX Sp M ai:=⟨h.own,λb n=>by have:=h.lt b n;omega⟩
def Kq (Sp:Nat->Prop)(I:ac->Prop):Prop:=∀W W',(∀b,Sp b->W'.heap[b]?=W.heap[b]?)->I W->I W'
section
variable [Gl]
def tP (ρ:Ren)(V:ac)(M Ro:Nat->Prop):Prop:=∀b d,ρ b=some d->M d\/(Ro d/\Proofs.YtjoalkgmgmmedaaGreatDoor.Ro V b)
def TC {ρ σ:Ren}(E:tP ρ V M Ro)(L:Kept ρ V W σ C W')(T:∀b d,σ b=some d->d<W')(U:pL σ V e):Hz X (grow M W W') Ro e:=by
 have Y:∀b d,σ b=some d->grow M W W' d\/(Ro d/\Proofs.YtjoalkgmgmmedaaGreatDoor.Ro V b):=by
  intro b d z;rcases L.new b d z with h|⟨_,h⟩
  .rcases E b d h with h|h
   .exact au (au h)
   grind
  exact au<|aB ⟨h,T b d z⟩
 rcases U with⟨s,a,Z,o,r,w⟩|⟨s,r,r',o,h,n⟩|h
 .refine au ⟨s,Z,o,?_⟩;rcases Y _ _ r.blk with x|⟨x,y⟩;all_goals grind
 .refine aB (au ⟨s,r',o,?_⟩);grind
 exact aB<|aB<|au h
def tP.step {ρ σ:Ren}(E:tP ρ V M Ro)(hk:Kept ρ V W σ C W')(L:∀b d,σ b=some d->d<W'):tP σ C (grow M W W') Ro:=by
 intro b d n;rcases hk.new b d n with h|⟨_,h⟩
 .rcases E b d h with x|⟨x,y⟩
  .exact au (au x)
  let⟨cs,e,z⟩:=y;exact aB ⟨x,cs,e,by rw[(hk.ro b d h ⟨cs,e,z⟩).1];exact z⟩
 exact au<|aB ⟨h,L b d n⟩
def tP.e_ {ρ σ:Ren}(z:tP ρ V M Ro)(n:Kept ρ V W σ C W')(E:∀b d,σ b=some d->d<W')(he:∀e∈es,pL σ V e):fH X M Ro W W' es:=by
 refine⟨λb L T=>?_,n.size,n.tape,n.os,n.out,λe o=>TC z n E<|he e o⟩;by_cases h:∃x,ρ x=some b
 .let⟨x,o⟩:=h;rcases z x b o with y|⟨_,y⟩
  .grind
  exact(n.ro x b o y).2
 exact n.keep b L λx o=>h ⟨x,o⟩
def XW (x9:p:=by
  rcases hk.new b d hb with x|⟨_,x⟩
  .grind
  exact .inr<|afN kr.size x):p:=x9
def ET.call (eV:dQ afn afn ok)(hP:dQ afn P ok)(jq:∀f,ok.fn f->ok.aN f)(hQ:∀v w τ d,Q v w->Q v (re w τ d)){ρ:Ren}{s}
  (MA:∀{σ:Ren} {v v':be} {C W':ac} {M':Nat->Prop},aq ok σ v v'->Q v C->bw ok false σ C W'->tP σ C M' Ro->(∀b,M b->M' b)->aU Ro W W'->aU (λb=>M b/\∀x,ρ x≠some b) W W'->(∀b d,ρ b=some d->σ b=some d)->(∀b d,σ b=some d->ρ b=some d\/W<=d)->I W'->(∀b,M' b->b<W')->(∀b,M' b->M b\/W<=b)->ET P m I X Ro Stop M' (G (r0.finish v') rest) W')
  {Sp}(hI:Kq Sp I)(tK:∀b,Ro b->Sp b)(hN:AX Sp M W)(T1:∀b,M b->b<W)(hi:I W)
  (h:lI afn P ok false c (r0::rest) Q ρ s g W)(hh:tP ρ (re s.V W.tape W.drawn) M Ro):ET P m I X Ro Stop M g W:=by
 have aZ:∀(s:St) (_:Acc (xC afn c) s) {T:Ren} {g:aa} {U:ac} {M':Nat->Prop},lI afn P ok false c (r0::rest) Q T s g U->tP T (re s.V U.tape U.drawn) M' Ro->AX Sp M' U->I U->
   (∀b,M b->M' b)->aU Ro W U->aU (λb=>M b/\∀x,ρ x≠some b) W U->(∀b d,ρ b=some d->T b=some d)->(∀b d,T b=some d->ρ b=some d\/W.heap.size<=d)->(∀b,M' b->b<U.heap.size)->(∀b,M' b->M b\/W.heap.size<=b)->ET P m I X Ro Stop M' g U:=by
  intro s Px;induction Px with
  |intro s _ ih=>
   intro T g U M' h hh hN hi hM k1 k2 le new ZP nw;refine ET.step h.running λai k qy=>?_
   have KS:tP T (re s.V ai.tape ai.drawn) M' Ro:=hh;have Y:=hN.rely k.size;have kr:=k1.trans<|k.mono λb hb=>aB hb;have km:=k2.trans<|k.mono λb hb=>au<|hM b hb.1;have Xo:∀{W':ac},ai.heap.size<=W'.heap.size->∀b,grow M' ai W' b->b<W'.heap.size:=λhz b hb=>hb.elim (λx=>afL (afL (ZP b x) k.size) hz) And.right
   have Xp:∀{W':ac},∀b,grow M' ai W' b->M b\/W.heap.size<=b:=λb hb=>hb.elim (nw b) λx=>aB<|afN kr.size x.1
   have QD:∀b,b<W.heap.size->(∀x,ρ x≠some b)->∀x,T x≠some b:=by
    grind
   rcases(h.rely (λb d hb=>k.block d<|(hh b d hb).imp id And.left) (afN h.w.gW k.size)).step eV hP jq hQ m rfl with⟨σ,v,v',C,W',es,e1,hv,hq,hw,hk,oj⟩|⟨σ,s',g',W',es,e1,PX,h2,hk,oj⟩
   .have aF:∀b d,σ b=some d->d<W'.heap.size:=λb d hb=>(hw.lt hb).2
    have Z:=KS.e_ (X:=X) hk aF oj;refine⟨_,W',es,e1,Z,MA hv hq hw (KS.step hk aF) (λb hb=>au<|hM b hb) (kr.trans<|⟨λb hb=>Z.keep b (Y.lt b<|tK b hb)<|Y.own b<|tK b hb,hk.size,hk.os,hk.out⟩) (km.trans<|⟨λb hb=>hk.keep b (afL (T1 b hb.1) kr.size)<|QD b (T1 b hb.1) hb.2,hk.size,hk.os,hk.out⟩) (λb d hb=>hk.le _ _<|le _ _ hb) (λb d hb=>?_) (hI ai W' (λx hx=>Z.keep x (Y.lt x hx)<|Y.own x hx) qy) (Xo hk.size) Xp⟩;exact XW
   have aF:∀b d,σ b=some d->d<W'.heap.size:=λb d hb=>(h2.w.lt hb).2
   have Z:=KS.e_ (X:=X) hk aF oj;refine⟨g',W',es,e1,Z,ih s' PX h2 (show tP σ s'.V (grow M' ai W') Ro from KS.step hk aF) (Y.grow hk.size) (hI ai W' (λx hx=>Z.keep x (Y.lt x hx)<|Y.own x hx) qy) (λb hb=>au<|hM b hb) (kr.trans<|⟨λb hb=>Z.keep b (Y.lt b<|tK b hb)<|Y.own b<|tK b hb,hk.size,hk.os,hk.out⟩) (km.trans<|⟨λb hb=>hk.keep b (afL (T1 b hb.1) kr.size)<|QD b (T1 b hb.1) hb.2,hk.size,hk.os,hk.out⟩) (λb d hb=>hk.le _ _<|le _ _ hb) (λb d hb=>?_) (Xo hk.size) Xp⟩;exact XW
 exact aZ s h.acc h hh hN hi (λ_ h=>h) (aU.refl _ _) (aU.refl _ _) (λ_ _ h=>h) (λ_ _ h=>au h) T1 λ_ h=>au h
end
end
section
open ConcN (CT Apart Ok0 OkW RelBy PermW sumTo upd)
open ConcR (stA)
def S_ (n:Nat)(f g:Nat->Rk):Prop:=∃i,i<n/\Rk.lt (f i) (g i)/\∀j,j≠i->f j=g j
def S_.wf n:WellFounded (S_ n):=by
 induction n with
 |zero=>exact⟨λg=>⟨_,λf ⟨i,h,_⟩=>absurd h ab⟩⟩
 |succ n ih=>
  have T:∀r:Rk,Acc Rk.lt r->∀g:Nat->Rk,Acc (S_ n) g->g n=r->Acc (S_<|n+1) g:=by
   intro r hr;induction hr with
   |intro r _ U=>
    intro g hg;induction hg with
    |intro g _ Y=>
     refine λe=>⟨_,λf ⟨i,hi,Z,hs⟩=>?_⟩
     by_cases h:i=n
     .subst h;rw[e]at Z;exact U _ Z f (ih.apply f) rfl
     exact Y f ⟨i,ab,Z,hs⟩<|(hs n ab).trans e
  exact⟨λg=>T _ (Rk.wf.apply _) g (ih.apply g) rfl⟩
def Rk.nat:Nat->Rk
 |0=>.leaf
 |n+1=>.node λ_=>Rk.nat n
def Rk.nat_lt n (w:ac):Rk.lt (Rk.nat n) (Rk.nat<|n+1):=⟨w,rfl⟩
section
variable {Sh:Loc->Prop}{Own Rd:Nat->Loc->Prop}
def qY (t:b6)(l:Loc):Prop:=∀i a,bO t i=some a->a.loc≠l
def CT.grow (h:CT Sh Own Rd t j)(T:∀k l,1<=k->k<=j->v k l->Own k l\/qY t l)(U:∀k l,1<=k->k<=j->y k l->Rd k l\/qY t l)(lo:∀k l,1<=k->k<=j->Own k l->v k l)(Y:∀k l,1<=k->k<=j->Rd k l->y k l):CT Sh v y t j:=
 ⟨h.quiet,λk n o l z=>(T k l n o z).elim (h.own k n o l) λx i a E e=>absurd e<|x i a E,λk n o l z=>(U k l n o z).elim (h.rd k n o l) λx i a E e=>absurd e<|x i a E,
  λl L z=>h.free l L λk n o=>⟨λx=>(z k n o).1<|lo k l n o x,λx=>(z k n o).2<|Y k l n o x⟩,λl L z=>h.mine l L λk n o x=>z k n o<|lo k l n o x,h.nr,h.gs⟩
def mX (h:∀i a,bO t i=some a->a.loc.low B)(n:¬l.low B):qY t l:=λi a o e=>n<|e▸h i a o
variable (ay:Loc->Prop)(Sh:Loc->Prop)(Own Rd:Nat->Loc->Prop)(Wg J jt K B:Nat)
structure Tr (t):Prop where
 ct:CT Sh Own Rd t K
 old:∀i (op:cf),t[i]?=some op->op.g<J->∀a,op.act.touch?=some a->Knows t 0 i\/(ay a.loc/\a.kind=.atomic)
 over:∀i g,t.g? i=some g->g≠0->g<J->t.counts i->∃q,t.g? q=some 0/\b4 t i q
 mem:∀i a,bO t i=some a->a.loc.isMemory
 seen:∀i a,bO t i=some a->a.loc.low B
 t0:jt<=t.size
 Gt:∀i,jt<=i->t.act? i≠some (.mark<|.release<|stA Wg)
 born:∀i (op:cf),t[i]?=some op->J<=op.g->jt<=i
 atom:∀(i:Nat) (op:cf),t[i]?=some op->J<=op.g->∀a,op.act.touch?=some a->a.kind=.atomic->Sh a.loc
structure Ff (op:cf):Prop where
 mem:∀a,op.act.touch?=some a->a.loc.isMemory
 low:∀a,op.act.touch?=some a->a.loc.low B
 Gt:op.act≠.mark (.release<|stA Wg)
 atom:J<=op.g->∀a,op.act.touch?=some a->a.kind=.atomic->Sh a.loc
end
section
variable {Sh:Loc->Prop}{Own Rd:Nat->Loc->Prop}{Wg J jt:Nat}
def Tr.mono {n}(h:Tr ay Sh Own Rd Wg J jt K B t)(o:B<=n):Tr ay Sh Own Rd Wg J jt K n t:=
 ⟨h.ct,h.old,h.over,h.mem,λi a z=>Loc.low_mono o<|h.seen i a z,h.t0,h.Gt,h.born,h.atom⟩
def Tr.S7 {K'}(h:Tr ay Sh Own Rd Wg J jt K B t)(hc:CT Sh Own Rd (t++u) K')(hu:∀n∈u,Ff Sh Wg J B n)(ho:∀n∈u,n.g<J->n.g=0\/n.act.touch?=none):Tr ay Sh Own Rd Wg J jt K' B (t++u):=by
 refine⟨hc,λi n L E a T=>?_,λi g E h0 hJ aN=>?_,λi a T=>?_,λi a T=>?_,by have:=h.t0;simp;omega,λi L e=>?_,λi n L E=>?_,λi n L E a T hk=>?_⟩
 .rcases aL L with⟨_,p8⟩|⟨_,U⟩
  .exact(h.old i n p8 E a T).imp (·.app u) id
  rcases ho n U E with e|e
  .have:=knows_own L;grind
  grind
 .let⟨n,Y,aZ⟩:=af3.1 E;rcases aL Y with⟨aF,A6⟩|⟨_,Z⟩
  .let⟨q,hq,hb⟩:=h.over i g (by grind [g?_old]) h0 hJ<|(counts_old aF).1 aN;have a1:q<t.size:=by
    let⟨z,hz,_⟩:=af3.1 hq;grind
   exact⟨q,by grind [g?_old],hb_app u hb⟩
  rcases ho n Z ab with e|e
  .omega
  let⟨x,hx,_⟩:=aN;grind [Trace.act?]
 .let⟨n,Y,PO⟩:=cu T;rcases aL Y with⟨_,A6⟩|⟨_,Z⟩
  .exact h.mem i a (by grind [bW])
  exact(hu n Z).mem a PO
 .let⟨n,Y,PO⟩:=cu T;rcases aL Y with⟨_,A6⟩|⟨_,Z⟩
  .exact h.seen i a (by grind [bW])
  exact(hu n Z).low a PO
 .let⟨n,Y,PO⟩:=af3.1 e;rcases aL Y with⟨_,A6⟩|⟨_,Z⟩
  .exact h.Gt i L (by grind [act?_of])
  exact(hu n Z).Gt PO
 .rcases aL L with⟨_,p8⟩|⟨ug,_⟩
  .exact h.born i n p8 E
  exact afN h.t0 ug
 rcases aL L with⟨_,p8⟩|⟨_,U⟩
 .exact h.atom i n p8 E a T hk
 exact(hu n U).atom E a T hk
def Tr.grow (h:Tr ay Sh Own Rd Wg J jt K B t)(z:∀k l,1<=k->k<=K->v k l->Own k l\/¬l.low B)(E:∀k l,1<=k->k<=K->y k l->Rd k l\/¬l.low B)(L:∀k l,1<=k->k<=K->Own k l->v k l)(T:∀k l,1<=k->k<=K->Rd k l->y k l):Tr ay Sh v y Wg J jt K B t:=
 ⟨CT.grow h.ct (λk l n o x=>(z k l n o x).imp id<|mX h.seen) (λk l n o x=>(E k l n o x).imp id<|mX h.seen) L T,h.old,h.over,h.mem,h.seen,h.t0,h.Gt,h.born,h.atom⟩
def Tr.app0 (A:Apart Sh Own Rd)(h:Tr ay Sh Own Rd Wg J jt K B t)(o:∀n∈u,Ok0 Sh Own Rd K n)(z:∀n∈u,Ff Sh Wg J B n):Tr ay Sh Own Rd Wg J jt K B (t++u):=
 h.S7 (h.ct.app0 A o) z λn E _=>au (o n E).1
def Tr.appW (A:Apart Sh Own Rd)(h:Tr ay Sh Own Rd Wg J jt K B t)(T:J<=k)(z:k<=K)(U:1<=J)(o:∀n∈u,OkW Sh Own Rd k n)(E:∀n∈u,Ff Sh Wg J B n):Tr ay Sh Own Rd Wg J jt K B (t++u):=
 h.S7 (h.ct.appW A ab z o) E λn L Y=>by have:=(o n L).1;omega
def Tr.OF (A:Apart Sh Own Rd)(h:Tr ay Sh Own Rd Wg J jt K B t)(E:1<=k)(L:k<=K)(T:∀n∈u,n.g=k)(U:∀n∈u,n.act.touch?=none)(Y:∀n∈u,n.act≠.mark (.release<|stA Wg)):Tr ay Sh Own Rd Wg J jt K B (t++u):=
 h.S7 (h.ct.appW A E L λn o=>⟨T n o,λx Z=>gC⟩) (λn o=>⟨λa z=>gC,λa z=>gC,Y n o,λ_ a z=>gC⟩) λn o _=>aB<|U n o
def Tr.fork (A:Apart Sh Own Rd)(h:Tr ay Sh Own Rd Wg J jt K B t){x y}(Y:x.g=0/\x.act=.go (K+1))(U:y.g=K+1/\y.act=.start)(h0:a9 t 0=0):Tr ay Sh Own Rd Wg J jt (K+1) B (t++#[x,y]):=by
 have hm:∀T∈#[x,y],T=x\/T=y:=λT Z=>cO
 refine h.S7 (h.ct.fork A Y U h0) (λT Z=>?_) λT Z hg=>?_
 .rcases hm T Z with rfl|rfl
  .exact⟨λa z=>(by rw[Y.2]at z;cases z),λa z=>(by rw[Y.2]at z;cases z),cO,λ_ a z=>(by rw[Y.2]at z;cases z)⟩
  exact⟨λa z=>(by rw[U.2]at z;cases z),λa z=>(by rw[U.2]at z;cases z),cO,λ_ a z=>(by rw[U.2]at z;cases z)⟩
 rcases hm T Z with rfl|rfl
 .omega
 exact aB (by rw[U.2];rfl)
structure mH (ay:Loc->Prop) B (t):Prop where
 clean:∀said,¬Race said t
 known:∀i a,bO t i=some a->Knows t 0 i\/(ay a.loc/\a.kind=.atomic)
 over:t.HandedOver
 hears:a9 t 0=0
 seen:∀i a,bO t i=some a->a.loc.low B
 quiet:Quiet ay t
 mem:∀i a,bO t i=some a->a.loc.isMemory
def mH.tr (h:mH ay B t)(hs:∀l,Sh l->ay l\/qY t l)(ls:∀l,ay l->Sh l)(E:∀(i:Nat) (n:cf),t[i]?=some n->n.g<J)(hJ:K+1=J)(U:∀k l,k<J->¬Own k l/\¬Rd k l):Tr ay Sh Own Rd Wg J t.size K B t:=by
 have Y:∀l,¬Sh l->Perm t 0 l:=λl o i a Z e=>(h.known i a Z).resolve_right λx=>o<|ls l<|e▸x.1
 refine⟨⟨λi n x z hx L=>?_,λk _ kK l o=>absurd o (U k l ab).1,λk _ kK l o=>absurd o (U k l ab).2,λl o _=>Y l o,λl o _=>.of<|Y l o,h.clean,λi n z=>gC⟩,
  λi n z _ a Z=>h.known i a<|by grind [bW],λi g T h0 _ hc=>h.over i g T h0 hc,h.mem,h.seen,afK _,λi z e=>?_,λi n z T=>absurd (E i n z) ab,λi n z T=>absurd (E i n z) ab⟩
 .exact(hs _ L).elim (λe=>h.quiet i n x z hx e) λe=>absurd rfl<|e i x<|by grind [bW]
 have:=lt_of_act? e;omega
def Tr.past (h:Tr ay Sh Own Rd Wg J jt K B t)(ls:∀l,ay l->Sh l){q}(hq:t.act? q=some (.mark<|.acquire<|stA Wg))(hg:t.g? q=some 0)(hh:t.heard q)(Z:∀k,J<=k->k<=K->∃r,RelBy (stA Wg) t k r/\r<q)(hd:a9 t 0=0):mH Sh B t:=by
 have aN:∀i k,J<=k->t.g? i=some k->t.counts i->∃q,t.g? q=some 0/\b4 t i q:=by
  intro i k hJ hk L;let⟨n,ho,aZ⟩:=af3.1 hk;let⟨r,T,a1⟩:=Z k hJ<|aZ▸h.ct.gs i n ho;let⟨or,a2,bq⟩:=af3.1 T.g;have eN:=h.born r or a2 ab;have ed:b4 t r q:=.single<|aB ⟨.marked a1 (aB T.act) hq λk hk _=>h.Gt k ab,T.heard,hh⟩;have bs:=Nat.le_of_not_lt λE=>T.after i E hk L
  rcases afS i r with E|Y
  .exact⟨q,hg,.trans (.single<|au ⟨E,k,hk,T.g⟩) ed⟩
  grind
 refine⟨h.ct.nr,λi a ha=>?_,λi g a3 h0 L=>?_,hd,h.seen,h.ct.quiet,h.mem⟩
 .let⟨n,ho,PO⟩:=cu ha;rcases afS n.g J with E|Y
  .exact(h.old i n ho E a PO).imp id λx=>⟨ls _ x.1,x.2⟩
  have hk:t.g? i=some n.g:=by grind [Trace.g?]
  by_cases L:t.counts i
  .let⟨p,hp,hb⟩:=aN i n.g Y hk L;let⟨z,hz,bl⟩:=af3.1 hp;exact au ⟨p,z,hz,bl,aB hb⟩
  have U:=af8 λbp=>L ⟨a,ha,h.mem i a ha,au bp⟩
  exact aB ⟨h.atom i n ho Y a PO U,U⟩
 rcases afS g J with E|Y
 .exact h.over i g a3 h0 E L
 grind
end
end
section
open ConcN (CT Apart Ok0 OkW RelBy PermW sumTo upd WgLive RW DWs AtR0 WSit CTag WD Mode Vc pend phi PayAt Has)
open ConcR (stA smA WgAt KK rd wr mk)
structure Ph where
 P:bB
 ty:TypeId
 Wg:Nat
 tk:Addr
 Bs:Nat
 bty:TypeId
 wd:Nat
 n:Nat
 L:Nat
 J:Nat
 jt:Nat
 Yl:List Nat->List be->(Nat->Prop)->ac->Prop
 pl:ConcR.Payload
namespace Ph
variable (p:Ph)
def Sp (b:Nat):Prop:=b=p.Wg\/b=p.tk.block\/b=p.Bs
def kq (w:ac)(x:Nat):Prop:=w.cell? p.tk=some (bv .i64 x)/\w.frozen? p.tk=false
def rK (cs:Array be)(w:ac):Prop:=w.heap[p.Bs]?=some (.cells cs p.bty)/\cs.size=p.n*p.wd
def I (w:ac):Prop:=WgLive p.ty p.Wg w/\(∃x,p.kq w x)/\∃cs,p.rK cs w
def UD:Kq p.Sp p.I:=by
 rintro w w' h ⟨⟨n,o,z⟩,⟨x,Y,E⟩,cs,L,T⟩;have U:=h p.tk.block<|aB<|au rfl;exact⟨⟨n,o,(h p.Wg<|au rfl).trans z⟩,⟨x,by grind [bH],by simpa[bz,U]using E⟩,cs,(h p.Bs<|aB<|aB rfl).trans L,T⟩
structure aad k (vs:List be)(w w':ac):Prop where
 size:w'=w.heap.size
 tape:w'.tape=w.tape
 os:w'.os=w.os
 out:w'.output=w.output
 block:∀b,b≠p.Bs->w'.heap[b]?=w.heap[b]?
 len:vs.length=p.wd
 put:∀cs,p.rK cs w->∃cs',p.rK cs' w'/\∀o,cs'[o]?=if k*p.wd<=o/\o<(k+1)*p.wd then vs[o-k*p.wd]? else cs[o]?
def Slot (k:Nat)(n:List be)(w:ac):Prop:=n.length=p.wd/\∀cs,p.rK cs w->∀o,o<p.wd->cs[k*p.wd+o]?=n[o]?
def oq (_:bj):Prop:=False
def dM (e:bj):Prop:=∃a,a.block=p.Wg/\(e=⟨.mark<|.read a,false,true⟩\/e=⟨.mark<|.write a,false,true⟩)
section
variable (k:Nat)(Ro:Nat->Prop)
def BQ (seq:List Nat)(M:Nat->Prop)(g:aa)(W:ac):Prop:=
 g.status=.running/\((∃cs,p.rK cs W)->∃g' W' es T,aI p.P false g W=.go g' W' es/\p.aad k T W W'/\(∀e∈es,e.sync=false/\∃a,e.loc=.cell a/\a.block=p.Bs/\k*p.wd<=a.off/\a.off<(k+1)*p.wd)/\
  ∃z C c v m,p.Yl seq T z W'/\(∀b,z b->M b)/\M C/\¬z C/\@Goes p.P false (@RW p.pl p.ty p.Wg C c 0 0) (@DWs p.pl p.Wg (λ_ _=>False) (λ_ _=>False) C c 1) (@AtR0 p.pl p.P p.ty p.Wg C c 0 1 v) m g' W')
def kW:Nat->Nat->List Nat->(Nat->Prop)->aa->ac->Prop
 |0,T,seq=>λM g W=>g.status=.running/\∀x,T<=x->x<4611686018427387904->p.kq W x->p.L<=x/\
   ∃g',aI p.P false g W=.go g' (W.setCell p.tk<|bv .i64<|x+1) #[rd p.tk,wr p.tk]/\ET p.P false p.I oq Ro (BQ p k seq) M g' (W.setCell p.tk<|bv .i64<|x+1)
 |f+1,T,seq=>λM g W=>g.status=.running/\∀x,T<=x->x<4611686018427387904->p.kq W x->
   ∃g',aI p.P false g W=.go g' (W.setCell p.tk<|bv .i64<|x+1) #[rd p.tk,wr p.tk]/\
    (p.L<=x->ET p.P false p.I oq Ro (BQ p k seq) M g' (W.setCell p.tk<|bv .i64<|x+1))/\(x<p.L->ET p.P false p.I oq Ro (kW f (x+1)<|seq++[x]) M g' (W.setCell p.tk<|bv .i64<|x+1))
end
section
variable (Fin:(Nat->Prop)->(Nat->Prop)->aa->ac->Prop)(Anch:(Nat->Prop)->(Nat->Prop)->aa->ac->Prop)(Ro:Nat->Prop)
def AtAcq (M:Nat->Prop)(g:aa)(W:ac):Prop:=g.status=.running/\∃g',aI p.P true g W=.go g' W #[bR<|.acquire<|stA p.Wg]/\Fin Ro M g' W
def AtKe (M:Nat->Prop)(g:aa)(W:ac):Prop:=g.status=.running/\∃g',aI p.P true g W=.go g' W #[bR .enable]/\ET p.P true p.I p.dM Ro (p.AtAcq Fin Ro) M g' W
def AtW4 (M:Nat->Prop)(g:aa)(W:ac):Prop:=g.status=.running/\(WgAt p.ty p.Wg W 0 0->∃g',aI p.P true g W=.go g' W #[rd<|stA p.Wg]/\ET p.P true p.I p.dM Ro (p.AtKe Fin Ro) M g' W)
def AtW3 (M:Nat->Prop)(g:aa)(W:ac):Prop:=
 g.status=.running/\g.offers=none/\((∃z,WgAt p.ty p.Wg W z 0)->aI p.P true g W=.go {g with status:=.blocked} W #[])/\
  (WgAt p.ty p.Wg W 0 1->∃g',aI p.P true g W=.go g' (W.setCell (smA p.Wg)<|bv .u32 0) (semEvents<|smA p.Wg)/\ET p.P true p.I p.dM Ro (p.AtW4 Fin Ro) M g' (W.setCell (smA p.Wg)<|bv .u32 0))
def AtW2 (z:Nat)(M:Nat->Prop)(g:aa)(W:ac):Prop:=
 g.status=.running/\∀v:Nat,v<2147483648->WgAt p.ty p.Wg W (v*KK) 0->
  (v=z->∃g',aI p.P true g W=.go g' (W.setCell (stA p.Wg)<|bv .u64<|v*KK+1) #[rd<|stA p.Wg,wr<|stA p.Wg]/\ET p.P true p.I p.dM Ro (p.AtW3 Fin Ro) M g' (W.setCell (stA p.Wg)<|bv .u64<|v*KK+1))/\
  (v≠z->∃g',aI p.P true g W=.go g' W #[rd<|stA p.Wg]/\ET p.P true p.I p.dM Ro (Anch Ro) M g' W)
def AtW1 (M:Nat->Prop)(g:aa)(W:ac):Prop:=
 g.status=.running/\∀v:Nat,v<2147483648->WgAt p.ty p.Wg W (v*KK) 0->∃g',aI p.P true g W=.go g' W #[rd<|stA p.Wg]/\
  (v=0->ET p.P true p.I p.dM Ro (p.AtKe Fin Ro) M g' W)/\(v≠0->ET p.P true p.I p.dM Ro (p.AtW2 Fin Anch Ro v) M g' W)
def AtKd (M:Nat->Prop)(g:aa)(W:ac):Prop:=g.status=.running/\∃g',aI p.P true g W=.go g' W #[bR .disable]/\ET p.P true p.I p.dM Ro (Anch Ro) M g' W
variable (k:Nat)(cp:(Nat->Prop)->(Nat->Prop)->aa->ac->Prop)
def AtGo (M:Nat->Prop)(g:aa)(W:ac):Prop:=
 g.status=.running/\∃g' n o,aI p.P true g W=.spawn g' n W #[]/\n.status=.running/\(∀b,Ro b->o b)/\(∀b,o b->Ro b\/M b)/\
  ET p.P false p.I oq o (p.kW k o p.L 0 []) (λ_=>False) n W/\cp o (λb=>M b/\¬o b) g' W
def AtKeS (M:Nat->Prop)(g:aa)(W:ac):Prop:=g.status=.running/\∃g',aI p.P true g W=.go g' W #[bR .enable]/\ET p.P true p.I p.dM Ro (p.AtGo Ro k cp) M g' W
def AtA1 (M:Nat->Prop)(g:aa)(W:ac):Prop:=
 g.status=.running/\∀v:Nat,v<2147483647->WgAt p.ty p.Wg W (v*KK) 0->
  ∃g',aI p.P true g W=.go g' (W.setCell (stA p.Wg)<|bv .u64<|(v+1)*KK) #[rd<|stA p.Wg,wr<|stA p.Wg]/\ET p.P true p.I p.dM Ro (p.AtKeS Ro k cp) M g' (W.setCell (stA p.Wg)<|bv .u64<|(v+1)*KK)
def AtKdS (M:Nat->Prop)(g:aa)(W:ac):Prop:=g.status=.running/\∃g',aI p.P true g W=.go g' W #[bR .disable]/\ET p.P true p.I p.dM Ro (p.AtA1 Ro k cp) M g' W
end
section
variable (Fin:(Nat->Prop)->(Nat->Prop)->aa->ac->Prop)(Anch:(Nat->Prop)->(Nat->Prop)->aa->ac->Prop)
def Spawns:Nat->(Nat->Prop)->(Nat->Prop)->aa->ac->Prop
 |0,Ro=>λM g W=>ET p.P true p.I p.dM Ro (p.AtKd Anch Ro) M g W
 |r+1,Ro=>λM g W=>ET p.P true p.I p.dM Ro (p.AtKdS Ro (p.n-(r+1))<|Spawns r) M g W
inductive gT:CTag->Nat->Rk->Nat->Nat->(Nat->Prop)->(Nat->Prop)->aa->ac->Prop
 |skd {r:Nat} {ρ:Rk} {Ro M:Nat->Prop} {g:aa} {w:ac}:r<p.n->PT p.P true p.I p.dM Ro (p.AtKdS Ro (p.n-(r+1))<|p.Spawns Anch r) ρ M g w->gT (.sp r 5) (p.n-(r+1)) ρ 0 0 Ro M g w
 |sa1 {r:Nat} {ρ:Rk} {Ro M:Nat->Prop} {g:aa} {w:ac}:r<p.n->PT p.P true p.I p.dM Ro (p.AtA1 Ro (p.n-(r+1))<|p.Spawns Anch r) ρ M g w->gT (.sp r 4) (p.n-(r+1)) ρ 0 1 Ro M g w
 |ske {r:Nat} {ρ:Rk} {Ro M:Nat->Prop} {g:aa} {w:ac}:r<p.n->PT p.P true p.I p.dM Ro (p.AtKeS Ro (p.n-(r+1))<|p.Spawns Anch r) ρ M g w->gT (.sp r 3) (p.n-(r+1)) ρ 0 1 Ro M g w
 |sgo {r:Nat} {ρ:Rk} {Ro M:Nat->Prop} {g:aa} {w:ac}:r<p.n->PT p.P true p.I p.dM Ro (p.AtGo Ro (p.n-(r+1))<|p.Spawns Anch r) ρ M g w->gT (.sp r 2) (p.n-(r+1)) ρ 0 0 Ro M g w
 |kd {ρ:Rk} {Ro M:Nat->Prop} {g:aa} {w:ac}:PT p.P true p.I p.dM Ro (p.AtKd Anch Ro) ρ M g w->gT .kd p.n ρ 0 0 Ro M g w
 |anch {ρ:Rk} {Ro M:Nat->Prop} {g:aa} {w:ac}:PT p.P true p.I p.dM Ro (Anch Ro) ρ M g w->gT .anch p.n ρ 0 1 Ro M g w
 |w1 {ρ:Rk} {Ro M:Nat->Prop} {g:aa} {w:ac}:PT p.P true p.I p.dM Ro (p.AtW1 Fin Anch Ro) ρ M g w->gT .w1 p.n ρ 0 1 Ro M g w
 |w2 {vs:Nat} {ρ:Rk} {Ro M:Nat->Prop} {g:aa} {w:ac}:PT p.P true p.I p.dM Ro (p.AtW2 Fin Anch Ro vs) ρ M g w->gT (.w2 vs) p.n ρ 0 1 Ro M g w
 |w3 {ρ:Rk} {Ro M:Nat->Prop} {g:aa} {w:ac}:PT p.P true p.I p.dM Ro (p.AtW3 Fin Ro) ρ M g w->gT .w3 p.n ρ 1 1 Ro M g w
 |blk {ρ:Rk} {Ro M:Nat->Prop} {g:aa} {w:ac}:g.status=.running->g.offers=none->PT p.P true p.I p.dM Ro (p.AtW3 Fin Ro) ρ M g w->(∀q,aU (λb=>M b\/Ro b) w q->p.I q->p.AtW3 Fin Ro M g q)->gT .blk p.n ρ 0 1 Ro M {g with status:=.blocked} w
 |w4 {ρ:Rk} {Ro M:Nat->Prop} {g:aa} {w:ac}:PT p.P true p.I p.dM Ro (p.AtW4 Fin Ro) ρ M g w->gT .w4 p.n ρ 0 1 Ro M g w
 |ke {ρ:Rk} {Ro M:Nat->Prop} {g:aa} {w:ac}:PT p.P true p.I p.dM Ro (p.AtKe Fin Ro) ρ M g w->gT .ke p.n ρ 0 1 Ro M g w
 |acq {ρ:Rk} {Ro M:Nat->Prop} {g:aa} {w:ac}:PT p.P true p.I p.dM Ro (p.AtAcq Fin Ro) ρ M g w->gT .acq p.n ρ 0 0 Ro M g w
inductive ob where
 |jz (f lo:Nat) (seq:List Nat)
 |put (seq:List Nat)
 |lib (s:Nat) (seq:List Nat) (vs:List be) (Mr:Nat->Prop)
def ob.stage:ob->Nat
 |.lib s _ _ _=>s
 |_=>7
def ob.cost:ob->Nat
 |.jz f _ _=>9+f
 |.put _=>8
 |.lib s _ _ _=>s
def ob.seq:ob->List Nat
 |.jz _ _ s=>s
 |.put s=>s
 |.lib _ s _ _=>s
inductive WS k (Ro:Nat->Prop):ob->Rk->Nat->(Nat->Prop)->aa->ac->Prop
 |jz {f lo:Nat} {seq:List Nat} {ρ:Rk} {M:Nat->Prop} {g:aa} {w:ac}:PT p.P false p.I oq Ro (p.kW k Ro f lo seq) ρ M g w->WS k Ro (.jz f lo seq) ρ 0 M g w
 |put {seq:List Nat} {ρ:Rk} {M:Nat->Prop} {g:aa} {w:ac}:PT p.P false p.I oq Ro (p.BQ k seq) ρ M g w->WS k Ro (.put seq) ρ 0 M g w
 |lib {s m d C c:Nat} {v:be} {seq:List Nat} {vs:List be} {Mr M:Nat->Prop} {g:aa} {w:ac}:M C->¬Mr C->@WSit p.pl p.P p.ty p.Wg C c (λ_ _=>False) (λ_ _=>False) 0 1 v s m d g w->WS k Ro (.lib s seq vs Mr) (Rk.nat m) d M g w
end
end Ph
end
section
open ConcN (CT Apart Ok0 OkW RelBy PermW sumTo upd WgLive RW DWs AtR0 WSit CTag WD Mode Vc pend phi PayAt Has upd_same upd_ne)
open ConcR (stA smA WgAt KK rd wr)
def fP (S:Nat->Prop):Loc->Prop
 |.cell a=>S a.block
 |.obj r=>S r
 |_=>False
def fP.mono (h:∀b,S b->A b):∀{l:Loc},fP S l->fP A l
 |.cell _,x|.obj _,x=>h _ x
def fP.some:∀{l:Loc},fP S l->∃b,S b/\fP (·=b) l
 |.cell _,x|.obj _,x=>⟨_,x,rfl⟩
def fP.eq {n}:∀{l:Loc},fP (·=b) l->fP (·=n) l->b=n
 |.cell _,x,y|.obj _,x,y=>x.symm.trans y
def fP.low (h:∀b,S b->b<B):∀{l:Loc},fP S l->l.low B
 |.cell _,x|.obj _,x=>h _ x
def fP.UI (h:B<=b):∀{l:Loc},fP (·=b) l->¬l.low B
 |.cell _,x,y|.obj _,x,y=>by cases x;exact absurd y<|Nat.not_lt.2 h
namespace Ph
variable (p:Ph)(ay:Loc->Prop)
def th (k:Nat)(l:Loc):Prop:=∃a,l=.cell a/\a.block=p.Bs/\k*p.wd<=a.off/\a.off<(k+1)*p.wd
def Own (M:Nat->Nat->Prop)(k:Nat)(l:Loc):Prop:=p.J<=k/\(fP (M<|k-p.J+1) l\/p.th (k-p.J) l)
def Rd (Ro:Nat->Nat->Prop)(k:Nat)(l:Loc):Prop:=p.J<=k/\fP (Ro<|k-p.J+1) l
def Sh (l:Loc):Prop:=ay l\/∃a,l=.cell a/\(a.block=p.Wg\/a.block=p.tk.block)
structure Geo:Prop where
 wt:p.Wg≠p.tk.block
 wb:p.Wg≠p.Bs
 tb:p.tk.block≠p.Bs
 ad9:∀a,a.block=p.Bs->¬ay (.cell a)
 J1:1<=p.J
structure Ks (cI:Nat)(M Ro:Nat->Nat->Prop)(w:ac):Prop where
 DJ:∀i k,i≠k->∀b,M i b->¬M k b
 ro:∀i k b,M i b->¬Ro k b
 sp:∀i b,p.Sp b->¬M i b/\¬Ro i b
 lt:∀i b,M i b\/Ro i b->b<w
 pX:∀b,p.Sp b->b<w
 lg:∀i b,M i b\/Ro i b->∀l,fP (·=b) l->¬ay l
 base:cI<=w
variable {p}{ay}{M Ro:Nat->Nat->Prop}
def th.eq {k'}(h:p.th k l)(n:p.th k' l):k=k':=by
 obtain⟨a,rfl,_,o,z⟩:=h;let⟨E,e,_,L,T⟩:=n;cases e;have:∀x y:Nat,x*p.wd<=a.off->a.off<(y+1)*p.wd->x<=y:=λx y U Y=>af7<|a8 (a:=p.wd) gC
 grind
def th.fP (h:p.th k l):fP (·=p.Bs) l:=by obtain⟨a,rfl,h,_⟩:=h;exact h
def Ly (h:p.Sh ay l):ay l\/fP (λb=>b=p.Wg\/b=p.tk.block) l:=h.imp id λ⟨_,e,h⟩=>e▸h
def Ks.apart (h:Ks p ay cI M Ro w)(G:Geo p ay):Apart (p.Sh ay) (p.Own M) (p.Rd Ro):=by
 refine⟨λk Z l ⟨U,h1⟩ ⟨wD,E⟩=>?_,λk Z l ⟨U,h1⟩ ⟨wD,E⟩=>?_,λk l ⟨U,h1⟩ L=>?_,λk l ⟨U,h1⟩ L=>?_⟩
 .rcases h1 with h1|h1<;>rcases E with E|E
  .let⟨b,n,o⟩:=h1.some;let⟨T,dl,z⟩:=E.some;obtain rfl:=o.eq z;rcases Nat.decEq _ _ with Y|he
   .exact absurd dl (h.DJ _ _ Y b n)
   omega
  .let⟨b,n,o⟩:=h1.some;obtain rfl:=o.eq E.fP;exact absurd n (h.sp _ _<|aB<|aB rfl).1
  .let⟨b,n,o⟩:=E.some;obtain rfl:=o.eq h1.fP;exact absurd n (h.sp _ _<|aB<|aB rfl).1
  have:=h1.eq E;omega
 .let⟨T,dl,z⟩:=E.some;rcases h1 with h1|h1
  .let⟨b,n,o⟩:=h1.some;obtain rfl:=o.eq z;exact h.ro _ _ b n dl
  obtain rfl:=z.eq h1.fP;exact(h.sp _ _<|aB<|aB rfl).2 dl
 .rcases h1 with h1|h1
  .let⟨b,n,o⟩:=h1.some;rcases Ly L with x|x
   .exact h.lg _ b (au n) l o x
   let⟨T,dl,z⟩:=x.some;obtain rfl:=o.eq z;exact(h.sp _ b<|dl.imp id au).1 n
  rcases Ly L with x|x
  .obtain⟨a,rfl,ha,_⟩:=h1;exact G.ad9 a ha x
  let⟨T,dl,z⟩:=x.some;obtain rfl:=h1.fP.eq z;exact dl.elim (λe=>G.wb e.symm) λe=>G.tb e.symm
 let⟨b,n,o⟩:=h1.some;rcases Ly L with x|x
 .exact h.lg _ b (aB n) l o x
 let⟨T,dl,z⟩:=x.some;obtain rfl:=o.eq z;exact(h.sp _ b<|dl.imp id au).2 n
def Ks.grow (h:Ks p ay cI M Ro w)(hS:∀l,ay l->l.low cI) i (L:w.heap.size<=w'):Ks p ay cI (upd M i<|grow (M i) w w') Ro w':=by
 have n:∀k b,upd M i (Proofs.YtjoalkgmgmmedaaGreatDoor.grow (M i) w w') k b->M k b\/(k=i/\w.heap.size<=b/\b<w'):=by
  intro k b hb;by_cases e:k=i
  .subst e;rw[upd_same]at hb;exact hb.imp id λx=>⟨rfl,x⟩
  simp_all [upd_ne]
 refine⟨λk E U b hb T=>?_,λk E b hb T=>?_,λk b hb=>⟨λhk=>?_,(h.sp k b hb).2⟩,λk b hb=>?_,λb hb=>afL (h.pX b hb) L,λk b hb l Y Z=>?_,afN h.base L⟩
 .rcases n _ _ hb with x|⟨x,y,z⟩<;>rcases n _ _ T with x'|⟨x',y',z'⟩
  .exact h.DJ k E U b x x'
  .have:=h.lt k b<|au x;omega
  .have:=h.lt E b<|au x';omega
  omega
 .rcases n _ _ hb with x|⟨x,y,z⟩
  .exact h.ro k E b x T
  have:=h.lt E b<|aB T;omega
 .rcases n _ _ hk with x|⟨x,y,z⟩
  .exact(h.sp k b hb).1 x
  have:=h.pX b hb;omega
 .rcases hb with hb|hb
  .rcases n _ _ hb with x|⟨x,y,z⟩
   .exact afL (h.lt k b<|au x) L
   omega
  exact afL (h.lt k b<|aB hb) L
 rcases hb with hb|hb
 .rcases n _ _ hb with x|⟨x,y,z⟩
  .exact h.lg k b (au x) l Y Z
  exact Y.UI (afN h.base y)<|hS l Z
 exact h.lg k b (aB hb) l Y Z
def Ks.at (h:Ks p ay cI M Ro w)(n:w.heap.size<=w'):Ks p ay cI M Ro w':=
 ⟨h.DJ,h.ro,h.sp,λi b o=>afL (h.lt i b o) n,λb o=>afL (h.pX b o) n,h.lg,afN h.base n⟩
def LI (h:Tr ay (p.Sh ay) (p.Own M) (p.Rd Ro) p.Wg p.J p.jt K w t) i (L:w.heap.size<=w'):Tr ay (p.Sh ay) (p.Own<|upd M i<|grow (M i) w w') (p.Rd Ro) p.Wg p.J p.jt K w' t:=by
 refine(h.grow (λk l _ _ ⟨z,n⟩=>?_) (λk l _ _ n=>au n) (λk l _ _ ⟨z,n⟩=>⟨z,n.imp (fP.mono λb o=>?_) id⟩) λk l _ _ n=>n).mono L
 .rcases n with n|n
  .by_cases e:k-p.J+1=i
   .rw[e,upd_same]at n;let⟨b,o,E⟩:=n.some;rcases o with o|⟨o,_⟩
    .exact au ⟨z,au<|by rw[e];exact fP.mono (λ_ (y:_=b)=>y▸o) E⟩
    exact aB<|E.UI o
   rw[upd_ne _ _ e]at n;exact au ⟨z,au n⟩
  exact au ⟨z,aB n⟩
 by_cases e:k-p.J+1=i
 .rw[e,upd_same];rw[e]at o;exact au o
 simp_all [upd_ne]
def jZ (h:Hz X S R e)(U:X e->(aV e).touch?=none){x}(n:(aV e).touch?=some x):x.kind=.plain/\x.loc.isMemory/\(fP S x.loc\/(fP R x.loc/\x.write=false)):=by
 let⟨E,wr,Y⟩:=e;rcases h with⟨o,a,z,h⟩|⟨o,r,z,h⟩|h|h
 .subst o z;simp[aV,bS]at n;subst n;exact⟨rfl,rfl,h.imp id λy=>⟨y.1,y.2⟩⟩
 .subst o z;simp[aV,bS]at n;subst n;exact⟨rfl,rfl,h.imp id λy=>⟨y.1,y.2⟩⟩
 .let⟨m,L,T⟩:=h;cases T;cases m<;>first|(cases L;done)|(cases n;done)
 grind
def g9 {m}(h:Hz X S R e)(o:X e->e.loc≠.mark m)(z:mute m=false):e.loc≠.mark m:=by
 rcases h with⟨_,a,n,_⟩|⟨_,r,n,_⟩|h|h<;>grind
end Ph
section
variable {I:ac->Prop}{Ro:Nat->Prop}{r:Rk}
def PT.cases (h:PT P m I X Ro Stop r M g W):(∀ai,aU (λb=>M b\/Ro b) W ai->I ai->Stop M g ai)\/
  ∃f,r=.node f/\g.status=.running/\∀ai,aU (λb=>M b\/Ro b) W ai->I ai->∃g' W' es,aI P m g ai=.go g' W' es/\fH X M Ro ai W' es/\PT P m I X Ro Stop (f ai) (grow M ai W') g' W':=by
 cases r with
 |leaf=>exact au h
 |node f=>exact Or.imp id (λx=>⟨f,rfl,x⟩) h
def PT.running (n:∀M g W,Stop M g W->g.status=.running)(h:PT P m I X Ro Stop r M g W)(i:I W):g.status=.running:=by
 rcases h.cases with h|⟨_,_,h,_⟩
 .exact n _ _ _ (h W (aU.refl _ _) i)
 omega
end
namespace Ph
variable {p:Ph}{Fin:(Nat->Prop)->(Nat->Prop)->aa->ac->Prop}{tag:CTag}{d:Nat}{ρ:Rk}{Ro:Nat->Prop}{a:aa}{q:ac}{pl:ob}
def gT.rely (h:p.gT Fin Anch tag j ρ x d Ro M a w)(n:aU (λb=>M b\/Ro b) w q):p.gT Fin Anch tag j ρ x d Ro M a q:=by
 cases h with
 |skd o h=>exact .skd o (h.rely n)
 |sa1 o h=>exact .sa1 o (h.rely n)
 |ske o h=>exact .ske o (h.rely n)
 |sgo o h=>exact .sgo o (h.rely n)
 |kd h=>exact .kd (h.rely n)
 |anch h=>exact .anch (h.rely n)
 |w1 h=>exact .w1 (h.rely n)
 |w2 h=>exact .w2 (h.rely n)
 |w3 h=>exact .w3 (h.rely n)
 |blk o E L h=>exact .blk o E (L.rely n) λT z i=>h T (n.trans z) i
 |w4 h=>exact .w4 (h.rely n)
 |ke h=>exact .ke (h.rely n)
 |acq h=>exact .acq<|h.rely n
def gT.status (n:∀Ro M g W,Anch Ro M g W->g.status=.running)(h:p.gT Fin Anch tag j ρ x d Ro M a w)(i:p.I w):(a.status=.running/\tag≠.blk)\/(a.status=.blocked/\tag=.blk):=by
 cases h with
 |skd _ h=>exact au ⟨h.running (λ_ _ _ x=>x.1) i,aP⟩
 |sa1 _ h=>exact au ⟨h.running (λ_ _ _ x=>x.1) i,aP⟩
 |ske _ h=>exact au ⟨h.running (λ_ _ _ x=>x.1) i,aP⟩
 |sgo _ h=>exact au ⟨h.running (λ_ _ _ x=>x.1) i,aP⟩
 |kd h=>exact au ⟨h.running (λ_ _ _ x=>x.1) i,aP⟩
 |anch h=>exact au ⟨h.running (λ_ _ _ x=>n _ _ _ _ x) i,aP⟩
 |w1 h=>exact au ⟨h.running (λ_ _ _ x=>x.1) i,aP⟩
 |w2 h=>exact au ⟨h.running (λ_ _ _ x=>x.1) i,aP⟩
 |w3 h=>exact au ⟨h.running (λ_ _ _ x=>x.1) i,aP⟩
 |blk _ _ _ _=>grind
 |w4 h=>exact au ⟨h.running (λ_ _ _ x=>x.1) i,aP⟩
 |ke h=>exact au ⟨h.running (λ_ _ _ x=>x.1) i,aP⟩
 |acq h=>exact au ⟨h.running (λ_ _ _ x=>x.1) i,aP⟩
def gT.wokenBy (n:∀Ro M g W,Anch Ro M g W->g.status=.running)(h:p.gT Fin Anch tag j ρ x d Ro M a w)(i:p.I w)(g g'):
  ∃tag' o,p.gT Fin Anch tag' j ρ o d Ro M (woken p.P g g' w a) w/\(tag'=tag\/(tag=.blk/\tag'=.w3))/\(mayWake p.P g->g'.status=.running->tag'≠.blk):=by
 unfold a0;split
 .rcases h.status n i with⟨U,z⟩|⟨_,rfl⟩
  .grind [cw]
  cases h with
  |blk E L T Y=>exact⟨.w3,1,by rw[cB E L];exact .w3 T,aB ⟨rfl,rfl⟩,λ_ _=>aP⟩
 grind
def Va {C c}(z:M C)(hk:aU (λb=>M b\/Ro b) w q)(i:p.I q):@RW p.pl p.ty p.Wg C c 0 0 w q:=
 letI:=p.pl;⟨λb h=>absurd h<|afO b,λ_=>i.1,λ⟨cs,h,T⟩=>⟨cs,(hk.block C<|au z).trans h,T⟩,cF (hk.block C<|au z) 0⟩
def WS.rely (h:p.WS k Ro pl ρ d M g w)(n:aU (λb=>M b\/Ro b) w q)(i:p.I q):p.WS k Ro pl ρ d M g q:=by
 cases h with
 |jz h=>exact .jz (h.rely n)
 |put h=>exact .put (h.rely n)
 |lib hC o h=>exact .lib hC o<|@WSit.rely p.pl _ _ _ _ _ _ _ _ _ _ _ _ _ _ _ _ h<|Va hC n i
def kW.running {T seq}(h:p.kW k Ro f T seq M g W):g.status=.running:=by
 cases f<;>exact h.1
def WS.status (h:p.WS k Ro pl ρ d M g w)(i:p.I w):g.status=.running\/(g.status=.finished/\pl.stage=1):=by
 cases h with
 |jz h=>exact au (h.running (λ_ _ _ x=>x.running) i)
 |put h=>exact au (h.running (λ_ _ _ x=>x.1) i)
 |lib hC o h=>
  rename_i s _ _ _ _ _ _ _;exact if n:s=1 then(@WSit.status p.pl _ _ _ _ _ _ _ _ _ _ _ _ _ _ _ h).imp id λx=>⟨x,n⟩else au (@Go.ConcN.WSit.running_of p.pl _ _ _ _ _ _ _ _ _ _ _ _ _ _ _ h n)
def WS.woken (h:p.WS k Ro pl ρ d M g w)(i:p.I w)(a a' w'):woken p.P a a' w' g=g:=by
 unfold a0;split
 .exact cw _ ((h.status i).imp id And.left)
 rfl
end Ph
end
section
open ConcN (CT Apart Ok0 OkW RelBy PermW sumTo sumTo_upd sumTo_congr upd WgLive RW DWs AtR0 WSit CTag WD Vc cnt pend phi phi_mono phi_retag PayAt Has upd_same upd_ne get_map_set get_map_set_same)
open ConcR (stA smA WgAt KK rd wr g_of_ofEvents)
namespace Ph
structure Gh where
 gs:Array aa
 w:ac
 sl:Option (Nat×Nat)
 j:Nat
 D:Nat->ob
 tag:CTag
 ρ:Rk
 x:Nat
 a:aa
 M:Nat->Nat->Prop
 Ro:Nat->Nat->Prop
 R:Nat->Rk
 c:Nat
 st:Int
 sm:Int
def bY (D:Nat->ob)(i:Nat):WD:=⟨(D i).stage,0,0⟩
def ob.dO:ob->Nat
 |.jz _ _ _=>0
 |_=>1
def ob.lo:ob->Nat->Prop
 |.jz _ z _,c=>z<=c
 |_,_=>True
def Gh.μ (p:Ph)(G:Gh):Nat×(Nat->Rk)×Rk×Nat:=(phi p.n (Vc G.j<|bY G.D) G.tag+(p.L+20)*(p.n-G.j)+sumTo G.j (λi=>(G.D i).cost),G.R,G.ρ,G.x)
def Lt4 (p:Ph):Nat×(Nat->Rk)×Rk×Nat->Nat×(Nat->Rk)×Rk×Nat->Prop:=ca (·<·) (ca (S_<|p.J+p.n) (ca Rk.lt (·<·)))
def Lt4.wf (p):WellFounded (Lt4 p):=(cb cn<|cb ⟨_,S_.wf _⟩<|cb ⟨_,Rk.wf⟩ cn).wf
variable (p:Ph)(ay:Loc->Prop)(cI:Nat)(Fin Anch:(Nat->Prop)->(Nat->Prop)->aa->ac->Prop)
structure Fact i (pl:ob)(Mi:Nat->Prop) c (w t):Prop where
 seq:∀x∈pl.seq,x<p.L
 lo:pl.lo c
 out:pl.dO=1->p.L<c
 lib:∀s seq vs Mr,pl=.lib s seq vs Mr->p.Slot i vs w/\(p.Yl seq vs Mr w/\∀b,Mr b->Mi b)/\(s<=6->∃r,RelBy (stA p.Wg) t (p.J+i) r)
structure Inv (G:Gh)(t):Prop where
 size:G.gs.size=p.J+G.j
 jn:G.j<=p.n
 main:G.gs[0]?=some G.a
 p_:p.gT Fin Anch G.tag G.j G.ρ G.x (a9 t 0) (G.Ro 0) (G.M 0) G.a G.w
 wk:∀i,i<G.j->∃g,G.gs[p.J+i]?=some g/\p.WS i (G.Ro<|i+1) (G.D i) (G.R<|p.J+i) (a9 t<|p.J+i) (G.M<|i+1) g G.w
 old:∀i,0<i->i<p.J->∃g q,G.gs[i]?=some g/\QuitsD p.P q (a9 t i) g/\G.R i=Rk.nat q
 above:∀k,p.J+G.j<=k->a9 t k=0
 jg:Ks p ay cI G.M G.Ro G.w
 tr:Tr ay (p.Sh ay) (p.Own G.M) (p.Rd G.Ro) p.Wg p.J p.jt (p.J-1+G.j) G.w t
 wg:WgAt p.ty p.Wg G.w G.st G.sm
 tk:p.kq G.w G.c
 bs:∃cs,p.rK cs G.w
 mode:bb G.j (bY G.D) G.tag G.st G.sm
 fact:∀i,i<G.j->p.Fact i (G.D i) (G.M<|i+1) G.c G.w t
 YF:∀x,x<p.L->x<G.c->∃i,i<G.j/\x∈(G.D i).seq
 bound:G.c<=p.L+sumTo G.j λi=>(G.D i).dO
def ST (μ:Nat×(Nat->Rk)×Rk×Nat)(m:Machine)(t:b6):Prop:=∃G,m=crowd G.gs G.w G.sl/\μ=G.μ p/\p.Inv ay cI Fin Anch G t
def kh:Prop:=∀seq n M w w',p.Yl seq n M w->aU M w w'->p.Yl seq n M w'
abbrev Nx (G:Gh)(t:b6)(i:Nat):Prop:=∃n o z,runT p.P (crowd G.gs G.w G.sl) i=(.next n,o)/\Lt4 p z (G.μ p)/\p.ST ay cI Fin Anch z n (t++o)
variable {p}{ay}{cI}{Fin Anch}{G:Gh}
def Inv.I (h:p.Inv ay cI Fin Anch G t):p.I G.w:=⟨⟨_,_,h.wg⟩,⟨_,h.tk⟩,h.bs⟩
def Inv.at (Y:p.kh)(h:p.Inv ay cI Fin Anch G t) d (sl):p.Inv ay cI Fin Anch {G with w:=G.w.at d,sl:=sl} t:=by
 have k:∀S,aU S G.w (G.w.at d):=λS=>⟨λ_ _=>rfl,afK _,rfl,rfl⟩
 exact⟨h.size,h.jn,h.main,h.p_.rely<|k _,λT U=>let⟨g,Z,h2⟩:=h.wk T U;⟨g,Z,h2.rely (k _) h.I⟩,h.old,h.above,h.jg.at<|afK _,h.tr,h.wg,h.tk,h.bs,h.mode,
  λT U=>let f:=h.fact T U;⟨f.seq,f.lo,f.out,λs seq vs Mr e=>let⟨a,b,c⟩:=f.lib s seq vs Mr e;⟨a,⟨Y _ _ _ _ _ b.1<|k _,b.2⟩,c⟩⟩,h.YF,h.bound⟩
def Inv.keep (h:p.Inv ay cI Fin Anch G t)(T:G.w.heap.size<=w')(U:∀b,b<G.w.heap.size->¬G.M i b->¬p.Sp b->w'.heap[b]?=G.w.heap[b]?)(n:k≠i)(z:w'.os=G.w.os/\w'.output=G.w.output):aU (λb=>G.M k b\/G.Ro k b) G.w w':=
 ⟨λb o=>U b (h.jg.lt k b o) (λE=>o.elim (h.jg.DJ i k (bI n) b E)<|h.jg.ro i k b E) λL=>o.elim (h.jg.sp k b L).1 (h.jg.sp k b L).2,T,z.1,z.2⟩
def Hr (D) i (pl):bY (upd D i pl)=upd (bY D) i ⟨pl.stage,0,0⟩:=by
 grind [bY,upd_same,upd_ne]
def Fact.other {pl U c}(Z:p.kh)(f:p.Fact i pl U c w t)(hc:c<=c')(hk:aU U w w')(hs:∀T,p.Slot i T w->p.Slot i T w')(hu:∀op∈u,op.g=k)(Y:k≠p.J+i):p.Fact i pl U c' w' (t++u):=
 ⟨f.seq,by have:=f.lo;cases pl<;>simp[ob.lo]at this⊢<;>first|trivial|omega,λe=>afL (f.out e) hc,λs seq T Mr e=>let⟨a,b,d⟩:=f.lib s seq T Mr e;⟨hs T a,⟨Z _ _ _ _ _ b.1<|hk.mono b.2,b.2⟩,λh6=>let⟨r,hr⟩:=d h6;⟨r,hr.appOther hu Y⟩⟩⟩
def Inv.stepW (hR:p.kh)(cK:Geo p ay)(hS:∀l,ay l->l.low cI)(oL:∀Ro M g W,Anch Ro M g W->g.status=.running)(h:p.Inv ay cI Fin Anch G t)(hi:i<G.j){pl'}{ρ':Rk}
  (hg:G.gs[p.J+i]?=some g)(hgo:aI p.P false g G.w=.go g' w' es)(iP:G.w.heap.size<=w')(wF:∀b,b<G.w.heap.size->¬G.M (i+1) b->¬p.Sp b->w'.heap[b]?=G.w.heap[b]?)
  (nQ:p.WS i (G.Ro<|i+1) pl' ρ' (bL (a9 t<|p.J+i) es) (grow (G.M<|i+1) G.w w') g' w')
  (eF:∀op∈ao (p.J+i) g.frame.fn g.frame.place es,OkW (p.Sh ay) (p.Own<|upd G.M (i+1)<|grow (G.M<|i+1) G.w w') (p.Rd G.Ro) (p.J+i) op)(bF:∀op∈ao (p.J+i) g.frame.fn g.frame.place es,Ff (p.Sh ay) p.Wg p.J w' op)
  (kL:WgAt p.ty p.Wg w' Hf G3)(vg:p.kq w' c')(bN:∃cs,p.rK cs w')
  (uh:∀tag',(tag'=G.tag\/(G.tag=.blk/\tag'=.w3))->(mayWake p.P g->g'.status=.running->tag'≠.blk)->bb G.j (upd (bY G.D) i ⟨pl'.stage,0,0⟩) tag' Hf G3)
  (hfi:p.Fact i pl' (grow (G.M<|i+1) G.w w') c' w' (t++ao (p.J+i) g.frame.fn g.frame.place es))(hfo:∀k,k≠i->∀vs,p.Slot k vs G.w->p.Slot k vs w')(Cv:G.c<=c')
  (aaI:∀x,x<p.L->G.c<=x->x<c'->x∈pl'.seq)(adI:∀x∈(G.D i).seq,x∈pl'.seq)(hb:c'<=p.L+sumTo G.j λk=>(upd G.D i pl' k).dO)
  (aF:(pl'.cost<(G.D i).cost/\cnt ⟨pl'.stage,0,0⟩<=cnt ⟨(G.D i).stage,0,0⟩)\/(pl'.cost=(G.D i).cost/\pl'.stage=(G.D i).stage/\Rk.lt ρ' (G.R<|p.J+i)))(PP:w'.os=G.w.os/\w'.output=G.w.output:=by first|exact⟨rfl,rfl⟩|exact⟨hp.os,hp.out⟩|exact⟨uj.os,uj.out⟩|exact⟨hA.os,hA.output⟩|exact⟨Mq.os,Mq.output⟩|exact⟨hk.os,hk.out⟩):
  p.Nx ay cI Fin Anch G t (p.J+i):=by
 have i':p.I w':=⟨⟨_,_,kL⟩,⟨_,vg⟩,bN⟩;have hJ:=cK.J1;let⟨tag',x',ZF,gX,hwk⟩:=(h.p_.rely<|h.keep (i:=i+1) (k:=0) iP wF ab PP).wokenBy oL i' g g';have PG:∀k,k≠p.J+i->a9 (t++ao (p.J+i) g.frame.fn g.frame.place es) k=a9 t k:=λk hk=>cc t (bI hk) _ g_of_ofEvents
 have Mp:upd G.M (i+1) (grow (G.M<|i+1) G.w w') 0=G.M 0:=upd_ne _ _ ab;have xJ:=h.size;let G':Gh:={gs:=(G.gs.map<|a0 p.P g g' w').setIfInBounds (p.J+i) g',w:=w',sl:=G.sl,j:=G.j,D:=upd G.D i pl',tag:=tag',ρ:=G.ρ,x:=x',a:=a0 p.P g g' w' G.a,M:=upd G.M (i+1)<|grow (G.M<|i+1) G.w w',Ro:=G.Ro,R:=upd G.R (p.J+i) ρ',c:=c',st:=Hf,sm:=G3}
 have hI:p.Inv ay cI Fin Anch G' (t++ao (p.J+i) g.frame.fn g.frame.place es):=by
  refine⟨gC,h.jn,?_,?_,λk hk=>?_,λk h0 hk=>?_,λk hk=>?_,h.jg.grow hS (i+1) iP,(LI h.tr (i+1) iP).appW ((h.jg.grow hS (i+1) iP).apart cK) ab (by show p.J+i<=p.J-1+G.j;omega) hJ eF bF,kL,vg,bN,?_,λk hk=>?_,λx hx hxc=>?_,hb⟩
  .rw[get_map_set _ _ _ _ ab,h.main];rfl
  .grind
  .by_cases e:k=i
   .grind [upd_same,cv]
   let⟨gk,h1,h2⟩:=h.wk k hk;have h3:=h2.rely (h.keep (i:=i+1) (k:=k+1) iP wF ab PP) i';refine⟨gk,by rw[get_map_set _ _ _ _ ab,h1,a4,h3.woken i'],?_⟩;simp only[G',upd_ne G.D _ e,upd_ne G.R ρ' (show p.J+k≠p.J+i by omega),upd_ne G.M _ (show k+1≠i+1 by omega)];rw[PG _ ab];exact h3
  .let⟨gk,q,h1,h2,h3⟩:=h.old k h0 hk;refine⟨gk,q,by rw[get_map_set _ _ _ _ ab,h1,a4,b8 h2],?_,?_⟩
   .rw[PG _ ab];exact h2
   .simp only[G',upd_ne G.R ρ' (show k≠p.J+i by omega)];exact h3
  .have wD:p.J+G.j<=k:=hk;rw[PG _ ab];exact h.above k hk
  .rw[Hr];exact uh tag' gX hwk
  .by_cases e:k=i
   .subst e;simp only[G',upd_same];exact hfi
   .simp only[G',upd_ne G.D _ e,upd_ne G.M _ (show k+1≠i+1 by omega)];exact(h.fact k hk).other hR Cv ((h.keep (i:=i+1) (k:=k+1) iP wF ab PP).mono λb hb=>au hb) (hfo k e) g_of_ofEvents ab
  rcases afS x G.c with dV|ug
  .let⟨k,hk,hxk⟩:=h.YF x hx dV;refine⟨k,hk,?_⟩;by_cases e:k=i
   .subst e;simp only[G',upd_same];exact adI x hxk
   .simp only[G',upd_ne G.D _ e];exact hxk
  .exact⟨i,hi,by simp only[G',upd_same];exact aaI x hx ug hxc⟩
 refine⟨_,_,G'.μ p,(b5 (P:=p.P) (sl:=G.sl) (i:=p.J+i) hg<|by rw[show((p.J+i)==0)=false by simp;omega];exact hgo),?_,G',rfl,rfl,hI⟩;have e2:=sumTo_upd G.D pl' ob.cost hi;have ev:Vc G.j (bY<|upd G.D i pl')+cnt (bY G.D i)=Vc G.j (bY G.D)+cnt ⟨pl'.stage,0,0⟩:=by rw[Hr];exact(sumTo_upd (bY G.D) (⟨pl'.stage,0,0⟩:WD) cnt hi)
 show Lt4 p (phi p.n (Vc G.j<|bY<|upd G.D i pl') tag'+(p.L+20)*(p.n-G.j)+sumTo G.j (λk=>(upd G.D i pl' k).cost),upd G.R (p.J+i) ρ',G.ρ,x') _;rw[phi_retag p.n _ gX];rcases aF with⟨h1,h2⟩|⟨h1,h2,h3⟩
 .refine a7 _ _ ?_;have hv:Vc G.j (bY<|upd G.D i pl')<=Vc G.j (bY G.D):=by simp only[bY]at ev h2⊢;omega
  have:=phi_mono p.n hv G.tag;omega
 have hv:Vc G.j (bY<|upd G.D i pl')=Vc G.j (bY G.D):=by
  have:cnt (⟨pl'.stage,0,0⟩:WD)=cnt (bY G.D i):=by show(if 5<=pl'.stage then 1 else 0)=(if 5<=(G.D i).stage then 1 else 0);rw[h2]
  omega
 have hc:sumTo G.j (λk=>(upd G.D i pl' k).cost)=sumTo G.j (λk=>(G.D k).cost):=ab;rw[hv,hc];refine bm _<|a7 _ _ ⟨p.J+i,?_,by rw[upd_same];exact h3,λk hk=>upd_ne _ _ hk⟩;have:=h.jn;omega
end Ph
namespace Ph
variable {p:Ph}{Fin:(Nat->Prop)->(Nat->Prop)->aa->ac->Prop}{G:Gh}
def Inv.abT (hR:p.kh)(cK:Geo p ay)(oL:∀Ro M g W,Anch Ro M g W->g.status=.running)(h:p.Inv ay cI Fin Anch G t)(E:0<i)(hi:i<p.J)(hg:G.gs[i]?=some g)(L:g.status=.running):
  p.Nx ay cI Fin Anch G t i:=by
 let⟨T,q,KR,hq,U⟩:=h.old i E hi;obtain rfl:g=T:=by rw[hg]at KR;grind
 cases q with
 |zero=>rw[hq.1]at L;grind
 |succ q=>
  rcases hq with⟨hf,_⟩|⟨_,g',es,hm,dZ,AW⟩
  .grind
  have i':=h.I;have xJ:=h.size;let⟨z,x',ZF,gX,aN⟩:=h.p_.wokenBy oL i' g g';have PG:∀k,k≠i->a9 (t++ao i g.frame.fn g.frame.place es) k=a9 t k:=λk o=>cc t (bI o) _ g_of_ofEvents
  let Y:={G with gs:=(G.gs.map<|a0 p.P g g' G.w).setIfInBounds i g',tag:=z,x:=x',a:=a0 p.P g g' G.w G.a,R:=upd G.R i<|Rk.nat q}
  have hI:p.Inv ay cI Fin Anch Y (t++ao i g.frame.fn g.frame.place es):=by
   refine⟨gC,h.jn,?_,?_,λk o=>?_,λk E o=>?_,λk o=>?_,h.jg,?_,h.wg,h.tk,h.bs,h.mode.retag gX,λk o=>(h.fact k o).other hR (afK _) (aU.refl _ _) (λ_ x=>x) g_of_ofEvents ab,h.YF,h.bound⟩
   .rw[get_map_set _ _ _ _ ab,h.main];rfl
   .grind
   .let⟨gk,Z,h2⟩:=h.wk k o;refine⟨gk,?_,?_⟩
    .rw[get_map_set _ _ _ _ ab,Z,a4,h2.woken i']
    grind [upd_ne]
   .by_cases e:k=i
    .grind [cv,upd_same]
    let⟨gk,q',Z,h2,h3⟩:=h.old k E o;refine⟨gk,q',?_,?_,?_⟩
    .rw[get_map_set _ _ _ _ (bI e),Z,a4,b8 h2]
    all_goals grind [upd_ne]
   .have wD:=o;rw[PG _ ab];exact h.above k o
   refine h.tr.OF (h.jg.apart cK) ab ab g_of_ofEvents (λop bF=>?_) λop bF=>?_
   .obtain⟨e,he,rfl⟩:=ax bF;exact touch_mute<|hm e he
   obtain⟨e,he,rfl⟩:=ax bF;intro hx;have hl:=a5 hx;have aF:=hm e he;let⟨aZ,_,_⟩:=e;simp at hl;subst hl;cases aF
  refine⟨_,_,Y.μ p,(b5 hg<|by rw[show(i==0)=false by simp;omega];exact(dZ G.w)),?_,Y,rfl,rfl,hI⟩;show Lt4 p (phi p.n _ z+_*_+sumTo G.j (λk=>(G.D k).cost),upd G.R i _,G.ρ,x') _;rw[phi_retag p.n _ gX];exact bm _<|a7 _ _ ⟨i,ab,by rw[upd_same,U];exact Rk.nat_lt q G.w,λk o=>upd_ne _ _ o⟩
def Inv.step0 (hR:p.kh)(cK:Geo p ay)(hS:∀l,ay l->l.low cI)(h:p.Inv ay cI Fin Anch G t){a' tag'}{ρ':Rk}{x'}
  (hgo:aI p.P true G.a G.w=.go a' w' es)(iP:G.w.heap.size<=w')(wF:∀b,b<G.w.heap.size->¬G.M 0 b->¬p.Sp b->w'.heap[b]?=G.w.heap[b]?)
  (nQ:p.gT Fin Anch tag' G.j ρ' x' (bL (a9 t 0) es) (G.Ro 0) (grow (G.M 0) G.w w') a' w')
  (eF:∀op∈ao 0 G.a.frame.fn G.a.frame.place es,Ok0 (p.Sh ay) (p.Own<|upd G.M 0<|grow (G.M 0) G.w w') (p.Rd G.Ro) (p.J-1+G.j) op)(bF:∀op∈ao 0 G.a.frame.fn G.a.frame.place es,Ff (p.Sh ay) p.Wg p.J w' op)
  (kL:WgAt p.ty p.Wg w' Hf G3)(vg:p.kq w' G.c)(bN:∃cs,p.rK cs w')(uh:bb G.j (bY G.D) tag' Hf G3)(hfo:∀k vs,p.Slot k vs G.w->p.Slot k vs w')
  (aF:phi p.n (Vc G.j<|bY G.D) tag'<phi p.n (Vc G.j<|bY G.D) G.tag\/(phi p.n (Vc G.j<|bY G.D) tag'=phi p.n (Vc G.j<|bY G.D) G.tag/\(Rk.lt ρ' G.ρ\/(ρ'=G.ρ/\x'<G.x))))(PP:w'.os=G.w.os/\w'.output=G.w.output:=by first|exact⟨rfl,rfl⟩|exact⟨hp.os,hp.out⟩|exact⟨uj.os,uj.out⟩|exact⟨hA.os,hA.output⟩|exact⟨Mq.os,Mq.output⟩|exact⟨hk.os,hk.out⟩):
  p.Nx ay cI Fin Anch G t 0:=by
 have i':p.I w':=⟨⟨_,_,kL⟩,⟨_,vg⟩,bN⟩;have hJ:=cK.J1;have xJ:=h.size;have PG:∀k,k≠0->a9 (t++ao 0 G.a.frame.fn G.a.frame.place es) k=a9 t k:=λk hk=>cc t (bI hk) _ g_of_ofEvents
 let G':={G with gs:=(G.gs.map<|a0 p.P G.a a' w').setIfInBounds 0 a',w:=w',tag:=tag',ρ:=ρ',x:=x',a:=a',M:=upd G.M 0<|grow (G.M 0) G.w w',st:=Hf,sm:=G3}
 have hI:p.Inv ay cI Fin Anch G' (t++ao 0 G.a.frame.fn G.a.frame.place es):=by
  refine⟨gC,h.jn,get_map_set_same _ _ _ ab,by grind [cv,upd_same],λk hk=>?_,λk h0 hk=>?_,λk hk=>?_,h.jg.grow hS 0 iP,(LI h.tr 0 iP).app0 ((h.jg.grow hS 0 iP).apart cK) eF bF,kL,vg,bN,uh,λk hk=>?_,h.YF,h.bound⟩
  .let⟨gk,h1,h2⟩:=h.wk k hk;have h3:=h2.rely (h.keep iP wF ab PP) i';refine⟨gk,?_,?_⟩
   .rw[get_map_set _ _ _ _ ab,h1,a4,h3.woken i']
   grind [upd_ne]
  .let⟨gk,q,h1,h2,h3⟩:=h.old k h0 hk;refine⟨gk,q,?_,?_,h3⟩
   .rw[get_map_set _ _ _ _ ab,h1,a4,b8 h2]
   grind
  .have wD:=hk;rw[PG _ ab];exact h.above k hk
  simp[G'];exact(h.fact k hk).other hR ab ((h.keep iP wF ab PP).mono λb hb=>au hb) (hfo k) g_of_ofEvents ab
 refine⟨_,_,G'.μ p,(b5 h.main (show aI p.P (0==0) G.a G.w=_ from hgo)),?_,G',rfl,rfl,hI⟩;show Lt4 p (phi p.n (Vc G.j<|bY G.D) tag'+_*(p.n-G.j)+sumTo G.j (λk=>(G.D k).cost),G.R,ρ',x') _;rcases aF with h1|⟨h1,h2⟩
 .exact a7 _ _ ab
 rw[h1];refine bm _<|bm _ ?_;grind
end Ph
end
section
open ConcN (CT Apart Ok0 OkW RelBy PermW sumTo sumTo_upd sumTo_upd_out sumTo_congr upd WgLive RW DWs AtR0 WSit CTag WD Vc cnt pend phi phi_mono phi_retag PayAt Has upd_same upd_ne get_map_set get_map_set_same)
open ConcR (stA smA WgAt KK rd wr g_of_ofEvents)
namespace Ph
variable {p:Ph}{Fin:(Nat->Prop)->(Nat->Prop)->aa->ac->Prop}{G:Gh}
def Inv.spawn (cK:Geo p ay)(h:p.Inv ay cI Fin Anch G t){r}(hr:r<p.n)(gX:G.tag=.sp r 2)(hj:G.j=p.n-(r+1))(hd:a9 t 0=0)
  (dC:p.AtGo (G.Ro 0) (p.n-(r+1)) (p.Spawns Anch r) (G.M 0) G.a G.w):
  p.Nx ay cI Fin Anch G t 0:=by
 let⟨_,g',U,rV,bl,ck,ct,vz,⟨rc,vw⟩,zq⟩:=dC;have xJ:G.gs.size=p.J+G.j:=h.size;have hJ:=cK.J1;have fO:=runT_crowd_spawn (P:=p.P) (sl:=G.sl) (i:=0) h.main (show aI p.P (0==0) G.a G.w=_ from bl);rw[<-hj]at vw;obtain⟨T,aF,ZF,A6,bp,KZ,bq⟩:∃T aF,p.gT Fin Anch T (G.j+1) aF 0 0 rV (λb=>G.M 0 b/\¬rV b) g' G.w/\cL T/\pend T=0/\(∀vs,T≠.w2 vs)/\∀v v',phi p.n v' T<phi p.n v (.sp r 2):=by
  cases r with
  |zero=>
   let⟨aF,hn⟩:=zq;have e:G.j+1=p.n:=ab;exact⟨.kd,aF,e▸.kd hn,trivial,rfl,aP,λv v'=>by simp only[phi];omega⟩
  |succ r=>
   let⟨aF,hn⟩:=zq;have e:G.j+1=p.n-(r+1):=ab;exact⟨.sp r 5,aF,e▸.skd ab hn,trivial,rfl,aP,λv v'=>by simp only[phi];omega⟩
 let M':Nat->Nat->Prop:=upd (upd G.M 0 λb=>G.M 0 b/\¬rV b) (G.j+1) λ_=>False
 let R':Nat->Nat->Prop:=upd (upd G.Ro 0 rV) (G.j+1) rV
 have M0:M' 0=λb=>G.M 0 b/\¬rV b:=by simp only[M'];rw[upd_ne _ _ ab,upd_same]
 have R0:R' 0=rV:=by simp only[R'];rw[upd_ne _ _ ab,upd_same]
 have Mj:M' (G.j+1)=λ_=>False:=by simp only[M'];rw[upd_same]
 have Rj:R' (G.j+1)=rV:=by simp only[R'];rw[upd_same]
 have Mk:∀k,k≠0->k≠G.j+1->M' k=G.M k:=λk h0 h1=>by simp only[M'];rw[upd_ne _ _ h1,upd_ne _ _ h0]
 have aZ:∀k,k≠0->k≠G.j+1->R' k=G.Ro k:=λk h0 h1=>by simp only[R'];rw[upd_ne _ _ h1,upd_ne _ _ h0]
 have mM:∀k b,M' k b->G.M k b/\(k=0->¬rV b):=λk b hb=>by
  by_cases e1:k=G.j+1
  .subst e1;rw[Mj]at hb;exact hb.elim
  .by_cases e0:k=0
   .subst e0;rw[M0]at hb;exact⟨hb.1,λ_=>hb.2⟩
   .rw[Mk k e0 e1]at hb;exact⟨hb,λe=>absurd e e0⟩
 have mR:∀k b,R' k b->G.Ro k b\/rV b:=λk b hb=>by
  by_cases e1:k=G.j+1
  .subst e1;rw[Rj]at hb;exact aB hb
  .by_cases e0:k=0
   .subst e0;rw[R0]at hb;exact aB hb
   .rw[aZ k e0 e1]at hb;exact au hb
 have a1:∀b,rV b->G.M 0 b\/G.Ro 0 b:=λb hb=>(vz b hb).symm
 have a2:Ks p ay cI M' R' G.w:=by
  refine⟨λi k bx b Z hk=>h.jg.DJ i k bx b (mM i b Z).1 (mM k b hk).1,λi k b Z hk=>?_,λi b hs=>⟨λZ=>(h.jg.sp i b hs).1 (mM i b Z).1,λZ=>?_⟩,λi b hb=>?_,h.jg.pX,λi b hb l hl=>?_,h.jg.base⟩
  .rcases mR k b hk with x|x
   .exact h.jg.ro i k b (mM i b Z).1 x
   .by_cases e:i=0
    .exact(mM i b Z).2 e x
    .rcases a1 b x with y|y
     .exact h.jg.DJ i 0 e b (mM i b Z).1 y
     .exact h.jg.ro i 0 b (mM i b Z).1 y
  .rcases mR i b Z with x|x
   .exact(h.jg.sp i b hs).2 x
   .exact(a1 b x).elim (h.jg.sp 0 b hs).1 (h.jg.sp 0 b hs).2
  .rcases hb with hb|hb
   .exact h.jg.lt i b (au (mM i b hb).1)
   .exact(mR i b hb).elim (λx=>h.jg.lt i b<|aB x) λx=>h.jg.lt 0 b<|a1 b x
  .rcases hb with hb|hb
   .exact h.jg.lg i b (au (mM i b hb).1) l hl
   .exact(mR i b hb).elim (λx=>h.jg.lg i b (aB x) l hl) λx=>h.jg.lg 0 b (a1 b x) l hl
 let X:MemOp:={g:=0,fn:=G.a.frame.fn,pos:=G.a.frame.place,act:=.go G.gs.size}
 let Y:MemOp:={g:=G.gs.size,fn:=U.frame.fn,pos:=G.a.frame.place,act:=.start}
 have bN:((ao 0 G.a.frame.fn G.a.frame.place #[]).push X).push Y=#[X,Y]:=by rw[ofEvents_eq,Array.map_empty];rfl
 have b1:∀op∈#[X,Y],op=X\/op=Y:=λop bF=>by simpa using bF
 have Ud:∀k,a9 (t++#[X,Y]) k=a9 t k:=λk=>cM t k _ λop bF=>by rcases b1 op bF with rfl|rfl<;>simp[X,Y]
 have b2:Tr ay (p.Sh ay) (p.Own M') (p.Rd R') p.Wg p.J p.jt (p.J-1+G.j+1) G.w.heap.size (t++#[X,Y]):=by
  have h1:Tr ay (p.Sh ay) (p.Own M') (p.Rd R') p.Wg p.J p.jt (p.J-1+G.j) G.w.heap.size t:=by
   refine h.tr.grow (λk l _ hk ⟨hx,hy⟩=>au ⟨hx,?_⟩) (λk l _ hk ⟨hx,hy⟩=>au ⟨hx,?_⟩) (λk l _ hk ⟨hx,hy⟩=>⟨hx,?_⟩) λk l _ hk ⟨hx,hy⟩=>⟨hx,?_⟩
   .rwa [Mk _ ab ab]at hy
   .rwa [aZ _ ab ab]at hy
   .rwa [Mk _ ab ab]
   .rwa [aZ _ ab ab]
  exact h1.fork (a2.apart cK) ⟨rfl,by show MemAct.go G.gs.size=_;rw[xJ];congr 1;omega⟩ ⟨by show G.gs.size=_;rw[xJ];omega,rfl⟩ hd
 let D':Nat->ob:=upd G.D G.j<|.jz p.L 0 []
 have Dk:∀k,k<G.j->D' k=G.D k:=λk hk=>upd_ne _ _ ab
 have Dj:D' G.j=.jz p.L 0 []:=upd_same _ _ _;have hrel:∀i r,i<G.j->RelBy (stA p.Wg) t (p.J+i) r->RelBy (stA p.Wg) (t++#[X,Y]) (p.J+i) r:=λi r Z hb=>by
  have e:t++#[X,Y]=(t++#[X])++#[Y]:=by apply Array.ext';simp
  rw[e];exact(hb.appOther (g:=0) (by simp[X]) ab).appOther (g:=G.gs.size) (by simp[Y]) ab
 let G':Gh:={gs:=(G.gs.setIfInBounds 0 g').push U,w:=G.w,sl:=G.sl,j:=G.j+1,D:=D',tag:=T,ρ:=aF,x:=0,a:=g',M:=M',Ro:=R',R:=upd G.R (p.J+G.j) rc,c:=G.c,st:=G.st,sm:=G.sm}
 have a3:∀k,k≠0->k<p.J+G.j->((G.gs.setIfInBounds 0 g').push U)[k]?=G.gs[k]?:=λk h0 hk=>by
  rw[br,if_neg dj,Array.getElem?_setIfInBounds_ne ab]
 have b3:Vc (G.j+1) (bY D')=Vc G.j (bY G.D)+1:=by
  show sumTo G.j (λi=>cnt<|bY D' i)+cnt (bY D' G.j)=_;have:cnt (bY D' G.j)=1:=by simp only[bY,Dj];rfl
  rw[this,sumTo_congr (g:=λi=>cnt<|bY G.D i) λi Z=>by simp only[bY,Dk i Z]];rfl
 have hI:p.Inv ay cI Fin Anch G' (t++#[X,Y]):=by
  refine⟨by simp[G',xJ];omega,by show G.j+1<=p.n;omega,?_,?_,λk hk=>?_,λk h0 hk=>?_,λk hk=>?_,a2,b2,h.wg,h.tk,h.bs,?_,λk hk=>?_,λx hx cd=>?_,?_⟩
  .show((G.gs.setIfInBounds 0 g').push U)[0]?=some g';rw[br,if_neg dj];exact Array.getElem?_setIfInBounds_self_of_lt ab
  .show p.gT Fin Anch T (G.j+1) aF 0 (a9 (t++#[X,Y]) 0) (R' 0) (M' 0) g' G.w;rw[Ud,hd,R0,M0];exact ZF
  .have wD:k<G.j+1:=hk;by_cases e:k=G.j
   .subst e;refine⟨U,?_,?_⟩
    .show((G.gs.setIfInBounds 0 g').push U)[p.J+G.j]?=_;rw[br,if_pos (by simp[xJ])]
    .simp only[G',Dj,upd_same,Mj,Rj];rw[Ud,h.above _ (afK _)];exact .jz vw
   .let⟨gk,h1,h2⟩:=h.wk k ab;refine⟨gk,?_,?_⟩
    .rw[<-h1];exact a3 _ ab ab
    .simp only[G',Dk k ab,upd_ne G.R rc (show p.J+k≠p.J+G.j by omega),Mk (k+1) ab ab,aZ (k+1) ab ab];rw[Ud];exact h2
  .let⟨gk,q,h1,h2,h3⟩:=h.old k h0 hk;refine⟨gk,q,?_,by rw[Ud];exact h2,?_⟩
   .rw[<-h1];exact a3 _ ab ab
   .simp only[G',upd_ne G.R rc (show k≠p.J+G.j by omega)];exact h3
  .have wD:p.J+(G.j+1)<=k:=hk;rw[Ud];exact h.above k ab
  .have hm:=h.mode;rw[gX]at hm;show bb (G.j+1) (bY D') T G.st G.sm;generalize dZ:G.st=st at hm;generalize cy:G.sm=sm at hm;cases hm with
   |opn h1 h2 h3=>
    have:=Go.ConcN.Mode.opn (j:=G.j+1) (D:=bY D') (tag:=T) A6 (λi Z=>by
     by_cases e:i=G.j
     .subst e;left;simp only[bY,Dj];rfl
     .have:=h2 i ab;simpa only[bY,Dk i ab]using this) (λvs e=>absurd e<|KZ vs)
    rw[b3,bp]at this;exact this
   |reg h1=>exact h1.elim
   |last _ h1=>exact h1.elim
   |fin h1=>exact h1.elim
  .have wD:k<G.j+1:=hk;by_cases e:k=G.j
   .subst e;simp only[G',Dj];exact⟨λx hx=>absurd hx<|by simp[ob.seq],afP _,λe=>by simp[ob.dO]at e,λs seq vs Mr e=>by cases e⟩
   .have f:=h.fact k ab;simp only[G',Dk k ab,Mk (k+1) ab ab];exact⟨f.seq,f.lo,f.out,λs seq vs Mr e=>let⟨a,b,c⟩:=f.lib s seq vs Mr e;⟨a,b,λh6=>let⟨r,hr⟩:=c h6;⟨r,hrel k r ab hr⟩⟩⟩
  .let⟨i,Z,ch⟩:=h.YF x hx cd;exact⟨i,by show i<G.j+1;omega,by simp only[G',Dk i Z];exact ch⟩
  .show G.c<=p.L+(sumTo G.j (λi=>(D' i).dO)+(D' G.j).dO);have:=h.bound;rw[sumTo_congr (g:=λi=>(G.D i).dO) λi Z=>by rw[Dk i Z]];omega
 refine⟨_,_,G'.μ p,fO,?_,G',rfl,rfl,?_⟩
 .show Lt4 p (phi p.n (Vc (G.j+1)<|bY D') T+(p.L+20)*(p.n-(G.j+1))+(sumTo G.j (λk=>(D' k).cost)+(D' G.j).cost),upd G.R (p.J+G.j) rc,aF,0) (phi p.n (Vc G.j<|bY G.D) G.tag+(p.L+20)*(p.n-G.j)+sumTo G.j (λi=>(G.D i).cost),G.R,G.ρ,G.x);refine a7 _ _ ?_;have h1:=bq (Vc G.j<|bY G.D)<|Vc (G.j+1)<|bY D';rw[sumTo_congr (g:=λi=>(G.D i).cost) λi Z=>by rw[Dk i Z],Dj,gX];have e1:p.n-G.j=p.n-(G.j+1)+1:=ab;rw[e1,Nat.mul_add,Nat.mul_one];simp only[ob.cost];omega
 .rw[bN];exact hI
end Ph
end
section
open ConcN (CT Apart Ok0 OkW RelBy PermW sumTo sumTo_upd sumTo_upd_out sumTo_congr sumTo_le upd WgLive RW DWs AtR0 WSit CTag WD Vc cnt pend phi phi_mono phi_retag PayAt Has upd_same upd_ne get_map_set get_map_set_same)
open ConcR (stA smA WgAt KK rd wr g_of_ofEvents)
def cR (h:w'=w.heap.size):grow M w w'=M:=by
 funext b;simp[grow];grind
namespace Ph
variable {p:Ph}{Fin:(Nat->Prop)->(Nat->Prop)->aa->ac->Prop}{G:Gh}{M Ro:Nat->Nat->Prop}{fn:FuncId}{pos:String}
def EvS (p:Ph)(e:bj):Prop:=(∃m,e.loc=.mark m/\(m=.disable\/m=.enable\/(∃a,m=.releaseMerge a)\/∃a,m=.acquire a))\/∃a wr,e=⟨.cell a,wr,true⟩/\(a.block=p.Wg\/a.block=p.tk.block)
def EvS.touch (h:p.EvS e){x}(n:(aV e).touch?=some x):x.kind=.atomic/\∃a,x.loc=.cell a/\(a.block=p.Wg\/a.block=p.tk.block):=by
 rcases h with⟨m,o,h⟩|⟨a,wr,rfl,h⟩
 .rw[cC o]at n;rcases h with rfl|rfl|⟨a,rfl⟩|⟨a,rfl⟩<;>cases n
 cases n;grind
def EvS.Gt (h:p.EvS e):aV e≠.mark (.release<|stA p.Wg):=by
 intro n;have o:=a5 n;rcases h with⟨m,z,h⟩|⟨a,wr,rfl,h⟩<;>grind
def rz (T:p.Wg<w)(U:p.tk.block<w)(h:∀e∈es,p.EvS e){g}:∀E∈ao g fn pos es,Ff (p.Sh ay) p.Wg p.J w E:=by
 intro E L;obtain⟨e,z,rfl⟩:=ax L;refine⟨λa n=>?_,λa n=>?_,(h e z).Gt,λ_ a n _=>?_⟩
 .let⟨_,b,o,_⟩:=(h e z).touch n;rw[o];rfl
 .let⟨_,b,o,e2⟩:=(h e z).touch n;rw[o];show b.block<_;rcases e2 with e2|e2<;>rw[e2]<;>assumption
 let⟨_,b,o,e2⟩:=(h e z).touch n;exact aB ⟨b,o,e2⟩
def Gy {Own Rd}(h:∀e∈es,p.EvS e){g}:∀n∈ao g fn pos es,OkW (p.Sh ay) Own Rd g n:=by
 intro n o;obtain⟨e,z,rfl⟩:=ax o;refine⟨rfl,λx E=>?_⟩;let⟨L,b,T,U⟩:=(h e z).touch E;exact au ⟨aB ⟨b,T,U⟩,cO,by rw[L];simp⟩
def Gw {Own Rd}(h:∀e∈es,p.EvS e):∀n∈ao 0 fn pos es,Ok0 (p.Sh ay) Own Rd K n:=by
 intro n o;obtain⟨e,z,rfl⟩:=ax o;refine⟨rfl,λx E=>?_⟩;let⟨U,b,L,T⟩:=(h e z).touch E;exact au ⟨aB ⟨b,L,T⟩,cO⟩
def Gx (E:Ks p ay cI (upd M (i+1)<|grow (M<|i+1) w w') Ro w')(L:fH oq (M<|i+1) (Ro<|i+1) w w' es):∀o∈ao (p.J+i) fn pos es,OkW (p.Sh ay) (p.Own<|upd M (i+1)<|grow (M<|i+1) w w') (p.Rd Ro) (p.J+i) o/\Ff (p.Sh ay) p.Wg p.J w' o:=by
 intro o Z;obtain⟨e,T,rfl⟩:=ax Z;have z:=λx n=>jZ (L.ev e T) (λy=>y.elim) (x:=x) n
 refine⟨⟨rfl,λx n=>?_⟩,λx n=>(z x n).2.1,λx n=>?_,λn=>?_,λ_ x n hk=>?_⟩
 .rcases(z x n).2.2 with h|⟨h,U⟩
  .exact aB (au ⟨bM _ _,au<|by grind [upd_same]⟩)
  exact aB<|aB ⟨⟨bM _ _,cO⟩,U⟩
 .rcases(z x n).2.2 with h|⟨h,U⟩
  .exact h.low λb Y=>E.lt (i+1) b<|au<|by simp_all [upd_same]
  exact h.low λb Y=>E.lt (i+1) b<|aB Y
 .exact g9 (L.ev e T) (λy=>y.elim) rfl (a5 n)
 grind
def kq.set (h:p.kq w x)(y:Nat):p.kq (w.setCell p.tk<|bv .i64 y) y:=by
 let⟨z,T⟩:=h;unfold bH at z;unfold bz at T;cases hb:w.heap[p.tk.block]? with
 |none=>grind
 |some o=>
  cases o with
  |cells c U Y=>
   rw[hb]at z T;by_cases hs:p.tk.spot.isSome
   .grind
   have Z:(w.setCell p.tk<|bv .i64 y).heap[p.tk.block]?=some (.cells (c.setIfInBounds p.tk.off<|bv .i64 y) U Y):=by
    simp[World.setCell,Array.getElem?_modify,hb,hs]
   refine⟨?_,?_⟩<;>grind [bH,bz]
  |_=>grind
def kq.of_block (h:p.kq w x)(e:w'.heap[p.tk.block]?=w.heap[p.tk.block]?):p.kq w' x:=⟨by simpa[bH,e]using h.1,by simpa[bz,e]using h.2⟩
def Slot.of_block {n}(h:p.Slot k n w)(e:w'.heap[p.Bs]?=w.heap[p.Bs]?):p.Slot k n w':=⟨h.1,λcs o=>h.2 cs ⟨e▸o.1,o.2⟩⟩
def rK.of_block {cs}(h:p.rK cs w)(e:w'.heap[p.Bs]?=w.heap[p.Bs]?):p.rK cs w':=⟨e.trans h.1,h.2⟩
def Md (D:Nat->ob) j:sumTo j (λi=>(D i).dO)<=j:=by
 have:=sumTo_le (f:=λi=>(D i).dO) (c:=1) (j:=j) λi _=>by cases T:D i<;>simp[ob.dO]
 omega
def ly {D tag tag' n o}(h:bb j D tag n o)(z:tag'=tag\/(tag=.blk/\tag'=.w3)){s}(E:(D i).stage=s):bb j (upd D i ⟨s,0,0⟩) tag' n o:=by
 have:=(h.same (i:=i) 0 0).retag z;grind
def Inv.Xt (hR:p.kh)(cK:Geo p ay)(hS:∀l,ay l->l.low cI)(oL:∀Ro M g W,Anch Ro M g W->g.status=.running)(h:p.Inv ay cI Fin Anch G t)(hi:i<G.j){ρ':Rk}
  (hg:G.gs[p.J+i]?=some g)(hgo:aI p.P false g G.w=.go g' w' es)(hp:fH oq (G.M<|i+1) (G.Ro<|i+1) G.w w' es)(hd:a9 t (p.J+i)=0)
  (nQ:p.WS i (G.Ro<|i+1) (G.D i) ρ' 0 (grow (G.M<|i+1) G.w w') g' w')(Uh:∀s seq vs U,G.D i≠.lib s seq vs U)(aF:Rk.lt ρ' (G.R<|p.J+i)):
  p.Nx ay cI Fin Anch G t (p.J+i):=by
 have Z:=h.jg.grow hS (i+1) hp.size;have T:∀b,p.Sp b->w'.heap[b]?=G.w.heap[b]?:=λb hb=>hp.keep b (h.jg.pX b hb) (h.jg.sp (i+1) b hb).1
 have f:=h.fact i hi;have PF:bL (a9 t<|p.J+i) es=0:=by rw[hd];exact cl (λe he=>⟨g9 (hp.ev e he) (λy=>y.elim) rfl,g9 (hp.ev e he) (λy=>y.elim) rfl⟩) 0
 let⟨cs,Y⟩:=h.bs;refine h.stepW hR cK hS oL hi hg hgo hp.size (λb hb hn _=>hp.keep b hb hn) cO (λop bF=>(Gx Z hp op bF).1) (λop bF=>(Gx Z hp op bF).2) (h.wg.of_block<|T _<|au rfl) (h.tk.of_block<|T _<|aB<|au rfl) ⟨cs,Y.of_block<|T _<|aB<|aB rfl⟩
  (λtag' ht _=>ly h.mode ht rfl) ⟨f.seq,f.lo,f.out,λs seq vs U e=>absurd e<|Uh s seq vs U⟩ (λk _ vs hs=>hs.of_block<|T _<|aB<|aB rfl) ab (λx _ h1 h2=>ab) (λx hx=>hx) ?_ (aB ⟨rfl,rfl,aF⟩)
 have e:(λk=>(upd G.D i (G.D i) k).dO)=λk=>(G.D k).dO:=by
  grind [upd_same,upd_ne]
 rw[e];exact h.bound
end Ph
namespace Ph
variable {p:Ph}{Fin:(Nat->Prop)->(Nat->Prop)->aa->ac->Prop}{G:Gh}
def Inv.O7 (hR:p.kh)(cK:Geo p ay)(hS:∀l,ay l->l.low cI)(oL:∀Ro M g W,Anch Ro M g W->g.status=.running)(h:p.Inv ay cI Fin Anch G t)(hi:i<G.j){ρ':Rk}{lo seq pl'}(U:G.D i=.jz f lo seq)
  (hg:G.gs[p.J+i]?=some g)(hgo:aI p.P false g G.w=.go g' (G.w.setCell p.tk<|bv .i64<|G.c+1) #[rd p.tk,wr p.tk])(hd:a9 t (p.J+i)=0)
  (nQ:p.WS i (G.Ro<|i+1) pl' ρ' 0 (G.M<|i+1) g' (G.w.setCell p.tk<|bv .i64<|G.c+1))(Y:pl'.cost<9+f)(dZ:pl'.stage=7)(Uh:∀s seq vs Z,pl'≠.lib s seq vs Z)
  (aZ:∀x∈pl'.seq,x<p.L)(a1:∀x∈seq,x∈pl'.seq)(Ss:pl'.lo (G.c+1))(aaI:G.c<p.L->G.c∈pl'.seq)(Ea:pl'.dO=1->p.L<G.c+1)(hb:G.c<p.L\/pl'.dO=1):
  p.Nx ay cI Fin Anch G t (p.J+i):=by
 have T:=aside_setCell G.w p.tk<|bv .i64<|G.c+1;have oj:∀e∈#[rd p.tk,wr p.tk],p.EvS e:=by
  intro e he;simp at he;rcases he with rfl|rfl<;>exact aB ⟨_,_,rfl,aB rfl⟩
 have PF:bL (a9 t<|p.J+i) #[rd p.tk,wr p.tk]=0:=by rw[hd];rfl
 have hW:p.Wg<(G.w.setCell p.tk<|bv .i64<|G.c+1).heap.size:=by rw[T.size];exact h.jg.pX _<|au rfl
 have hT:p.tk.block<(G.w.setCell p.tk<|bv .i64<|G.c+1).heap.size:=by rw[T.size];exact h.jg.pX _<|aB<|au rfl
 let⟨cs,a2⟩:=h.bs;have zy:(bY G.D i).stage=7:=by simp[bY,U];rfl
 refine h.stepW hR cK hS oL hi (c':=G.c+1) hg hgo cO (λb _ _ hn=>T.block b λe=>hn<|aB<|au e) (by rw[PF,(cR T.size)];exact nQ) (Gy oj) (rz hW hT oj) (h.wg.of_block<|T.block _ cK.wt) (h.tk.set _) ⟨cs,a2.of_block<|T.block _<|bI cK.tb⟩
  (λtag' ht _=>by rw[dZ];exact ly h.mode ht zy) ⟨aZ,Ss,Ea,λs seq vs Z e=>absurd e<|Uh s seq vs Z⟩ (λk _ vs hs=>hs.of_block<|T.block _<|bI cK.tb) ab (λx hx h1 h2=>?_) (λx hx=>a1 x<|by rw[U]at hx;exact hx) ?_ (au ⟨by rw[U];exact Y,by rw[dZ,U];exact afK _⟩)
 .grind
 have e:=sumTo_upd G.D pl' ob.dO hi;have e0:(G.D i).dO=0:=by rw[U];rfl
 have:=h.bound;omega
def Inv.YS (hR:p.kh)(cK:Geo p ay)(hS:∀l,ay l->l.low cI)(oL:∀Ro M g W,Anch Ro M g W->g.status=.running)(hL:p.L+p.n<4611686018427387904)(h:p.Inv ay cI Fin Anch G t)(Y:i<G.j){lo seq}(Z:G.D i=.jz f lo seq)
  (hg:G.gs[p.J+i]?=some g)(hd:a9 t (p.J+i)=0)(hs:PT p.P false p.I oq (G.Ro<|i+1) (p.kW i (G.Ro<|i+1) f lo seq) (G.R<|p.J+i) (G.M<|i+1) g G.w):
  p.Nx ay cI Fin Anch G t (p.J+i):=by
 have fa:=h.fact i Y;rw[Z]at fa;have Ss:=fa.lo;have aZ:∀x∈seq,x<p.L:=fa.seq;have hc:G.c<4611686018427387904:=by have:=h.bound;have:=Md G.D G.j;have:=h.jn;omega
 rcases hs.cases with dC|⟨fr,hr,a2,dm⟩
 .have dZ:=dC G.w (aU.refl _ _) h.I;cases f with
  |zero=>
   let⟨ug,g',T,a1,uj⟩:=dZ.2 G.c Ss hc h.tk;exact h.O7 hR cK hS oL Y Z hg T hd (.put uj) (by grind [ob.cost]) rfl aP aZ (λx U=>U) trivial (λU=>ab) (λ_=>ab) (aB rfl)
  |succ f=>
   let⟨g',T,uj,zq⟩:=dZ.2 G.c Ss hc h.tk;rcases afS G.c p.L with aF|ug
   .let⟨a1,hn⟩:=zq aF;refine h.O7 hR cK hS oL Y Z hg T hd (.jz hn) (by grind [ob.cost]) rfl aP (λx U=>?_) (λx U=>List.mem_append_left _ U) (afK _) (λ_=>by simp[ob.seq]) (λe=>by cases e)<|au aF;rcases agb.1 U with U|U<;>grind
   let⟨a1,hp⟩:=uj ug;exact h.O7 hR cK hS oL Y Z hg T hd (.put hp) (by grind [ob.cost]) rfl aP aZ (λx U=>U) trivial (λU=>ab) (λ_=>ab) (aB rfl)
 let⟨g',w',es,T,hp,hn⟩:=dm G.w (aU.refl _ _) h.I;exact h.Xt hR cK hS oL Y hg T hp hd (by rw[Z];exact .jz hn) cO (by rw[hr];exact⟨_,rfl⟩)
def Inv.ad3 (hR:p.kh)(cK:Geo p ay)(hS:∀l,ay l->l.low cI)(oL:∀Ro M g W,Anch Ro M g W->g.status=.running)(h:p.Inv ay cI Fin Anch G t)(hi:i<G.j){seq}(Y:G.D i=.put seq)
  (hg:G.gs[p.J+i]?=some g)(hd:a9 t (p.J+i)=0)(hs:PT p.P false p.I oq (G.Ro<|i+1) (p.BQ i seq) (G.R<|p.J+i) (G.M<|i+1) g G.w):
  p.Nx ay cI Fin Anch G t (p.J+i):=by
 have fa:=h.fact i hi;rw[Y]at fa;rcases hs.cases with dC|⟨fr,hr,cd,dm⟩
 .let⟨_,dZ⟩:=dC G.w (aU.refl _ _) h.I;let⟨g',w',es,vs,hgo,uj,oj,Mr,C,c,v,m,pT,bp,hC,YY,bq⟩:=dZ h.bs;have WH:grow (G.M<|i+1) G.w w'=G.M (i+1):=cR uj.size;have a3:∀e∈es,aV e=.access e/\∃a:Addr,e.loc=.cell a/\e.sync=false:=λe he=>by
   let⟨Z,a,U,_⟩:=oj e he;let⟨ch,wr,sy⟩:=e;simp at Z U;subst Z U;exact⟨rfl,a,rfl,rfl⟩
  have Ec:∀e∈es,∀x,(aV e).touch?=some x->x.kind=.plain/\p.th i x.loc:=λe he x z=>by
   let⟨Z,a,U,h3,h4,h5⟩:=oj e he;rw[(a3 e he).1]at z;simp[bS,Z]at z;subst z;exact⟨rfl,a,U,h3,h4,h5⟩
  have PF:bL (a9 t<|p.J+i) es=0:=by
   rw[hd];refine cl (λe he=>?_) 0;grind
  have ks:=uj.block;let⟨cs,bl⟩:=h.bs;let⟨bx,IX,T⟩:=uj.put cs bl;have aZ:∀{w:ac} {a b:Array be},p.rK a w->p.rK b w->a=b:=λZ U=>by
   have:=Z.1.symm.trans U.1;simpa using this
  have b3:p.Slot i vs w':=by
   refine⟨uj.len,λd hd o ho=>?_⟩;obtain rfl:=aZ hd IX;rw[T,if_pos (by
    constructor;· omega
    .rw[co];omega)]
   congr 1;omega
  have Oj:∀k,k≠i->∀vs,p.Slot k vs G.w->p.Slot k vs w':=by
   refine λk hk vs hs=>⟨hs.1,λd hd o ho=>?_⟩
   obtain rfl:=aZ hd IX;rw[T,if_neg,hs.2 cs bl o ho];intro ⟨Z,U⟩;have a1:i*p.wd<(k+1)*p.wd:=by rw[co k];omega
   have a2:k*p.wd<(i+1)*p.wd:=ab;have b1:=a8 a1;have b2:=a8 a2;omega
  have zy:(bY G.D i).stage=7:=by simp[bY,Y];rfl
  have ei:p.J+i-p.J=i:=ab;refine h.stepW hR cK hS oL hi (pl':=.lib 7 seq vs Mr) (ρ':=Rk.nat m) hg hgo (by rw[uj.size];exact afK _) (λb _ _ hn=>ks b λe=>hn<|aB<|aB e) ?_ (λop bF=>?_) (λop bF=>?_) (h.wg.of_block<|ks _ cK.wb) (h.tk.of_block<|ks _ cK.tb) ⟨bx,IX⟩
   (λtag' ht _=>ly h.mode ht zy) ⟨fa.seq,trivial,λ_=>fa.out rfl,λs sq v' ck e=>?_⟩ Oj ab (λx _ Z U=>ab) (λx z=>by rw[Y]at z;exact z) ?_ (au ⟨by rw[Y];simp[ob.cost],by rw[Y];exact afK _⟩)
  .rw[PF,WH];exact .lib hC YY<|@WSit.r0 p.pl _ _ _ _ _ _ _ _ _ _ _ _ _ bq
  .obtain⟨e,he,rfl⟩:=ax bF;refine⟨rfl,λx z=>aB<|au ⟨bM _ _,aB ?_⟩⟩;rw[ei];exact(Ec e he x z).2
  .obtain⟨e,he,rfl⟩:=ax bF;refine⟨λx z=>?_,λx z=>?_,λz=>?_,λ_ x z hk=>?_⟩
   .let⟨_,a,e1,_⟩:=Ec e he x z;rw[e1];rfl
   .let⟨_,a,e1,e2,_⟩:=Ec e he x z;rw[e1];show a.block<_;rw[e2,uj.size];exact h.jg.pX _<|aB<|aB rfl
   .have:=a5 z;let⟨_,a,U,_⟩:=a3 e he;rw[U]at this;cases this
   rw[(Ec e he x z).1]at hk;cases hk
  .cases e;exact⟨b3,⟨pT,by rw[WH];exact bp⟩,λh6=>absurd h6 ab⟩
  have e:sumTo G.j (λk=>(upd G.D i (.lib 7 seq vs Mr) k).dO)+(G.D i).dO=sumTo G.j (λk=>(G.D k).dO)+1:=sumTo_upd G.D (.lib 7 seq vs Mr) ob.dO hi;have e0:(G.D i).dO=1:=by rw[Y];rfl
  have:=h.bound;omega
 let⟨g',w',es,hgo,hp,hn⟩:=dm G.w (aU.refl _ _) h.I;exact h.Xt hR cK hS oL hi hg hgo hp hd (by rw[Y];exact .put hn) (by rw[Y];simp) (by rw[hr];exact⟨_,rfl⟩)
end Ph
end
