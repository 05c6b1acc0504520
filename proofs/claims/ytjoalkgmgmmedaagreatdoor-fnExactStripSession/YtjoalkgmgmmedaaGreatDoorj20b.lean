import Derived.Test.YtjoalkgmgmmedaaGreatDoorj20
import Derived.WalkKit
set_option linter.unusedVariables false
set_option linter.defProp false
open Go renaming step_lone_go->ao,World->au,step_seq->av,Frame->ax,Value->ay,Code->aB,Oper->aE,Program->aF,yielded->aI,stepG_op->aL,step_op_skip->aV,wpOps->a0,Item->a3,wpList->a4
open Go.Frame renaming finish_at->ac,enter->ad
open Go.Region renaming wanted->ai
open Go.stepG renaming apply->aa
namespace Go.Proofs.YtjoalkgmgmmedaaGreatDoor
variable {xs:Array ay}{x y:aB}{f:FuncId}{k':List a3}{r:List Nat}{i:Nat}{o:aE}
open Conc
def chain:List aB->aB->aB
 |[],T=>T
 |s::d,T=>.seq s<|chain d T
def ak (P:aF)(Q:Exit->Act->au->Prop):List aB->Act->au->Prop
 |[],a,w=>Q .normal a w
 |s::d,a,w=>s.wp P (Exit.then (ak P Q d) Q) a w
def qi {P Q T}:∀(m:List aB) {a:Act} {w:au},ak P Q m a w->∀b (k:List a3) (cs:List ax),
  ∃e a' w',Q e a' w'/\Arrives P (lone (b.at a<|.code (chain m T)::k) cs w) b (.code T::k) cs e a' w'
 |[],a,w,h,b,k,cs=>⟨.normal,a,w,h,Steps.refl _ _⟩
 |s::m,a,w,h,b,k,cs=>by
  obtain⟨e,n,p,g,j⟩:=h b (.code (chain m T)::k) cs;cases e with
  |normal=>
   obtain⟨v,z,A,B,q⟩:=qi m g b k cs;exact⟨v,z,A,B,.of_steps (.head av j) q⟩
  |exit id=>exact⟨.exit id,n,p,g,λk' t=>.head av<|j k'<|by simpa[exitTo]using t⟩
  |goto l=>exact⟨.goto l,n,p,g,λk' t=>.head av<|j k'<|by simpa[gotoIn]using t⟩
  |ret=>obtain⟨d,u⟩:=j;exact⟨.ret,n,p,g,d,.head av u⟩
  |panic ch=>obtain⟨d,u⟩:=j;exact⟨.panic ch,n,p,g,d,.head av u⟩
  |outgrown=>exact⟨.outgrown,n,p,g,j.imp id<|Outgrown.of_steps<|.one av⟩
def ia {P ops}{K:Act->au->Prop}:∀(l:List Nat) {a:Act} {w:au},a0 P ops (λe a w=>e=.normal/\K a w) l a w->∀r (b:ax) (k:List a3) (cs:List ax),
  ∃a' w',K a' w'/\Steps P (lone (b.at a<|.inRegion ops (l++r)::k) cs w) (lone (b.at a'<|.inRegion ops r::k) cs w')
 |[],a,w,h,r,b,k,cs=>⟨a,w,h.2,Steps.refl _ _⟩
 |i::l,a,w,h,r,b,k,cs=>by
  simp only[a0]at h;simp only[List.cons_append];cases ho:ops[i]? with
  |none=>
   simp only[ho]at h;obtain⟨a',w',hq,hs⟩:=ia l h r b k cs;have t:=aV (P:=P) (b:=b) (a:=a) (k:=k) (cs:=cs) (w:=w) (ops:=ops) (i:=i) (rest:=l++r) (by simp[ho]);simp only[ho,Option.bind_none,Act.put]at t;exact⟨a',w',hq,.head t hs⟩
  |some o=>
   simp only[ho]at h;by_cases hw:ai o (aI ops a.tmps)=true
   .simp only[hw,if_true]at h;rcases h with h|⟨_,B,C,hq,_⟩
    case inr=>cases hq
    simp only[Oper.wp,Oper.upon]at h;have T:=aL (P:=P) (b:=b) (k:=k) (cs:=cs) (w:=w) (rest:=l++r) ho hw;have U:∀v,(b.at a<|.inRegion ops (i::(l++r))::k).finish v=b.at (a.put o.dst v) (.inRegion ops (l++r)::k):=by
     intro v;grind [ac]
    split at h
    .rename_i v w' u;obtain⟨a',s,hq,hs⟩:=ia l h r b k cs;refine⟨a',s,hq,.head (ao ?_) hs⟩;simp_all [aa]
    .rename_i w' u;obtain⟨a',s,hq,hs⟩:=ia l h r b k cs;refine⟨a',s,hq,.head (ao ?_) hs⟩;simp_all [aa]
    .rename_i d w' u;obtain⟨a',s,hq,hs⟩:=ia l h r b k cs;refine⟨a',s,hq,.head (ao ?_) hs⟩;have:({b.at a (.inRegion ops (i::(l++r))::k)with defers:=d::a.defers}:ax).finish undef=
       b.at ({a with defers:=d::a.defers}.put o.dst undef) (.inRegion ops (l++r)::k):=by
      have:=ac b {a with defers:=d::a.defers} ops i (l++r) k undef;rw[ho]at this;exact this
     rw[T];simp only[aa,Sem.runT_eq,u];exact congrArg (λR=>GStep.go {frame:=R,callers:=cs,status:=.running,dying:=none} w') this
    .rename_i f args w' u;obtain⟨e,s,R,A,D,_,Y⟩:=h _;have J:step P (lone (b.at a<|.inRegion ops (i::(l++r))::k) cs w)=
       .next (lone (ad P f args .normal) (b.at a (.inRegion ops (i::(l++r))::k)::cs) w'):=
      ao (by simp_all [aa,Frame.at])
     cases e with
     |returned v=>
      obtain⟨a',N,hq,hs⟩:=ia l A r b k cs;refine⟨a',N,hq,.head J<|Steps.trans D<|.head ?_ hs⟩;rw[<-U];exact step_leave_returned Y
     |panicked chain=>grind
     |outgrown=>obtain⟨B,C,hq,_⟩:=A;grind
    .rename_i O args w' u;obtain⟨v,s,A,D⟩:=h _ cs;have J:step P (lone (b.at a<|.inRegion ops (i::(l++r))::k) cs w)=
       .next (lone (Frame.ofRow P O args .normal) (b.at a (.inRegion ops (i::(l++r))::k)::cs) w'):=
      ao (by simp_all [aa,Frame.at])
     obtain⟨a',N,hq,hs⟩:=ia l A r b k cs;refine⟨a',N,hq,.head J<|Steps.trans D ?_⟩;grind
    .grind
    .grind
   simp only[hw]at h;obtain⟨a',w',hq,hs⟩:=ia l h r b k cs;have t:=aV (P:=P) (b:=b) (a:=a) (k:=k) (cs:=cs) (w:=w) (ops:=ops) (i:=i) (rest:=l++r) cO;rw[ho]at t;exact⟨a',w',hq,.head t hs⟩
section
variable [Gl]{afn:aF}{ok:Ctx}{c:ax}{Dr:FuncId->Array ay->au->(ay->au->Prop)->Prop}{Q:ay->au->Prop}{b:ax}{a:Act}{k:List a3}{cs:List ax}{V:au}
variable (afn ok c Dr)in
structure dB:Prop where
 pair:dQ afn afn ok
 shut:rX afn ok
 floor:j9 afn c
 aas:qb ok Dr
def ae.one (E:dB afn ok c Dr)(hb:ok.aN b.fn){a':Act}{aft:List a3}(h:∀{cs w},step afn (lone (b.at a aft) cs w)=.next (lone (b.at a' k') cs w))(p:ae afn ok c Dr Q ⟨b.at a' k',cs,V⟩):ae afn ok c Dr Q ⟨b.at a aft,cs,V⟩:=
 ae.of_steps E.pair E.shut E.floor (λq=>∃τ d,q=St.re ⟨b.at a' k',cs,V⟩ τ d) (by rintro _ ⟨τ,d,rfl⟩;exact hb) (λτ d=>⟨_,⟨τ,d,rfl⟩,.one h⟩) (by rintro _ ⟨τ,d,rfl⟩;exact λe s=>p e s)
def ae.seq (E:dB afn ok c Dr)(hb:ok.aN b.fn)(h:ae afn ok c Dr Q ⟨b.at a<|.code x::.code y::k,cs,V⟩):ae afn ok c Dr Q ⟨b.at a<|.code (.seq x y)::k,cs,V⟩:=.one E hb av h
def ae.skip (E:dB afn ok c Dr)(hb:ok.aN b.fn)(h:ae afn ok c Dr Q ⟨b.at a k,cs,V⟩):ae afn ok c Dr Q ⟨b.at a<|.code .skip::k,cs,V⟩:=.one E hb step_skip h
def ae.block (E:dB afn ok c Dr)(hb:ok.aN b.fn){id:Nat}(h:ae afn ok c Dr Q ⟨b.at a<|.code x::.inBlock id::k,cs,V⟩):ae afn ok c Dr Q ⟨b.at a<|.code (.block id x)::k,cs,V⟩:=.one E hb step_block h
def ae.inBlock (E:dB afn ok c Dr)(hb:ok.aN b.fn){id:Nat}(h:ae afn ok c Dr Q ⟨b.at a k,cs,V⟩):ae afn ok c Dr Q ⟨b.at a<|.inBlock id::k,cs,V⟩:=.one E hb step_inBlock h
def ae.loop (E:dB afn ok c Dr)(hb:ok.aN b.fn)(h:ae afn ok c Dr Q ⟨b.at a<|.code x::.inLoop x::k,cs,V⟩):ae afn ok c Dr Q ⟨b.at a<|.code (.loop x)::k,cs,V⟩:=.one E hb step_loop h
def ae.inLoop (E:dB afn ok c Dr)(hb:ok.aN b.fn)(h:ae afn ok c Dr Q ⟨b.at a<|.code x::.inLoop x::k,cs,V⟩):ae afn ok c Dr Q ⟨b.at a<|.inLoop x::k,cs,V⟩:=.one E hb step_inLoop h
def ae.exit (E:dB afn ok c Dr)(hb:ok.aN b.fn){id:Nat}(he:exitTo id k=some k')(h:ae afn ok c Dr Q ⟨b.at a k',cs,V⟩):ae afn ok c Dr Q ⟨b.at a<|.code (.exit id)::k,cs,V⟩:=.one E hb (step_exit he) h
def ae.cond (E:dB afn ok c Dr)(hb:ok.aN b.fn){x:Operand}{z:aB}{t:Bool}(he:a.eval x=t)(h:ae afn ok c Dr Q ⟨b.at a<|.code (if t then y else z)::k,cs,V⟩):ae afn ok c Dr Q ⟨b.at a<|.code (.cond x y z)::k,cs,V⟩:=.one E hb (step_cond he) h
def ae.region (E:dB afn ok c Dr)(hb:ok.aN b.fn){id:Nat}{ops:Array aE}(h:ae afn ok c Dr Q ⟨b.at a<|.inRegion ops (List.range ops.size)::k,cs,V⟩):ae afn ok c Dr Q ⟨b.at a<|.code (.region id ops false)::k,cs,V⟩:=.one E hb step_region h
def ae.regionEnd (E:dB afn ok c Dr)(hb:ok.aN b.fn){ops:Array aE}(h:ae afn ok c Dr Q ⟨b.at a k,cs,V⟩):ae afn ok c Dr Q ⟨b.at a<|.inRegion ops []::k,cs,V⟩:=.one E hb step_region_end h
def ae.chain (E:dB afn ok c Dr)(hb:ok.aN b.fn)(s:List aB)(T:aB)(K R:Act->au->Prop)
  (h:∀τ d,ak afn (λe a w=>(e=.normal/\K a w)\/(e=.ret/\R a w)) s a<|re V τ d)
  (z:∀a' w',K a' w'->ae afn ok c Dr Q ⟨b.at a'<|.code T::k,cs,w'⟩)(A:∀a' w' p,R a' w'->ae afn ok c Dr Q ⟨{b.at a' p with mode:=.returning},cs,w'⟩):
  ae afn ok c Dr Q ⟨b.at a<|.code (Proofs.YtjoalkgmgmmedaaGreatDoor.chain s T)::k,cs,V⟩:=by
 refine ae.of_steps E.pair E.shut E.floor (λu=>(∃a' w',K a' w'/\u=⟨b.at a'<|.code T::k,cs,w'⟩)\/∃a' w' p,R a' w'/\u=⟨{b.at a' p with mode:=.returning},cs,w'⟩) ?_ (λτ d=>?_) ?_
 .rintro _ (⟨a',w',_,rfl⟩|⟨a',w',p,_,rfl⟩);all_goals assumption
 .obtain⟨e,a',w',q,v⟩:=qi s (h τ d) b k<|cs++[c];rcases q with⟨rfl,q⟩|⟨rfl,q⟩
  .exact⟨_,.inl ⟨a',w',q,rfl⟩,v⟩
  obtain⟨p,hs⟩:=v;grind
 rintro _ (⟨a',w',t,rfl⟩|⟨a',w',p,t,rfl⟩)
 .exact z a' w' t
 exact A a' w' p t
def ae.ops (E:dB afn ok c Dr)(hb:ok.aN b.fn){ops:Array aE} j (l:List aE)(r:List Nat)(K:Act->au->Prop)(s:∀i,i<l.length->l[i]?=ops[j+i]?)
  (h:∀τ d,a4 afn ops (λe a w=>e=.normal/\K a w) l a<|re V τ d)(A:∀a' w',K a' w'->ae afn ok c Dr Q ⟨b.at a'<|.inRegion ops r::k,cs,w'⟩):
  ae afn ok c Dr Q ⟨b.at a<|.inRegion ops (List.range' j l.length++r)::k,cs,V⟩:=by
 refine ae.of_steps E.pair E.shut E.floor (λB=>∃a' w',K a' w'/\B=⟨b.at a'<|.inRegion ops r::k,cs,w'⟩) ?_ (λτ d=>?_) ?_
 .rintro _ ⟨a',w',_,rfl⟩;exact hb
 .have z:∀(l:List aE) (j:Nat) (a:Act) (w:au),(∀i,i<l.length->l[i]?=ops[j+i]?)->a4 afn ops (λe a w=>e=.normal/\K a w) l a w->a0 afn ops (λe a w=>e=.normal/\K a w) (List.range' j l.length) a w:=by
   intro l;induction l with
   |nil=>intro j a w _ h;exact h
   |cons o l t=>
    intro j a w s h;have C:ops[j]?=some o:=by have:=s 0 aP;grind
    have u:∀i,i<l.length->l[i]?=ops[j+1+i]?:=λi N=>by have:=s (i+1) dj;grind
    simp[List.range'_succ,a0,C];unfold a4 at h;split
    .rename_i hw;rw[if_pos hw]at h;refine h.imp ?_ id;unfold Oper.wp Oper.upon;intro h;split at h<;>first|exact t _ _ _ u h|exact h|skip
     .intro cs;let⟨e,w',D,q,x⟩:=h cs;refine⟨e,w',D,?_,x⟩;cases e with
      |returned v=>exact t _ _ _ u q
      |panicked ch=>exact q
      |outgrown=>exact q
     exact h.mono λv w' q=>t _ _ _ u q
    rename_i hw;rw[if_neg hw]at h;exact t _ _ _ u h
  let⟨a',w',O,hs⟩:=ia _ (z l j a _ s<|h τ d) r b k<|cs++[c];grind
 rintro _ ⟨a',w',J,rfl⟩;exact A a' w' J
def ae.O4 (E:dB afn ok c Dr){ops:Array aE}(ho:ops[i]?=some o)(hw:ai o (aI ops a.tmps))(A:ok.aN f=false)
  (N:∀w,(execOp a.eval o).run afn w=.ok (.enter f xs) w){R:(Nat->Question->Nat)->Nat->ay->au->Prop}(B:∀τ d,Dr f xs (re V τ d)<|R τ d)(h:∀τ d v t,R τ d v t->ae afn ok c Dr Q ⟨b.at (a.put o.dst v)<|.inRegion ops r::k,cs,t⟩):
  ae afn ok c Dr Q ⟨b.at a<|.inRegion ops (i::r)::k,cs,V⟩:=by
 have C:∀v,(b.at a<|.inRegion ops (i::r)::k).finish v=b.at (a.put o.dst v) (.inRegion ops r::k):=by
  grind [ac]
 refine ae.door E.pair E.aas A (λτ d=>?_) B λτ d v t D=>?_
 .have O:=aL (P:=afn) (b:=b) (k:=k) (cs:=cs++[c]) (w:=re V τ d) (rest:=r) ho hw;have u:(stepG afn true (G (b.at a<|.inRegion ops (i::r)::k)<|cs++[c])<|re V τ d).bare=.go (G (ad afn f xs .normal)<|b.at a (.inRegion ops (i::r)::k)::(cs++[c])) (re V τ d):=by
   simp_all [aa,Frame.at,G]
  show∃J,stepG afn true (G (b.at a<|.inRegion ops (i::r)::k)<|cs++[c]) (re V τ d)=.go (G (ad afn f xs .normal)<|b.at a (.inRegion ops (i::r)::k)::cs++[c]) (re V τ d) J;generalize stepG afn true (G (b.at a<|.inRegion ops (i::r)::k)<|cs++[c]) (re V τ d)=s at u;cases s<;>simp at u
  simp_all
 have:=h τ d v t D;rw[<-C]at this;exact this
def ae.aZ (E:dB afn ok c Dr){ops:Array aE}(ho:ops[i]?=some o)(hw:ai o (aI ops a.tmps))(t:ok.aN f)
  (A:∀w,(execOp a.eval o).run afn w=.ok (.enter f xs) w)(h:ae afn ok c Dr Q ⟨ad afn f xs .normal,b.at a (.inRegion ops (i::r)::k)::cs,V⟩):
  ae afn ok c Dr Q ⟨b.at a<|.inRegion ops (i::r)::k,cs,V⟩:=by
 refine ae.of_steps E.pair E.shut E.floor (λu=>∃τ d,u=St.re ⟨ad afn f xs .normal,b.at a (.inRegion ops (i::r)::k)::cs,V⟩ τ d) (by rintro _ ⟨τ,d,rfl⟩;exact t) (λτ d=>⟨_,⟨τ,d,rfl⟩,.one<|step_lone_go ?_⟩) (by rintro _ ⟨τ,d,rfl⟩;exact λs v=>h s v);have B:=aL (P:=afn) (b:=b) (k:=k) (cs:=cs++[c]) (w:=re V τ d) (rest:=r) ho hw;simp_all [aa,Frame.at,St.re]
def ae.aau (hb:ok.aN b.fn)(hk:b.kind=.normal)(O:Gl.ov<1000000000){ops}(ho:ops[i]?=some o)(hw:ai o (aI ops a.tmps)){x y:Nat}{A}(R:o.op=.call {callee:=.value<|.func Gl.ov,args:=#[.tmp x,.tmp y],argTypes:=A})
  {p q B ca C D s t t1 J}(T:a.tmps[x]?=some (.slice (some p) B ca))(U:a.tmps[y]?=some (.slice (some q) C D))(u:p.block≠q.block)(Y:V.heap[p.block]?=some (.cells s t1 (0,0)))(Z:s.size≠0)(g2:V.heap[q.block]?=some (.cells t J (0,0)))(n2:t.size≠0)
  (h:ae afn ok c Dr Q ⟨b.at (a.put o.dst false)<|.inRegion ops r::k,cs,V⟩):ae afn ok c Dr Q ⟨b.at a<|.inRegion ops (i::r)::k,cs,V⟩:=by
 have N:(b.at a<|.inRegion ops (i::r)::k).finish false=b.at (a.put o.dst false) (.inRegion ops r::k):=by
  grind [ac]
 refine λτ d hs=>.ext hb hk ⟨b,a,ops,i,r,k,o,x,y,A,p,q,B,ca,C,D,s,t,t1,J,O,rfl,ho,hw,R,T,U,u,Y,Z,g2,n2⟩ ?_
 rw[N];refine h τ d ?_;let⟨ρ,h1,h2,h3,h4⟩:=hs;refine⟨ρ,?_,h2,h3.swap rfl,h4⟩;have:=h1.finish<|.bool false;have e:(St.re ⟨b.at a<|.inRegion ops (i::r)::k,cs,V⟩ τ d).fr=b.at a (.inRegion ops (i::r)::k):=rfl;rw[e,N]at this;exact this
def ae.leave (E:dB afn ok c Dr){fr r0:ax}(u:ok.aN r0.fn){v:ay}(z:∀τ d,fr.leaving afn (re V τ d)<|.returned v)(h:ae afn ok c Dr Q ⟨r0.finish v,cs,V⟩):ae afn ok c Dr Q ⟨fr,r0::cs,V⟩:=by
 have A:(r0.finish v).fn=r0.fn:=by
  cases r0 with|mk fn tmps e q t kind p=>cases e with
   |nil=>rfl
   |cons x l=>cases x<;>first|rfl|(rename_i ops B;cases B<;>rfl)
 exact ae.of_steps E.pair E.shut E.floor (λC=>∃τ d,C=St.re ⟨r0.finish v,cs,V⟩ τ d) (by rintro _ ⟨τ,d,rfl⟩;show ok.aN (r0.finish v).fn=true;rw[A];exact u) (λτ d=>⟨_,⟨τ,d,rfl⟩,.one<|step_leave_returned<|z τ d⟩) (by rintro _ ⟨τ,d,rfl⟩;exact λs D=>h s D)
end
