import Derived.Test.YthppgbjejomdiaaGreatDoorj16
import Derived.WalkKit
set_option linter.all false
open Go renaming World->aa,Code->ac,Value->ad,Oper->aj,Frame->au,yielded->av
open Go.Frame renaming enter->ao,finish_at->ax
namespace Go.Proofs.YthppgbjejomdiaaGreatDoor
variable {xs:Array ad}{x y:ac}{f:FuncId}{k':List Item}{r:List Nat}{i:Nat}{o:aj}
open Conc
def chain:List ac->ac->ac
 |[],T=>T
 |s::d,T=>.seq s<|chain d T
def ak (P:Program)(Q:Exit->Act->aa->Prop):List ac->Act->aa->Prop
 |[],a,w=>Q .normal a w
 |s::d,a,w=>s.wp P (Exit.then (ak P Q d) Q) a w
def qp {P:Program}{Q:Exit->Act->World->Prop}{T:Code}:∀(ss:List Code) {a:Act} {w:World},ak P Q ss a w->∀b (k:List Item) (cs:List Frame),
  ∃e a' w',Q e a' w'/\Arrives P (lone (b.at a (.code (chain ss T)::k)) cs w) b (.code T::k) cs e a' w'
 |[],a,w,h,b,k,cs=>⟨.normal,a,w,h,Steps.refl _ _⟩
 |s::ss,a,w,h,b,k,cs=>by
  obtain⟨e,a1,w1,hq,xY⟩:=h b (.code (chain ss T)::k) cs;cases e with
  |normal=>
   obtain⟨e2,a2,w2,XY,abl⟩:=qp ss hq b k cs;exact⟨e2,a2,w2,XY,.of_steps (.head step_seq xY) abl⟩
  |exit id=>exact⟨.exit id,a1,w1,hq,λk' hk=>.head step_seq (xY k' (by simpa[exitTo]using hk))⟩
  |goto l=>exact⟨.goto l,a1,w1,hq,λk' hk=>.head step_seq (xY k' (by simpa[gotoIn]using hk))⟩
  |ret=>obtain⟨todo,hs⟩:=xY;exact⟨.ret,a1,w1,hq,todo,.head step_seq hs⟩
  |panic ch=>obtain⟨todo,hs⟩:=xY;exact⟨.panic ch,a1,w1,hq,todo,.head step_seq hs⟩
  |outgrown=>exact⟨.outgrown,a1,w1,hq,xY.imp id (Outgrown.of_steps (.one step_seq))⟩
def ig {P:Program}{ops:Array Oper}{K:Act->World->Prop}:∀(l:List Nat) {a:Act} {w:World},wpOps P ops (λe a w=>e=.normal/\K a w) l a w->∀r (b:Frame) (k:List Item) (cs:List Frame),
  ∃a' w',K a' w'/\Steps P (lone (b.at a (.inRegion ops (l++r)::k)) cs w) (lone (b.at a' (.inRegion ops r::k)) cs w')
 |[],a,w,h,r,b,k,cs=>⟨a,w,h.2,Steps.refl _ _⟩
 |i::l,a,w,h,r,b,k,cs=>by
  simp only[wpOps]at h;simp only[List.cons_append];cases ho:ops[i]? with
  |none=>
   simp only[ho]at h;obtain⟨a',w',hq,hs⟩:=ig l h r b k cs;have dZ:=step_op_skip (P:=P) (b:=b) (a:=a) (k:=k) (cs:=cs) (w:=w) (ops:=ops) (i:=i) (rest:=l++r) (by simp[ho]);simp only[ho,Option.bind_none,Act.put]at dZ;exact⟨a',w',hq,.head dZ hs⟩
  |some o=>
   simp only[ho]at h;by_cases hw:Region.wanted o (yielded ops a.tmps)=true
   .simp only[hw,if_true]at h;rcases h with h|⟨_,af9,agl,hq,_⟩
    case inr=>cases hq
    simp only[Oper.wp,Oper.upon]at h;have hg:=stepG_op (P:=P) (b:=b) (k:=k) (cs:=cs) (w:=w) (rest:=l++r) ho hw;have mK:∀v,(b.at a (.inRegion ops (i::(l++r))::k)).finish v=b.at (a.put o.dst v) (.inRegion ops (l++r)::k):=by
     intro v;grind [Frame.finish_at]
    split at h
    .rename_i v w' hr;obtain⟨a',w'',hq,hs⟩:=ig l h r b k cs;refine⟨a',w'',hq,.head (step_lone_go ?_) hs⟩;simp_all [stepG.apply]
    .rename_i w' hr;obtain⟨a',w'',hq,hs⟩:=ig l h r b k cs;refine⟨a',w'',hq,.head (step_lone_go ?_) hs⟩;simp_all [stepG.apply]
    .rename_i d w' hr;obtain⟨a',w'',hq,hs⟩:=ig l h r b k cs;refine⟨a',w'',hq,.head (step_lone_go ?_) hs⟩;have:({b.at a (.inRegion ops (i::(l++r))::k)with defers:=d::a.defers}:Frame).finish undef=
       b.at ({a with defers:=d::a.defers}.put o.dst undef) (.inRegion ops (l++r)::k):=by
      have:=Frame.finish_at b {a with defers:=d::a.defers} ops i (l++r) k undef;rw[ho]at this;exact this
     rw[hg];simp only[stepG.apply,Sem.runT_eq,hr];exact congrArg (λfr=>GStep.go {frame:=fr,callers:=cs,status:=.running,dying:=none} w') this
    .rename_i f args w' hr;obtain⟨e,w'',fr,hR,JG,_,s_⟩:=h _;have Jz:step P (lone (b.at a (.inRegion ops (i::(l++r))::k)) cs w)=
       .next (lone (Frame.enter P f args .normal) (b.at a (.inRegion ops (i::(l++r))::k)::cs) w'):=
      step_lone_go (by simp_all [stepG.apply,Frame.at])
     cases e with
     |returned v=>
      obtain⟨a',KT,hq,hs⟩:=ig l hR r b k cs;refine⟨a',KT,hq,.head Jz (Steps.trans JG (.head ?_ hs))⟩;rw[<-mK];exact step_leave_returned s_
     |panicked chain=>grind
     |outgrown=>obtain⟨af9,agl,hq,_⟩:=hR;grind
    .rename_i row args w' hr;obtain⟨v,w'',hR,JG⟩:=h _ cs;have Jz:step P (lone (b.at a (.inRegion ops (i::(l++r))::k)) cs w)=
       .next (lone (Frame.ofRow P row args .normal) (b.at a (.inRegion ops (i::(l++r))::k)::cs) w'):=
      step_lone_go (by simp_all [stepG.apply,Frame.at])
     obtain⟨a',KT,hq,hs⟩:=ig l hR r b k cs;refine⟨a',KT,hq,.head Jz (Steps.trans JG ?_)⟩;grind
    .grind
    .grind
   simp only[hw]at h;obtain⟨a',w',hq,hs⟩:=ig l h r b k cs;have dZ:=step_op_skip (P:=P) (b:=b) (a:=a) (k:=k) (cs:=cs) (w:=w) (ops:=ops) (i:=i) (rest:=l++r) cQ;rw[ho]at dZ;exact⟨a',w',hq,.head dZ hs⟩
section
variable [Gl]{af8:Program}{ok:Ctx}{c:au}{Dr:FuncId->Array ad->aa->(ad->aa->Prop)->Prop}{Q:ad->aa->Prop}{b:au}{a:Act}{k:List Item}{cs:List au}{V:aa}
variable (af8 ok c Dr)in
structure dC:Prop where
 pair:dV af8 af8 ok
 shut:sw af8 ok
 floor:kw af8 c
 aba:qi ok Dr
def ae.one (E:dC af8 ok c Dr)(hb:ok.aP b.fn){a':Act}{age:List Item}(h:∀{cs w},step af8 (lone (b.at a age) cs w)=.next (lone (b.at a' k') cs w))(p:ae af8 ok c Dr Q ⟨b.at a' k',cs,V⟩):ae af8 ok c Dr Q ⟨b.at a age,cs,V⟩:=
 ae.of_steps E.pair E.shut E.floor (λq=>∃τ d,q=St.re ⟨b.at a' k',cs,V⟩ τ d) (by rintro _ ⟨τ,d,rfl⟩;exact hb) (λτ d=>⟨_,⟨τ,d,rfl⟩,.one h⟩) (by rintro _ ⟨τ,d,rfl⟩;exact λe s=>p e s)
def ae.seq (E:dC af8 ok c Dr)(hb:ok.aP b.fn)(h:ae af8 ok c Dr Q ⟨b.at a<|.code x::.code y::k,cs,V⟩):ae af8 ok c Dr Q ⟨b.at a<|.code (.seq x y)::k,cs,V⟩:=.one E hb step_seq h
def ae.skip (E:dC af8 ok c Dr)(hb:ok.aP b.fn)(h:ae af8 ok c Dr Q ⟨b.at a k,cs,V⟩):ae af8 ok c Dr Q ⟨b.at a<|.code .skip::k,cs,V⟩:=.one E hb step_skip h
def ae.block (E:dC af8 ok c Dr)(hb:ok.aP b.fn){id:Nat}(h:ae af8 ok c Dr Q ⟨b.at a<|.code x::.inBlock id::k,cs,V⟩):ae af8 ok c Dr Q ⟨b.at a<|.code (.block id x)::k,cs,V⟩:=.one E hb step_block h
def ae.inBlock (E:dC af8 ok c Dr)(hb:ok.aP b.fn){id:Nat}(h:ae af8 ok c Dr Q ⟨b.at a k,cs,V⟩):ae af8 ok c Dr Q ⟨b.at a<|.inBlock id::k,cs,V⟩:=.one E hb step_inBlock h
def ae.loop (E:dC af8 ok c Dr)(hb:ok.aP b.fn)(h:ae af8 ok c Dr Q ⟨b.at a<|.code x::.inLoop x::k,cs,V⟩):ae af8 ok c Dr Q ⟨b.at a<|.code (.loop x)::k,cs,V⟩:=.one E hb step_loop h
def ae.inLoop (E:dC af8 ok c Dr)(hb:ok.aP b.fn)(h:ae af8 ok c Dr Q ⟨b.at a<|.code x::.inLoop x::k,cs,V⟩):ae af8 ok c Dr Q ⟨b.at a<|.inLoop x::k,cs,V⟩:=.one E hb step_inLoop h
def ae.exit (E:dC af8 ok c Dr)(hb:ok.aP b.fn){id:Nat}(he:exitTo id k=some k')(h:ae af8 ok c Dr Q ⟨b.at a k',cs,V⟩):ae af8 ok c Dr Q ⟨b.at a<|.code (.exit id)::k,cs,V⟩:=.one E hb (step_exit he) h
def ae.cond (E:dC af8 ok c Dr)(hb:ok.aP b.fn){x:Operand}{z:ac}{t:Bool}(he:a.eval x=t)(h:ae af8 ok c Dr Q ⟨b.at a<|.code (if t then y else z)::k,cs,V⟩):ae af8 ok c Dr Q ⟨b.at a<|.code (.cond x y z)::k,cs,V⟩:=.one E hb (step_cond he) h
def ae.region (E:dC af8 ok c Dr)(hb:ok.aP b.fn){id:Nat}{ops:Array aj}(h:ae af8 ok c Dr Q ⟨b.at a<|.inRegion ops (List.range ops.size)::k,cs,V⟩):ae af8 ok c Dr Q ⟨b.at a<|.code (.region id ops false)::k,cs,V⟩:=.one E hb step_region h
def ae.regionEnd (E:dC af8 ok c Dr)(hb:ok.aP b.fn){ops:Array aj}(h:ae af8 ok c Dr Q ⟨b.at a k,cs,V⟩):ae af8 ok c Dr Q ⟨b.at a<|.inRegion ops []::k,cs,V⟩:=.one E hb step_region_end h
def ae.chain (E:dC af8 ok c Dr)(hb:ok.aP b.fn)(s:List ac)(T:ac)(K R:Act->aa->Prop) (h:∀τ d,ak af8 (λe a w=>(e=.normal/\K a w)\/(e=.ret/\R a w)) s a<|re V τ d) (z:∀a' w',K a' w'->ae af8 ok c Dr Q ⟨b.at a'<|.code T::k,cs,w'⟩)(A:∀a' w' p,R a' w'->ae af8 ok c Dr Q ⟨{b.at a' p with mode:=.returning},cs,w'⟩): ae af8 ok c Dr Q ⟨b.at a<|.code (Proofs.YthppgbjejomdiaaGreatDoor.chain s T)::k,cs,V⟩:=by refine ae.of_steps E.pair E.shut E.floor (λu=>(∃a' w',K a' w'/\u=⟨b.at a'<|.code T::k,cs,w'⟩)\/∃a' w' p,R a' w'/\u=⟨{b.at a' p with mode:=.returning},cs,w'⟩) ?_ (λτ d=>?_) ?_;rintro _ (⟨a',w',_,rfl⟩|⟨a',w',p,_,rfl⟩)<;>assumption;obtain⟨e,a',w',q,v⟩:=qp s (h τ d) b k<|cs++[c];rcases q with⟨rfl,q⟩|⟨rfl,q⟩;exact⟨_,.inl ⟨a',w',q,rfl⟩,v⟩;obtain⟨p,hs⟩:=v;grind;rintro _ (⟨a',w',t,rfl⟩|⟨a',w',p,t,rfl⟩);exact z a' w' t;exact A a' w' p t
def ae.ops (E:dC af8 ok c Dr)(hb:ok.aP b.fn){ops:Array Oper} j (l:List Oper)(r:List Nat)(K:Act->World->Prop)(s:∀i,i<l.length->l[i]?=ops[j+i]?) (h:∀τ d,wpList af8 ops (λe a w=>e=.normal/\K a w) l a<|re V τ d)(A:∀a' w',K a' w'->ae af8 ok c Dr Q ⟨b.at a'<|.inRegion ops r::k,cs,w'⟩): ae af8 ok c Dr Q ⟨b.at a<|.inRegion ops (List.range' j l.length++r)::k,cs,V⟩:=by refine ae.of_steps E.pair E.shut E.floor (λB=>∃a' w',K a' w'/\B=⟨b.at a'<|.inRegion ops r::k,cs,w'⟩) ?_ (λτ d=>?_) ?_;rintro _ ⟨a',w',_,rfl⟩;exact hb;(have z:∀(l:List Oper) (j:Nat) (a:Act) (w:World),(∀i,i<l.length->l[i]?=ops[j+i]?)->wpList af8 ops (λe a w=>e=.normal/\K a w) l a w->wpOps af8 ops (λe a w=>e=.normal/\K a w) (List.range' j l.length) a w:=by intro l;induction l with|nil=>intro j a w _ h;exact h|cons o l t=>intro j a w s h;(have C:ops[j]?=some o:=by have:=s 0 aN;grind);(have u:∀i,i<l.length->l[i]?=ops[j+1+i]?:=λi N=>by have:=s (i+1) cY;grind);simp[List.range'_succ,wpOps,C];unfold wpList at h;split;rename_i hw;rw[if_pos hw]at h;refine h.imp ?_ id;unfold Oper.wp Oper.upon;intro h;(split at h<;>first|exact t _ _ _ u h|exact h|skip);intro cs;let⟨e,w',D,q,x⟩:=h cs;refine⟨e,w',D,?_,x⟩;(cases e with|returned v=>exact t _ _ _ u q|panicked ch=>exact q|outgrown=>exact q);exact h.mono λv w' q=>t _ _ _ u q;rename_i hw;rw[if_neg hw]at h;exact t _ _ _ u h);let⟨a',w',O,hs⟩:=ig _ (z l j a _ s<|h τ d) r b k<|cs++[c];grind;rintro _ ⟨a',w',J,rfl⟩;exact A a' w' J
def ae.PJ (E:dC af8 ok c Dr){ops:Array aj}(ho:ops[i]?=some o)(hw:Region.wanted o (av ops a.tmps))(A:ok.aP f=false) (N:∀w,(execOp a.eval o).run af8 w=.ok (.enter f xs) w){R:(Nat->Question->Nat)->Nat->ad->aa->Prop}(B:∀τ d,Dr f xs (re V τ d)<|R τ d)(h:∀τ d v t,R τ d v t->ae af8 ok c Dr Q ⟨b.at (a.put o.dst v)<|.inRegion ops r::k,cs,t⟩): ae af8 ok c Dr Q ⟨b.at a<|.inRegion ops (i::r)::k,cs,V⟩:=by
 have C:∀v,(b.at a<|.inRegion ops (i::r)::k).finish v=b.at (a.put o.dst v) (.inRegion ops r::k):=by grind [ax]
 refine ae.door E.pair E.aba A (λτ d=>?_) B λτ d v t D=>?_;have O:=stepG_op (P:=af8) (b:=b) (k:=k) (cs:=cs++[c]) (w:=re V τ d) (rest:=r) ho hw;have u:(stepG af8 true (G (b.at a<|.inRegion ops (i::r)::k)<|cs++[c])<|re V τ d).bare=.go (G (ao af8 f xs .normal)<|b.at a (.inRegion ops (i::r)::k)::(cs++[c])) (re V τ d):=by simp_all [stepG.apply,Frame.at,G]
 show∃J,stepG af8 true (G (b.at a<|.inRegion ops (i::r)::k)<|cs++[c]) (re V τ d)=.go (G (ao af8 f xs .normal)<|b.at a (.inRegion ops (i::r)::k)::cs++[c]) (re V τ d) J;generalize stepG af8 true (G (b.at a<|.inRegion ops (i::r)::k)<|cs++[c]) (re V τ d)=s at u;cases s<;>simp at u;simp_all;have:=h τ d v t D;rw[<-C]at this;exact this
def ae.aZ (E:dC af8 ok c Dr){ops:Array aj}(ho:ops[i]?=some o)(hw:Region.wanted o (av ops a.tmps))(t:ok.aP f) (A:∀w,(execOp a.eval o).run af8 w=.ok (.enter f xs) w)(h:ae af8 ok c Dr Q ⟨ao af8 f xs .normal,b.at a (.inRegion ops (i::r)::k)::cs,V⟩): ae af8 ok c Dr Q ⟨b.at a<|.inRegion ops (i::r)::k,cs,V⟩:=by refine ae.of_steps E.pair E.shut E.floor (λu=>∃τ d,u=St.re ⟨ao af8 f xs .normal,b.at a (.inRegion ops (i::r)::k)::cs,V⟩ τ d) (by rintro _ ⟨τ,d,rfl⟩;exact t) (λτ d=>⟨_,⟨τ,d,rfl⟩,.one<|step_lone_go ?_⟩) (by rintro _ ⟨τ,d,rfl⟩;exact λs v=>h s v);have B:=stepG_op (P:=af8) (b:=b) (k:=k) (cs:=cs++[c]) (w:=re V τ d) (rest:=r) ho hw;simp_all [stepG.apply,Frame.at,St.re]
def ae.abc (hb:ok.aP b.fn)(hk:b.kind=.normal)(O:Gl.ov<1000000000){ops}(ho:ops[i]?=some o)(hw:Region.wanted o (av ops a.tmps)){x y:Nat}{A}(R:o.op=.call {callee:=.value<|.func Gl.ov,args:=#[.tmp x,.tmp y],argTypes:=A}) {p q B ca C D s t t1 J}(T:a.tmps[x]?=some (.slice (some p) B ca))(U:a.tmps[y]?=some (.slice (some q) C D))(u:p.block≠q.block)(Y:V.heap[p.block]?=some (.cells s t1 (0,0)))(Z:s.size≠0)(g2:V.heap[q.block]?=some (.cells t J (0,0)))(n2:t.size≠0) (h:ae af8 ok c Dr Q ⟨b.at (a.put o.dst false)<|.inRegion ops r::k,cs,V⟩):ae af8 ok c Dr Q ⟨b.at a<|.inRegion ops (i::r)::k,cs,V⟩:=by (have N:(b.at a<|.inRegion ops (i::r)::k).finish false=b.at (a.put o.dst false) (.inRegion ops r::k):=by grind [ax]);refine λτ d hs=>.ext hb hk ⟨b,a,ops,i,r,k,o,x,y,A,p,q,B,ca,C,D,s,t,t1,J,O,rfl,ho,hw,R,T,U,u,Y,Z,g2,n2⟩ ?_;rw[N];apply h τ d;let⟨ρ,h1,h2,h3,h4⟩:=hs;refine⟨ρ,?_,h2,h3.swap rfl,h4⟩;have:=h1.finish<|.bool false;have e:(St.re ⟨b.at a<|.inRegion ops (i::r)::k,cs,V⟩ τ d).fr=b.at a (.inRegion ops (i::r)::k):=rfl;rw[e,N]at this;exact this
def ae.leave (E:dC af8 ok c Dr){fr r0:au}(u:ok.aP r0.fn){v:ad}(z:∀τ d,fr.leaving af8 (re V τ d)<|.returned v)(h:ae af8 ok c Dr Q ⟨r0.finish v,cs,V⟩):ae af8 ok c Dr Q ⟨fr,r0::cs,V⟩:=by
 have A:(r0.finish v).fn=r0.fn:=by
  cases r0 with|mk fn tmps e q t kind p=>cases e with
   |nil=>rfl
   |cons x l=>cases x<;>first|rfl|(rename_i ops B;cases B<;>rfl)
 exact ae.of_steps E.pair E.shut E.floor (λC=>∃τ d,C=St.re ⟨r0.finish v,cs,V⟩ τ d) (by rintro _ ⟨τ,d,rfl⟩;show ok.aP (r0.finish v).fn=true;rw[A];exact u) (λτ d=>⟨_,⟨τ,d,rfl⟩,.one<|step_leave_returned<|z τ d⟩) (by rintro _ ⟨τ,d,rfl⟩;exact λs D=>h s D)
end
