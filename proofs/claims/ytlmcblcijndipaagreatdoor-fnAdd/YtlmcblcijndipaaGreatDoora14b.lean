import Derived.Test.YtlmcblcijndipaaGreatDoora14
import Derived.WalkKit
set_option linter.unusedVariables false
set_option linter.defProp false
namespace Go.Proofs.YtlmcblcijndipaaGreatDoor
variable {xs:Array Value}{x y:Code}{f:FuncId}{k':List Item}{r:List Nat}{i:Nat}{o:Oper}
open Conc
def chain:List Code->Code->Code
 |[],T=>T
 |s::ss,T=>.seq s<|chain ss T
def aD (P:Program)(Q:Exit->Act->World->Prop):List Code->Act->World->Prop
 |[],a,w=>Q .normal a w
 |s::ss,a,w=>s.wp P (Exit.then (aD P Q ss) Q) a w
def py {P:Program}{Q:Exit->Act->World->Prop}{T:Code}:∀(ss:List Code) {a:Act} {w:World},aD P Q ss a w->∀(b:Frame) (k:List Item) (cs:List Frame),
  ∃e a' w',Q e a' w'/\Arrives P (lone (b.at a<|.code (chain ss T)::k) cs w) b (.code T::k) cs e a' w'
 |[],a,w,h,b,k,cs=>⟨.normal,a,w,h,Steps.refl _ _⟩
 |s::ss,a,w,h,b,k,cs=>by
  obtain⟨e,a1,w1,hq,vw⟩:=h b (.code (chain ss T)::k) cs;cases e with
  |normal=>
   obtain⟨e2,a2,w2,qj,Yc⟩:=py ss hq b k cs;exact⟨e2,a2,w2,qj,.of_steps (.head step_seq vw) Yc⟩
  |exit id=>exact⟨.exit id,a1,w1,hq,λk' hk=>.head step_seq<|vw k'<|by simpa[exitTo]using hk⟩
  |goto l=>exact⟨.goto l,a1,w1,hq,λk' hk=>.head step_seq<|vw k'<|by simpa[gotoIn]using hk⟩
  |ret=>obtain⟨todo,hs⟩:=vw;exact⟨.ret,a1,w1,hq,todo,.head step_seq hs⟩
  |panic ch=>obtain⟨todo,hs⟩:=vw;exact⟨.panic ch,a1,w1,hq,todo,.head step_seq hs⟩
  |outgrown=>exact⟨.outgrown,a1,w1,hq,vw.imp id<|Outgrown.of_steps<|.one step_seq⟩
def gr {P:Program}{ops:Array Oper}{K:Act->World->Prop}:∀(l:List Nat) {a:Act} {w:World},wpOps P ops (λe a w=>e=.normal/\K a w) l a w->∀(r:List Nat) (b:Frame) (k:List Item) (cs:List Frame),
  ∃a' w',K a' w'/\Steps P (lone (b.at a<|.inRegion ops (l++r)::k) cs w) (lone (b.at a'<|.inRegion ops r::k) cs w')
 |[],a,w,h,r,b,k,cs=>⟨a,w,h.2,Steps.refl _ _⟩
 |i::l,a,w,h,r,b,k,cs=>by
  simp only[wpOps]at h;simp only[List.cons_append];cases ho:ops[i]? with
  |none=>
   simp only[ho]at h;let⟨a',w',hq,hs⟩:=gr l h r b k cs;have dz:=step_op_skip (P:=P) (b:=b) (a:=a) (k:=k) (cs:=cs) (w:=w) (ops:=ops) (i:=i) (rest:=l++r) (by simp[ho]);simp only[ho,Option.bind_none,Act.put]at dz;exact⟨a',w',hq,.head dz hs⟩
  |some o=>
   simp only[ho]at h;by_cases hw:Region.wanted o (yielded ops a.tmps)=true
   .simp only[hw,if_true]at h;rcases h with h|⟨_,acI,acU,hq,_⟩
    case inr=>cases hq
    simp only[Oper.wp,Oper.upon]at h;have hg:=stepG_op (P:=P) (b:=b) (k:=k) (cs:=cs) (w:=w) (rest:=l++r) ho hw;have gD:∀v,(b.at a<|.inRegion ops (i::(l++r))::k).finish v=b.at (a.put o.dst v) (.inRegion ops (l++r)::k):=by
     intro v;rw[Frame.finish_at,ho];rfl
    split at h
    .rename_i v w' hr;let⟨a',w'',hq,hs⟩:=gr l h r b k cs;refine⟨a',w'',hq,.head (step_lone_go ?_) hs⟩;rw[hg,<-gD];simp[stepG.apply,hr]
    .rename_i w' hr;let⟨a',w'',hq,hs⟩:=gr l h r b k cs;refine⟨a',w'',hq,.head (step_lone_go ?_) hs⟩;rw[hg,<-gD];simp[stepG.apply,hr]
    .rename_i d w' hr;let⟨a',w'',hq,hs⟩:=gr l h r b k cs;refine⟨a',w'',hq,.head (step_lone_go ?_) hs⟩;have:({b.at a (.inRegion ops (i::(l++r))::k)with defers:=d::a.defers}:Frame).finish undef=
       b.at ({a with defers:=d::a.defers}.put o.dst undef) (.inRegion ops (l++r)::k):=by
      have:=Frame.finish_at b {a with defers:=d::a.defers} ops i (l++r) k undef;rw[ho]at this;exact this
     rw[hg];simp only[stepG.apply,Sem.runT_eq,hr,GStep.bare_after];exact congrArg (λfr=>GStep.go {frame:=fr,callers:=cs,status:=.running,dying:=none} w') this
    .rename_i f args w' hr;let⟨e,w'',fr,hR,GF,_,UK⟩:=h<|b.at a (.inRegion ops (i::(l++r))::k)::cs;have Gv:step P (lone (b.at a<|.inRegion ops (i::(l++r))::k) cs w)=
       .next (lone (Frame.enter P f args .normal) (b.at a (.inRegion ops (i::(l++r))::k)::cs) w'):=
      step_lone_go (by rw[hg];simp[stepG.apply,hr,Frame.at])
     cases e with
     |returned v=>
      let⟨a',Fo,hq,hs⟩:=gr l hR r b k cs;refine⟨a',Fo,hq,.head Gv<|Steps.trans GF<|.head ?_ hs⟩;rw[<-gD];exact step_leave_returned UK
     |panicked chain=>cases hR.1
     |outgrown=>let⟨acI,acU,hq,_⟩:=hR;cases hq
    .rename_i row args w' hr;let⟨v,w'',hR,GF⟩:=h (b.at a<|.inRegion ops (i::(l++r))::k) cs;have Gv:step P (lone (b.at a<|.inRegion ops (i::(l++r))::k) cs w)=
       .next (lone (Frame.ofRow P row args .normal) (b.at a (.inRegion ops (i::(l++r))::k)::cs) w'):=
      step_lone_go (by rw[hg];simp[stepG.apply,hr,Frame.at])
     let⟨a',Fo,hq,hs⟩:=gr l hR r b k cs;refine⟨a',Fo,hq,.head Gv<|Steps.trans GF ?_⟩;rw[gD];exact hs
    .cases h.1
    .exact h.elim
   .simp only[hw,if_false,Bool.false_eq_true]at h;let⟨a',w',hq,hs⟩:=gr l h r b k cs;have dz:=step_op_skip (P:=P) (b:=b) (a:=a) (k:=k) (cs:=cs) (w:=w) (ops:=ops) (i:=i) (rest:=l++r) (by simp[ho];simpa using hw);rw[ho]at dz;exact⟨a',w',hq,.head dz hs⟩
section
variable [Gl]{P0:Program}{ok:Ctx}{c:Frame}{Dr:FuncId->Array Value->World->(Value->World->Prop)->Prop}{Q:Value->World->Prop}{b:Frame}{a:Act}{k:List Item}{cs:List Frame}{V:World}
variable (P0 ok c Dr)in
structure ee:Prop where
 pair:dM P0 P0 ok
 shut:Shut P0 ok
 floor:jE P0 c
 XF:pm ok Dr
def ak.one (E:ee P0 ok c Dr)(hb:ok.bh b.fn=true){a':Act}{acO:List Item}(h:∀{cs w},step P0 (lone (b.at a acO) cs w)=.next (lone (b.at a' k') cs w))(hW:ak P0 ok c Dr Q ⟨b.at a' k',cs,V⟩):ak P0 ok c Dr Q ⟨b.at a acO,cs,V⟩:=
 ak.of_steps E.pair E.shut E.floor (λs1=>∃τ d,s1=St.re ⟨b.at a' k',cs,V⟩ τ d) (by rintro _ ⟨τ,d,rfl⟩;exact hb) (λτ d=>⟨_,⟨τ,d,rfl⟩,.one h⟩) (by rintro _ ⟨τ,d,rfl⟩;exact λτ' d'=>hW τ' d')
def ak.seq (E:ee P0 ok c Dr)(hb:ok.bh b.fn=true)(h:ak P0 ok c Dr Q ⟨b.at a<|.code x::.code y::k,cs,V⟩):ak P0 ok c Dr Q ⟨b.at a<|.code (.seq x y)::k,cs,V⟩:=.one E hb step_seq h
def ak.skip (E:ee P0 ok c Dr)(hb:ok.bh b.fn=true)(h:ak P0 ok c Dr Q ⟨b.at a k,cs,V⟩):ak P0 ok c Dr Q ⟨b.at a<|.code .skip::k,cs,V⟩:=.one E hb step_skip h
def ak.block (E:ee P0 ok c Dr)(hb:ok.bh b.fn=true){id:Nat}(h:ak P0 ok c Dr Q ⟨b.at a<|.code x::.inBlock id::k,cs,V⟩):ak P0 ok c Dr Q ⟨b.at a<|.code (.block id x)::k,cs,V⟩:=.one E hb step_block h
def ak.inBlock (E:ee P0 ok c Dr)(hb:ok.bh b.fn=true){id:Nat}(h:ak P0 ok c Dr Q ⟨b.at a k,cs,V⟩):ak P0 ok c Dr Q ⟨b.at a<|.inBlock id::k,cs,V⟩:=.one E hb step_inBlock h
def ak.loop (E:ee P0 ok c Dr)(hb:ok.bh b.fn=true)(h:ak P0 ok c Dr Q ⟨b.at a<|.code x::.inLoop x::k,cs,V⟩):ak P0 ok c Dr Q ⟨b.at a<|.code (.loop x)::k,cs,V⟩:=.one E hb step_loop h
def ak.inLoop (E:ee P0 ok c Dr)(hb:ok.bh b.fn=true)(h:ak P0 ok c Dr Q ⟨b.at a<|.code x::.inLoop x::k,cs,V⟩):ak P0 ok c Dr Q ⟨b.at a<|.inLoop x::k,cs,V⟩:=.one E hb step_inLoop h
def ak.exit (E:ee P0 ok c Dr)(hb:ok.bh b.fn=true){id:Nat}(he:exitTo id k=some k')(h:ak P0 ok c Dr Q ⟨b.at a k',cs,V⟩):ak P0 ok c Dr Q ⟨b.at a<|.code (.exit id)::k,cs,V⟩:=.one E hb (step_exit he) h
def ak.cond (E:ee P0 ok c Dr)(hb:ok.bh b.fn=true){x:Operand}{z:Code}{t:Bool}(he:a.eval x=t)(h:ak P0 ok c Dr Q ⟨b.at a<|.code (if t then y else z)::k,cs,V⟩):ak P0 ok c Dr Q ⟨b.at a<|.code (.cond x y z)::k,cs,V⟩:=.one E hb (step_cond he) h
def ak.region (E:ee P0 ok c Dr)(hb:ok.bh b.fn=true){id:Nat}{ops:Array Oper}(h:ak P0 ok c Dr Q ⟨b.at a<|.inRegion ops (List.range ops.size)::k,cs,V⟩):ak P0 ok c Dr Q ⟨b.at a<|.code (.region id ops false)::k,cs,V⟩:=.one E hb step_region h
def ak.regionEnd (E:ee P0 ok c Dr)(hb:ok.bh b.fn=true){ops:Array Oper}(h:ak P0 ok c Dr Q ⟨b.at a k,cs,V⟩):ak P0 ok c Dr Q ⟨b.at a<|.inRegion ops []::k,cs,V⟩:=.one E hb step_region_end h
def ak.chain (E:ee P0 ok c Dr)(hb:ok.bh b.fn=true)(ss:List Code)(T:Code)(K R:Act->World->Prop)
  (h:∀τ d,aD P0 (λe a w=>(e=.normal/\K a w)\/(e=.ret/\R a w)) ss a<|re V τ d)
  (hK:∀a' w',K a' w'->ak P0 ok c Dr Q ⟨b.at a'<|.code T::k,cs,w'⟩)(hR:∀a' w' todo,R a' w'->ak P0 ok c Dr Q ⟨{b.at a' todo with mode:=.returning},cs,w'⟩):
  ak P0 ok c Dr Q ⟨b.at a<|.code (Proofs.YtlmcblcijndipaaGreatDoor.chain ss T)::k,cs,V⟩:=by
 refine ak.of_steps E.pair E.shut E.floor (λs1=>(∃a' w',K a' w'/\s1=⟨b.at a'<|.code T::k,cs,w'⟩)\/∃a' w' todo,R a' w'/\s1=⟨{b.at a' todo with mode:=.returning},cs,w'⟩) ?_ (λτ d=>?_) ?_
 .rintro _ (⟨a',w',_,rfl⟩|⟨a',w',todo,_,rfl⟩)
  .exact hb
  .exact hb
 .let⟨e,a',w',hq,vw⟩:=py (T:=T) ss (h τ d) b k<|cs++[c];rcases hq with⟨rfl,hq⟩|⟨rfl,hq⟩
  .exact⟨_,.inl ⟨a',w',hq,rfl⟩,vw⟩
  .let⟨todo,hs⟩:=vw;exact⟨_,.inr ⟨a',w',todo,hq,rfl⟩,hs⟩
 .rintro _ (⟨a',w',h1,rfl⟩|⟨a',w',todo,h1,rfl⟩)
  .exact hK a' w' h1
  .exact hR a' w' todo h1
def ak.ops (E:ee P0 ok c Dr)(hb:ok.bh b.fn=true){ops:Array Oper}(j:Nat)(l:List Oper)(r:List Nat)(K:Act->World->Prop)(hl:∀i,i<l.length->l[i]?=ops[j+i]?)
  (h:∀τ d,wpList P0 ops (λe a w=>e=.normal/\K a w) l a<|re V τ d)(hK:∀a' w',K a' w'->ak P0 ok c Dr Q ⟨b.at a'<|.inRegion ops r::k,cs,w'⟩):
  ak P0 ok c Dr Q ⟨b.at a<|.inRegion ops (List.range' j l.length++r)::k,cs,V⟩:=by
 refine ak.of_steps E.pair E.shut E.floor (λs1=>∃a' w',K a' w'/\s1=⟨b.at a'<|.inRegion ops r::k,cs,w'⟩) ?_ (λτ d=>?_) ?_
 .rintro _ ⟨a',w',_,rfl⟩;exact hb
 .have key:∀(l:List Oper) (j:Nat) (a:Act) (w:World),(∀i,i<l.length->l[i]?=ops[j+i]?)->wpList P0 ops (λe a w=>e=.normal/\K a w) l a w->wpOps P0 ops (λe a w=>e=.normal/\K a w) (List.range' j l.length) a w:=by
   intro l;induction l with
   |nil=>intro j a w _ h;exact h
   |cons o l ih=>
    intro j a w hl h;have h0:ops[j]?=some o:=by have:=hl 0 aF;simpa using this.symm
    have mI:∀i,i<l.length->l[i]?=ops[j+1+i]?:=λi hi=>by have:=hl (i+1) cU;rw[show j+1+i=j+(i+1) by omega];simpa using this
    simp only[List.length_cons,List.range'_succ,wpOps,h0];unfold wpList at h;split
    .rename_i hw;rw[if_pos hw]at h;refine h.imp ?_ id;unfold Oper.wp Oper.upon;intro h;split at h<;>first|exact ih _ _ _ mI h|exact h|skip
     .intro cs;let⟨e,w',fr,hR,x⟩:=h cs;refine⟨e,w',fr,?_,x⟩;cases e with
      |returned v=>exact ih _ _ _ mI hR
      |panicked ch=>exact hR
      |outgrown=>exact hR
     .exact h.mono λv w' hR=>ih _ _ _ mI hR
    .rename_i hw;rw[if_neg hw]at h;exact ih _ _ _ mI h
  let⟨a',w',hq,hs⟩:=gr _ (key l j a _ hl<|h τ d) r b k<|cs++[c];exact⟨_,⟨a',w',hq,rfl⟩,hs⟩
 .rintro _ ⟨a',w',h1,rfl⟩;exact hK a' w' h1
def ak.L8 (E:ee P0 ok c Dr){ops:Array Oper}(ho:ops[i]?=some o)(hw:Region.wanted o (yielded ops a.tmps)=true)(hf:ok.bh f=false)
  (hx:∀w,(execOp a.eval o).run P0 w=.ok (.enter f xs) w){R:(Nat->Question->Nat)->Nat->Value->World->Prop}(hp:∀τ d,Dr f xs (re V τ d)<|R τ d)(h:∀τ d v V',R τ d v V'->ak P0 ok c Dr Q ⟨b.at (a.put o.dst v)<|.inRegion ops r::k,cs,V'⟩):
  ak P0 ok c Dr Q ⟨b.at a<|.inRegion ops (i::r)::k,cs,V⟩:=by
 have gD:∀v,(b.at a<|.inRegion ops (i::r)::k).finish v=b.at (a.put o.dst v) (.inRegion ops r::k):=by
  intro v;rw[Frame.finish_at,ho];rfl
 refine ak.door E.pair E.XF hf (λτ d=>?_) hp λτ d v V' hD=>?_
 .have hg:=stepG_op (P:=P0) (b:=b) (k:=k) (cs:=cs++[c]) (w:=re V τ d) (rest:=r) ho hw;have h2:(stepG P0 true (G (b.at a<|.inRegion ops (i::r)::k)<|cs++[c])<|re V τ d).bare=.go (G (Frame.enter P0 f xs .normal)<|b.at a (.inRegion ops (i::r)::k)::(cs++[c])) (re V τ d):=by
   show(stepG P0 true {frame:=b.at a<|.inRegion ops (i::r)::k,callers:=cs++[c],status:=.running,dying:=none}<|re V τ d).bare=_;rw[hg];simp[stepG.apply,hx,Frame.at,G]
  show∃es,stepG P0 true (G (b.at a<|.inRegion ops (i::r)::k)<|cs++[c]) (re V τ d)=.go (G (Frame.enter P0 f xs .normal)<|b.at a (.inRegion ops (i::r)::k)::cs++[c]) (re V τ d) es;generalize stepG P0 true (G (b.at a<|.inRegion ops (i::r)::k)<|cs++[c]) (re V τ d)=s at h2;cases s<;>simp at h2
  obtain⟨rfl,rfl⟩:=h2;exact⟨_,rfl⟩
 .have:=h τ d v V' hD;rw[<-gD]at this;exact this
def ak.ey (E:ee P0 ok c Dr){ops:Array Oper}(ho:ops[i]?=some o)(hw:Region.wanted o (yielded ops a.tmps)=true)(hf:ok.bh f=true)
  (hx:∀w,(execOp a.eval o).run P0 w=.ok (.enter f xs) w)(h:ak P0 ok c Dr Q ⟨Frame.enter P0 f xs .normal,b.at a (.inRegion ops (i::r)::k)::cs,V⟩):
  ak P0 ok c Dr Q ⟨b.at a<|.inRegion ops (i::r)::k,cs,V⟩:=by
 refine ak.of_steps E.pair E.shut E.floor (λs1=>∃τ d,s1=St.re ⟨Frame.enter P0 f xs .normal,b.at a (.inRegion ops (i::r)::k)::cs,V⟩ τ d) (by rintro _ ⟨τ,d,rfl⟩;exact hf) (λτ d=>⟨_,⟨τ,d,rfl⟩,.one<|step_lone_go ?_⟩) (by rintro _ ⟨τ,d,rfl⟩;exact λτ' d'=>h τ' d');have hg:=stepG_op (P:=P0) (b:=b) (k:=k) (cs:=cs++[c]) (w:=re V τ d) (rest:=r) ho hw;rw[hg];simp[stepG.apply,hx,Frame.at,St.re]
def ak.XK (hb:ok.bh b.fn=true)(hk:b.kind=.normal)(ze:Gl.ov<1000000000){ops:Array Oper}(ho:ops[i]?=some o)(hw:Region.wanted o (yielded ops a.tmps)=true){x y:Nat}{ts:Array TypeId}(bz:o.op=.call {callee:=.value<|.func Gl.ov,args:=#[.tmp x,.tmp y],argTypes:=ts})
  {p q:Addr}{la ca lb cb:Nat}{c1 c2:Array Value}{t1 t2:TypeId}(hx:a.tmps[x]?=some (.slice (some p) la ca))(hy:a.tmps[y]?=some (.slice (some q) lb cb))(hne:p.block≠q.block)(g1:V.heap[p.block]?=some (.cells c1 t1 (0,0)))(n1:c1.size≠0)(g2:V.heap[q.block]?=some (.cells c2 t2 (0,0)))(n2:c2.size≠0)
  (h:ak P0 ok c Dr Q ⟨b.at (a.put o.dst false)<|.inRegion ops r::k,cs,V⟩):ak P0 ok c Dr Q ⟨b.at a<|.inRegion ops (i::r)::k,cs,V⟩:=by
 have gD:(b.at a<|.inRegion ops (i::r)::k).finish false=b.at (a.put o.dst false) (.inRegion ops r::k):=by
  rw[Frame.finish_at,ho];rfl
 intro τ d hs;refine .ext (fr:=b.at a<|.inRegion ops (i::r)::k) (cs:=cs) (V:=re V τ d) hb hk ⟨b,a,ops,i,r,k,o,x,y,ts,p,q,la,ca,lb,cb,c1,c2,t1,t2,ze,rfl,ho,hw,bz,hx,hy,hne,g1,n1,g2,n2⟩ ?_;rw[gD];refine h τ d ?_;let⟨ρ,h1,h2,h3,h4⟩:=hs;refine⟨ρ,?_,h2,h3.swap rfl,h4⟩;have:=h1.finish<|.bool (ok:=ok) (ρ:=ρ) false;have e:(St.re ⟨b.at a<|.inRegion ops (i::r)::k,cs,V⟩ τ d).fr=b.at a (.inRegion ops (i::r)::k):=rfl;rw[e,gD]at this;exact this
def ak.leave (E:ee P0 ok c Dr){fr r0:Frame}(hr:ok.bh r0.fn=true){v:Value}(hl:∀τ d,fr.leaving P0 (re V τ d)<|.returned v)(h:ak P0 ok c Dr Q ⟨r0.finish v,cs,V⟩):ak P0 ok c Dr Q ⟨fr,r0::cs,V⟩:=by
 have sz:(r0.finish v).fn=r0.fn:=by
  cases r0 with|mk fn tmps todo defers mode kind roundOf=>cases todo with
   |nil=>rfl
   |cons x l=>cases x<;>first|rfl|(rename_i ops l2;cases l2<;>rfl)
 exact ak.of_steps E.pair E.shut E.floor (λs1=>∃τ d,s1=St.re ⟨r0.finish v,cs,V⟩ τ d) (by rintro _ ⟨τ,d,rfl⟩;show ok.bh (r0.finish v).fn=true;rw[sz];exact hr) (λτ d=>⟨_,⟨τ,d,rfl⟩,.one<|step_leave_returned<|hl τ d⟩) (by rintro _ ⟨τ,d,rfl⟩;exact λτ' d'=>h τ' d')
end
