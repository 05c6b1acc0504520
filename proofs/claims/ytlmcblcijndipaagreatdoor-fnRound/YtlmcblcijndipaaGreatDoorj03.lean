import Derived.Test.YtlmcblcijndipaaGreatDoorj02
import Derived.Conc.Beside
import Derived.Conc.CrowdInv
import Derived.Conc.CrowdStepW
import Derived.Conc.CrowdRun
namespace Go.Proofs.YtlmcblcijndipaaGreatDoor
section
open Conc
variable [Gl]
section
variable {P0:Program}{ok:Ctx}{c:Frame}{Q:Value->World->Prop}
theorem xB.re (hP:dE P0 P0 ok)(hQ:∀v w τ d,Q v w->Q v (re w τ d)){s:St}(hs:fu P0 ok s)(h:xB P0 Q s)(τ:Nat->Question->Nat)(d:Nat):xB P0 Q (s.re τ d):=by
 obtain⟨h1,v,⟨l1,l2,l3,fn,l4,l5⟩,h2⟩:=h;obtain⟨ρ,r1,_,_,r4⟩:=hs;refine⟨h1,v,⟨l1,l2,l3,fn,l4,?_⟩,hQ _ _ _ _ h2⟩;have hR:=nR (P0:=P0) (P:=P0) (str:=true) hP.tab fn r1.tmps;generalize hx:(results fn s.fr.tmps).runT P0 s.V #[]=x;obtain⟨r,e1⟩:=x;have hr:r=.ok v s.V:=by
  have:=Sem.runT_fst P0 (results fn s.fr.tmps) s.V #[];rw[hx,l5]at this;exact this
 subst hr;rcases hR.shift #[] r4 hx with dJ|⟨_,_,h3⟩
 .cases dJ
 .have:=h3 τ d (by intro i hi;simp[gF]at hi);have h4:=Sem.runT_fst P0 (results fn s.fr.tmps) (Proofs.YtlmcblcijndipaaGreatDoor.re s.V τ d) #[];rw[this]at h4;show(results fn s.fr.tmps).run P0 (Proofs.YtlmcblcijndipaaGreatDoor.re s.V τ d)=.ok v (Proofs.YtlmcblcijndipaaGreatDoor.re s.V τ d);rw[<-h4];simp[X7,gF,Proofs.YtlmcblcijndipaaGreatDoor.re]
theorem Bu.shift (hP:dE P0 P0 ok)(gY:∀f,ok.fn f=true->ok.bI f=true)(hQ:∀v w τ d,Q v w->Q v (re w τ d)):∀(n:Nat) {s:St},fu P0 ok s->Bu P0 c Q n s->∀τ d,(∀i q,s.V.tape (s.V.drawn+i) q=τ (d+i) q)->Bu P0 c Q n (s.re τ d):=by
 intro n;induction n with
 |zero=>intro s hs h τ d _;exact xB.re hP hQ hs h τ d
 |succ n ih=>
  intro s hs h τ d hA;obtain⟨s',h1,h2⟩:=h;obtain⟨k1,k2,k3⟩:=h1.sh hP hs;refine⟨_,k3 τ d (λi _ q=>hA i q),ih (h1.self hP gY hs) h2 τ _ λi q=>?_⟩;rw[k2];have:=hA (s'.V.drawn-s.V.drawn+i) q;rw[show s.V.drawn+(s'.V.drawn-s.V.drawn+i)=s'.V.drawn+i by omega]at this;rw[this];congr 1;omega
omit [Gl] in
theorem fd.YG {s s1 s2:St}(h1:fd P0 c s s1)(h2:fd P0 c s s2):s1=s2:=by
 obtain⟨_,h1⟩:=h1;obtain⟨_,h2⟩:=h2;rw[h1]at h2;simp only[GStep.go.injEq]at h2;obtain⟨e,e2,_⟩:=h2;have e3:=congrArg Goroutine.frame e;have e4:=congrArg Goroutine.callers e;simp only[G]at e3 e4;replace e4:=acI e4;obtain⟨a,b,d⟩:=s1;obtain⟨a',b',d'⟩:=s2;simp only at e2 e3 e4;subst e2 e3 e4;rfl
omit [Gl] in
theorem tx {s:St}(hs:xB P0 Q s):xC s:=by
 obtain⟨h1,v,⟨l1,l2,_⟩,_⟩:=hs;exact⟨h1,by rw[l1];simp,l2⟩
theorem H.succ (hP:dE P0 P0 ok)(gY:∀f,ok.fn f=true->ok.bI f=true)(hQ:∀v w τ d,Q v w->Q v (re w τ d)){s s':St}(hs:fu P0 ok s)(hH:H P0 c Q s)(h:uH P0 c s' s):H P0 c Q s'/\fu P0 ok s':=by
 obtain⟨τ,d,h⟩:=h;have IB:=hs.re τ d;obtain⟨k1,k2,k3⟩:=h.sh hP IB;have my:=h.self hP gY IB;refine⟨λτ' d'=>?_,my⟩;have XC:d<=s'.V.drawn:=k1;let t2:Nat->Question->Nat:=λi q=>if i<s'.V.drawn then τ i q else τ' (d'+(i-s'.V.drawn)) q
 have hA:kw (s.re τ d).V.tape (s.re τ d).V.drawn t2 d (s'.V.drawn-(s.re τ d).V.drawn):=by
  intro i hi q;show τ (d+i) q=t2 (d+i) q;simp only[t2];have ox:i<s'.V.drawn-d:=hi;rw[if_pos ab]
 have h2:=k3 t2 d hA;obtain⟨n,hn⟩:=hH t2 d;have e1:(s.re τ d).re t2 d=s.re t2 d:=rfl;rw[e1]at h2;cases n with
 |zero=>exact absurd (tx hn) (h2.inside hP (hs.re t2 d))
 |succ n=>
  obtain⟨s2,g1,g2⟩:=hn;have:=g1.YG h2;subst this;refine⟨n,?_⟩;have e2:d+(s'.V.drawn-(s.re τ d).V.drawn)=s'.V.drawn:=by show d+(s'.V.drawn-d)=_;omega
  rw[e2]at g2;have:=Bu.shift hP gY hQ n (my.re t2 s'.V.drawn) g2 τ' d' (λi q=>by
   show t2 (s'.V.drawn+i) q=τ' (d'+i) q;simp only[t2];rw[if_neg ab];congr 1;omega)
  exact this
omit [Gl] in
theorem tq {s:St}(h:¬Acc (uH P0 c) s):∃f:Nat->St,f 0=s/\∀n,uH P0 c (f (n+1)) (f n):=by
 have step:∀s:{s:St //¬Acc (uH P0 c) s},∃s':{s:St //¬Acc (uH P0 c) s},uH P0 c s'.1 s.1:=by
  intro ⟨s,hs⟩;apply acK;intro hn;apply hs;refine⟨_,λy hy=>?_⟩;apply acK;intro E8;exact hn ⟨⟨y,E8⟩,hy⟩
 let g:Nat->{s:St //¬Acc (uH P0 c) s}:=λn=>Nat.rec ⟨s,h⟩ (λ_ x=>(step x).choose) n
 exact⟨λn=>(g n).1,rfl,λn=>(step (g n)).choose_spec⟩
omit [Gl] in
theorem CR (D:Nat->Nat)(hD:∀n,D n<=D (n+1))(t:Nat->Nat->Question->Nat):∃T:Nat->Question->Nat,∀n j q,D n+j<D (n+1)->T (D n+j) q=t n j q:=by
 have mono:∀n k,D n<=D (n+k):=by
  intro n k;induction k with
  |zero=>exact ack _
  |succ k ih=>exact acn ih (hD (n+k))
 have Lh:∀p,(∃n,p<D (n+1))->∃n,p<D (n+1)/\∀m,m<n->¬p<D (m+1):=by
  intro p ⟨n,hn⟩;induction n using Nat.strongRecOn with
  |ind n ih=>
   by_cases h:∃m,m<n/\p<D (m+1)
   .obtain⟨m,h1,h2⟩:=h;exact ih m h1 h2
   .exact⟨n,hn,λm hm hp=>h ⟨m,hm,hp⟩⟩
 classical
 refine⟨λp q=>if h:∃n,p<D (n+1)then t (Lh p h).choose (p-D (Lh p h).choose) q else 0,λn j q hj=>?_⟩;have h:∃n',D n+j<D (n'+1):=⟨n,hj⟩;simp only[dif_pos h];have hs:=(Lh (D n+j) h).choose_spec;have:(Lh (D n+j) h).choose=n:=by
  generalize (Lh (D n+j) h).choose=m at hs;rcases Nat.lt_trichotomy m n with hl|rfl|hg
  .have h1:=hs.1;have h2:=mono (m+1) (n-(m+1));rw[show m+1+(n-(m+1))=n by omega]at h2;omega
  .rfl
  .exact absurd hj (hs.2 n hg)
 rw[this];congr 1;omega
theorem Kb (hP:dE P0 P0 ok)(gY:∀f,ok.fn f=true->ok.bI f=true)(hQ:∀v w τ d,Q v w->Q v (re w τ d)){s:St}(hs:fu P0 ok s)(hH:H P0 c Q s):Acc (uH P0 c) s:=by
 apply acK;intro hn;obtain⟨f,f0,hf⟩:=tq hn;have all:∀n,H P0 c Q (f n)/\fu P0 ok (f n):=by
  intro n;induction n with
  |zero=>rw[f0];exact⟨hH,hs⟩
  |succ n ih=>exact H.succ hP gY hQ ih.2 ih.1 (hf n)
 let τ:Nat->Nat->Question->Nat:=λn=>(hf n).choose
 let d:Nat->Nat:=λn=>(hf n).choose_spec.choose
 have g:∀n,fd P0 c ((f n).re (τ n) (d n)) (f (n+1)):=λn=>(hf n).choose_spec.choose_spec
 let D:Nat->Nat:=λn=>Nat.rec 0 (λn x=>x+((f (n+1)).V.drawn-d n)) n
 have hD:∀n,D (n+1)=D n+((f (n+1)).V.drawn-d n):=λn=>rfl
 obtain⟨T,hT⟩:=CR D (λn=>by rw[hD];omega) (λn j q=>τ n (d n+j) q);have go:∀n,fd P0 c ((f n).re T (D n)) ((f (n+1)).re T (D (n+1))):=by
  intro n;obtain⟨_,_,k3⟩:=(g n).sh hP ((all n).2.re (τ n) (d n));have:=k3 T (D n) (λi hi q=>by
   show τ n (d n+i) q=T (D n+i) q;have ox:i<(f (n+1)).V.drawn-d n:=hi;rw[hT n i q (by rw[hD];omega)])
  rw[hD];exact this
 have none_:∀N n,¬Bu P0 c Q N ((f n).re T (D n)):=by
  intro N;induction N with
  |zero=>intro n h;exact absurd (tx h) ((go n).inside hP ((all n).2.re T (D n)))
  |succ N ih=>
   intro n h;obtain⟨s',h1,h2⟩:=h;have:=h1.YG (go n);subst this;exact ih (n+1) h2
 obtain⟨N,hN⟩:=hH T 0;rw[<-f0]at hN;exact none_ N 0 hN
theorem H.step (hP:dE P0 P0 ok)(gY:∀f,ok.fn f=true->ok.bI f=true)(hQ:∀v w τ d,Q v w->Q v (re w τ d)){s:St}(hs:fu P0 ok s)(hH:H P0 c Q s)(τ:Nat->Question->Nat)(d:Nat):
  (xC s/\xB P0 Q (s.re τ d))\/(¬xC s/\∃s',fd P0 c (s.re τ d) s'/\uH P0 c s' s/\H P0 c Q s'/\fu P0 ok s'):=by
 obtain⟨n,hn⟩:=hH τ d;cases n with
 |zero=>exact .inl ⟨tx (s:=s.re τ d) hn,hn⟩
 |succ n=>
  obtain⟨s',h1,_⟩:=hn;have h2:=H.succ hP gY hQ hs hH ⟨τ,d,h1⟩;exact .inr ⟨λhe=>h1.inside hP (hs.re τ d) he,s',h1,⟨τ,d,h1⟩,h2⟩
omit [Gl] in
theorem nT {P:Program}{fr fr2:Frame}{cs Bc:List Frame}{w w2:World}{es:Array Event}(h:stepG P true (G fr cs) w=.go (G fr2 Bc) w2 es):step P (lone fr cs w)=.next (lone fr2 Bc w2):=by
 refine step_lone_go ?_;have:({frame:=fr,callers:=cs,status:=.running,dying:=none}:Goroutine)=G fr cs:=rfl;rw[this,h];rfl
omit [Gl] in
theorem gw {P:Program}{fr:Frame}{cs:List Frame}{w w2:World}{o:Outcome}{es:Array Event}(h:stepG P true (G fr cs) w=.ended o w2 es):step P (lone fr cs w)=.ended o w2:=by
 refine step_lone_ended ?_;have:({frame:=fr,callers:=cs,status:=.running,dying:=none}:Goroutine)=G fr cs:=rfl;rw[this,h];rfl
omit [Gl] in
theorem pm {fr fr2:Frame}{cs Bc:List Frame}{w w2:World}(h:lone fr cs w=lone fr2 Bc w2):fr=fr2/\cs=Bc/\w=w2:=by
 simp only[lone,Machine.mk.injEq,Array.mk.injEq,List.cons.injEq,Goroutine.mk.injEq,and_true]at h;exact⟨h.2.1,h.2.2,h.1⟩
theorem EJ (hP:dE P0 P0 ok)(gY:∀f,ok.fn f=true->ok.bI f=true)(hF:jl P0 c){frE:Frame}{wE:World}{v:Value}(hl:frE.leaving P0 wE (.returned v))(hq:Q v wE):
  ∀(n:Nat) {s:St},fu P0 ok s->runN P0 n (lone s.fr (s.cs++[c]) s.V)=.next (lone frE [c] wE)->∃k,Bu P0 c Q k s:=by
 intro n;induction n with
 |zero=>
  intro s hs h;simp only[runN,Stepped.next.injEq]at h;obtain⟨e1,e2,e3⟩:=pm h;have e2:s.cs=[]:=by
   have:=congrArg List.length e2;simpa using this
  refine⟨0,e2,v,?_,?_⟩
  .rw[e1,e3];exact hl
  .rw[e3];exact hq
 |succ n ih=>
  intro s hs h;obtain⟨ρ,h1,h2,h3,h4⟩:=hs;have hs:fu P0 ok s:=⟨ρ,h1,h2,h3,h4⟩;have hk:(∃g2 V2 es,stepG P0 true (G s.fr (s.cs++[c])) s.V=.go g2 V2 es)\/∃o w es,stepG P0 true (G s.fr (s.cs++[c])) s.V=.ended o w es:=by
   cases hcs:s.cs++[c]with
   |nil=>simp at hcs
   |cons a l=>exact(A3 (m:=true) (c:=a) (cs:=l) hP h1 h4).1
  simp only[runN]at h;rcases hk with⟨g2,V2,es,hg⟩|⟨o,w,es,hg⟩
  .by_cases he:xC s
   .exfalso;have fin:∀fr2,g2=G fr2 []->(∀w,∃o w' es,stepG P0 true (G fr2 []) w=.ended o w' es)->False:=by
     intro fr2 e Ce;subst e;rw[nT hg]at h;simp only at h;cases n with
     |zero=>
      simp only[runN,Stepped.next.injEq]at h;obtain⟨_,e2,_⟩:=pm h;cases e2
     |succ n=>
      obtain⟨o,w',ju,hh⟩:=Ce V2;simp only[runN,gw hh]at h;cases h
    rcases tw hP hs he hg with⟨v,e⟩|⟨ch,e⟩
    .exact fin _ e (hF.ret v)
    .exact fin _ e (hF.pan ch)
   .obtain⟨s',e1,e2,h5⟩:=zs hP gY hs he hg;subst e1 e2;rw[nT hg]at h;obtain⟨k,hk⟩:=ih h5 h;exact⟨k+1,s',⟨es,hg⟩,hk⟩
  .rw[gw hg]at h;cases h
theorem Ea (hP:dE P0 P0 ok)(gY:∀f,ok.fn f=true->ok.bI f=true)(hF:jl P0 c){f:FuncId}{xs:Array Value}{V:World}(hs:fu P0 ok ⟨Frame.enter P0 f xs .normal,[],V⟩)
  (hC:∀τ d,Calls P0 f xs (re V τ d) λe w'=>∃v,e=.returned v/\Q v w'):H P0 c Q ⟨Frame.enter P0 f xs .normal,[],V⟩:=by
 intro τ d;obtain⟨e,w',fr,⟨v,rfl,hq⟩,⟨n,hn⟩,_,hl⟩:=hC τ d [c];exact EJ hP gY hF hl hq n (hs.re τ d) hn
end
structure jF (P0 P:Program)(ok:Ctx)(str:Bool)(c:Frame)(rb:List Frame)(Q:Value->World->Prop)(ρ:Ren)(s:St)(g:Goroutine)(W:World):Prop where
 at_:∃eA cs',g=G eA (cs'++rb)/\ef P ok ρ s.fr eA/\iL P ok ρ s.cs cs'
 bot:th s.fr s.cs
 w:bJ ok str ρ (re s.V W.tape W.drawn) W
 self:fu P0 ok s
 h:H P0 c Q s
 acc:Acc (uH P0 c) s
section
variable {P0 P:Program}{ok:Ctx}{str:Bool}{c:Frame}{rb:List Frame}{Q:Value->World->Prop}{ρ:Ren}{s:St}{g:Goroutine}{W ai:World}
theorem jF.rely (h:jF P0 P ok str c rb Q ρ s g W)(hk:∀b d,ρ b=some d->ai.heap[d]?=W.heap[d]?)(hn:Gl.n<=ai):jF P0 P ok str c rb Q ρ s g ai:=by
 refine⟨h.at_,h.bot,⟨λb d hb=>?_,rfl,rfl,h.w.gV,hn⟩,h.self,h.h,h.acc⟩;obtain⟨o,o',h1,h2,h3⟩:=h.w.heap b d hb;exact⟨o,o',h1,(hk b d hb).trans h2,h3⟩
theorem jF.running (h:jF P0 P ok str c rb Q ρ s g W):g.status=.running:=by
 obtain⟨eA,cs',rfl,_⟩:=h.at_;rfl
theorem jF.step (eh:dE P0 P0 ok)(hP:dE P0 P ok)(gY:∀f,ok.fn f=true->ok.bI f=true)(hQ:∀v w τ d,Q v w->Q v (re w τ d))(m:Bool){r0:Frame}{rest:List Frame}(hrb:rb=r0::rest)(h:jF P0 P ok str c rb Q ρ s g W):
  (∃σ v v' V' W' es,stepG P m g W=.go (G (r0.finish v') rest) W' es/\ar ok σ v v'/\Q v V'/\bJ ok str σ V' W'/\iG ρ (re s.V W.tape W.drawn) W σ V' W'/\∀e∈es,oh σ (re s.V W.tape W.drawn) e)\/
  ∃σ s' g' W' es,stepG P m g W=.go g' W' es/\uH P0 c s' s/\jF P0 P ok str c rb Q σ s' g' W'/\iG ρ (re s.V W.tape W.drawn) W σ s'.V W'/\∀e∈es,oh σ (re s.V W.tape W.drawn) e:=by
 obtain⟨eA,cs',rfl,hf,hc⟩:=h.at_;rcases h.h.step eh gY hQ h.self W.tape W.drawn with⟨he,hE⟩|⟨he,s',hgo,Al,hH,my⟩
 .left;obtain⟨e1,v,⟨l1,l2,l3,fn,l4,l5⟩,hq⟩:=hE;have e1:s.cs=[]:=e1;have l1:s.fr.mode=.returning:=l1;have l2:s.fr.defers=[]:=l2;have l5:(results fn s.fr.tmps).run P0 (re s.V W.tape W.drawn)=.ok v (re s.V W.tape W.drawn):=l5;have Ah:cs'=[]:=by rw[e1]at hc;cases hc;rfl
  subst Ah;have hd:eA.defers=[]:=by have:=hf.defers;rw[l2]at this;generalize eA.defers=x at this;cases this;rfl
  have hm:eA.mode=.returning:=by have:=hf.mode;rw[l1]at this;generalize eA.mode=x at this;cases this;rfl
  have l4:P.funcs[eA.fn]?=some fn:=by
   obtain⟨F,cd,f1,f2,_⟩:=hP.same _ hf.bI;rw[hf.fn,f2,<-f1];exact l4
  generalize hx:(results fn s.fr.tmps).runT P0 (re s.V W.tape W.drawn) #[]=x;obtain⟨r,e⟩:=x;have hr:r=.ok v (re s.V W.tape W.drawn):=by
   have:=Sem.runT_fst P0 (results fn s.fr.tmps) (re s.V W.tape W.drawn) #[];rw[hx,l5]at this;exact this
  subst hr;rcases(nR (P0:=P0) (P:=P) (str:=str) hP.tab fn hf.tmps).sound #[] #[] h.w hx with dJ|⟨σ,r',V',W',d',h1,h2,h4,h5⟩
  .cases dJ
  .cases h2 with
   |@ok _ v' _ W' hv hw'=>
    refine⟨σ,v,v',_,W',seen P eA.fn d',?_,hv,hq,hw',h4,λx hx=>h5 x (jC _ _ _ x hx)⟩;rw[jg (by rw[hm];simp)];have hk:=hf.eT;obtain⟨dv,de,jN,cO,po,eT,aY⟩:=eA;simp only at hd hm l4 hk h1⊢;subst hd hm hk hrb;simp only[unwind,l4,List.nil_append,h1,doReturn,GStep.after];simp[G]
 .right;obtain⟨es,UF⟩:=hgo;have hl:s.cs=[]->s.fr.mode≠.run->s.fr.defers≠[]:=λa b d=>he ⟨a,b,d⟩
  obtain⟨σ,g2,W2,xF,e,hg,hw,hk,lW⟩:=sY (lb:=[c]) (rb:=rb) (ab5:=m) hP hf hc h.bot h.w hl UF;have key:∃fr2 Bc,g2=G fr2 (Bc++rb)/\ef P ok σ s'.fr fr2/\iL P ok σ s'.cs Bc/\th s'.fr s'.cs:=by
   generalize hz:G s'.fr (s'.cs++[c])=z at hg;cases hg with
   |@inside fr fr2 cs Bc a1 a2 a3=>
    have z1:=congrArg Goroutine.frame hz;have z2:=congrArg Goroutine.callers hz;simp only[G]at z1 z2;replace z2:=acI z2;subst z1 z2;exact⟨fr2,Bc,rfl,a1,a2,a3⟩
   |door a1 a2=>rw[gY _ a1]at a2;cases a2
  obtain⟨fr2,Bc,rfl,b1,b2,b3⟩:=key;refine⟨σ,s',_,W2,xF,e,Al,⟨⟨fr2,Bc,rfl,b1,b2⟩,b3,⟨hw.heap,rfl,rfl,hw.gV,hw.gW⟩,my,hH,h.acc.inv Al⟩,hk,lW⟩
end
end
section
open Conc
inductive Rk:Type
 |leaf
 |node (f:World->Rk)
def Rk.lt (r:Rk):Rk->Prop
 |.leaf=>False
 |.node f=>∃w,r=f w
theorem Rk.wf:WellFounded Rk.lt:=⟨λr=>by
 induction r with
 |leaf=>exact⟨_,λy h=>h.elim⟩
 |node f ih=>exact⟨_,λy ⟨w,e⟩=>e▸ih w⟩⟩
structure aO (S:Nat->Prop)(W ai:World):Prop where
 block:∀b,S b->ai.heap[b]?=W.heap[b]?
 size:W.heap.size<=ai
 os:ai.os=W.os
 out:ai.output=W.output
theorem aO.refl (S:Nat->Prop)(W:World):aO S W W:=⟨λ_ _=>rfl,ack _,rfl,rfl⟩
theorem aO.trans {S:Nat->Prop}{W ai du:World}(h:aO S W ai)(h':aO S ai du):aO S W du:=⟨λb hb=>(h'.block b hb).trans (h.block b hb),acn h.size h'.size,h'.os.trans h.os,h'.out.trans h.out⟩
theorem aO.mono {S S':Nat->Prop}{W ai:World}(h:aO S W ai)(l:∀b,S' b->S b):aO S' W ai:=⟨λb hb=>h.block b (l b hb),h.size,h.os,h.out⟩
def grow (M:Nat->Prop)(W W':World):Nat->Prop:=λb=>M b\/(W.heap.size<=b/\b<W')
def DO (X:Event->Prop)(M Ro:Nat->Prop)(e:Event):Prop:=
 (e.sync=false/\∃a,e.loc=.cell a/\(M a.block\/(Ro a.block/\e.write=false)))\/(e.sync=false/\∃r,e.loc=.obj r/\(M r\/(Ro r/\e.write=false)))\/(∃m,JY m=true/\e=⟨.mark m,false,true⟩)\/X e
structure ez (X:Event->Prop)(M Ro:Nat->Prop)(W W':World)(es:Array Event):Prop where
 keep:∀b,b<W.heap.size->¬M b->W'.heap[b]?=W.heap[b]?
 size:W.heap.size<=W'
 tape:W'.tape=W.tape
 os:W'.os=W.os
 out:W'.output=W.output
 ev:∀e∈es,DO X (grow M W W') Ro e
section
variable (P:Program)(m:Bool)(I:World->Prop)(X:Event->Prop)(Ro:Nat->Prop)
def PT (Stop:(Nat->Prop)->Goroutine->World->Prop):Rk->(Nat->Prop)->Goroutine->World->Prop
 |.leaf,M,g,W=>∀ai,aO (λb=>M b\/Ro b) W ai->I ai->Stop M g ai
 |.node f,M,g,W=>(∀ai,aO (λb=>M b\/Ro b) W ai->I ai->Stop M g ai)\/
   (g.status=.running/\∀ai,aO (λb=>M b\/Ro b) W ai->I ai->∃g' W' es,stepG P m g ai=.go g' W' es/\ez X M Ro ai W' es/\PT Stop (f ai) (grow M ai W') g' W')
def ET (Stop:(Nat->Prop)->Goroutine->World->Prop)(M:Nat->Prop)(g:Goroutine)(W:World):Prop:=∃r,PT P m I X Ro Stop r M g W
end
section
variable {P:Program}{m:Bool}{I:World->Prop}{X:Event->Prop}{Ro:Nat->Prop}{Stop aa4:(Nat->Prop)->Goroutine->World->Prop}{M:Nat->Prop}{g:Goroutine}{W ai:World}
theorem PT.rely {r:Rk}(h:PT P m I X Ro Stop r M g W)(k:aO (λb=>M b\/Ro b) W ai):PT P m I X Ro Stop r M g ai:=by
 cases r with
 |leaf=>exact λdu ab4 i=>h du (k.trans ab4) i
 |node f=>
  rcases h with h|⟨hs,h⟩
  .exact .inl λdu ab4 i=>h du (k.trans ab4) i
  .exact .inr ⟨hs,λdu ab4 i=>h du (k.trans ab4) i⟩
theorem ET.rely (h:ET P m I X Ro Stop M g W)(k:aO (λb=>M b\/Ro b) W ai):ET P m I X Ro Stop M g ai:=let⟨r,hr⟩:=h;⟨r,hr.rely k⟩
theorem ET.stop (h:∀ai,aO (λb=>M b\/Ro b) W ai->I ai->Stop M g ai):ET P m I X Ro Stop M g W:=⟨.leaf,h⟩
theorem ET.step (hs:g.status=.running)(h:∀ai,aO (λb=>M b\/Ro b) W ai->I ai->∃g' W' es,stepG P m g ai=.go g' W' es/\ez X M Ro ai W' es/\ET P m I X Ro Stop (grow M ai W') g' W'):ET P m I X Ro Stop M g W:=by
 classical
 have:∀ai,∃r,aO (λb=>M b\/Ro b) W ai->I ai->∃g' W' es,stepG P m g ai=.go g' W' es/\ez X M Ro ai W' es/\PT P m I X Ro Stop r (grow M ai W') g' W':=by
  intro ai;by_cases k:aO (λb=>M b\/Ro b) W ai
  .by_cases i:I ai
   .obtain⟨g',W',es,a,b,r,hr⟩:=h ai k i;exact⟨r,λ_ _=>⟨g',W',es,a,b,hr⟩⟩
   .exact⟨.leaf,λ_ x=>absurd x i⟩
  .exact⟨.leaf,λx=>absurd x k⟩
 exact⟨.node λai=>(this ai).choose,.inr ⟨hs,λai k i=>(this ai).choose_spec k i⟩⟩
structure xD (Sp M:Nat->Prop)(W:World):Prop where
 own:∀b,Sp b->¬M b
 lt:∀b,Sp b->b<W
theorem xD.grow {Sp:Nat->Prop}{W':World}(h:xD Sp M W)(hs:W.heap.size<=W'):xD Sp (grow M W W') W':=
 ⟨λb hb hg=>hg.elim (h.own b hb) λx=>by have:=h.lt b hb;omega,λb hb=>by have:=h.lt b hb;omega⟩
theorem xD.rely {Sp:Nat->Prop}(h:xD Sp M W)(hs:W.heap.size<=ai):xD Sp M ai:=⟨h.own,λb hb=>by have:=h.lt b hb;omega⟩
def Gg (Sp:Nat->Prop)(I:World->Prop):Prop:=∀W W':World,(∀b,Sp b->W'.heap[b]?=W.heap[b]?)->I W->I W'
section
variable [Gl]{ok:Ctx}{c r0:Frame}{rest:List Frame}{Q:Value->World->Prop}
def rL (ρ:Ren)(V:World)(M Ro:Nat->Prop):Prop:=∀b d,ρ b=some d->M d\/(Ro d/\Proofs.YtlmcblcijndipaaGreatDoor.Ro V b)
theorem Ok {ρ σ:Ren}{V V' W W':World}(hh:rL ρ V M Ro)(hk:iG ρ V W σ V' W')(aI:∀b d,σ b=some d->d<W'){e:Event}(he:oh σ V e):DO X (grow M W W') Ro e:=by
 have Kt:∀b d,σ b=some d->grow M W W' d\/(Ro d/\Proofs.YtlmcblcijndipaaGreatDoor.Ro V b):=by
  intro b d hb;rcases hk.new b d hb with h|⟨_,h⟩
  .rcases hh b d h with h|h
   .exact .inl (.inl h)
   .exact .inr h
  .exact .inl (.inr ⟨h,aI b d hb⟩)
 rcases he with⟨s,a,a',e1,r,w⟩|⟨s,r,r',e1,h,n⟩|h
 .refine .inl ⟨s,a',e1,?_⟩;rcases Kt _ _ r.blk with x|⟨x,y⟩
  .exact .inl x
  .refine .inr ⟨x,?_⟩;cases hw:e.write with
   |false=>rfl
   |true=>exact absurd y (w hw)
 .refine .inr (.inl ⟨s,r',e1,?_⟩);rcases Kt _ _ h with x|⟨x,y⟩
  .exact .inl x
  .exact absurd y n
 .exact .inr (.inr (.inl h))
theorem rL.step {ρ σ:Ren}{V V' W W':World}(hh:rL ρ V M Ro)(hk:iG ρ V W σ V' W')(aI:∀b d,σ b=some d->d<W'):rL σ V' (grow M W W') Ro:=by
 intro b d hb;rcases hk.new b d hb with h|⟨_,h⟩
 .rcases hh b d h with x|⟨x,y⟩
  .exact .inl (.inl x)
  .obtain⟨cs,e,z⟩:=y;exact .inr ⟨x,cs,e,by rw[(hk.ro b d h ⟨cs,e,z⟩).1];exact z⟩
 .exact .inl (.inr ⟨h,aI b d hb⟩)
theorem rL.TO {ρ σ:Ren}{V V' W W':World}(hh:rL ρ V M Ro)(hk:iG ρ V W σ V' W')(aI:∀b d,σ b=some d->d<W'.heap.size){es:Array Event}(he:∀e∈es,oh σ V e):ez X M Ro W W' es:=by
 refine⟨λb hb hn=>?_,hk.size,hk.tape,hk.os,hk.out,λe hx=>Ok hh hk aI (he e hx)⟩;by_cases h:∃x,ρ x=some b
 .obtain⟨x,hx⟩:=h;rcases hh x b hx with y|⟨_,y⟩
  .exact absurd y hn
  .exact(hk.ro x b hx y).2
 .exact hk.keep b hb λx hx=>h ⟨x,hx⟩
theorem ET.call {P0:Program}(eh:dE P0 P0 ok)(hP:dE P0 P ok)(gY:∀f,ok.fn f=true->ok.bI f=true)(hQ:∀v w τ d,Q v w->Q v (re w τ d)){ρ:Ren}{s:St}
  (Iz:∀{σ:Ren} {v v':Value} {V' W':World} {M':Nat->Prop},ar ok σ v v'->Q v V'->bJ ok false σ V' W'->rL σ V' M' Ro->(∀b,M b->M' b)->aO Ro W W'->aO (λb=>M b/\∀x,ρ x≠some b) W W'->(∀b d,ρ b=some d->σ b=some d)->(∀b d,σ b=some d->ρ b=some d\/W.heap.size<=d)->I W'->(∀b,M' b->b<W'.heap.size)->(∀b,M' b->M b\/W.heap.size<=b)->ET P m I X Ro Stop M' (G (r0.finish v') rest) W')
  {Sp:Nat->Prop}(hI:Gg Sp I)(ub:∀b,Ro b->Sp b)(hN:xD Sp M W)(Ss:∀b,M b->b<W.heap.size)(hi:I W)
  (h:jF P0 P ok false c (r0::rest) Q ρ s g W)(hh:rL ρ (re s.V W.tape W.drawn) M Ro):ET P m I X Ro Stop M g W:=by
 have main:∀(s:St) (_:Acc (uH P0 c) s) {ρ':Ren} {g:Goroutine} {W2:World} {M':Nat->Prop},jF P0 P ok false c (r0::rest) Q ρ' s g W2->rL ρ' (re s.V W2.tape W2.drawn) M' Ro->xD Sp M' W2->I W2->
   (∀b,M b->M' b)->aO Ro W W2->aO (λb=>M b/\∀x,ρ x≠some b) W W2->(∀b d,ρ b=some d->ρ' b=some d)->(∀b d,ρ' b=some d->ρ b=some d\/W.heap.size<=d)->(∀b,M' b->b<W2.heap.size)->(∀b,M' b->M b\/W.heap.size<=b)->ET P m I X Ro Stop M' g W2:=by
  intro s P_;induction P_ with
  |intro s _ ih=>
   intro ρ' g W2 M' h hh hN hi hM k1 k2 le new O2 nw;refine ET.step h.running λai k pg=>?_
   have ab0:jF P0 P ok false c (r0::rest) Q ρ' s g ai:=h.rely (λb d hb=>k.block d ((hh b d hb).imp id And.left)) (acn h.w.gW k.size);have GI:rL ρ' (re s.V ai.tape ai.drawn) M' Ro:=hh;have qn:=hN.rely k.size;have kr:aO Ro W ai:=k1.trans (k.mono λb hb=>.inr hb);have km:aO (λb=>M b/\∀x,ρ x≠some b) W ai:=k2.trans (k.mono λb hb=>.inl (hM b hb.1));have QS:∀{W':World},ai.heap.size<=W'.heap.size->∀b,grow M' ai W' b->b<W'.heap.size:=λhz b hb=>hb.elim (λx=>acl (acl (O2 b x) k.size) hz) And.right
   have QT:∀{W':World},∀b,grow M' ai W' b->M b\/W.heap.size<=b:=λb hb=>hb.elim (nw b) λx=>.inr (acn kr.size x.1)
   have LY:∀b,b<W.heap.size->(∀x,ρ x≠some b)->∀x,ρ' x≠some b:=by
    intro b hb hx x dB;rcases new x b dB with e|e
    .exact hx x e
    .omega
   rcases ab0.step eh hP gY hQ m rfl with⟨σ,v,v',V',W',es,e1,hv,hq,hw,hk,lW⟩|⟨σ,s',g',W',es,e1,Al,h2,hk,lW⟩
   .have aI:∀b d,σ b=some d->d<W'.heap.size:=λb d hb=>(hw.lt hb).2
    have hp:=GI.TO (X:=X) hk aI lW;have hN':=qn.grow hk.size;have kr':aO Ro ai W':=⟨λb hb=>hp.keep b (qn.lt b (ub b hb)) (qn.own b (ub b hb)),hk.size,hk.os,hk.out⟩;have km':aO (λb=>M b/\∀x,ρ x≠some b) ai W':=⟨λb hb=>hk.keep b (acl (Ss b hb.1) kr.size) (LY b (Ss b hb.1) hb.2),hk.size,hk.os,hk.out⟩;refine⟨_,W',es,e1,hp,Iz hv hq hw (GI.step hk aI) (λb hb=>.inl (hM b hb)) (kr.trans kr') (km.trans km') (λb d hb=>hk.le _ _ (le _ _ hb)) (λb d hb=>?_) (hI ai W' (λx hx=>hp.keep x (qn.lt x hx) (qn.own x hx)) pg) (QS hk.size) QT⟩;rcases hk.new b d hb with x|⟨_,x⟩
    .exact new b d x
    .exact .inr (acn kr.size x)
   .have aI:∀b d,σ b=some d->d<W'.heap.size:=λb d hb=>(h2.w.lt hb).2
    have hp:=GI.TO (X:=X) hk aI lW;have kr':aO Ro ai W':=⟨λb hb=>hp.keep b (qn.lt b (ub b hb)) (qn.own b (ub b hb)),hk.size,hk.os,hk.out⟩;have km':aO (λb=>M b/\∀x,ρ x≠some b) ai W':=⟨λb hb=>hk.keep b (acl (Ss b hb.1) kr.size) (LY b (Ss b hb.1) hb.2),hk.size,hk.os,hk.out⟩;refine⟨g',W',es,e1,hp,ih s' Al h2 (show rL σ s'.V (grow M' ai W') Ro from GI.step hk aI) (qn.grow hk.size) (hI ai W' (λx hx=>hp.keep x (qn.lt x hx) (qn.own x hx)) pg) (λb hb=>.inl (hM b hb)) (kr.trans kr') (km.trans km') (λb d hb=>hk.le _ _ (le _ _ hb)) (λb d hb=>?_) (QS hk.size) QT⟩;rcases hk.new b d hb with x|⟨_,x⟩
    .exact new b d x
    .exact .inr (acn kr.size x)
 exact main s h.acc h hh hN hi (λ_ h=>h) (aO.refl _ _) (aO.refl _ _) (λ_ _ h=>h) (λ_ _ h=>.inl h) Ss (λ_ h=>.inl h)
end
end
end
section
open Conc
open ConcN (CT Apart Ok0 OkW RelBy PermW sumTo upd)
open ConcR (stA)
def Un (n:Nat)(f g:Nat->Rk):Prop:=∃i,i<n/\Rk.lt (f i) (g i)/\∀j,j≠i->f j=g j
theorem Un.wf (n:Nat):WellFounded (Un n):=by
 induction n with
 |zero=>exact⟨λg=>⟨_,λf ⟨i,h,_⟩=>absurd h ab⟩⟩
 |succ n ih=>
  have key:∀r:Rk,Acc Rk.lt r->∀g:Nat->Rk,Acc (Un n) g->g n=r->Acc (Un (n+1)) g:=by
   intro r hr;induction hr with
   |intro r _ ihr=>
    intro g hg;induction hg with
    |intro g _ ihg=>
     intro e;refine⟨_,λf ⟨i,hi,aI,hs⟩=>?_⟩;by_cases h:i=n
     .subst h;rw[e]at aI;exact ihr _ aI f (ih.apply f) rfl
     .have hn:f n=g n:=hs n ab;exact ihg f ⟨i,ab,aI,hs⟩ (hn.trans e)
  exact⟨λg=>key _ (Rk.wf.apply _) g (ih.apply g) rfl⟩
def Rk.nat:Nat->Rk
 |0=>.leaf
 |n+1=>.node λ_=>Rk.nat n
theorem Rk.LR (n:Nat)(w:World):Rk.lt (Rk.nat n) (Rk.nat (n+1)):=⟨w,rfl⟩
section
variable {Sh:Loc->Prop}{Own Rd Ef Rv:Nat->Loc->Prop}{t u:Trace}{j:Nat}
def pK (t:Trace)(l:Loc):Prop:=∀i a,touchAt t i=some a->a.loc≠l
theorem CT.grow (h:CT Sh Own Rd t j)(ho:∀k l,1<=k->k<=j->Ef k l->Own k l\/pK t l)(hr:∀k l,1<=k->k<=j->Rv k l->Rd k l\/pK t l)(lo:∀k l,1<=k->k<=j->Own k l->Ef k l)(lr:∀k l,1<=k->k<=j->Rd k l->Rv k l):CT Sh Ef Rv t j:=
 ⟨h.quiet,λk k1 kj l hl=>(ho k l k1 kj hl).elim (h.own k k1 kj l) λx i a ha e=>absurd e (x i a ha),λk k1 kj l hl=>(hr k l k1 kj hl).elim (h.rd k k1 kj l) λx i a ha e=>absurd e (x i a ha),
  λl hs hl=>h.free l hs λk k1 kj=>⟨λx=>(hl k k1 kj).1 (lo k l k1 kj x),λx=>(hl k k1 kj).2 (lr k l k1 kj x)⟩,λl hs hl=>h.mine l hs λk k1 kj x=>hl k k1 kj (lo k l k1 kj x),h.nr,h.gs⟩
theorem lD {B:Nat}(h:∀i a,touchAt t i=some a->a.loc.low B){l:Loc}(hl:¬l.low B):pK t l:=λi a ha e=>hl (e▸h i a ha)
variable (ax:Loc->Prop)(Sh:Loc->Prop)(Own Rd:Nat->Loc->Prop)(Wg J il K B:Nat)
structure Tr (t:Trace):Prop where
 ct:CT Sh Own Rd t K
 old:∀(i:Nat) (op:MemOp),t[i]?=some op->op.g<J->∀a,op.act.touch?=some a->Knows t 0 i\/(ax a.loc/\a.kind=.atomic)
 over:∀i g,t.g? i=some g->g≠0->g<J->t.counts i->∃q,t.g? q=some 0/\HappensBefore t i q
 mem:∀i a,touchAt t i=some a->a.loc.isMemory=true
 seen:∀i a,touchAt t i=some a->a.loc.low B
 t0:il<=t.size
 CK:∀i,il<=i->t.act? i≠some (.mark (.release (stA Wg)))
 born:∀(i:Nat) (op:MemOp),t[i]?=some op->J<=op.g->il<=i
 atom:∀(i:Nat) (op:MemOp),t[i]?=some op->J<=op.g->∀a,op.act.touch?=some a->a.kind=.atomic->Sh a.loc
structure BA (op:MemOp):Prop where
 mem:∀a,op.act.touch?=some a->a.loc.isMemory=true
 low:∀a,op.act.touch?=some a->a.loc.low B
 CK:op.act≠.mark (.release (stA Wg))
 atom:J<=op.g->∀a,op.act.touch?=some a->a.kind=.atomic->Sh a.loc
end
section
variable {ax:Loc->Prop}{Sh:Loc->Prop}{Own Rd Ef Rv:Nat->Loc->Prop}{Wg J il K B:Nat}{t u:Trace}
theorem Tr.mono {B':Nat}(h:Tr ax Sh Own Rd Wg J il K B t)(hB:B<=B'):Tr ax Sh Own Rd Wg J il K B' t:=
 ⟨h.ct,h.old,h.over,h.mem,λi a ha=>Loc.low_mono hB (h.seen i a ha),h.t0,h.CK,h.born,h.atom⟩
theorem Tr.N0 {K':Nat}(h:Tr ax Sh Own Rd Wg J il K B t)(hc:CT Sh Own Rd (t++u) K')(hu:∀op∈u,BA Sh Wg J B op)(ho:∀op∈u,op.g<J->op.g=0\/op.act.touch?=none):Tr ax Sh Own Rd Wg J il K' B (t++u):=by
 refine⟨hc,λi op hi hg a ha=>?_,λi g hg h0 hJ hcn=>?_,λi a ha=>?_,λi a ha=>?_,by have:=h.t0;simp;omega,λi hi e=>?_,λi op hi hg=>?_,λi op hi hg a ha hk=>?_⟩
 .rcases getElem?_append_cases hi with⟨_,ox⟩|⟨_,WG⟩
  .exact(h.old i op ox hg a ha).imp (·.app u) id
  .rcases ho op WG hg with e|e
   .have:=knows_own hi;rw[e]at this;exact .inl this
   .rw[e]at ha;cases ha
 .obtain⟨op,bf,Zk⟩:=acF.1 hg;rcases getElem?_append_cases bf with⟨aI,qR⟩|⟨_,wi⟩
  .obtain⟨q,hq,hb⟩:=h.over i g (by rw[<-g?_old (u:=u) aI];exact hg) h0 hJ ((counts_old aI).1 hcn);have hql:q<t.size:=by
    obtain⟨z,hz,_⟩:=acF.1 hq;exact lt_size_of_getElem? hz
   exact⟨q,by rw[g?_old hql];exact hq,hb_app u hb⟩
  .rcases ho op wi (by rw[Zk];exact hJ)with e|e
   .exact absurd (Zk.symm.trans e) h0
   .obtain⟨x,hx,_⟩:=hcn;simp[Trace.act?,bf,e]at hx
 .obtain⟨op,bf,Bf⟩:=touch_of ha;rcases getElem?_append_cases bf with⟨_,qR⟩|⟨_,wi⟩
  .exact h.mem i a (by rw[touchAt_of qR];exact Bf)
  .exact(hu op wi).mem a Bf
 .obtain⟨op,bf,Bf⟩:=touch_of ha;rcases getElem?_append_cases bf with⟨_,qR⟩|⟨_,wi⟩
  .exact h.seen i a (by rw[touchAt_of qR];exact Bf)
  .exact(hu op wi).low a Bf
 .obtain⟨op,bf,Bf⟩:=acF.1 e;rcases getElem?_append_cases bf with⟨_,qR⟩|⟨_,wi⟩
  .exact h.CK i hi (by rw[act?_of qR,Bf])
  .exact(hu op wi).CK Bf
 .rcases getElem?_append_cases hi with⟨_,ox⟩|⟨td,_⟩
  .exact h.born i op ox hg
  .exact acn h.t0 td
 .rcases getElem?_append_cases hi with⟨_,ox⟩|⟨_,WG⟩
  .exact h.atom i op ox hg a ha hk
  .exact(hu op WG).atom hg a ha hk
theorem Tr.grow (h:Tr ax Sh Own Rd Wg J il K B t)(ho:∀k l,1<=k->k<=K->Ef k l->Own k l\/¬l.low B)(hr:∀k l,1<=k->k<=K->Rv k l->Rd k l\/¬l.low B)(lo:∀k l,1<=k->k<=K->Own k l->Ef k l)(lr:∀k l,1<=k->k<=K->Rd k l->Rv k l):Tr ax Sh Ef Rv Wg J il K B t:=
 ⟨CT.grow h.ct (λk l k1 k2 x=>(ho k l k1 k2 x).imp id (lD h.seen)) (λk l k1 k2 x=>(hr k l k1 k2 x).imp id (lD h.seen)) lo lr,h.old,h.over,h.mem,h.seen,h.t0,h.CK,h.born,h.atom⟩
theorem Tr.app0 (A:Apart Sh Own Rd)(h:Tr ax Sh Own Rd Wg J il K B t)(hk:∀op∈u,Ok0 Sh Own Rd K op)(hu:∀op∈u,BA Sh Wg J B op):Tr ax Sh Own Rd Wg J il K B (t++u):=
 h.N0 (h.ct.app0 A hk) hu λop bf _=>.inl (hk op bf).1
theorem Tr.appW (A:Apart Sh Own Rd)(h:Tr ax Sh Own Rd Wg J il K B t){k:Nat}(k1:J<=k)(kK:k<=K)(hJ:1<=J)(hk:∀op∈u,OkW Sh Own Rd k op)(hu:∀op∈u,BA Sh Wg J B op):Tr ax Sh Own Rd Wg J il K B (t++u):=
 h.N0 (h.ct.appW A ab kK hk) hu λop bf hg=>by have:=(hk op bf).1;omega
theorem Tr.Kf (A:Apart Sh Own Rd)(h:Tr ax Sh Own Rd Wg J il K B t){k:Nat}(k1:1<=k)(kK:k<=K)(hk:∀op∈u,op.g=k)(hn:∀op∈u,op.act.touch?=none)(hu:∀op∈u,op.act≠.mark (.release (stA Wg))):Tr ax Sh Own Rd Wg J il K B (t++u):=
 h.N0 (h.ct.appW A k1 kK λop bf=>⟨hk op bf,λx hx=>by rw[hn op bf]at hx;cases hx⟩) (λop bf=>⟨λa ha=>(by rw[hn op bf]at ha;cases ha),λa ha=>(by rw[hn op bf]at ha;cases ha),hu op bf,λ_ a ha=>(by rw[hn op bf]at ha;cases ha)⟩) λop bf _=>.inr (hn op bf)
theorem Tr.fork (A:Apart Sh Own Rd)(h:Tr ax Sh Own Rd Wg J il K B t){x y:MemOp}(hx:x.g=0/\x.act=.go (K+1))(hy:y.g=K+1/\y.act=.start)(h0:Deaf t 0=0):Tr ax Sh Own Rd Wg J il (K+1) B (t++#[x,y]):=by
 have hm:∀op∈#[x,y],op=x\/op=y:=λop bf=>by simpa using bf
 refine h.N0 (h.ct.fork A hx hy h0) (λop bf=>?_) (λop bf hg=>?_)
 .rcases hm op bf with rfl|rfl
  .exact⟨λa ha=>(by rw[hx.2]at ha;cases ha),λa ha=>(by rw[hx.2]at ha;cases ha),(by rw[hx.2];simp),λ_ a ha=>(by rw[hx.2]at ha;cases ha)⟩
  .exact⟨λa ha=>(by rw[hy.2]at ha;cases ha),λa ha=>(by rw[hy.2]at ha;cases ha),(by rw[hy.2];simp),λ_ a ha=>(by rw[hy.2]at ha;cases ha)⟩
 .rcases hm op bf with rfl|rfl
  .exact .inl hx.1
  .exact .inr (by rw[hy.2];rfl)
structure lh (ax:Loc->Prop)(B:Nat)(t:Trace):Prop where
 clean:∀said,¬Race said t
 known:∀i a,touchAt t i=some a->Knows t 0 i\/(ax a.loc/\a.kind=.atomic)
 over:t.HandedOver
 hears:Deaf t 0=0
 seen:∀i a,touchAt t i=some a->a.loc.low B
 quiet:Quiet ax t
 mem:∀i a,touchAt t i=some a->a.loc.isMemory=true
theorem lh.tr (h:lh ax B t)(hs:∀l,Sh l->ax l\/pK t l)(ls:∀l,ax l->Sh l)(hgs:∀(i:Nat) (op:MemOp),t[i]?=some op->op.g<J)(hJ:K+1=J)(hO:∀k l,k<J->¬Own k l/\¬Rd k l):Tr ax Sh Own Rd Wg J t.size K B t:=by
 have kn:∀l,¬Sh l->Perm t 0 l:=λl hl i a ha e=>(h.known i a ha).resolve_right λx=>hl (ls l (e▸x.1))
 refine⟨⟨λi op x hi hx hsx=>?_,λk _ kK l hl=>absurd hl (hO k l ab).1,λk _ kK l hl=>absurd hl (hO k l ab).2,λl hl _=>kn l hl,λl hl _=>.of (kn l hl),h.clean,λi op hi=>by have:=hgs i op hi;omega⟩,
  λi op hi _ a ha=>h.known i a (by rw[touchAt_of hi];exact ha),λi g hg h0 _ hc=>h.over i g hg h0 hc,h.mem,h.seen,ack _,λi hi e=>?_,λi op hi hg=>absurd (hgs i op hi) ab,λi op hi hg=>absurd (hgs i op hi) ab⟩
 .rcases hs _ hsx with e|e
  .exact h.quiet i op x hi hx e
  .exact absurd rfl (e i x (by rw[touchAt_of hi];exact hx))
 .have:=lt_of_act? e;omega
theorem Tr.past (h:Tr ax Sh Own Rd Wg J il K B t)(ls:∀l,ax l->Sh l){q:Nat}(hq:t.act? q=some (.mark (.acquire (stA Wg))))(hg:t.g? q=some 0)(hh:t.heard q)(all:∀k,J<=k->k<=K->∃r,RelBy (stA Wg) t k r/\r<q)(hd:Deaf t 0=0):lh Sh B t:=by
 have Vw:∀i k,J<=k->t.g? i=some k->t.counts i->∃q,t.g? q=some 0/\HappensBefore t i q:=by
  intro i k hJ hk hc;obtain⟨op,ho,Zk⟩:=acF.1 hk;obtain⟨r,hr,hrq⟩:=all k hJ (Zk▸h.ct.gs i op ho);obtain⟨or,Xb,aat⟩:=acF.1 hr.g;have jR:il<=r:=h.born r or Xb (by rw[aat];exact hJ);have ed:HappensBefore t r q:=.single (.inr ⟨.marked hrq (.inr hr.act) hq (λk hk _=>h.CK k ab),hr.heard,hh⟩);have hle:i<=r:=Nat.le_of_not_lt λaI=>hr.after i aI hk hc
  rcases acu i r with aI|td
  .exact⟨q,hg,.trans (.single (.inl ⟨aI,k,hk,hr.g⟩)) ed⟩
  .obtain rfl:i=r:=by omega
   exact⟨q,hg,ed⟩
 refine⟨h.ct.nr,λi a ha=>?_,λi g hgi h0 hc=>?_,hd,h.seen,h.ct.quiet,h.mem⟩
 .obtain⟨op,ho,Bf⟩:=touch_of ha;rcases acu op.g J with aI|td
  .exact(h.old i op ho aI a Bf).imp id λx=>⟨ls _ x.1,x.2⟩
  .have hk:t.g? i=some op.g:=by simp[Trace.g?,ho]
   by_cases hc:t.counts i
   .obtain⟨p,hp,hb⟩:=Vw i op.g td hk hc;obtain⟨z,hz,hzg⟩:=acF.1 hp;exact .inl ⟨p,z,hz,hzg,.inr hb⟩
   .have hka:a.kind=.atomic:=acK λhne=>hc ⟨a,ha,h.mem i a ha,.inl hne⟩
    exact .inr ⟨h.atom i op ho td a Bf hka,hka⟩
 .rcases acu g J with aI|td
  .exact h.over i g hgi h0 aI hc
  .exact Vw i g td hgi hc
end
end
section
open Conc
open ConcN (CT Apart Ok0 OkW RelBy PermW sumTo upd WgLive RW DWs AtR0 WSit CTag WD Mode Vc pend phi PayAt Has)
open ConcR (stA smA WgAt KK rd wr mk)
structure Ph where
 P:Program
 ty:TypeId
 Wg:Nat
 tk:Addr
 Bs:Nat
 Vq:TypeId
 wd:Nat
 n:Nat
 L:Nat
 J:Nat
 il:Nat
 Rw:List Nat->List Value->(Nat->Prop)->World->Prop
 pl:Go.ConcR.Payload
namespace Ph
variable (p:Ph)
def Sp (b:Nat):Prop:=b=p.Wg\/b=p.tk.block\/b=p.Bs
def jp (w:World)(x:Nat):Prop:=w.cell? p.tk=some (.int .i64 x)/\w.frozen? p.tk=false
def qc (cs:Array Value)(w:World):Prop:=w.heap[p.Bs]?=some (.cells cs p.Vq)/\cs.size=p.n*p.wd
def I (w:World):Prop:=WgLive p.ty p.Wg w/\(∃x,p.jp w x)/\∃cs,p.qc cs w
theorem O0:Gg p.Sp p.I:=by
 rintro w w' h ⟨⟨st,sm,hw⟩,⟨x,GS,Zs⟩,cs,hc,hn⟩;have h1:=h p.Wg (.inl rfl);have h2:=h p.tk.block (.inr (.inl rfl));have h3:=h p.Bs (.inr (.inr rfl));exact⟨⟨st,sm,h1.trans hw⟩,⟨x,by simpa[World.cell?,h2]using GS,by simpa[World.frozen?,h2]using Zs⟩,cs,h3.trans hc,hn⟩
structure Vg (k:Nat)(vs:List Value)(w w':World):Prop where
 size:w'.heap.size=w.heap.size
 tape:w'.tape=w.tape
 os:w'.os=w.os
 out:w'.output=w.output
 block:∀b,b≠p.Bs->w'.heap[b]?=w.heap[b]?
 len:vs.length=p.wd
 put:∀cs,p.qc cs w->∃cs',p.qc cs' w'/\∀o,cs'[o]?=if k*p.wd<=o/\o<(k+1)*p.wd then vs[o-k*p.wd]? else cs[o]?
def Slot (k:Nat)(vs:List Value)(w:World):Prop:=vs.length=p.wd/\∀cs,p.qc cs w->∀o,o<p.wd->cs[k*p.wd+o]?=vs[o]?
def mU (_:Event):Prop:=False
def dz (e:Event):Prop:=∃a:Addr,a.block=p.Wg/\(e=⟨.mark (.read a),false,true⟩\/e=⟨.mark (.write a),false,true⟩)
section
variable (k:Nat)(Ro:Nat->Prop)
def yu (seq:List Nat)(M:Nat->Prop)(g:Goroutine)(W:World):Prop:=
 g.status=.running/\((∃cs,p.qc cs W)->∃g' W' es vs,stepG p.P false g W=.go g' W' es/\p.Vg k vs W W'/\(∀e∈es,e.sync=false/\∃a:Addr,e.loc=.cell a/\a.block=p.Bs/\k*p.wd<=a.off/\a.off<(k+1)*p.wd)/\
  ∃Mr C c v m,p.Rw seq vs Mr W'/\(∀b,Mr b->M b)/\M C/\¬Mr C/\@Goes p.P false (@RW p.pl p.ty p.Wg C c 0 0) (@DWs p.pl p.Wg (λ_ _=>False) (λ_ _=>False) C c 1) (@AtR0 p.pl p.P p.ty p.Wg C c 0 1 v) m g' W')
def jO:Nat->Nat->List Nat->(Nat->Prop)->Goroutine->World->Prop
 |0,lo,seq=>λM g W=>g.status=.running/\∀x:Nat,lo<=x->x<4611686018427387904->p.jp W x->p.L<=x/\
   ∃g',stepG p.P false g W=.go g' (W.setCell p.tk (.int .i64 (x+1))) #[rd p.tk,wr p.tk]/\ET p.P false p.I mU Ro (yu p k seq) M g' (W.setCell p.tk (.int .i64 (x+1)))
 |f+1,lo,seq=>λM g W=>g.status=.running/\∀x:Nat,lo<=x->x<4611686018427387904->p.jp W x->
   ∃g',stepG p.P false g W=.go g' (W.setCell p.tk (.int .i64 (x+1))) #[rd p.tk,wr p.tk]/\
    (p.L<=x->ET p.P false p.I mU Ro (yu p k seq) M g' (W.setCell p.tk (.int .i64 (x+1))))/\(x<p.L->ET p.P false p.I mU Ro (jO f (x+1) (seq++[x])) M g' (W.setCell p.tk (.int .i64 (x+1))))
end
section
variable (Fin:(Nat->Prop)->(Nat->Prop)->Goroutine->World->Prop)(Anch:(Nat->Prop)->(Nat->Prop)->Goroutine->World->Prop)(Ro:Nat->Prop)
def AtAcq (M:Nat->Prop)(g:Goroutine)(W:World):Prop:=g.status=.running/\∃g',stepG p.P true g W=.go g' W #[Go.ConcR.mk (.acquire (stA p.Wg))]/\Fin Ro M g' W
def AtKe (M:Nat->Prop)(g:Goroutine)(W:World):Prop:=g.status=.running/\∃g',stepG p.P true g W=.go g' W #[Go.ConcR.mk .enable]/\ET p.P true p.I p.dz Ro (p.AtAcq Fin Ro) M g' W
def AtW4 (M:Nat->Prop)(g:Goroutine)(W:World):Prop:=g.status=.running/\(WgAt p.ty p.Wg W 0 0->∃g',stepG p.P true g W=.go g' W #[rd (stA p.Wg)]/\ET p.P true p.I p.dz Ro (p.AtKe Fin Ro) M g' W)
def AtW3 (M:Nat->Prop)(g:Goroutine)(W:World):Prop:=
 g.status=.running/\g.offers=none/\((∃st,WgAt p.ty p.Wg W st 0)->stepG p.P true g W=.go {g with status:=.blocked} W #[])/\
  (WgAt p.ty p.Wg W 0 1->∃g',stepG p.P true g W=.go g' (W.setCell (smA p.Wg) (.int .u32 0)) (semEvents (smA p.Wg))/\ET p.P true p.I p.dz Ro (p.AtW4 Fin Ro) M g' (W.setCell (smA p.Wg) (.int .u32 0)))
def AtW2 (vs:Nat)(M:Nat->Prop)(g:Goroutine)(W:World):Prop:=
 g.status=.running/\∀v:Nat,v<2147483648->WgAt p.ty p.Wg W (v*KK) 0->
  (v=vs->∃g',stepG p.P true g W=.go g' (W.setCell (stA p.Wg) (.int .u64 (v*KK+1))) #[rd (stA p.Wg),wr (stA p.Wg)]/\ET p.P true p.I p.dz Ro (p.AtW3 Fin Ro) M g' (W.setCell (stA p.Wg) (.int .u64 (v*KK+1))))/\
  (v≠vs->∃g',stepG p.P true g W=.go g' W #[rd (stA p.Wg)]/\ET p.P true p.I p.dz Ro (Anch Ro) M g' W)
def AtW1 (M:Nat->Prop)(g:Goroutine)(W:World):Prop:=
 g.status=.running/\∀v:Nat,v<2147483648->WgAt p.ty p.Wg W (v*KK) 0->∃g',stepG p.P true g W=.go g' W #[rd (stA p.Wg)]/\
  (v=0->ET p.P true p.I p.dz Ro (p.AtKe Fin Ro) M g' W)/\(v≠0->ET p.P true p.I p.dz Ro (p.AtW2 Fin Anch Ro v) M g' W)
def AtKd (M:Nat->Prop)(g:Goroutine)(W:World):Prop:=g.status=.running/\∃g',stepG p.P true g W=.go g' W #[Go.ConcR.mk .disable]/\ET p.P true p.I p.dz Ro (Anch Ro) M g' W
variable (k:Nat)(Next:(Nat->Prop)->(Nat->Prop)->Goroutine->World->Prop)
def AtGo (M:Nat->Prop)(g:Goroutine)(W:World):Prop:=
 g.status=.running/\∃g' child qk,stepG p.P true g W=.spawn g' child W #[]/\child.status=.running/\(∀b,Ro b->qk b)/\(∀b,qk b->Ro b\/M b)/\
  ET p.P false p.I mU qk (p.jO k qk p.L 0 []) (λ_=>False) child W/\Next qk (λb=>M b/\¬qk b) g' W
def AtKeS (M:Nat->Prop)(g:Goroutine)(W:World):Prop:=g.status=.running/\∃g',stepG p.P true g W=.go g' W #[Go.ConcR.mk .enable]/\ET p.P true p.I p.dz Ro (p.AtGo Ro k Next) M g' W
def AtA1 (M:Nat->Prop)(g:Goroutine)(W:World):Prop:=
 g.status=.running/\∀v:Nat,v<2147483647->WgAt p.ty p.Wg W (v*KK) 0->
  ∃g',stepG p.P true g W=.go g' (W.setCell (stA p.Wg) (.int .u64 ((v+1)*KK))) #[rd (stA p.Wg),wr (stA p.Wg)]/\ET p.P true p.I p.dz Ro (p.AtKeS Ro k Next) M g' (W.setCell (stA p.Wg) (.int .u64 ((v+1)*KK)))
def AtKdS (M:Nat->Prop)(g:Goroutine)(W:World):Prop:=g.status=.running/\∃g',stepG p.P true g W=.go g' W #[Go.ConcR.mk .disable]/\ET p.P true p.I p.dz Ro (p.AtA1 Ro k Next) M g' W
end
section
variable (Fin:(Nat->Prop)->(Nat->Prop)->Goroutine->World->Prop)(Anch:(Nat->Prop)->(Nat->Prop)->Goroutine->World->Prop)
def Spawns:Nat->(Nat->Prop)->(Nat->Prop)->Goroutine->World->Prop
 |0,Ro=>λM g W=>ET p.P true p.I p.dz Ro (p.AtKd Anch Ro) M g W
 |r+1,Ro=>λM g W=>ET p.P true p.I p.dz Ro (p.AtKdS Ro (p.n-(r+1)) (Spawns r)) M g W
inductive fI:CTag->Nat->Rk->Nat->Nat->(Nat->Prop)->(Nat->Prop)->Goroutine->World->Prop
 |skd {r:Nat} {ρ:Rk} {Ro M:Nat->Prop} {g:Goroutine} {w:World}:r<p.n->PT p.P true p.I p.dz Ro (p.AtKdS Ro (p.n-(r+1)) (p.Spawns Anch r)) ρ M g w->fI (.sp r 5) (p.n-(r+1)) ρ 0 0 Ro M g w
 |sa1 {r:Nat} {ρ:Rk} {Ro M:Nat->Prop} {g:Goroutine} {w:World}:r<p.n->PT p.P true p.I p.dz Ro (p.AtA1 Ro (p.n-(r+1)) (p.Spawns Anch r)) ρ M g w->fI (.sp r 4) (p.n-(r+1)) ρ 0 1 Ro M g w
 |ske {r:Nat} {ρ:Rk} {Ro M:Nat->Prop} {g:Goroutine} {w:World}:r<p.n->PT p.P true p.I p.dz Ro (p.AtKeS Ro (p.n-(r+1)) (p.Spawns Anch r)) ρ M g w->fI (.sp r 3) (p.n-(r+1)) ρ 0 1 Ro M g w
 |sgo {r:Nat} {ρ:Rk} {Ro M:Nat->Prop} {g:Goroutine} {w:World}:r<p.n->PT p.P true p.I p.dz Ro (p.AtGo Ro (p.n-(r+1)) (p.Spawns Anch r)) ρ M g w->fI (.sp r 2) (p.n-(r+1)) ρ 0 0 Ro M g w
 |kd {ρ:Rk} {Ro M:Nat->Prop} {g:Goroutine} {w:World}:PT p.P true p.I p.dz Ro (p.AtKd Anch Ro) ρ M g w->fI .kd p.n ρ 0 0 Ro M g w
 |anch {ρ:Rk} {Ro M:Nat->Prop} {g:Goroutine} {w:World}:PT p.P true p.I p.dz Ro (Anch Ro) ρ M g w->fI .anch p.n ρ 0 1 Ro M g w
 |w1 {ρ:Rk} {Ro M:Nat->Prop} {g:Goroutine} {w:World}:PT p.P true p.I p.dz Ro (p.AtW1 Fin Anch Ro) ρ M g w->fI .w1 p.n ρ 0 1 Ro M g w
 |w2 {vs:Nat} {ρ:Rk} {Ro M:Nat->Prop} {g:Goroutine} {w:World}:PT p.P true p.I p.dz Ro (p.AtW2 Fin Anch Ro vs) ρ M g w->fI (.w2 vs) p.n ρ 0 1 Ro M g w
 |w3 {ρ:Rk} {Ro M:Nat->Prop} {g:Goroutine} {w:World}:PT p.P true p.I p.dz Ro (p.AtW3 Fin Ro) ρ M g w->fI .w3 p.n ρ 1 1 Ro M g w
 |blk {ρ:Rk} {Ro M:Nat->Prop} {g:Goroutine} {w:World}:g.status=.running->g.offers=none->PT p.P true p.I p.dz Ro (p.AtW3 Fin Ro) ρ M g w->(∀ab9,aO (λb=>M b\/Ro b) w ab9->p.I ab9->p.AtW3 Fin Ro M g ab9)->fI .blk p.n ρ 0 1 Ro M {g with status:=.blocked} w
 |w4 {ρ:Rk} {Ro M:Nat->Prop} {g:Goroutine} {w:World}:PT p.P true p.I p.dz Ro (p.AtW4 Fin Ro) ρ M g w->fI .w4 p.n ρ 0 1 Ro M g w
 |ke {ρ:Rk} {Ro M:Nat->Prop} {g:Goroutine} {w:World}:PT p.P true p.I p.dz Ro (p.AtKe Fin Ro) ρ M g w->fI .ke p.n ρ 0 1 Ro M g w
 |acq {ρ:Rk} {Ro M:Nat->Prop} {g:Goroutine} {w:World}:PT p.P true p.I p.dz Ro (p.AtAcq Fin Ro) ρ M g w->fI .acq p.n ρ 0 0 Ro M g w
inductive mP where
 |iO (f lo:Nat) (seq:List Nat)
 |put (seq:List Nat)
 |lib (s:Nat) (seq:List Nat) (vs:List Value) (Mr:Nat->Prop)
def mP.stage:mP->Nat
 |.lib s _ _ _=>s
 |_=>7
def mP.cost:mP->Nat
 |.iO f _ _=>9+f
 |.put _=>8
 |.lib s _ _ _=>s
def mP.seq:mP->List Nat
 |.iO _ _ s=>s
 |.put s=>s
 |.lib _ s _ _=>s
inductive WS (k:Nat)(Ro:Nat->Prop):mP->Rk->Nat->(Nat->Prop)->Goroutine->World->Prop
 |iO {f lo:Nat} {seq:List Nat} {ρ:Rk} {M:Nat->Prop} {g:Goroutine} {w:World}:PT p.P false p.I mU Ro (p.jO k Ro f lo seq) ρ M g w->WS k Ro (.iO f lo seq) ρ 0 M g w
 |put {seq:List Nat} {ρ:Rk} {M:Nat->Prop} {g:Goroutine} {w:World}:PT p.P false p.I mU Ro (p.yu k seq) ρ M g w->WS k Ro (.put seq) ρ 0 M g w
 |lib {s m d C c:Nat} {v:Value} {seq:List Nat} {vs:List Value} {Mr M:Nat->Prop} {g:Goroutine} {w:World}:M C->¬Mr C->@WSit p.pl p.P p.ty p.Wg C c (λ_ _=>False) (λ_ _=>False) 0 1 v s m d g w->WS k Ro (.lib s seq vs Mr) (Rk.nat m) d M g w
end
end Ph
end
section
open Conc
open ConcN (CT Apart Ok0 OkW RelBy PermW sumTo upd WgLive RW DWs AtR0 WSit CTag WD Mode Vc pend phi PayAt Has upd_same upd_ne)
open ConcR (stA smA WgAt KK rd wr)
def fg (S:Nat->Prop):Loc->Prop
 |.cell a=>S a.block
 |.obj r=>S r
 |_=>False
theorem fg.mono {S S':Nat->Prop}(h:∀b,S b->S' b):∀{l:Loc},fg S l->fg S' l
 |.cell _,x|.obj _,x=>h _ x
theorem fg.some {S:Nat->Prop}:∀{l:Loc},fg S l->∃b,S b/\fg (·=b) l
 |.cell _,x|.obj _,x=>⟨_,x,rfl⟩
theorem fg.eq {b b':Nat}:∀{l:Loc},fg (·=b) l->fg (·=b') l->b=b'
 |.cell _,x,y|.obj _,x,y=>x.symm.trans y
theorem fg.low {S:Nat->Prop}{B:Nat}(h:∀b,S b->b<B):∀{l:Loc},fg S l->l.low B
 |.cell _,x|.obj _,x=>h _ x
theorem fg.O7 {b B:Nat}(h:B<=b):∀{l:Loc},fg (·=b) l->¬l.low B
 |.cell _,x,y|.obj _,x,y=>by cases x;exact absurd y (Nat.not_lt.2 h)
namespace Ph
variable (p:Ph)(ax:Loc->Prop)
def ri (k:Nat)(l:Loc):Prop:=∃a:Addr,l=.cell a/\a.block=p.Bs/\k*p.wd<=a.off/\a.off<(k+1)*p.wd
def Own (M:Nat->Nat->Prop)(k:Nat)(l:Loc):Prop:=p.J<=k/\(fg (M (k-p.J+1)) l\/p.ri (k-p.J) l)
def Rd (Ro:Nat->Nat->Prop)(k:Nat)(l:Loc):Prop:=p.J<=k/\fg (Ro (k-p.J+1)) l
def Sh (l:Loc):Prop:=ax l\/∃a:Addr,l=.cell a/\(a.block=p.Wg\/a.block=p.tk.block)
structure Geo:Prop where
 wt:p.Wg≠p.tk.block
 wb:p.Wg≠p.Bs
 tb:p.tk.block≠p.Bs
 aaX:∀a:Addr,a.block=p.Bs->¬ax (.cell a)
 J1:1<=p.J
structure Gm (cm:Nat)(M Ro:Nat->Nat->Prop)(w:World):Prop where
 zR:∀i k,i≠k->∀b,M i b->¬M k b
 ro:∀i k b,M i b->¬Ro k b
 sp:∀i b,p.Sp b->¬M i b/\¬Ro i b
 lt:∀i b,M i b\/Ro i b->b<w
 on:∀b,p.Sp b->b<w
 jT:∀i b,M i b\/Ro i b->∀l,fg (·=b) l->¬ax l
 base:cm<=w
variable {p}{ax}{cm:Nat}{M Ro:Nat->Nat->Prop}{w w':World}
theorem ri.eq {k k':Nat}{l:Loc}(h:p.ri k l)(h':p.ri k' l):k=k':=by
 obtain⟨a,rfl,_,h1,h2⟩:=h;obtain⟨a',e,_,h3,h4⟩:=h';cases e;have:∀x y:Nat,x*p.wd<=a.off->a.off<(y+1)*p.wd->x<=y:=λx y hx hy=>acJ (Nat.lt_of_mul_lt_mul_right (a:=p.wd) (by rw[Nat.succ_eq_add_one];omega))
 have a1:=this k k' h1 h4;have a2:=this k' k h3 h2;omega
theorem ri.fg {k:Nat}{l:Loc}(h:p.ri k l):fg (·=p.Bs) l:=by obtain⟨a,rfl,h,_⟩:=h;exact h
theorem Hh {l:Loc}(h:p.Sh ax l):ax l\/fg (λb=>b=p.Wg\/b=p.tk.block) l:=h.imp id λ⟨_,e,h⟩=>e▸h
theorem Gm.apart (h:Gm p ax cm M Ro w)(G:Geo p ax):Apart (p.Sh ax) (p.Own M) (p.Rd Ro):=by
 refine⟨λk k' l ⟨hk,h1⟩ ⟨nZ,h2⟩=>?_,λk k' l ⟨hk,h1⟩ ⟨nZ,h2⟩=>?_,λk l ⟨hk,h1⟩ hs=>?_,λk l ⟨hk,h1⟩ hs=>?_⟩
 .rcases h1 with h1|h1<;>rcases h2 with h2|h2
  .obtain⟨b,hb,hl⟩:=h1.some;obtain⟨b',cZ,ll⟩:=h2.some;obtain rfl:=hl.eq ll;rcases Nat.decEq (k-p.J+1) (k'-p.J+1)with hne|he
   .exact absurd cZ (h.zR _ _ hne b hb)
   .omega
  .obtain⟨b,hb,hl⟩:=h1.some;obtain rfl:=hl.eq h2.fg;exact absurd hb (h.sp _ _ (.inr (.inr rfl))).1
  .obtain⟨b,hb,hl⟩:=h2.some;obtain rfl:=hl.eq h1.fg;exact absurd hb (h.sp _ _ (.inr (.inr rfl))).1
  .have:=h1.eq h2;omega
 .obtain⟨b',cZ,ll⟩:=h2.some;rcases h1 with h1|h1
  .obtain⟨b,hb,hl⟩:=h1.some;obtain rfl:=hl.eq ll;exact h.ro _ _ b hb cZ
  .obtain rfl:=ll.eq h1.fg;exact(h.sp _ _ (.inr (.inr rfl))).2 cZ
 .rcases h1 with h1|h1
  .obtain⟨b,hb,hl⟩:=h1.some;rcases Hh hs with x|x
   .exact h.jT _ b (.inl hb) l hl x
   .obtain⟨b',cZ,ll⟩:=x.some;obtain rfl:=hl.eq ll;exact(h.sp _ b (cZ.imp id .inl)).1 hb
  .rcases Hh hs with x|x
   .obtain⟨a,rfl,ha,_⟩:=h1;exact G.aaX a ha x
   .obtain⟨b',cZ,ll⟩:=x.some;obtain rfl:=h1.fg.eq ll;exact cZ.elim (λe=>G.wb e.symm) λe=>G.tb e.symm
 .obtain⟨b,hb,hl⟩:=h1.some;rcases Hh hs with x|x
  .exact h.jT _ b (.inr hb) l hl x
  .obtain⟨b',cZ,ll⟩:=x.some;obtain rfl:=hl.eq ll;exact(h.sp _ b (cZ.imp id .inl)).2 hb
theorem Gm.grow (h:Gm p ax cm M Ro w)(hS:∀l,ax l->l.low cm)(i:Nat)(hs:w.heap.size<=w'):Gm p ax cm (upd M i (grow (M i) w w')) Ro w':=by
 have key:∀k b,upd M i (Proofs.YtlmcblcijndipaaGreatDoor.grow (M i) w w') k b->M k b\/(k=i/\w.heap.size<=b/\b<w'):=by
  intro k b hb;by_cases e:k=i
  .subst e;rw[upd_same]at hb;exact hb.imp id λx=>⟨rfl,x⟩
  .rw[upd_ne _ _ e]at hb;exact .inl hb
 refine⟨λk k' hne b hb cZ=>?_,λk k' b hb cZ=>?_,λk b hb=>⟨λhk=>?_,(h.sp k b hb).2⟩,λk b hb=>?_,λb hb=>acl (h.on b hb) hs,λk b hb l hl hx=>?_,acn h.base hs⟩
 .rcases key _ _ hb with x|⟨x,y,z⟩<;>rcases key _ _ cZ with x'|⟨x',y',z'⟩
  .exact h.zR k k' hne b x x'
  .have:=h.lt k b (.inl x);omega
  .have:=h.lt k' b (.inl x');omega
  .exact hne (x.trans x'.symm)
 .rcases key _ _ hb with x|⟨x,y,z⟩
  .exact h.ro k k' b x cZ
  .have:=h.lt k' b (.inr cZ);omega
 .rcases key _ _ hk with x|⟨x,y,z⟩
  .exact(h.sp k b hb).1 x
  .have:=h.on b hb;omega
 .rcases hb with hb|hb
  .rcases key _ _ hb with x|⟨x,y,z⟩
   .exact acl (h.lt k b (.inl x)) hs
   .exact z
  .exact acl (h.lt k b (.inr hb)) hs
 .rcases hb with hb|hb
  .rcases key _ _ hb with x|⟨x,y,z⟩
   .exact h.jT k b (.inl x) l hl hx
   .exact hl.O7 (acn h.base y) (hS l hx)
  .exact h.jT k b (.inr hb) l hl hx
theorem Gm.at (h:Gm p ax cm M Ro w)(hs:w.heap.size<=w'):Gm p ax cm M Ro w':=
 ⟨h.zR,h.ro,h.sp,λi b hb=>acl (h.lt i b hb) hs,λb hb=>acl (h.on b hb) hs,h.jT,acn h.base hs⟩
theorem Hn {K:Nat}{t:Trace}(h:Tr ax (p.Sh ax) (p.Own M) (p.Rd Ro) p.Wg p.J p.il K w.heap.size t)(i:Nat)(hs:w.heap.size<=w'):Tr ax (p.Sh ax) (p.Own (upd M i (grow (M i) w w'))) (p.Rd Ro) p.Wg p.J p.il K w'.heap.size t:=by
 refine(h.grow (λk l _ _ ⟨hk,hx⟩=>?_) (λk l _ _ hx=>.inl hx) (λk l _ _ ⟨hk,hx⟩=>⟨hk,hx.imp (fg.mono λb hb=>?_) id⟩) (λk l _ _ hx=>hx)).mono hs
 .rcases hx with hx|hx
  .by_cases e:k-p.J+1=i
   .rw[e,upd_same]at hx;obtain⟨b,hb,hl⟩:=hx.some;rcases hb with hb|⟨hb,_⟩
    .exact .inl ⟨hk,.inl (by rw[e];exact fg.mono (λ_ (y:_=b)=>y▸hb) hl)⟩
    .exact .inr (hl.O7 hb)
   .rw[upd_ne _ _ e]at hx;exact .inl ⟨hk,.inl hx⟩
  .exact .inl ⟨hk,.inr hx⟩
 .by_cases e:k-p.J+1=i
  .rw[e,upd_same];rw[e]at hb;exact .inl hb
  .rw[upd_ne _ _ e];exact hb
theorem jk {e:Event}{S R:Nat->Prop}{X:Event->Prop}(h:DO X S R e)(hX:X e->(MemAct.ofEvent e).touch?=none){x:Touch}(hx:(MemAct.ofEvent e).touch?=some x):x.kind=.plain/\x.loc.isMemory=true/\(fg S x.loc\/(fg R x.loc/\x.write=false)):=by
 obtain⟨loc,wr,sy⟩:=e;rcases h with⟨e1,a,e2,h⟩|⟨e1,r,e2,h⟩|h|h
 .simp only at e1 e2;subst e1 e2;simp[MemAct.ofEvent,MemAct.touch?]at hx;subst hx;exact⟨rfl,rfl,h.imp id λy=>⟨y.1,y.2⟩⟩
 .simp only at e1 e2;subst e1 e2;simp[MemAct.ofEvent,MemAct.touch?]at hx;subst hx;exact⟨rfl,rfl,h.imp id λy=>⟨y.1,y.2⟩⟩
 .obtain⟨m,h1,h2⟩:=h;cases h2;cases m<;>first|(cases h1;done)|(cases hx;done)
 .rw[hX h]at hx;cases hx
theorem ga {e:Event}{S R:Nat->Prop}{X:Event->Prop}{m:Mark}(h:DO X S R e)(hX:X e->e.loc≠.mark m)(hm:JY m=false):e.loc≠.mark m:=by
 rcases h with⟨_,a,e2,_⟩|⟨_,r,e2,_⟩|h|h
 .rw[e2];simp
 .rw[e2];simp
 .obtain⟨m',h1,rfl⟩:=h;intro e;simp only[Loc.mark.injEq]at e;rw[e,hm]at h1;cases h1
 .exact hX h
end Ph
section
variable {P:Program}{m:Bool}{I:World->Prop}{X:Event->Prop}{Ro:Nat->Prop}{Stop:(Nat->Prop)->Goroutine->World->Prop}{M:Nat->Prop}{g:Goroutine}{W:World}{r:Rk}
theorem PT.cases (h:PT P m I X Ro Stop r M g W):(∀ai,aO (λb=>M b\/Ro b) W ai->I ai->Stop M g ai)\/
  ∃f,r=.node f/\g.status=.running/\∀ai,aO (λb=>M b\/Ro b) W ai->I ai->∃g' W' es,stepG P m g ai=.go g' W' es/\ez X M Ro ai W' es/\PT P m I X Ro Stop (f ai) (grow M ai W') g' W':=by
 cases r with
 |leaf=>exact .inl h
 |node f=>exact Or.imp id (λx=>⟨f,rfl,x⟩) h
theorem PT.running (dJ:∀M g W,Stop M g W->g.status=.running)(h:PT P m I X Ro Stop r M g W)(i:I W):g.status=.running:=by
 rcases h.cases with h|⟨_,_,h,_⟩
 .exact dJ _ _ _ (h W (aO.refl _ _) i)
 .exact h
end
namespace Ph
variable {p:Ph}{Fin Anch:(Nat->Prop)->(Nat->Prop)->Goroutine->World->Prop}{tag:CTag}{j x d k:Nat}{ρ:Rk}{Ro M:Nat->Prop}{a g:Goroutine}{w ab9:World}{pl:mP}
theorem fI.rely (h:p.fI Fin Anch tag j ρ x d Ro M a w)(hk:aO (λb=>M b\/Ro b) w ab9):p.fI Fin Anch tag j ρ x d Ro M a ab9:=by
 cases h with
 |skd h1 h=>exact .skd h1 (h.rely hk)
 |sa1 h1 h=>exact .sa1 h1 (h.rely hk)
 |ske h1 h=>exact .ske h1 (h.rely hk)
 |sgo h1 h=>exact .sgo h1 (h.rely hk)
 |kd h=>exact .kd (h.rely hk)
 |anch h=>exact .anch (h.rely hk)
 |w1 h=>exact .w1 (h.rely hk)
 |w2 h=>exact .w2 (h.rely hk)
 |w3 h=>exact .w3 (h.rely hk)
 |blk h1 h2 h3 h=>exact .blk h1 h2 (h3.rely hk) λDK ab4 i=>h DK (hk.trans ab4) i
 |w4 h=>exact .w4 (h.rely hk)
 |ke h=>exact .ke (h.rely hk)
 |acq h=>exact .acq (h.rely hk)
theorem fI.status (nj:∀Ro M g W,Anch Ro M g W->g.status=.running)(h:p.fI Fin Anch tag j ρ x d Ro M a w)(i:p.I w):(a.status=.running/\tag≠.blk)\/(a.status=.blocked/\tag=.blk):=by
 cases h with
 |skd _ h=>exact .inl ⟨h.running (λ_ _ _ x=>x.1) i,aH⟩
 |sa1 _ h=>exact .inl ⟨h.running (λ_ _ _ x=>x.1) i,aH⟩
 |ske _ h=>exact .inl ⟨h.running (λ_ _ _ x=>x.1) i,aH⟩
 |sgo _ h=>exact .inl ⟨h.running (λ_ _ _ x=>x.1) i,aH⟩
 |kd h=>exact .inl ⟨h.running (λ_ _ _ x=>x.1) i,aH⟩
 |anch h=>exact .inl ⟨h.running (λ_ _ _ x=>nj _ _ _ _ x) i,aH⟩
 |w1 h=>exact .inl ⟨h.running (λ_ _ _ x=>x.1) i,aH⟩
 |w2 h=>exact .inl ⟨h.running (λ_ _ _ x=>x.1) i,aH⟩
 |w3 h=>exact .inl ⟨h.running (λ_ _ _ x=>x.1) i,aH⟩
 |blk _ _ _ _=>exact .inr ⟨rfl,rfl⟩
 |w4 h=>exact .inl ⟨h.running (λ_ _ _ x=>x.1) i,aH⟩
 |ke h=>exact .inl ⟨h.running (λ_ _ _ x=>x.1) i,aH⟩
 |acq h=>exact .inl ⟨h.running (λ_ _ _ x=>x.1) i,aH⟩
theorem fI.wokenBy (nj:∀Ro M g W,Anch Ro M g W->g.status=.running)(h:p.fI Fin Anch tag j ρ x d Ro M a w)(i:p.I w)(g g':Goroutine):
  ∃tag' x',p.fI Fin Anch tag' j ρ x' d Ro M (woken p.P g g' w a) w/\(tag'=tag\/(tag=.blk/\tag'=.w3))/\(mayWake p.P g=true->g'.status=.running->tag'≠.blk):=by
 unfold Go.Conc.woken;split
 .rcases h.status nj i with⟨hs,hne⟩|⟨_,rfl⟩
  .exact⟨tag,x,by rw[again_running _ (.inl hs)];exact h,.inl rfl,λ_ _=>hne⟩
  .cases h with
   |blk h1 h2 h3 hb=>exact⟨.w3,1,by rw[Go.ConcR.again_blocked h1 h2];exact .w3 h3,.inr ⟨rfl,rfl⟩,λ_ _=>aH⟩
 .rename_i hc;exact⟨tag,x,h,.inl rfl,λh1 h2=>absurd (by simp[h1,h2]) hc⟩
theorem Px {C c:Nat}(hC:M C)(hk:aO (λb=>M b\/Ro b) w ab9)(i:p.I ab9):@RW p.pl p.ty p.Wg C c 0 0 w ab9:=
 letI:=p.pl;⟨λb h=>absurd h (aco b),λ_=>i.1,λ⟨cs,h,hn⟩=>⟨cs,(hk.block C (.inl hC)).trans h,hn⟩,Go.ConcN.cell_of_block (hk.block C (.inl hC)) 0⟩
theorem WS.rely (h:p.WS k Ro pl ρ d M g w)(hk:aO (λb=>M b\/Ro b) w ab9)(i:p.I ab9):p.WS k Ro pl ρ d M g ab9:=by
 cases h with
 |iO h=>exact .iO (h.rely hk)
 |put h=>exact .put (h.rely hk)
 |lib hC hr h=>exact .lib hC hr (@WSit.rely p.pl _ _ _ _ _ _ _ _ _ _ _ _ _ _ _ _ h (Px hC hk i))
theorem jO.running {f lo:Nat}{seq:List Nat}{M:Nat->Prop}{g:Goroutine}{W:World}(h:p.jO k Ro f lo seq M g W):g.status=.running:=by
 cases f<;>exact h.1
theorem WS.status (h:p.WS k Ro pl ρ d M g w)(i:p.I w):g.status=.running\/(g.status=.finished/\pl.stage=1):=by
 cases h with
 |iO h=>exact .inl (h.running (λ_ _ _ x=>x.running) i)
 |put h=>exact .inl (h.running (λ_ _ _ x=>x.1) i)
 |lib hC hr h=>
  rename_i s _ _ _ _ _ _ _;by_cases hs:s=1
  .exact(@WSit.status p.pl _ _ _ _ _ _ _ _ _ _ _ _ _ _ _ h).imp id λx=>⟨x,hs⟩
  .exact .inl (@Go.ConcN.WSit.running_of p.pl _ _ _ _ _ _ _ _ _ _ _ _ _ _ _ h hs)
theorem WS.woken (h:p.WS k Ro pl ρ d M g w)(i:p.I w)(a a':Goroutine)(w':World):woken p.P a a' w' g=g:=by
 unfold Go.Conc.woken;split
 .exact again_running _ ((h.status i).imp id And.left)
 .rfl
end Ph
end
section
open Conc
open ConcN (CT Apart Ok0 OkW RelBy PermW sumTo sumTo_upd sumTo_congr upd WgLive RW DWs AtR0 WSit CTag WD Vc cnt pend phi phi_mono phi_retag PayAt Has upd_same upd_ne get_map_set get_map_set_same)
open ConcR (stA smA WgAt KK rd wr g_of_ofEvents)
namespace Ph
structure Gh where
 gs:Array Goroutine
 w:World
 sl:Option (Nat×Nat)
 j:Nat
 D:Nat->mP
 tag:CTag
 ρ:Rk
 x:Nat
 a:Goroutine
 M:Nat->Nat->Prop
 Ro:Nat->Nat->Prop
 R:Nat->Rk
 c:Nat
 st:Int
 sm:Int
def bH (D:Nat->mP)(i:Nat):WD:=⟨(D i).stage,0,0⟩
def mP.cY:mP->Nat
 |.iO _ _ _=>0
 |_=>1
def mP.lo:mP->Nat->Prop
 |.iO _ lo _,c=>lo<=c
 |_,_=>True
def Gh.μ (p:Ph)(G:Gh):Nat×(Nat->Rk)×Rk×Nat:=(phi p.n (Vc G.j (bH G.D)) G.tag+(p.L+20)*(p.n-G.j)+sumTo G.j (λi=>(G.D i).cost),G.R,G.ρ,G.x)
def Lt4 (p:Ph):Nat×(Nat->Rk)×Rk×Nat->Nat×(Nat->Rk)×Rk×Nat->Prop:=Prod.Lex (·<·) (Prod.Lex (Un (p.J+p.n)) (Prod.Lex Rk.lt (·<·)))
theorem Lt4.wf (p:Ph):WellFounded (Lt4 p):=(Prod.lex Nat.lt_wfRel (Prod.lex ⟨_,Un.wf _⟩ (Prod.lex ⟨_,Rk.wf⟩ Nat.lt_wfRel))).wf
variable (p:Ph)(ax:Loc->Prop)(cm:Nat)(Fin Anch:(Nat->Prop)->(Nat->Prop)->Goroutine->World->Prop)
structure Fact (i:Nat)(pl:mP)(Mi:Nat->Prop)(c:Nat)(w:World)(t:Trace):Prop where
 seq:∀x∈pl.seq,x<p.L
 lo:pl.lo c
 out:pl.cY=1->p.L<c
 lib:∀s seq vs Mr,pl=.lib s seq vs Mr->p.Slot i vs w/\(p.Rw seq vs Mr w/\∀b,Mr b->Mi b)/\(s<=6->∃r,RelBy (stA p.Wg) t (p.J+i) r)
structure Inv (G:Gh)(t:Trace):Prop where
 size:G.gs.size=p.J+G.j
 jn:G.j<=p.n
 main:G.gs[0]?=some G.a
 TY:p.fI Fin Anch G.tag G.j G.ρ G.x (Deaf t 0) (G.Ro 0) (G.M 0) G.a G.w
 wk:∀i,i<G.j->∃g,G.gs[p.J+i]?=some g/\p.WS i (G.Ro (i+1)) (G.D i) (G.R (p.J+i)) (Deaf t (p.J+i)) (G.M (i+1)) g G.w
 old:∀i,0<i->i<p.J->∃g q,G.gs[i]?=some g/\QuitsD p.P q (Deaf t i) g/\G.R i=Rk.nat q
 above:∀k,p.J+G.j<=k->Deaf t k=0
 io:Gm p ax cm G.M G.Ro G.w
 tr:Tr ax (p.Sh ax) (p.Own G.M) (p.Rd G.Ro) p.Wg p.J p.il (p.J-1+G.j) G.w.heap.size t
 wg:WgAt p.ty p.Wg G.w G.st G.sm
 tk:p.jp G.w G.c
 bs:∃cs,p.qc cs G.w
 mode:Go.ConcN.Mode G.j (bH G.D) G.tag G.st G.sm
 fact:∀i,i<G.j->p.Fact i (G.D i) (G.M (i+1)) G.c G.w t
 RY:∀x,x<p.L->x<G.c->∃i,i<G.j/\x∈(G.D i).seq
 bound:G.c<=p.L+sumTo G.j λi=>(G.D i).cY
def mc (μ:Nat×(Nat->Rk)×Rk×Nat)(m:Machine)(t:Trace):Prop:=∃G:Gh,m=crowd G.gs G.w G.sl/\μ=G.μ p/\p.Inv ax cm Fin Anch G t
def jo:Prop:=∀seq vs M w w',p.Rw seq vs M w->aO M w w'->p.Rw seq vs M w'
variable {p}{ax}{cm}{Fin Anch}{G:Gh}{t:Trace}
theorem Inv.I (h:p.Inv ax cm Fin Anch G t):p.I G.w:=⟨⟨_,_,h.wg⟩,⟨_,h.tk⟩,h.bs⟩
theorem Inv.at (hR:p.jo)(h:p.Inv ax cm Fin Anch G t)(d:Nat)(sl:Option (Nat×Nat)):p.Inv ax cm Fin Anch {G with w:=G.w.at d,sl:=sl} t:=by
 have k:∀S,aO S G.w (G.w.at d):=λS=>⟨λ_ _=>rfl,ack _,rfl,rfl⟩
 have i:p.I (G.w.at d):=h.I;exact⟨h.size,h.jn,h.main,h.TY.rely (k _),λi' hi=>let⟨g,h1,h2⟩:=h.wk i' hi;⟨g,h1,h2.rely (k _) i⟩,h.old,h.above,h.io.at (ack _),h.tr,h.wg,h.tk,h.bs,h.mode,
  λi' hi=>let f:=h.fact i' hi;⟨f.seq,f.lo,f.out,λs seq vs Mr e=>let⟨a,b,c⟩:=f.lib s seq vs Mr e;⟨a,⟨hR _ _ _ _ _ b.1 (k _),b.2⟩,c⟩⟩,h.RY,h.bound⟩
theorem Inv.keep (h:p.Inv ax cm Fin Anch G t){i k:Nat}{w':World}(iZ:G.w.heap.size<=w')(ud:∀b,b<G.w.heap.size->¬G.M i b->¬p.Sp b->w'.heap[b]?=G.w.heap[b]?)(hne:k≠i)(Lm:w'.os=G.w.os/\w'.output=G.w.output):aO (λb=>G.M k b\/G.Ro k b) G.w w':=
 ⟨λb hb=>ud b (h.io.lt k b hb) (λhi=>hb.elim (h.io.zR i k (Ne.symm hne) b hi) (h.io.ro i k b hi)) (λhs=>hb.elim (h.io.sp k b hs).1 (h.io.sp k b hs).2),iZ,Lm.1,Lm.2⟩
theorem DH (D:Nat->mP)(i:Nat)(pl:mP):bH (upd D i pl)=upd (bH D) i ⟨pl.stage,0,0⟩:=by
 funext a;by_cases e:a=i
 .subst e;simp[bH,upd_same]
 .simp[bH,upd_ne _ _ e]
theorem Fact.other {i k:Nat}{pl:mP}{Mi:Nat->Prop}{c c':Nat}{w w':World}(hR:p.jo)(f:p.Fact i pl Mi c w t)(hc:c<=c')(hk:aO Mi w w')(hs:∀vs,p.Slot i vs w->p.Slot i vs w'){u:Trace}(hu:∀op∈u,op.g=k)(hne:k≠p.J+i):p.Fact i pl Mi c' w' (t++u):=
 ⟨f.seq,by have:=f.lo;cases pl<;>simp only[mP.lo]at this⊢<;>first|trivial|omega,λe=>acl (f.out e) hc,λs seq vs Mr e=>let⟨a,b,d⟩:=f.lib s seq vs Mr e;⟨hs vs a,⟨hR _ _ _ _ _ b.1 (hk.mono b.2),b.2⟩,λh6=>let⟨r,hr⟩:=d h6;⟨r,hr.appOther hu hne⟩⟩⟩
theorem Inv.stepW (hR:p.jo)(cr:Geo p ax)(hS:∀l,ax l->l.low cm)(nj:∀Ro M g W,Anch Ro M g W->g.status=.running)(h:p.Inv ax cm Fin Anch G t){i:Nat}(hi:i<G.j){g g':Goroutine}{w':World}{es:Array Event}{pl':mP}{ρ':Rk}{Bp Bo:Int}{c':Nat}
  (hg:G.gs[p.J+i]?=some g)(hgo:stepG p.P false g G.w=.go g' w' es)(iZ:G.w.heap.size<=w')(ud:∀b,b<G.w.heap.size->¬G.M (i+1) b->¬p.Sp b->w'.heap[b]?=G.w.heap[b]?)
  (lZ:p.WS i (G.Ro (i+1)) pl' ρ' (deafBehind (Deaf t (p.J+i)) es) (grow (G.M (i+1)) G.w w') g' w')
  (fw:∀op∈MemOp.ofEvents (p.J+i) g.frame.fn g.frame.place es,OkW (p.Sh ax) (p.Own (upd G.M (i+1) (grow (G.M (i+1)) G.w w'))) (p.Rd G.Ro) (p.J+i) op)(bf:∀op∈MemOp.ofEvents (p.J+i) g.frame.fn g.frame.place es,BA (p.Sh ax) p.Wg p.J w'.heap.size op)
  (jH:WgAt p.ty p.Wg w' Bp Bo)(pa:p.jp w' c')(bw:∃cs,p.qc cs w')
  (rY:∀tag',(tag'=G.tag\/(G.tag=.blk/\tag'=.w3))->(mayWake p.P g=true->g'.status=.running->tag'≠.blk)->Go.ConcN.Mode G.j (upd (bH G.D) i ⟨pl'.stage,0,0⟩) tag' Bp Bo)
  (hfi:p.Fact i pl' (grow (G.M (i+1)) G.w w') c' w' (t++MemOp.ofEvents (p.J+i) g.frame.fn g.frame.place es))(hfo:∀k,k≠i->∀vs,p.Slot k vs G.w->p.Slot k vs w')(K7:G.c<=c')
  (SL:∀x,x<p.L->G.c<=x->x<c'->x∈pl'.seq)(aay:∀x∈(G.D i).seq,x∈pl'.seq)(hb:c'<=p.L+sumTo G.j λk=>(upd G.D i pl' k).cY)
  (aI:(pl'.cost<(G.D i).cost/\cnt ⟨pl'.stage,0,0⟩<=cnt ⟨(G.D i).stage,0,0⟩)\/(pl'.cost=(G.D i).cost/\pl'.stage=(G.D i).stage/\Rk.lt ρ' (G.R (p.J+i))))(Lm:w'.os=G.w.os/\w'.output=G.w.output:=by first|exact⟨rfl,rfl⟩|exact⟨hp.os,hp.out⟩|exact⟨sj.os,sj.out⟩|exact⟨hA.os,hA.output⟩|exact⟨Iq.os,Iq.output⟩|exact⟨hk.os,hk.out⟩):
  ∃ab5 ops μ',runT p.P (crowd G.gs G.w G.sl) (p.J+i)=(.next ab5,ops)/\Lt4 p μ' (G.μ p)/\p.mc ax cm Fin Anch μ' ab5 (t++ops):=by
 have i':p.I w':=⟨⟨_,_,jH⟩,⟨_,pa⟩,bw⟩;have hJ:=cr.J1;obtain⟨tag',x',Lv,fZ,Nv⟩:=(h.TY.rely (h.keep (i:=i+1) (k:=0) iZ ud ab Lm)).wokenBy nj i' g g';have dW:=runT_crowd_go (P:=p.P) (sl:=G.sl) (i:=p.J+i) hg (by rw[show((p.J+i)==0)=false by simp;omega];exact hgo);have Cc:∀k,k≠p.J+i->Deaf (t++MemOp.ofEvents (p.J+i) g.frame.fn g.frame.place es) k=Deaf t k:=λk hk=>Deaf_other t (Ne.symm hk) _ g_of_ofEvents
 have GC:upd G.M (i+1) (grow (G.M (i+1)) G.w w') 0=G.M 0:=upd_ne _ _ ab;have qU:G.gs.size=p.J+G.j:=h.size;let G':Gh:={gs:=(G.gs.map (Go.Conc.woken p.P g g' w')).setIfInBounds (p.J+i) g',w:=w',sl:=G.sl,j:=G.j,D:=upd G.D i pl',tag:=tag',ρ:=G.ρ,x:=x',a:=Go.Conc.woken p.P g g' w' G.a,M:=upd G.M (i+1) (grow (G.M (i+1)) G.w w'),Ro:=G.Ro,R:=upd G.R (p.J+i) ρ',c:=c',st:=Bp,sm:=Bo}
 have hI:p.Inv ax cm Fin Anch G' (t++MemOp.ofEvents (p.J+i) g.frame.fn g.frame.place es):=by
  refine⟨by simpa[G']using qU,h.jn,?_,?_,λk hk=>?_,λk h0 hk=>?_,λk hk=>?_,h.io.grow hS (i+1) iZ,?_,jH,pa,bw,?_,λk hk=>?_,λx hx hxc=>?_,hb⟩
  .show((G.gs.map _).setIfInBounds _ _)[0]?=_;rw[get_map_set _ _ _ _ ab,h.main];rfl
  .show p.fI Fin Anch tag' G.j G.ρ x' (Deaf (t++MemOp.ofEvents (p.J+i) g.frame.fn g.frame.place es) 0) (G.Ro 0) (upd G.M (i+1) (grow (G.M (i+1)) G.w w') 0) (Go.Conc.woken p.P g g' w' G.a) w';rw[GC,Cc 0 ab];exact Lv
  .by_cases e:k=i
   .subst e;refine⟨g',get_map_set_same _ _ _ ab,?_⟩;simp only[G',upd_same];rw[Deaf_own];exact lZ
   .obtain⟨gk,h1,h2⟩:=h.wk k hk;have h3:=h2.rely (h.keep (i:=i+1) (k:=k+1) iZ ud ab Lm) i';refine⟨gk,?_,?_⟩
    .show((G.gs.map _).setIfInBounds _ _)[p.J+k]?=_;rw[get_map_set _ _ _ _ ab,h1,Option.map_some,h3.woken i']
    .simp only[G',upd_ne G.D _ e,upd_ne G.R ρ' (show p.J+k≠p.J+i by omega),upd_ne G.M _ (show k+1≠i+1 by omega)];rw[Cc _ ab];exact h3
  .obtain⟨gk,q,h1,h2,h3⟩:=h.old k h0 hk;refine⟨gk,q,?_,?_,?_⟩
   .show((G.gs.map _).setIfInBounds _ _)[k]?=_;rw[get_map_set _ _ _ _ ab,h1,Option.map_some,woken_quitsD h2]
   .rw[Cc _ ab];exact h2
   .simp only[G',upd_ne G.R ρ' (show k≠p.J+i by omega)];exact h3
  .have nZ:p.J+G.j<=k:=hk;rw[Cc _ ab];exact h.above k hk
  .exact(Hn h.tr (i+1) iZ).appW ((h.io.grow hS (i+1) iZ).apart cr) ab (by show p.J+i<=p.J-1+G.j;omega) hJ fw bf
  .show Go.ConcN.Mode G.j (bH (upd G.D i pl')) tag' Bp Bo;rw[DH];exact rY tag' fZ Nv
  .by_cases e:k=i
   .subst e;simp only[G',upd_same];exact hfi
   .simp only[G',upd_ne G.D _ e,upd_ne G.M _ (show k+1≠i+1 by omega)];exact(h.fact k hk).other hR K7 ((h.keep (i:=i+1) (k:=k+1) iZ ud ab Lm).mono λb hb=>.inl hb) (hfo k e) g_of_ofEvents ab
  .rcases acu x G.c with dG|td
   .obtain⟨k,hk,hxk⟩:=h.RY x hx dG;refine⟨k,hk,?_⟩;by_cases e:k=i
    .subst e;simp only[G',upd_same];exact aay x hxk
    .simp only[G',upd_ne G.D _ e];exact hxk
   .exact⟨i,hi,by simp only[G',upd_same];exact SL x hx td hxc⟩
 refine⟨_,_,G'.μ p,dW,?_,G',rfl,rfl,hI⟩;have e1:=sumTo_upd (bH G.D) (⟨pl'.stage,0,0⟩:WD) cnt hi;have e2:sumTo G.j (λk=>(upd G.D i pl' k).cost)+(G.D i).cost=sumTo G.j (λk=>(G.D k).cost)+pl'.cost:=sumTo_upd G.D pl' mP.cost hi;have ev:Vc G.j (bH (upd G.D i pl'))+cnt (bH G.D i)=Vc G.j (bH G.D)+cnt ⟨pl'.stage,0,0⟩:=by rw[DH];exact e1
 show Lt4 p (phi p.n (Vc G.j (bH (upd G.D i pl'))) tag'+(p.L+20)*(p.n-G.j)+sumTo G.j (λk=>(upd G.D i pl' k).cost),upd G.R (p.J+i) ρ',G.ρ,x') (phi p.n (Vc G.j (bH G.D)) G.tag+(p.L+20)*(p.n-G.j)+sumTo G.j (λi=>(G.D i).cost),G.R,G.ρ,G.x);rw[phi_retag p.n _ fZ];rcases aI with⟨h1,h2⟩|⟨h1,h2,h3⟩
 .refine Prod.Lex.left _ _ ?_;have hv:Vc G.j (bH (upd G.D i pl'))<=Vc G.j (bH G.D):=by simp only[bH]at ev h2⊢;omega
  have:=phi_mono p.n hv G.tag;omega
 .have hv:Vc G.j (bH (upd G.D i pl'))=Vc G.j (bH G.D):=by
   have:cnt (⟨pl'.stage,0,0⟩:WD)=cnt (bH G.D i):=by show(if 5<=pl'.stage then 1 else 0)=(if 5<=(G.D i).stage then 1 else 0);rw[h2]
   omega
  have hc:sumTo G.j (λk=>(upd G.D i pl' k).cost)=sumTo G.j (λk=>(G.D k).cost):=ab;rw[hv,hc];refine Prod.Lex.right _ (Prod.Lex.left _ _ ⟨p.J+i,?_,by rw[upd_same];exact h3,λk hk=>upd_ne _ _ hk⟩);have:=h.jn;omega
end Ph
namespace Ph
variable {p:Ph}{ax:Loc->Prop}{cm:Nat}{Fin Anch:(Nat->Prop)->(Nat->Prop)->Goroutine->World->Prop}{G:Gh}{t:Trace}
theorem Inv.Yg (hR:p.jo)(cr:Geo p ax)(nj:∀Ro M g W,Anch Ro M g W->g.status=.running)(h:p.Inv ax cm Fin Anch G t){i:Nat}(h0:0<i)(hi:i<p.J){g:Goroutine}(hg:G.gs[i]?=some g)(QI:g.status=.running):
  ∃ab5 ops μ',runT p.P (crowd G.gs G.w G.sl) i=(.next ab5,ops)/\Lt4 p μ' (G.μ p)/\p.mc ax cm Fin Anch μ' ab5 (t++ops):=by
 obtain⟨abZ,q,Cf,hq,hRi⟩:=h.old i h0 hi;obtain rfl:g=abZ:=by rw[hg]at Cf;exact acr Cf
 cases q with
 |zero=>rw[hq.1]at QI;cases QI
 |succ q=>
  rcases hq with⟨hf,_⟩|⟨_,g',es,hm,dJ,Zl⟩
  .rw[hf]at QI;cases QI
  have hgo:=dJ G.w;have i':=h.I;have qU:G.gs.size=p.J+G.j:=h.size;obtain⟨tag',x',Lv,fZ,Nv⟩:=h.TY.wokenBy nj i' g g';have dW:=runT_crowd_go (P:=p.P) (sl:=G.sl) (i:=i) hg (by rw[show(i==0)=false by simp;omega];exact hgo);have Cc:∀k,k≠i->Deaf (t++MemOp.ofEvents i g.frame.fn g.frame.place es) k=Deaf t k:=λk hk=>Deaf_other t (Ne.symm hk) _ g_of_ofEvents
  let G':Gh:={G with gs:=(G.gs.map (Go.Conc.woken p.P g g' G.w)).setIfInBounds i g',tag:=tag',x:=x',a:=Go.Conc.woken p.P g g' G.w G.a,R:=upd G.R i (Rk.nat q)}
  have hI:p.Inv ax cm Fin Anch G' (t++MemOp.ofEvents i g.frame.fn g.frame.place es):=by
   refine⟨by simpa[G']using qU,h.jn,?_,?_,λk hk=>?_,λk h0 hk=>?_,λk hk=>?_,h.io,?_,h.wg,h.tk,h.bs,?_,λk hk=>?_,h.RY,h.bound⟩
   .show((G.gs.map _).setIfInBounds _ _)[0]?=_;rw[get_map_set _ _ _ _ ab,h.main];rfl
   .show p.fI Fin Anch tag' G.j G.ρ x' (Deaf (t++MemOp.ofEvents i g.frame.fn g.frame.place es) 0) (G.Ro 0) (G.M 0) (Go.Conc.woken p.P g g' G.w G.a) G.w;rw[Cc 0 ab];exact Lv
   .obtain⟨gk,h1,h2⟩:=h.wk k hk;refine⟨gk,?_,?_⟩
    .show((G.gs.map _).setIfInBounds _ _)[p.J+k]?=_;rw[get_map_set _ _ _ _ ab,h1,Option.map_some,h2.woken i']
    .simp only[G',upd_ne G.R (Rk.nat q) (show p.J+k≠i by omega)];rw[Cc _ ab];exact h2
   .by_cases e:k=i
    .subst e;exact⟨g',q,get_map_set_same _ _ _ ab,by rw[Deaf_own];exact Zl,by simp only[G',upd_same]⟩
    .obtain⟨gk,q',h1,h2,h3⟩:=h.old k h0 hk;refine⟨gk,q',?_,?_,?_⟩
     .show((G.gs.map _).setIfInBounds _ _)[k]?=_;rw[get_map_set _ _ _ _ (Ne.symm e),h1,Option.map_some,woken_quitsD h2]
     .rw[Cc _ e];exact h2
     .simp only[G',upd_ne G.R _ e];exact h3
   .have nZ:p.J+G.j<=k:=hk;rw[Cc _ ab];exact h.above k hk
   .refine h.tr.Kf (h.io.apart cr) (k:=i) ab (by show i<=p.J-1+G.j;omega) g_of_ofEvents (λop bf=>?_) (λop bf=>?_)
    .obtain⟨e,he,rfl⟩:=Go.Conc.mem_ofEvents bf;exact touch_mute (hm e he)
    .obtain⟨e,he,rfl⟩:=Go.Conc.mem_ofEvents bf;intro hx;have hl:=Go.ConcR.loc_of_ofEvent hx;have hme:=hm e he;obtain⟨loc,_,_⟩:=e;simp only at hl;subst hl;cases hme
   .exact h.mode.retag fZ
   .exact(h.fact k hk).other hR (ack _) (aO.refl _ _) (λ_ x=>x) g_of_ofEvents ab
  refine⟨_,_,G'.μ p,dW,?_,G',rfl,rfl,hI⟩;show Lt4 p (phi p.n (Vc G.j (bH G.D)) tag'+(p.L+20)*(p.n-G.j)+sumTo G.j (λk=>(G.D k).cost),upd G.R i (Rk.nat q),G.ρ,x') (phi p.n (Vc G.j (bH G.D)) G.tag+(p.L+20)*(p.n-G.j)+sumTo G.j (λi=>(G.D i).cost),G.R,G.ρ,G.x);rw[phi_retag p.n _ fZ];exact Prod.Lex.right _ (Prod.Lex.left _ _ ⟨i,ab,by rw[upd_same,hRi];exact Rk.LR q G.w,λk hk=>upd_ne _ _ hk⟩)
theorem Inv.step0 (hR:p.jo)(cr:Geo p ax)(hS:∀l,ax l->l.low cm)(h:p.Inv ax cm Fin Anch G t){a':Goroutine}{w':World}{es:Array Event}{tag':CTag}{ρ':Rk}{x':Nat}{Bp Bo:Int}
  (hgo:stepG p.P true G.a G.w=.go a' w' es)(iZ:G.w.heap.size<=w')(ud:∀b,b<G.w.heap.size->¬G.M 0 b->¬p.Sp b->w'.heap[b]?=G.w.heap[b]?)
  (lZ:p.fI Fin Anch tag' G.j ρ' x' (deafBehind (Deaf t 0) es) (G.Ro 0) (grow (G.M 0) G.w w') a' w')
  (fw:∀op∈MemOp.ofEvents 0 G.a.frame.fn G.a.frame.place es,Ok0 (p.Sh ax) (p.Own (upd G.M 0 (grow (G.M 0) G.w w'))) (p.Rd G.Ro) (p.J-1+G.j) op)(bf:∀op∈MemOp.ofEvents 0 G.a.frame.fn G.a.frame.place es,BA (p.Sh ax) p.Wg p.J w'.heap.size op)
  (jH:WgAt p.ty p.Wg w' Bp Bo)(pa:p.jp w' G.c)(bw:∃cs,p.qc cs w')(rY:Go.ConcN.Mode G.j (bH G.D) tag' Bp Bo)(hfo:∀k vs,p.Slot k vs G.w->p.Slot k vs w')
  (aI:phi p.n (Vc G.j (bH G.D)) tag'<phi p.n (Vc G.j (bH G.D)) G.tag\/(phi p.n (Vc G.j (bH G.D)) tag'=phi p.n (Vc G.j (bH G.D)) G.tag/\(Rk.lt ρ' G.ρ\/(ρ'=G.ρ/\x'<G.x))))(Lm:w'.os=G.w.os/\w'.output=G.w.output:=by first|exact⟨rfl,rfl⟩|exact⟨hp.os,hp.out⟩|exact⟨sj.os,sj.out⟩|exact⟨hA.os,hA.output⟩|exact⟨Iq.os,Iq.output⟩|exact⟨hk.os,hk.out⟩):
  ∃ab5 ops μ',runT p.P (crowd G.gs G.w G.sl) 0=(.next ab5,ops)/\Lt4 p μ' (G.μ p)/\p.mc ax cm Fin Anch μ' ab5 (t++ops):=by
 have i':p.I w':=⟨⟨_,_,jH⟩,⟨_,pa⟩,bw⟩;have hJ:=cr.J1;have qU:G.gs.size=p.J+G.j:=h.size;have dW:=runT_crowd_go (P:=p.P) (sl:=G.sl) (i:=0) h.main (show stepG p.P (0==0) G.a G.w=_ from hgo);have Cc:∀k,k≠0->Deaf (t++MemOp.ofEvents 0 G.a.frame.fn G.a.frame.place es) k=Deaf t k:=λk hk=>Deaf_other t (Ne.symm hk) _ g_of_ofEvents
 let G':Gh:={G with gs:=(G.gs.map (Go.Conc.woken p.P G.a a' w')).setIfInBounds 0 a',w:=w',tag:=tag',ρ:=ρ',x:=x',a:=a',M:=upd G.M 0 (grow (G.M 0) G.w w'),st:=Bp,sm:=Bo}
 have hI:p.Inv ax cm Fin Anch G' (t++MemOp.ofEvents 0 G.a.frame.fn G.a.frame.place es):=by
  refine⟨by simpa[G']using qU,h.jn,get_map_set_same _ _ _ ab,?_,λk hk=>?_,λk h0 hk=>?_,λk hk=>?_,h.io.grow hS 0 iZ,?_,jH,pa,bw,rY,λk hk=>?_,h.RY,h.bound⟩
  .show p.fI Fin Anch tag' G.j ρ' x' (Deaf (t++MemOp.ofEvents 0 G.a.frame.fn G.a.frame.place es) 0) (G.Ro 0) (upd G.M 0 (grow (G.M 0) G.w w') 0) a' w';rw[Deaf_own,upd_same];exact lZ
  .obtain⟨gk,h1,h2⟩:=h.wk k hk;have h3:=h2.rely (h.keep (i:=0) (k:=k+1) iZ ud ab Lm) i';refine⟨gk,?_,?_⟩
   .show((G.gs.map _).setIfInBounds _ _)[p.J+k]?=_;rw[get_map_set _ _ _ _ ab,h1,Option.map_some,h3.woken i']
   .simp only[G',upd_ne G.M _ (show k+1≠0 by omega)];rw[Cc _ ab];exact h3
  .obtain⟨gk,q,h1,h2,h3⟩:=h.old k h0 hk;refine⟨gk,q,?_,?_,h3⟩
   .show((G.gs.map _).setIfInBounds _ _)[k]?=_;rw[get_map_set _ _ _ _ ab,h1,Option.map_some,woken_quitsD h2]
   .rw[Cc _ ab];exact h2
  .have nZ:p.J+G.j<=k:=hk;rw[Cc _ ab];exact h.above k hk
  .exact(Hn h.tr 0 iZ).app0 ((h.io.grow hS 0 iZ).apart cr) fw bf
  .simp only[G',upd_ne G.M _ (show k+1≠0 by omega)];exact(h.fact k hk).other hR (ack _) ((h.keep (i:=0) (k:=k+1) iZ ud ab Lm).mono λb hb=>.inl hb) (hfo k) g_of_ofEvents ab
 refine⟨_,_,G'.μ p,dW,?_,G',rfl,rfl,hI⟩;show Lt4 p (phi p.n (Vc G.j (bH G.D)) tag'+(p.L+20)*(p.n-G.j)+sumTo G.j (λk=>(G.D k).cost),G.R,ρ',x') (phi p.n (Vc G.j (bH G.D)) G.tag+(p.L+20)*(p.n-G.j)+sumTo G.j (λi=>(G.D i).cost),G.R,G.ρ,G.x);rcases aI with h1|⟨h1,h2⟩
 .exact Prod.Lex.left _ _ ab
 .rw[h1];refine Prod.Lex.right _ (Prod.Lex.right _ ?_);rcases h2 with h2|⟨rfl,h2⟩
  .exact Prod.Lex.left _ _ h2
  .exact Prod.Lex.right _ h2
end Ph
end
section
open Conc
open ConcN (CT Apart Ok0 OkW RelBy PermW sumTo sumTo_upd sumTo_upd_out sumTo_congr upd WgLive RW DWs AtR0 WSit CTag WD Vc cnt pend phi phi_mono phi_retag PayAt Has upd_same upd_ne get_map_set get_map_set_same)
open ConcR (stA smA WgAt KK rd wr g_of_ofEvents)
namespace Ph
variable {p:Ph}{ax:Loc->Prop}{cm:Nat}{Fin Anch:(Nat->Prop)->(Nat->Prop)->Goroutine->World->Prop}{G:Gh}{t:Trace}
theorem Inv.spawn (cr:Geo p ax)(h:p.Inv ax cm Fin Anch G t){r:Nat}(hr:r<p.n)(fZ:G.tag=.sp r 2)(hj:G.j=p.n-(r+1))(hd:Deaf t 0=0)
  (dl:p.AtGo (G.Ro 0) (p.n-(r+1)) (p.Spawns Anch r) (G.M 0) G.a G.w):
  ∃ab5 ops μ',runT p.P (crowd G.gs G.w G.sl) 0=(.next ab5,ops)/\Lt4 p μ' (G.μ p)/\p.mc ax cm Fin Anch μ' ab5 (t++ops):=by
 obtain⟨_,g',child,qk,hgo,hcs,hle,se,⟨rc,Be⟩,GN⟩:=dl;have qU:G.gs.size=p.J+G.j:=h.size;have hJ:=cr.J1;have dW:=runT_crowd_spawn (P:=p.P) (sl:=G.sl) (i:=0) h.main (show stepG p.P (0==0) G.a G.w=_ from hgo);rw[<-hj]at Be;obtain⟨tag',ρ',Lv,qR,Xe,QN,aau⟩:∃tag' ρ',p.fI Fin Anch tag' (G.j+1) ρ' 0 0 qk (λb=>G.M 0 b/\¬qk b) g' G.w/\Go.ConcN.isOpen tag'/\pend tag'=0/\(∀vs,tag'≠.w2 vs)/\∀v v',phi p.n v' tag'<phi p.n v (.sp r 2):=by
  cases r with
  |zero=>
   obtain⟨ρ',hn⟩:=GN;have e:G.j+1=p.n:=ab;exact⟨.kd,ρ',e▸.kd hn,trivial,rfl,aH,λv v'=>by simp only[phi];omega⟩
  |succ r=>
   obtain⟨ρ',hn⟩:=GN;have e:G.j+1=p.n-(r+1):=ab;exact⟨.sp r 5,ρ',e▸.skd ab hn,trivial,rfl,aH,λv v'=>by simp only[phi];omega⟩
 let M':Nat->Nat->Prop:=upd (upd G.M 0 λb=>G.M 0 b/\¬qk b) (G.j+1) λ_=>False
 let R':Nat->Nat->Prop:=upd (upd G.Ro 0 qk) (G.j+1) qk
 have M0:M' 0=λb=>G.M 0 b/\¬qk b:=by simp only[M'];rw[upd_ne _ _ ab,upd_same]
 have R0:R' 0=qk:=by simp only[R'];rw[upd_ne _ _ ab,upd_same]
 have Mj:M' (G.j+1)=λ_=>False:=by simp only[M'];rw[upd_same]
 have Rj:R' (G.j+1)=qk:=by simp only[R'];rw[upd_same]
 have Mk:∀k,k≠0->k≠G.j+1->M' k=G.M k:=λk h0 h1=>by simp only[M'];rw[upd_ne _ _ h1,upd_ne _ _ h0]
 have Yx:∀k,k≠0->k≠G.j+1->R' k=G.Ro k:=λk h0 h1=>by simp only[R'];rw[upd_ne _ _ h1,upd_ne _ _ h0]
 have mM:∀k b,M' k b->G.M k b/\(k=0->¬qk b):=λk b hb=>by
  by_cases e1:k=G.j+1
  .subst e1;rw[Mj]at hb;exact hb.elim
  .by_cases e0:k=0
   .subst e0;rw[M0]at hb;exact⟨hb.1,λ_=>hb.2⟩
   .rw[Mk k e0 e1]at hb;exact⟨hb,λe=>absurd e e0⟩
 have mR:∀k b,R' k b->G.Ro k b\/qk b:=λk b hb=>by
  by_cases e1:k=G.j+1
  .subst e1;rw[Rj]at hb;exact .inr hb
  .by_cases e0:k=0
   .subst e0;rw[R0]at hb;exact .inr hb
   .rw[Yx k e0 e1]at hb;exact .inl hb
 have Zz:∀b,qk b->G.M 0 b\/G.Ro 0 b:=λb hb=>(se b hb).symm
 have Wu:Gm p ax cm M' R' G.w:=by
  refine⟨λi k hne b hi hk=>h.io.zR i k hne b (mM i b hi).1 (mM k b hk).1,λi k b hi hk=>?_,λi b hs=>⟨λhi=>(h.io.sp i b hs).1 (mM i b hi).1,λhi=>?_⟩,λi b hb=>?_,h.io.on,λi b hb l hl=>?_,h.io.base⟩
  .rcases mR k b hk with x|x
   .exact h.io.ro i k b (mM i b hi).1 x
   .by_cases e:i=0
    .exact(mM i b hi).2 e x
    .rcases Zz b x with y|y
     .exact h.io.zR i 0 e b (mM i b hi).1 y
     .exact h.io.ro i 0 b (mM i b hi).1 y
  .rcases mR i b hi with x|x
   .exact(h.io.sp i b hs).2 x
   .exact(Zz b x).elim (h.io.sp 0 b hs).1 (h.io.sp 0 b hs).2
  .rcases hb with hb|hb
   .exact h.io.lt i b (.inl (mM i b hb).1)
   .exact(mR i b hb).elim (λx=>h.io.lt i b (.inr x)) λx=>h.io.lt 0 b (Zz b x)
  .rcases hb with hb|hb
   .exact h.io.jT i b (.inl (mM i b hb).1) l hl
   .exact(mR i b hb).elim (λx=>h.io.jT i b (.inr x) l hl) λx=>h.io.jT 0 b (Zz b x) l hl
 let X:MemOp:={g:=0,fn:=G.a.frame.fn,pos:=G.a.frame.place,act:=.go G.gs.size}
 let Y:MemOp:={g:=G.gs.size,fn:=child.frame.fn,pos:=G.a.frame.place,act:=.start}
 have Tb:((MemOp.ofEvents 0 G.a.frame.fn G.a.frame.place #[]).push X).push Y=#[X,Y]:=by rw[ofEvents_eq,Array.map_empty];rfl
 have hXY:∀op∈#[X,Y],op=X\/op=Y:=λop bf=>by simpa using bf
 have OJ:∀k,Deaf (t++#[X,Y]) k=Deaf t k:=λk=>Go.ConcN.Deaf_still t k _ λop bf=>by rcases hXY op bf with rfl|rfl<;>simp[X,Y]
 have Zq:Tr ax (p.Sh ax) (p.Own M') (p.Rd R') p.Wg p.J p.il (p.J-1+G.j+1) G.w.heap.size (t++#[X,Y]):=by
  have h1:Tr ax (p.Sh ax) (p.Own M') (p.Rd R') p.Wg p.J p.il (p.J-1+G.j) G.w.heap.size t:=by
   refine h.tr.grow (λk l _ hk ⟨hx,hy⟩=>.inl ⟨hx,?_⟩) (λk l _ hk ⟨hx,hy⟩=>.inl ⟨hx,?_⟩) (λk l _ hk ⟨hx,hy⟩=>⟨hx,?_⟩) (λk l _ hk ⟨hx,hy⟩=>⟨hx,?_⟩)
   .rwa [Mk _ ab ab]at hy
   .rwa [Yx _ ab ab]at hy
   .rwa [Mk _ ab ab]
   .rwa [Yx _ ab ab]
  exact h1.fork (Wu.apart cr) ⟨rfl,by show MemAct.go G.gs.size=_;rw[qU];congr 1;omega⟩ ⟨by show G.gs.size=_;rw[qU];omega,rfl⟩ hd
 let D':Nat->mP:=upd G.D G.j (.iO p.L 0 [])
 have Dk:∀k,k<G.j->D' k=G.D k:=λk hk=>upd_ne _ _ ab
 have Dj:D' G.j=.iO p.L 0 []:=upd_same _ _ _;have hrel:∀i r,i<G.j->RelBy (stA p.Wg) t (p.J+i) r->RelBy (stA p.Wg) (t++#[X,Y]) (p.J+i) r:=λi r hi hb=>by
  have e:t++#[X,Y]=(t++#[X])++#[Y]:=by apply Array.ext';simp
  rw[e];exact(hb.appOther (g:=0) (by simp[X]) ab).appOther (g:=G.gs.size) (by simp[Y]) ab
 let G':Gh:={gs:=(G.gs.setIfInBounds 0 g').push child,w:=G.w,sl:=G.sl,j:=G.j+1,D:=D',tag:=tag',ρ:=ρ',x:=0,a:=g',M:=M',Ro:=R',R:=upd G.R (p.J+G.j) rc,c:=G.c,st:=G.st,sm:=G.sm}
 have WA:∀k,k≠0->k<p.J+G.j->((G.gs.setIfInBounds 0 g').push child)[k]?=G.gs[k]?:=λk h0 hk=>by
  rw[Array.getElem?_push,if_neg cC,Array.getElem?_setIfInBounds_ne ab]
 have hVc:Vc (G.j+1) (bH D')=Vc G.j (bH G.D)+1:=by
  show sumTo G.j (λi=>cnt (bH D' i))+cnt (bH D' G.j)=_;have:cnt (bH D' G.j)=1:=by simp only[bH,Dj];rfl
  rw[this,sumTo_congr (g:=λi=>cnt (bH G.D i)) λi hi=>by simp only[bH,Dk i hi]];rfl
 have hI:p.Inv ax cm Fin Anch G' (t++#[X,Y]):=by
  refine⟨by simp[G',qU];omega,by show G.j+1<=p.n;omega,?_,?_,λk hk=>?_,λk h0 hk=>?_,λk hk=>?_,Wu,Zq,h.wg,h.tk,h.bs,?_,λk hk=>?_,λx hx hxc=>?_,?_⟩
  .show((G.gs.setIfInBounds 0 g').push child)[0]?=some g';rw[Array.getElem?_push,if_neg cC];exact Array.getElem?_setIfInBounds_self_of_lt ab
  .show p.fI Fin Anch tag' (G.j+1) ρ' 0 (Deaf (t++#[X,Y]) 0) (R' 0) (M' 0) g' G.w;rw[OJ,hd,R0,M0];exact Lv
  .have nZ:k<G.j+1:=hk;by_cases e:k=G.j
   .subst e;refine⟨child,?_,?_⟩
    .show((G.gs.setIfInBounds 0 g').push child)[p.J+G.j]?=_;rw[Array.getElem?_push,if_pos (by simp[qU])]
    .simp only[G',Dj,upd_same,Mj,Rj];rw[OJ,h.above _ (ack _)];exact .iO Be
   .obtain⟨gk,h1,h2⟩:=h.wk k ab;refine⟨gk,?_,?_⟩
    .rw[<-h1];exact WA _ ab ab
    .simp only[G',Dk k ab,upd_ne G.R rc (show p.J+k≠p.J+G.j by omega),Mk (k+1) ab ab,Yx (k+1) ab ab];rw[OJ];exact h2
  .obtain⟨gk,q,h1,h2,h3⟩:=h.old k h0 hk;refine⟨gk,q,?_,by rw[OJ];exact h2,?_⟩
   .rw[<-h1];exact WA _ ab ab
   .simp only[G',upd_ne G.R rc (show k≠p.J+G.j by omega)];exact h3
  .have nZ:p.J+(G.j+1)<=k:=hk;rw[OJ];exact h.above k ab
  .have hm:=h.mode;rw[fZ]at hm;show Go.ConcN.Mode (G.j+1) (bH D') tag' G.st G.sm;generalize dJ:G.st=st at hm;generalize Zo:G.sm=sm at hm;cases hm with
   |opn h1 h2 h3=>
    have:=Go.ConcN.Mode.opn (j:=G.j+1) (D:=bH D') (tag:=tag') qR (λi hi=>by
     by_cases e:i=G.j
     .subst e;left;simp only[bH,Dj];rfl
     .have:=h2 i ab;simpa only[bH,Dk i ab]using this) (λvs e=>absurd e (QN vs))
    rw[hVc,Xe]at this;exact this
   |reg h1=>exact h1.elim
   |last _ h1=>exact h1.elim
   |fin h1=>exact h1.elim
  .have nZ:k<G.j+1:=hk;by_cases e:k=G.j
   .subst e;simp only[G',Dj];exact⟨λx hx=>absurd hx (by simp[mP.seq]),acp _,λe=>by simp[mP.cY]at e,λs seq vs Mr e=>by cases e⟩
   .have f:=h.fact k ab;simp only[G',Dk k ab,Mk (k+1) ab ab];exact⟨f.seq,f.lo,f.out,λs seq vs Mr e=>let⟨a,b,c⟩:=f.lib s seq vs Mr e;⟨a,b,λh6=>let⟨r,hr⟩:=c h6;⟨r,hrel k r ab hr⟩⟩⟩
  .obtain⟨i,hi,UV⟩:=h.RY x hx hxc;exact⟨i,by show i<G.j+1;omega,by simp only[G',Dk i hi];exact UV⟩
  .show G.c<=p.L+(sumTo G.j (λi=>(D' i).cY)+(D' G.j).cY);have:=h.bound;rw[sumTo_congr (g:=λi=>(G.D i).cY) λi hi=>by rw[Dk i hi]];omega
 refine⟨_,_,G'.μ p,dW,?_,G',rfl,rfl,?_⟩
 .show Lt4 p (phi p.n (Vc (G.j+1) (bH D')) tag'+(p.L+20)*(p.n-(G.j+1))+(sumTo G.j (λk=>(D' k).cost)+(D' G.j).cost),upd G.R (p.J+G.j) rc,ρ',0) (phi p.n (Vc G.j (bH G.D)) G.tag+(p.L+20)*(p.n-G.j)+sumTo G.j (λi=>(G.D i).cost),G.R,G.ρ,G.x);refine Prod.Lex.left _ _ ?_;have h1:=aau (Vc G.j (bH G.D)) (Vc (G.j+1) (bH D'));rw[sumTo_congr (g:=λi=>(G.D i).cost) λi hi=>by rw[Dk i hi],Dj,fZ];have e1:p.n-G.j=p.n-(G.j+1)+1:=ab;rw[e1,Nat.mul_add,Nat.mul_one];simp only[mP.cost];omega
 .rw[Tb];exact hI
end Ph
end
section
open Conc
open ConcN (CT Apart Ok0 OkW RelBy PermW sumTo sumTo_upd sumTo_upd_out sumTo_congr sumTo_le upd WgLive RW DWs AtR0 WSit CTag WD Vc cnt pend phi phi_mono phi_retag PayAt Has upd_same upd_ne get_map_set get_map_set_same)
open ConcR (stA smA WgAt KK rd wr g_of_ofEvents)
theorem cD {M:Nat->Prop}{w w':World}(h:w'.heap.size=w.heap.size):grow M w w'=M:=by
 funext b;simp only[grow,eq_iff_iff];exact⟨λx=>x.elim id λy=>absurd y.2 ab,.inl⟩
namespace Ph
variable {p:Ph}{ax:Loc->Prop}{cm:Nat}{Fin Anch:(Nat->Prop)->(Nat->Prop)->Goroutine->World->Prop}{G:Gh}{t:Trace}{M Ro:Nat->Nat->Prop}{w w':World}{fn:FuncId}{pos:String}{es:Array Event}{i K:Nat}
def EvS (p:Ph)(e:Event):Prop:=(∃m,e.loc=.mark m/\(m=.disable\/m=.enable\/(∃a,m=.releaseMerge a)\/∃a,m=.acquire a))\/∃a wr,e=⟨.cell a,wr,true⟩/\(a.block=p.Wg\/a.block=p.tk.block)
theorem EvS.touch {e:Event}(h:p.EvS e){x:Touch}(hx:(MemAct.ofEvent e).touch?=some x):x.kind=.atomic/\∃a:Addr,x.loc=.cell a/\(a.block=p.Wg\/a.block=p.tk.block):=by
 rcases h with⟨m,hm,h⟩|⟨a,wr,rfl,h⟩
 .rw[Go.ConcR.ofEvent_loc_mark hm]at hx;rcases h with rfl|rfl|⟨a,rfl⟩|⟨a,rfl⟩<;>cases hx
 .rw[Go.ConcR.ofEvent_cell]at hx;cases hx;exact⟨rfl,a,rfl,h⟩
theorem EvS.CK {e:Event}(h:p.EvS e):MemAct.ofEvent e≠.mark (.release (stA p.Wg)):=by
 intro hx;have hl:=Go.ConcR.loc_of_ofEvent hx;rcases h with⟨m,hm,h⟩|⟨a,wr,rfl,h⟩
 .rw[hm]at hl;cases hl;rcases h with h|h|⟨a,h⟩|⟨a,h⟩<;>cases h
 .cases hl
theorem pV (hw:p.Wg<w)(ht:p.tk.block<w)(h:∀e∈es,p.EvS e){g:Nat}:∀op∈MemOp.ofEvents g fn pos es,BA (p.Sh ax) p.Wg p.J w.heap.size op:=by
 intro op bf;obtain⟨e,he,rfl⟩:=Go.Conc.mem_ofEvents bf;refine⟨λa ha=>?_,λa ha=>?_,(h e he).CK,λ_ a ha _=>?_⟩
 .obtain⟨_,b,e1,_⟩:=(h e he).touch ha;rw[e1];rfl
 .obtain⟨_,b,e1,e2⟩:=(h e he).touch ha;rw[e1];show b.block<_;rcases e2 with e2|e2<;>rw[e2]<;>assumption
 .obtain⟨_,b,e1,e2⟩:=(h e he).touch ha;exact .inr ⟨b,e1,e2⟩
theorem CO {Own Rd:Nat->Loc->Prop}(h:∀e∈es,p.EvS e){g:Nat}:∀op∈MemOp.ofEvents g fn pos es,OkW (p.Sh ax) Own Rd g op:=by
 intro op bf;obtain⟨e,he,rfl⟩:=Go.Conc.mem_ofEvents bf;refine⟨rfl,λx hx=>?_⟩;obtain⟨hk,b,e1,e2⟩:=(h e he).touch hx;exact .inl ⟨.inr ⟨b,e1,e2⟩,by rw[hk];simp,by rw[hk];simp⟩
theorem CM {Own Rd:Nat->Loc->Prop}(h:∀e∈es,p.EvS e):∀op∈MemOp.ofEvents 0 fn pos es,Ok0 (p.Sh ax) Own Rd K op:=by
 intro op bf;obtain⟨e,he,rfl⟩:=Go.Conc.mem_ofEvents bf;refine⟨rfl,λx hx=>?_⟩;obtain⟨hk,b,e1,e2⟩:=(h e he).touch hx;exact .inl ⟨.inr ⟨b,e1,e2⟩,by rw[hk];simp⟩
theorem CN (hf:Gm p ax cm (upd M (i+1) (grow (M (i+1)) w w')) Ro w')(hp:ez mU (M (i+1)) (Ro (i+1)) w w' es):∀op∈MemOp.ofEvents (p.J+i) fn pos es,OkW (p.Sh ax) (p.Own (upd M (i+1) (grow (M (i+1)) w w'))) (p.Rd Ro) (p.J+i) op/\BA (p.Sh ax) p.Wg p.J w'.heap.size op:=by
 intro op bf;obtain⟨e,he,rfl⟩:=Go.Conc.mem_ofEvents bf;have ht:=λx hx=>jk (hp.ev e he) (λy=>y.elim) (x:=x) hx
 have ei:p.J+i-p.J+1=i+1:=ab;refine⟨⟨rfl,λx hx=>?_⟩,λx hx=>(ht x hx).2.1,λx hx=>?_,λhx=>?_,λ_ x hx hk=>?_⟩
 .rcases(ht x hx).2.2 with h|⟨h,h'⟩
  .exact .inr (.inl ⟨Nat.le_add_right _ _,.inl (by rw[ei,upd_same];exact h)⟩)
  .exact .inr (.inr ⟨⟨Nat.le_add_right _ _,by rw[ei];exact h⟩,h'⟩)
 .rcases(ht x hx).2.2 with h|⟨h,h'⟩
  .exact h.low λb hb=>hf.lt (i+1) b (.inl (by rw[upd_same];exact hb))
  .exact h.low λb hb=>hf.lt (i+1) b (.inr hb)
 .exact ga (hp.ev e he) (λy=>y.elim) rfl (Go.ConcR.loc_of_ofEvent hx)
 .rw[(ht x hx).1]at hk;cases hk
theorem jp.set {x:Nat}(h:p.jp w x)(y:Nat):p.jp (w.setCell p.tk (.int .i64 y)) y:=by
 obtain⟨h1,h2⟩:=h;unfold World.cell? at h1;unfold World.frozen? at h2;cases hb:w.heap[p.tk.block]? with
 |none=>rw[hb]at h1;cases h1
 |some o=>
  cases o with
  |cells c el fz=>
   rw[hb]at h1 h2;simp only at h1 h2;by_cases hs:p.tk.spot.isSome
   .rw[if_pos hs]at h1;cases h1
   .rw[if_neg hs]at h1;have aI:p.tk.off<c.size:=by
     rcases acu p.tk.off c.size with h|h
     .exact h
     .rw[Array.getElem?_eq_none h]at h1;cases h1
    have cZ:(w.setCell p.tk (.int .i64 y)).heap[p.tk.block]?=some (.cells (c.setIfInBounds p.tk.off (.int .i64 y)) el fz):=by
     simp[World.setCell,Array.getElem?_modify,hb,hs]
    refine⟨?_,?_⟩
    .unfold World.cell?;rw[cZ];simp[hs,aI]
    .unfold World.frozen?;rw[cZ];exact h2
  |_=>rw[hb]at h1;cases h1
theorem jp.of_block {x:Nat}(h:p.jp w x)(e:w'.heap[p.tk.block]?=w.heap[p.tk.block]?):p.jp w' x:=⟨by simpa[World.cell?,e]using h.1,by simpa[World.frozen?,e]using h.2⟩
theorem Slot.of_block {k:Nat}{vs:List Value}(h:p.Slot k vs w)(e:w'.heap[p.Bs]?=w.heap[p.Bs]?):p.Slot k vs w':=⟨h.1,λcs hc=>h.2 cs ⟨e▸hc.1,hc.2⟩⟩
theorem qc.of_block {cs:Array Value}(h:p.qc cs w)(e:w'.heap[p.Bs]?=w.heap[p.Bs]?):p.qc cs w':=⟨e.trans h.1,h.2⟩
theorem Ik (D:Nat->mP)(j:Nat):sumTo j (λi=>(D i).cY)<=j:=by
 have:=sumTo_le (f:=λi=>(D i).cY) (c:=1) (j:=j) λi _=>by cases hD:D i<;>simp[mP.cY]
 omega
theorem kg {j:Nat}{D:Nat->WD}{tag tag':CTag}{st sm:Int}(h:Go.ConcN.Mode j D tag st sm)(ht:tag'=tag\/(tag=.blk/\tag'=.w3)){s:Nat}(hs:(D i).stage=s):Go.ConcN.Mode j (upd D i ⟨s,0,0⟩) tag' st sm:=by
 have:=(h.same (i:=i) 0 0).retag ht;rwa [hs]at this
theorem Inv.QW (hR:p.jo)(cr:Geo p ax)(hS:∀l,ax l->l.low cm)(nj:∀Ro M g W,Anch Ro M g W->g.status=.running)(h:p.Inv ax cm Fin Anch G t)(hi:i<G.j){g g':Goroutine}{ρ':Rk}
  (hg:G.gs[p.J+i]?=some g)(hgo:stepG p.P false g G.w=.go g' w' es)(hp:ez mU (G.M (i+1)) (G.Ro (i+1)) G.w w' es)(hd:Deaf t (p.J+i)=0)
  (lZ:p.WS i (G.Ro (i+1)) (G.D i) ρ' 0 (grow (G.M (i+1)) G.w w') g' w')(Lg:∀s seq vs Mr,G.D i≠.lib s seq vs Mr)(aI:Rk.lt ρ' (G.R (p.J+i))):
  ∃ab5 ops μ',runT p.P (crowd G.gs G.w G.sl) (p.J+i)=(.next ab5,ops)/\Lt4 p μ' (G.μ p)/\p.mc ax cm Fin Anch μ' ab5 (t++ops):=by
 have hf:=h.io.grow hS (i+1) hp.size;have ks:∀b,p.Sp b->w'.heap[b]?=G.w.heap[b]?:=λb hb=>hp.keep b (h.io.on b hb) (h.io.sp (i+1) b hb).1
 have f:=h.fact i hi;have Lb:deafBehind (Deaf t (p.J+i)) es=0:=by rw[hd];exact deafBehind_still (λe he=>⟨ga (hp.ev e he) (λy=>y.elim) rfl,ga (hp.ev e he) (λy=>y.elim) rfl⟩) 0
 obtain⟨cs,hcs⟩:=h.bs;refine h.stepW hR cr hS nj hi (pl':=G.D i) hg hgo hp.size (λb hb hn _=>hp.keep b hb hn) (by rw[Lb];exact lZ) (λop bf=>(CN hf hp op bf).1) (λop bf=>(CN hf hp op bf).2) (h.wg.of_block (ks _ (.inl rfl))) (h.tk.of_block (ks _ (.inr (.inl rfl)))) ⟨cs,hcs.of_block (ks _ (.inr (.inr rfl)))⟩
  (λtag' ht _=>kg h.mode ht rfl) ⟨f.seq,f.lo,f.out,λs seq vs Mr e=>absurd e (Lg s seq vs Mr)⟩ (λk _ vs hs=>hs.of_block (ks _ (.inr (.inr rfl)))) (ack _) (λx _ h1 h2=>ab) (λx hx=>hx) ?_ (.inr ⟨rfl,rfl,aI⟩)
 have e:(λk=>(upd G.D i (G.D i) k).cY)=λk=>(G.D k).cY:=by
  funext k;by_cases e:k=i
  .subst e;rw[upd_same]
  .rw[upd_ne _ _ e]
 rw[e];exact h.bound
end Ph
namespace Ph
variable {p:Ph}{ax:Loc->Prop}{cm:Nat}{Fin Anch:(Nat->Prop)->(Nat->Prop)->Goroutine->World->Prop}{G:Gh}{t:Trace}{i:Nat}
theorem Inv.KF (hR:p.jo)(cr:Geo p ax)(hS:∀l,ax l->l.low cm)(nj:∀Ro M g W,Anch Ro M g W->g.status=.running)(h:p.Inv ax cm Fin Anch G t)(hi:i<G.j){g g':Goroutine}{ρ':Rk}{f lo:Nat}{seq:List Nat}{pl':mP}(hD:G.D i=.iO f lo seq)
  (hg:G.gs[p.J+i]?=some g)(hgo:stepG p.P false g G.w=.go g' (G.w.setCell p.tk (.int .i64 (G.c+1))) #[rd p.tk,wr p.tk])(hd:Deaf t (p.J+i)=0)
  (lZ:p.WS i (G.Ro (i+1)) pl' ρ' 0 (G.M (i+1)) g' (G.w.setCell p.tk (.int .i64 (G.c+1))))(Wl:pl'.cost<9+f)(dJ:pl'.stage=7)(Lg:∀s seq vs Mr,pl'≠.lib s seq vs Mr)
  (Xq:∀x∈pl'.seq,x<p.L)(aaB:∀x∈seq,x∈pl'.seq)(UH:pl'.lo (G.c+1))(SL:G.c<p.L->G.c∈pl'.seq)(Td:pl'.cY=1->p.L<G.c+1)(hb:G.c<p.L\/pl'.cY=1):
  ∃ab5 ops μ',runT p.P (crowd G.gs G.w G.sl) (p.J+i)=(.next ab5,ops)/\Lt4 p μ' (G.μ p)/\p.mc ax cm Fin Anch μ' ab5 (t++ops):=by
 have ha:=aside_setCell G.w p.tk (.int .i64 (G.c+1));have JP:grow (G.M (i+1)) G.w (G.w.setCell p.tk (.int .i64 (G.c+1)))=G.M (i+1):=cD ha.size;have lW:∀e∈#[rd p.tk,wr p.tk],p.EvS e:=by
  intro e he;simp at he;rcases he with rfl|rfl<;>exact .inr ⟨_,_,rfl,.inr rfl⟩
 have Lb:deafBehind (Deaf t (p.J+i)) #[rd p.tk,wr p.tk]=0:=by rw[hd];rfl
 have hW:p.Wg<(G.w.setCell p.tk (.int .i64 (G.c+1))).heap.size:=by rw[ha.size];exact h.io.on _ (.inl rfl)
 have hT:p.tk.block<(G.w.setCell p.tk (.int .i64 (G.c+1))).heap.size:=by rw[ha.size];exact h.io.on _ (.inr (.inl rfl))
 obtain⟨cs,hcs⟩:=h.bs;have wl:(bH G.D i).stage=7:=by simp only[bH,hD];rfl
 refine h.stepW hR cr hS nj hi (pl':=pl') (c':=G.c+1) hg hgo (by rw[ha.size];exact ack _) (λb _ _ hn=>ha.block b λe=>hn (.inr (.inl e))) (by rw[Lb,JP];exact lZ) (CO lW) (pV hW hT lW) (h.wg.of_block (ha.block _ cr.wt)) (h.tk.set _) ⟨cs,hcs.of_block (ha.block _ (Ne.symm cr.tb))⟩
  (λtag' ht _=>by rw[dJ];exact kg h.mode ht wl) ⟨Xq,UH,Td,λs seq vs Mr e=>absurd e (Lg s seq vs Mr)⟩ (λk _ vs hs=>hs.of_block (ha.block _ (Ne.symm cr.tb))) (Nat.le_succ _) (λx hx h1 h2=>?_) (λx hx=>aaB x (by rw[hD]at hx;exact hx)) ?_ (.inl ⟨by rw[hD];exact Wl,by rw[dJ,hD];exact ack _⟩)
 .obtain rfl:x=G.c:=by omega
  exact SL hx
 .have e:sumTo G.j (λk=>(upd G.D i pl' k).cY)+(G.D i).cY=sumTo G.j (λk=>(G.D k).cY)+pl'.cY:=sumTo_upd G.D pl' mP.cY hi;have e0:(G.D i).cY=0:=by rw[hD];rfl
  have:=h.bound;rcases hb with hb|hb<;>omega
theorem Inv.Sd (hR:p.jo)(cr:Geo p ax)(hS:∀l,ax l->l.low cm)(nj:∀Ro M g W,Anch Ro M g W->g.status=.running)(hL:p.L+p.n<4611686018427387904)(h:p.Inv ax cm Fin Anch G t)(hi:i<G.j){g:Goroutine}{f lo:Nat}{seq:List Nat}(hD:G.D i=.iO f lo seq)
  (hg:G.gs[p.J+i]?=some g)(hd:Deaf t (p.J+i)=0)(hs:PT p.P false p.I mU (G.Ro (i+1)) (p.jO i (G.Ro (i+1)) f lo seq) (G.R (p.J+i)) (G.M (i+1)) g G.w):
  ∃ab5 ops μ',runT p.P (crowd G.gs G.w G.sl) (p.J+i)=(.next ab5,ops)/\Lt4 p μ' (G.μ p)/\p.mc ax cm Fin Anch μ' ab5 (t++ops):=by
 have fa:=h.fact i hi;rw[hD]at fa;have UH:lo<=G.c:=fa.lo;have Xq:∀x∈seq,x<p.L:=fa.seq;have hc:G.c<4611686018427387904:=by have:=h.bound;have:=Ik G.D G.j;have:=h.jn;omega
 rcases hs.cases with dl|⟨fr,hr,QI,cW⟩
 .have dJ:=dl G.w (aO.refl _ _) h.I;cases f with
  |zero=>
   obtain⟨td,g',hgo,ρ',sj⟩:=dJ.2 G.c UH hc h.tk;exact h.KF hR cr hS nj hi hD hg hgo hd (.put sj) (by simp only[mP.cost];omega) rfl aH Xq (λx hx=>hx) trivial (λhx=>ab) (λ_=>ab) (.inr rfl)
  |succ f=>
   obtain⟨g',hgo,sj,GN⟩:=dJ.2 G.c UH hc h.tk;rcases acu G.c p.L with aI|td
   .obtain⟨ρ',hn⟩:=GN aI;refine h.KF hR cr hS nj hi hD hg hgo hd (.iO hn) (by simp only[mP.cost];omega) rfl aH (λx hx=>?_) (λx hx=>List.mem_append_left _ hx) (ack _) (λ_=>by simp[mP.seq]) (λe=>by cases e) (.inl aI);rcases acN.1 hx with hx|hx
    .exact Xq x hx
    .simp at hx;omega
   .obtain⟨ρ',hp⟩:=sj td;exact h.KF hR cr hS nj hi hD hg hgo hd (.put hp) (by simp only[mP.cost];omega) rfl aH Xq (λx hx=>hx) trivial (λhx=>ab) (λ_=>ab) (.inr rfl)
 .obtain⟨g',w',es,hgo,hp,hn⟩:=cW G.w (aO.refl _ _) h.I;exact h.QW hR cr hS nj hi hg hgo hp hd (by rw[hD];exact .iO hn) (by rw[hD];simp) (by rw[hr];exact⟨_,rfl⟩)
theorem Inv.aaQ (hR:p.jo)(cr:Geo p ax)(hS:∀l,ax l->l.low cm)(nj:∀Ro M g W,Anch Ro M g W->g.status=.running)(h:p.Inv ax cm Fin Anch G t)(hi:i<G.j){g:Goroutine}{seq:List Nat}(hD:G.D i=.put seq)
  (hg:G.gs[p.J+i]?=some g)(hd:Deaf t (p.J+i)=0)(hs:PT p.P false p.I mU (G.Ro (i+1)) (p.yu i seq) (G.R (p.J+i)) (G.M (i+1)) g G.w):
  ∃ab5 ops μ',runT p.P (crowd G.gs G.w G.sl) (p.J+i)=(.next ab5,ops)/\Lt4 p μ' (G.μ p)/\p.mc ax cm Fin Anch μ' ab5 (t++ops):=by
 have fa:=h.fact i hi;rw[hD]at fa;rcases hs.cases with dl|⟨fr,hr,QI,cW⟩
 .obtain⟨_,dJ⟩:=dl G.w (aO.refl _ _) h.I;obtain⟨g',w',es,vs,hgo,sj,lW,Mr,C,c,v,m,uT,H',hC,Sm,hGo⟩:=dJ h.bs;have JP:grow (G.M (i+1)) G.w w'=G.M (i+1):=cD sj.size;have S1:∀e∈es,MemAct.ofEvent e=.access e/\∃a:Addr,e.loc=.cell a/\e.sync=false:=λe he=>by
   obtain⟨h1,a,h2,_⟩:=lW e he;obtain⟨loc,wr,sy⟩:=e;simp only at h1 h2;subst h1 h2;exact⟨rfl,a,rfl,rfl⟩
  have Am:∀e∈es,∀x,(MemAct.ofEvent e).touch?=some x->x.kind=.plain/\p.ri i x.loc:=λe he x hx=>by
   obtain⟨h1,a,h2,h3,h4,h5⟩:=lW e he;rw[(S1 e he).1]at hx;simp only[MemAct.touch?,h1,Option.some.injEq]at hx;subst hx;exact⟨rfl,a,h2,h3,h4,h5⟩
  have Lb:deafBehind (Deaf t (p.J+i)) es=0:=by
   rw[hd];refine deafBehind_still (λe he=>?_) 0;obtain⟨_,a,h2,_⟩:=S1 e he;rw[h2];exact⟨aH,aH⟩
  have ks:∀b,b≠p.Bs->w'.heap[b]?=G.w.heap[b]?:=sj.block;obtain⟨cs,hcs⟩:=h.bs;obtain⟨cs',K9,hcell⟩:=sj.put cs hcs;have uniq:∀{w:World} {a b:Array Value},p.qc a w->p.qc b w->a=b:=λh1 h2=>by
   have:=h1.1.symm.trans h2.1;simpa using this
  have Xn:p.Slot i vs w':=by
   refine⟨sj.len,λd hd o ho=>?_⟩;obtain rfl:=uniq hd K9;rw[hcell,if_pos (by
    constructor;· omega
    .rw[Nat.add_mul];omega)]
   congr 1;omega
  have UQ:∀k,k≠i->∀vs,p.Slot k vs G.w->p.Slot k vs w':=by
   intro k hk vs hs;refine⟨hs.1,λd hd o ho=>?_⟩;obtain rfl:=uniq hd K9;rw[hcell,if_neg,hs.2 cs hcs o ho];intro ⟨h1,h2⟩;have a1:i*p.wd<(k+1)*p.wd:=by rw[Nat.add_mul k];omega
   have a2:k*p.wd<(i+1)*p.wd:=ab;have b1:=Nat.lt_of_mul_lt_mul_right a1;have b2:=Nat.lt_of_mul_lt_mul_right a2;omega
  have wl:(bH G.D i).stage=7:=by simp only[bH,hD];rfl
  have ei:p.J+i-p.J=i:=ab;refine h.stepW hR cr hS nj hi (pl':=.lib 7 seq vs Mr) (ρ':=Rk.nat m) hg hgo (by rw[sj.size];exact ack _) (λb _ _ hn=>ks b λe=>hn (.inr (.inr e))) ?_ (λop bf=>?_) (λop bf=>?_) (h.wg.of_block (ks _ cr.wb)) (h.tk.of_block (ks _ cr.tb)) ⟨cs',K9⟩
   (λtag' ht _=>kg h.mode ht wl) ⟨fa.seq,trivial,λ_=>fa.out rfl,λs sq v' Mr' e=>?_⟩ UQ (ack _) (λx _ h1 h2=>ab) (λx hx=>by rw[hD]at hx;exact hx) ?_ (.inl ⟨by rw[hD];simp[mP.cost],by rw[hD];exact ack _⟩)
  .rw[Lb,JP];exact .lib hC Sm (@WSit.r0 p.pl _ _ _ _ _ _ _ _ _ _ _ _ _ hGo)
  .obtain⟨e,he,rfl⟩:=Go.Conc.mem_ofEvents bf;refine⟨rfl,λx hx=>.inr (.inl ⟨Nat.le_add_right _ _,.inr ?_⟩)⟩;rw[ei];exact(Am e he x hx).2
  .obtain⟨e,he,rfl⟩:=Go.Conc.mem_ofEvents bf;refine⟨λx hx=>?_,λx hx=>?_,λhx=>?_,λ_ x hx hk=>?_⟩
   .obtain⟨_,a,e1,_⟩:=Am e he x hx;rw[e1];rfl
   .obtain⟨_,a,e1,e2,_⟩:=Am e he x hx;rw[e1];show a.block<_;rw[e2,sj.size];exact h.io.on _ (.inr (.inr rfl))
   .have:=Go.ConcR.loc_of_ofEvent hx;obtain⟨_,a,h2,_⟩:=S1 e he;rw[h2]at this;cases this
   .rw[(Am e he x hx).1]at hk;cases hk
  .cases e;exact⟨Xn,⟨uT,by rw[JP];exact H'⟩,λh6=>absurd h6 ab⟩
  .have e:sumTo G.j (λk=>(upd G.D i (.lib 7 seq vs Mr) k).cY)+(G.D i).cY=sumTo G.j (λk=>(G.D k).cY)+1:=sumTo_upd G.D (.lib 7 seq vs Mr) mP.cY hi;have e0:(G.D i).cY=1:=by rw[hD];rfl
   have:=h.bound;omega
 .obtain⟨g',w',es,hgo,hp,hn⟩:=cW G.w (aO.refl _ _) h.I;exact h.QW hR cr hS nj hi hg hgo hp hd (by rw[hD];exact .put hn) (by rw[hD];simp) (by rw[hr];exact⟨_,rfl⟩)
end Ph
end
section
open Conc
open ConcN (CT Apart Ok0 OkW RelBy PermW sumTo sumTo_upd sumTo_upd_out sumTo_congr sumTo_le le_sumTo upd WgLive RW DWs AtR0 WSit CTag WD Vc Vc_le Vc_upd cnt pend phi phi_mono phi_retag PayAt Has upd_same upd_ne get_map_set get_map_set_same OpenSt others_uncounted)
open ConcR (stA smA WgAt KK rd wr g_of_ofEvents Bk bk_of_mute)
namespace Ph
variable {p:Ph}{ax:Loc->Prop}{cm:Nat}{Fin Anch:(Nat->Prop)->(Nat->Prop)->Goroutine->World->Prop}{G:Gh}{t:Trace}{i:Nat}
theorem EvS.XW {e:Event}(h:Bk p.Wg e):p.EvS e:=by
 rcases h with h|h|⟨a,wr,rfl,h⟩
 .exact .inl ⟨_,h,.inl rfl⟩
 .exact .inl ⟨_,h,.inr (.inl rfl)⟩
 .exact .inr ⟨a,wr,rfl,.inl h⟩
theorem RX {a b:Nat}(h:a<=b):cnt ⟨a,0,0⟩<=cnt ⟨b,0,0⟩:=by
 unfold cnt;split<;>split<;>simp_all
 omega
theorem Inv.Kn (hR:p.jo)(cr:Geo p ax)(hS:∀l,ax l->l.low cm)(nj:∀Ro M g W,Anch Ro M g W->g.status=.running)(h:p.Inv ax cm Fin Anch G t)(hi:i<G.j){g g':Goroutine}{w':World}{es:Array Event}{s s':Nat}{seq:List Nat}{vs:List Value}{Mr:Nat->Prop}{ρ':Rk}{Bp Bo:Int}(hD:G.D i=.lib s seq vs Mr)
  (hg:G.gs[p.J+i]?=some g)(hgo:stepG p.P false g G.w=.go g' w' es)(hA:Aside p.Wg G.w w')(jH:WgAt p.ty p.Wg w' Bp Bo)(lW:∀e∈es,p.EvS e)(hrel:s'<=6->∃r,RelBy (stA p.Wg) (t++MemOp.ofEvents (p.J+i) g.frame.fn g.frame.place es) (p.J+i) r)
  (lZ:p.WS i (G.Ro (i+1)) (.lib s' seq vs Mr) ρ' (deafBehind (Deaf t (p.J+i)) es) (G.M (i+1)) g' w')
  (rY:∀tag',(tag'=G.tag\/(G.tag=.blk/\tag'=.w3))->(mayWake p.P g=true->g'.status=.running->tag'≠.blk)->Go.ConcN.Mode G.j (upd (bH G.D) i ⟨s',0,0⟩) tag' Bp Bo)
  (aI:s'<s\/(s'=s/\Rk.lt ρ' (G.R (p.J+i)))):
  ∃ab5 ops μ',runT p.P (crowd G.gs G.w G.sl) (p.J+i)=(.next ab5,ops)/\Lt4 p μ' (G.μ p)/\p.mc ax cm Fin Anch μ' ab5 (t++ops):=by
 have fa:=h.fact i hi;rw[hD]at fa;obtain⟨f1,f2,_⟩:=fa.lib s seq vs Mr rfl;have JP:grow (G.M (i+1)) G.w w'=G.M (i+1):=cD hA.size;obtain⟨cs,hcs⟩:=h.bs;have hB:=hA.block _ (Ne.symm cr.wb);refine h.stepW hR cr hS nj hi (pl':=.lib s' seq vs Mr) hg hgo (by rw[hA.size];exact ack _) (λb _ _ hn=>hA.block b λe=>hn (.inl e)) (by rw[JP];exact lZ) (CO lW) (pV (by rw[hA.size];exact h.io.on _ (.inl rfl)) (by rw[hA.size];exact h.io.on _ (.inr (.inl rfl))) lW) jH (h.tk.of_block (hA.block _ (Ne.symm cr.wt))) ⟨cs,hcs.of_block hB⟩
  rY ⟨fa.seq,trivial,λ_=>fa.out rfl,λaaY sq ab7 fN e=>?_⟩ (λk _ vs hs=>hs.of_block hB) (ack _) (λx _ h1 h2=>ab) (λx hx=>by rw[hD]at hx;exact hx) ?_ ?_
 .cases e;exact⟨f1.of_block hB,⟨hR _ _ _ _ _ f2.1 ⟨λb hb=>hA.block b λe=>(h.io.sp (i+1) b (.inl e)).1 (f2.2 b hb),by rw[hA.size];exact ack _,hA.os,hA.output⟩,by rw[JP];exact f2.2⟩,hrel⟩
 .have e:sumTo G.j (λk=>(upd G.D i (.lib s' seq vs Mr) k).cY)+(G.D i).cY=sumTo G.j (λk=>(G.D k).cY)+1:=sumTo_upd G.D (.lib s' seq vs Mr) mP.cY hi;have e0:(G.D i).cY=1:=by rw[hD];rfl
  have:=h.bound;omega
 .rw[hD];rcases aI with h1|⟨h1,h2⟩
  .exact .inl ⟨h1,RX (acE h1)⟩
  .exact .inr ⟨h1,h1,h2⟩
theorem Inv.aaI (hR:p.jo)(cr:Geo p ax)(hS:∀l,ax l->l.low cm)(nj:∀Ro M g W,Anch Ro M g W->g.status=.running)(hn:p.n<2147483647)(h:p.Inv ax cm Fin Anch G t)(hi:i<G.j){g:Goroutine}{s m d C c:Nat}{v:Value}{seq:List Nat}{vs:List Value}{Mr:Nat->Prop}(hD:G.D i=.lib s seq vs Mr)
  (hg:G.gs[p.J+i]?=some g)(dW:g.status=.running)(hd:Deaf t (p.J+i)=d)(hC:G.M (i+1) C)(Sm:¬Mr C)(hRm:G.R (p.J+i)=Rk.nat m)(hpd:G.j+pend G.tag<=p.n)(hs:@WSit p.pl p.P p.ty p.Wg C c (λ_ _=>False) (λ_ _=>False) 0 1 v s m d g G.w):
  ∃ab5 ops μ',runT p.P (crowd G.gs G.w G.sl) (p.J+i)=(.next ab5,ops)/\Lt4 p μ' (G.μ p)/\p.mc ax cm Fin Anch μ' ab5 (t++ops):=by
 letI:=p.pl;have fa:=h.fact i hi;rw[hD]at fa;obtain⟨f1,f2,f3⟩:=fa.lib s seq vs Mr rfl;have wl:(bH G.D i).stage=s:=by simp only[bH,hD];rfl
 have S4:∀m',m'+1=m->Rk.lt (Rk.nat m') (G.R (p.J+i)):=λm' e=>by rw[hRm,<-e];exact Rk.LR m' G.w
 have QH:∀{es:Array Event},s<=6->(∀e∈es,Bk p.Wg e)->(∀jx e,es[jx]?=some e->(MemAct.ofEvent e).touch?=none\/0<deafBehind d (es.extract 0 jx))->∃r,RelBy (stA p.Wg) (t++MemOp.ofEvents (p.J+i) g.frame.fn g.frame.place es) (p.J+i) r:=
  λh6 hb hx=>let⟨r,hr⟩:=f3 h6;⟨r,hr.book hd _ _ hb hx⟩
 have hVj:=Vc_le G.j (bH G.D);have idle:∀{g':Goroutine} {m':Nat},stepG p.P false g G.w=.go g' G.w #[]->@WSit p.pl p.P p.ty p.Wg C c (λ_ _=>False) (λ_ _=>False) 0 1 v s m' d g' G.w->m'+1=m->s<=6->
   ∃ab5 ops μ',runT p.P (crowd G.gs G.w G.sl) (p.J+i)=(.next ab5,ops)/\Lt4 p μ' (G.μ p)/\p.mc ax cm Fin Anch μ' ab5 (t++ops):=by
  intro g' m' hgo lZ hm h6;exact h.Kn hR cr hS nj hi hD hg hgo (.refl _ _) h.wg aH (λ_=>QH h6 aH aH) (ρ':=Rk.nat m') (by rw[hd];exact .lib hC Sm lZ) (λtag' ht _=>kg h.mode ht wl) (.inr ⟨rfl,S4 m' hm⟩)
 have book:∀{g':Goroutine} {w':World} {es:Array Event} {s' m' dd':Nat} {Bp Bo:Int},stepG p.P false g G.w=.go g' w' es->Aside p.Wg G.w w'->WgAt p.ty p.Wg w' Bp Bo->(∀e∈es,Bk p.Wg e)->
   (∀jx e,es[jx]?=some e->(MemAct.ofEvent e).touch?=none\/0<deafBehind d (es.extract 0 jx))->@WSit p.pl p.P p.ty p.Wg C c (λ_ _=>False) (λ_ _=>False) 0 1 v s' m' dd' g' w'->deafBehind d es=dd'->s<=6->
   (∀tag',(tag'=G.tag\/(G.tag=.blk/\tag'=.w3))->(mayWake p.P g=true->g'.status=.running->tag'≠.blk)->Go.ConcN.Mode G.j (upd (bH G.D) i ⟨s',0,0⟩) tag' Bp Bo)->(s'<s\/(s'=s/\m'+1=m))->
   ∃ab5 ops μ',runT p.P (crowd G.gs G.w G.sl) (p.J+i)=(.next ab5,ops)/\Lt4 p μ' (G.μ p)/\p.mc ax cm Fin Anch μ' ab5 (t++ops):=by
  intro g' w' es s' m' dd' Bp Bo hgo hA jH np OJ lZ hdd h6 rY aI;exact h.Kn hR cr hS nj hi hD hg hgo hA jH (λe he=>.XW (np e he)) (λ_=>QH h6 np OJ) (ρ':=Rk.nat m') (by rw[hd,hdd];exact .lib hC Sm lZ) rY (aI.imp id λx=>⟨x.1,S4 m' x.2⟩)
 have U2:∀{x:WD} {a:Nat},a≠i->(upd (bH G.D) i x a)=bH G.D a:=λe=>upd_ne _ _ e
 cases hs with
 |r0 hw=>
  rcases Goes.cases hw with dl|⟨m',rfl,cW⟩
  .obtain⟨_,abr,g',hgo,ab6,hk⟩:=dl G.w (RW.refl G.w);exact h.Kn hR cr hS nj hi hD hg hgo (.refl _ _) h.wg (by intro e he;simp at he;subst he;exact .inl ⟨_,rfl,.inr (.inr (.inl ⟨_,rfl⟩))⟩) (λ_=>⟨t.size,RelBy.new hd _ _⟩) (ρ':=Rk.nat ab6) (by rw[hd];exact .lib (v:=v) hC Sm (.k1 hk)) (λtag' ht _=>(h.mode.counted hi ab (.inl rfl) 0 0).retag ht) (.inl ab)
  .obtain⟨g',w',es,hgo,⟨Iq,lW⟩,rV⟩:=cW G.w (RW.refl G.w);have hCs:∀b,p.Sp b->b≠C:=λb hb e=>(h.io.sp (i+1) b hb).1 (e▸hC)
   have ks:∀b,p.Sp b->w'.heap[b]?=G.w.heap[b]?:=λb hb=>Iq.block b (hCs b hb)
   have JP:grow (G.M (i+1)) G.w w'=G.M (i+1):=cD Iq.size;have Lb:deafBehind (Deaf t (p.J+i)) es=0:=by rw[hd];exact deafBehind_still (λe he=>⟨(lW e he).2.1,(lW e he).2.2.1⟩) 0
   have ht:∀e∈es,∀x,(MemAct.ofEvent e).touch?=some x->Go.ConcN.ShN p.Wg x.loc/\x.kind≠.plain/\x.kind≠.said:=λe he x hx=>by
    rcases((lW e he).1 0 "").2 x hx with h1|h1|h1
    .exact h1
    .exact h1.elim
    .exact h1.1.elim
   obtain⟨cs,hcs⟩:=h.bs;have hB:=ks p.Bs (.inr (.inr rfl));refine h.stepW hR cr hS nj hi (pl':=.lib 7 seq vs Mr) (ρ':=Rk.nat m') hg hgo (by rw[Iq.size];exact ack _) (λb _ hb _=>Iq.block b λe=>hb (e▸hC)) (by rw[JP,Lb];exact .lib hC Sm (.r0 rV)) (λop bf=>?_) (λop bf=>?_) (h.wg.of_block (ks _ (.inl rfl))) (h.tk.of_block (ks _ (.inr (.inl rfl)))) ⟨cs,hcs.of_block hB⟩
    (λtag' ht _=>kg h.mode ht wl) ⟨fa.seq,trivial,λ_=>fa.out rfl,λaaY sq ab7 fN e=>?_⟩ (λk _ vs hs=>hs.of_block hB) (ack _) (λx _ h1 h2=>ab) (λx hx=>by rw[hD]at hx;exact hx) ?_ (.inr ⟨by rw[hD],by rw[hD],S4 m' rfl⟩)
   .obtain⟨e,he,rfl⟩:=Go.Conc.mem_ofEvents bf;exact⟨rfl,λx hx=>let⟨⟨a,h1,h2⟩,h3⟩:=ht e he x hx;.inl ⟨.inr ⟨a,h1,.inl h2⟩,h3⟩⟩
   .obtain⟨e,he,rfl⟩:=Go.Conc.mem_ofEvents bf;refine⟨λx hx=>?_,λx hx=>?_,λhx=>(lW e he).2.2.2 (Go.ConcR.loc_of_ofEvent hx),λ_ x hx _=>?_⟩
    .obtain⟨⟨a,h1,h2⟩,_⟩:=ht e he x hx;rw[h1];rfl
    .obtain⟨⟨a,h1,h2⟩,_⟩:=ht e he x hx;rw[h1];show a.block<_;rw[h2,Iq.size];exact h.io.on _ (.inl rfl)
    .obtain⟨⟨a,h1,h2⟩,_⟩:=ht e he x hx;exact .inr ⟨a,h1,.inl h2⟩
   .cases e;exact⟨f1.of_block hB,⟨hR _ _ _ _ _ f2.1 ⟨λb hb=>Iq.block b λe=>Sm (e▸hb),by rw[Iq.size];exact ack _,Iq.os,Iq.output⟩,by rw[JP];exact f2.2⟩,λh6=>absurd h6 ab⟩
   .have e:sumTo G.j (λk=>(upd G.D i (.lib 7 seq vs Mr) k).cY)+(G.D i).cY=sumTo G.j (λk=>(G.D k).cY)+1:=sumTo_upd G.D (.lib 7 seq vs Mr) mP.cY hi;have e0:(G.D i).cY=1:=by rw[hD];rfl
    have:=h.bound;omega
 |k1 hw=>
  rcases Goes.cases hw with dl|⟨m',rfl,cW⟩
  .obtain⟨_,g',hgo,ab6,hk⟩:=dl G.w (RW.refl G.w);exact book hgo (.refl _ _) h.wg (by intro e he;simp at he;subst he;exact .inl rfl) (by intro jx e he;exact .inl (by have:=Array.mem_of_getElem? he;simp at this;subst this;rfl)) (.d1 hk) rfl ab (λtag' ht _=>(h.mode.counted hi ab (.inr rfl) 0 0).retag ht) (.inl ab)
  .obtain⟨g',w',es,hgo,⟨rfl,rfl⟩,rV⟩:=cW G.w (RW.refl G.w);exact idle hgo (.k1 rV) rfl ab
 |d1 hw=>
  rcases Goes.cases hw with dl|⟨m',rfl,cW⟩
  .obtain⟨_,cP⟩:=dl G.w (RW.refl G.w);have kJ:cnt (bH G.D i)=1:=by simp[cnt,wl]
   have VT:1<=Vc G.j (bH G.D):=by have:=le_sumTo (f:=λx=>cnt (bH G.D x)) hi;simp only[Vc];omega
   have bk2:∀e∈#[rd (stA p.Wg),wr (stA p.Wg)],Bk p.Wg e:=by intro e he;simp at he;rcases he with rfl|rfl<;>exact Go.ConcN.bk_cell _ _ rfl
   have i_:∀jx e,(#[rd (stA p.Wg),wr (stA p.Wg)]:Array Event)[jx]?=some e->(MemAct.ofEvent e).touch?=none\/0<deafBehind 1 ((#[rd (stA p.Wg),wr (stA p.Wg)]:Array Event).extract 0 jx):=by
    intro jx e he;match jx,he with
    |0,_=>exact .inr (by simp[deafBehind])
    |1,_=>exact .inr (by simp[deafBehind,rd])
    |jx+2,he=>simp at he
   have O':∀x:WD,cnt x=0->Vc G.j (upd (bH G.D) i x)+1=Vc G.j (bH G.D):=λx hx=>by have:=Vc_upd (bH G.D) x hi;omega
   have opq:OpenSt G.j (bH G.D)->OpenSt G.j (upd (bH G.D) i ⟨1,0,0⟩):=λh a ha=>by
    by_cases e:a=i
    .subst e;rw[upd_same];simp
    .rw[upd_ne _ _ e];exact h a ha
   have hm:=h.mode;have hw:=h.wg;generalize htg:G.tag=tg at hm hpd;generalize dJ:G.st=st at hm hw;generalize Zo:G.sm=sm at hm hw;cases hm with
   |opn h1 h2 h3=>
    obtain⟨v,hv⟩:∃v,Vc G.j (bH G.D)+pend tg=v+1:=⟨Vc G.j (bH G.D)+pend tg-1,ab⟩;rw[hv]at hw;have Nu:WgAt p.ty p.Wg G.w (((v:Nat)+1)*KK+((0:Nat):Int)) 0:=by simpa using hw
    obtain⟨g',hgo,_,hq⟩:=cP v 0 ab ab Nu;obtain⟨q,hq⟩:=hq ab;have DZ:Vc G.j (upd (bH G.D) i ⟨1,0,0⟩)+pend tg=v:=by have:=O' ⟨1,0,0⟩ rfl;omega
    refine book hgo (aside_setCell G.w (stA p.Wg) _) (hw.setSt _) bk2 i_ (.quit hq) rfl ab (λtag' ht _=>Go.ConcN.Mode.retag ?_ ht) (.inl ab);have e:((v:Nat):Int)*KK+((0:Nat):Int)=((Vc G.j (upd (bH G.D) i ⟨1,0,0⟩)+pend tg:Nat):Int)*KK:=by rw[DZ];simp
    rw[htg,e];exact .opn h1 (opq h2) (λvs ev=>by have:=h3 vs ev;have:=O' ⟨1,0,0⟩ rfl;omega)
   |reg h1 h2 h3=>
    obtain⟨v,hv⟩:∃v,Vc G.j (bH G.D)=v+1:=⟨Vc G.j (bH G.D)-1,ab⟩;rw[hv]at hw;have Nu:WgAt p.ty p.Wg G.w (((v:Nat)+1)*KK+((1:Nat):Int)) 0:=by simpa using hw
    obtain⟨g',hgo,hl,hq⟩:=cP v 1 ab ab Nu;by_cases Zr:v=0
    .subst Zr;obtain⟨ab6,hk⟩:=hl ⟨rfl,rfl⟩;refine book hgo (aside_setCell G.w (stA p.Wg) _) (hw.setSt _) bk2 i_ (.d2 hk) rfl ab (λtag' ht _=>Go.ConcN.Mode.retag ?_ ht) (.inl ab);have E3:∀a,a<G.j->a≠i->(bH G.D a).stage=1:=λa ha e=>by
      have c0:=others_uncounted hi hv kJ a ha e;have:=h2 a ha;simp only[cnt]at c0;split at c0<;>omega
     have:=Go.ConcN.Mode.last (j:=G.j) (D:=upd (bH G.D) i ⟨4,0,0⟩) (tag:=tg) i h1 hi (by rw[upd_same];simp) (λa ha e=>by rw[upd_ne _ _ e];exact E3 a ha e);rw[upd_same]at this;rw[htg];simpa using this
    .obtain⟨q,hq⟩:=hq ab;have DZ:Vc G.j (upd (bH G.D) i ⟨1,0,0⟩)=v:=by have:=O' ⟨1,0,0⟩ rfl;omega
     refine book hgo (aside_setCell G.w (stA p.Wg) _) (hw.setSt _) bk2 i_ (.quit hq) rfl ab (λtag' ht _=>Go.ConcN.Mode.retag ?_ ht) (.inl ab);have e:((v:Nat):Int)*KK+((1:Nat):Int)=((Vc G.j (upd (bH G.D) i ⟨1,0,0⟩):Nat):Int)*KK+1:=by rw[DZ];simp
     rw[htg,e];exact .reg h1 (opq h2) ab
   |last L _ h2 h3 h4=>
    by_cases e:i=L
    .subst e;omega
    .have:=h4 i hi e;omega
   |sema h2=>have:=h2 i hi;omega
   |fin _ h2=>have:=h2 i hi;omega
  .obtain⟨g',w',es,hgo,⟨rfl,rfl⟩,rV⟩:=cW G.w (RW.refl G.w);exact idle hgo (.d1 rV) rfl ab
 |d2 hw=>
  rcases Goes.cases hw with dl|⟨m',rfl,cW⟩
  .obtain⟨_,hx⟩:=dl G.w (RW.refl G.w);obtain⟨UA,E3,e1,e2⟩:=h.mode.isLast hi ab;have jH:=h.wg;rw[e1,e2,wl]at jH;obtain⟨g',hgo,ab6,hk⟩:=hx (by simpa using jH);refine book hgo (.refl _ _) jH (by intro e he;simp at he;subst he;exact Go.ConcN.bk_cell _ _ rfl) (by intro jx e he;match jx,he with|0,_=>exact .inr (by simp[deafBehind])|jx+1,he=>simp at he) (.d3 hk) rfl ab (λtag' ht _=>Go.ConcN.Mode.retag ?_ ht) (.inl ab);have:=Go.ConcN.Mode.last (j:=G.j) (D:=upd (bH G.D) i ⟨3,0,0⟩) (tag:=G.tag) i UA hi (by rw[upd_same];simp) (λa ha e=>by rw[upd_ne _ _ e];exact E3 a ha e);rw[upd_same]at this;simpa using this
  .obtain⟨g',w',es,hgo,⟨rfl,rfl⟩,rV⟩:=cW G.w (RW.refl G.w);exact idle hgo (.d2 rV) rfl ab
 |d3 hw=>
  rcases Goes.cases hw with dl|⟨m',rfl,cW⟩
  .obtain⟨_,hx⟩:=dl G.w (RW.refl G.w);obtain⟨UA,E3,e1,e2⟩:=h.mode.isLast hi ab;have jH:=h.wg;rw[e1,e2,wl]at jH;obtain⟨g',hgo,ab6,hk⟩:=hx (by simpa using jH);refine book hgo (aside_setCell G.w (stA p.Wg) _) (jH.setSt 0) (by intro e he;simp at he;subst he;exact Go.ConcN.bk_cell _ _ rfl) (by intro jx e he;match jx,he with|0,_=>exact .inr (by simp[deafBehind])|jx+1,he=>simp at he) (.d4 hk) rfl ab (λtag' ht _=>Go.ConcN.Mode.retag ?_ ht) (.inl ab);have:=Go.ConcN.Mode.last (j:=G.j) (D:=upd (bH G.D) i ⟨2,0,0⟩) (tag:=G.tag) i UA hi (by rw[upd_same];simp) (λa ha e=>by rw[upd_ne _ _ e];exact E3 a ha e);rw[upd_same]at this;simpa using this
  .obtain⟨g',w',es,hgo,⟨rfl,rfl⟩,rV⟩:=cW G.w (RW.refl G.w);exact idle hgo (.d3 rV) rfl ab
 |d4 hw=>
  rcases Goes.cases hw with dl|⟨m',rfl,cW⟩
  .obtain⟨_,hmw,hx⟩:=dl G.w (RW.refl G.w);obtain⟨UA,E3,e1,e2⟩:=h.mode.isLast hi ab;have jH:=h.wg;rw[e1,e2,wl]at jH;obtain⟨g',hgo,q,hq⟩:=hx (by simpa using jH);have Xm:g'.status=.running:=by
    cases q with
    |zero=>exact absurd hq.2 bK
    |succ q=>exact hq.elim (λx=>absurd x.2 bK) (λx=>x.1)
   refine book hgo (aside_setCell G.w (smA p.Wg) _) (jH.setSm 1) (es:=semEvents (smA p.Wg)) ?_ ?_ (.quit hq) (by simp[deafBehind,semEvents]) ab (λtag' ht Nv=>?_) (.inl ab)
   .intro e he;simp[semEvents]at he;rcases he with rfl|rfl|rfl|rfl
    .exact .inl rfl
    .exact Go.ConcN.bk_cell _ _ rfl
    .exact Go.ConcN.bk_cell _ _ rfl
    .exact .inr (.inl rfl)
   .intro jx e he;match jx,he with
    |0,he=>simp[semEvents]at he;subst he;exact .inl rfl
    |1,_=>exact .inr (by simp[deafBehind,semEvents])
    |2,_=>exact .inr (by simp[deafBehind,semEvents])
    |3,he=>simp[semEvents]at he;subst he;exact .inl rfl
    |jx+4,he=>simp[semEvents]at he
   .have S5:=Nv hmw Xm;have e3:tag'=.w3:=by
     rcases ht with ht|⟨_,ht⟩
     .rw[<-ht]at UA;cases tag'<;>first|rfl|exact UA.elim|exact absurd rfl S5
     .exact ht
    subst e3;simp only[if_true];exact .sema λa ha=>by
     by_cases e:a=i
     .subst e;rw[upd_same]
     .rw[upd_ne _ _ e];exact E3 a ha e
  .obtain⟨g',w',es,hgo,⟨rfl,rfl⟩,rV⟩:=cW G.w (RW.refl G.w);exact idle hgo (.d4 rV) rfl ab
 |quit hq=>
  cases m with
  |zero=>rw[hq.1]at dW;cases dW
  |succ q=>
   rcases hq with⟨hf,_⟩|⟨_,g',es,Qx,cW,hq⟩
   .rw[hf]at dW;cases dW
   .refine book (cW G.w) (.refl _ _) h.wg (λe he=>bk_of_mute (Qx e he)) (λjx e he=>.inl (touch_mute (Qx e (Array.mem_of_getElem? he)))) (.quit hq) rfl ab (λtag' ht _=>kg h.mode ht wl) (.inr ⟨rfl,rfl⟩)
end Ph
end
