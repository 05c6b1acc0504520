import Derived.Test.YtlmcblcijndipabGreatDoorAd07
import Derived.Conc.Beside
import Derived.Conc.CrowdRun
namespace Go.Proofs.YtlmcblcijndipabGreatDoor
open Go Go.Conc
variable [Gl]
section
variable {P0:Program}{ok:Ctx}{c:Frame}{Q:Value->World->Prop}
theorem pF.re (hP:bq P0 P0 ok)(hQ:∀v w τ d,Q v w->Q v (re w τ d)){s:St}(hs:cU P0 ok s)(h:pF P0 Q s)(τ:Nat->Question->Nat)(d:Nat):pF P0 Q (s.re τ d):=by
 obtain⟨h1,v,⟨l1,l2,l3,fn,l4,l5⟩,h2⟩:=h;obtain⟨ρ,r1,_,_,r4⟩:=hs;refine⟨h1,v,⟨l1,l2,l3,fn,l4,?_⟩,hQ _ _ _ _ h2⟩;have hR:=iy (P0:=P0) (P:=P0) (str:=true) hP.tab fn r1.tmps;generalize hx:(results fn s.fr.tmps).runT P0 s.V #[]=x;obtain⟨r,e1⟩:=x;have hr:r=.ok v s.V:=by
  have:=Sem.runT_fst P0 (results fn s.fr.tmps) s.V #[];rw[hx,l5]at this;exact this
 subst hr;rcases hR.shift #[] r4 hx with hst|⟨_,_,h3⟩
 .cases hst
 .have:=h3 τ d (by intro i hi;simp[dC]at hi);have h4:=Sem.runT_fst P0 (results fn s.fr.tmps) (Proofs.YtlmcblcijndipabGreatDoor.re s.V τ d) #[];rw[this]at h4;show(results fn s.fr.tmps).run P0 (Proofs.YtlmcblcijndipabGreatDoor.re s.V τ d)=.ok v (Proofs.YtlmcblcijndipabGreatDoor.re s.V τ d);rw[<-h4];simp[DU,dC,Proofs.YtlmcblcijndipabGreatDoor.re]
theorem tx.shift (hP:bq P0 P0 ok)(hin:∀f,ok.fn f=true->ok.inn f=true)(hQ:∀v w τ d,Q v w->Q v (re w τ d)):∀(n:Nat) {s:St},cU P0 ok s->tx P0 c Q n s->∀τ d,(∀i q,s.V.tape (s.V.drawn+i) q=τ (d+i) q)->tx P0 c Q n (s.re τ d):=by
 intro n;induction n with
 |zero=>intro s hs h τ d _;exact pF.re hP hQ hs h τ d
 |succ n ih=>
  intro s hs h τ d hA;obtain⟨s',h1,h2⟩:=h;obtain⟨k1,k2,k3⟩:=h1.sh hP hs;refine⟨_,k3 τ d (λi _ q=>hA i q),ih (h1.self hP hin hs) h2 τ _ λi q=>?_⟩;rw[k2];have:=hA (s'.V.drawn-s.V.drawn+i) q;rw[show s.V.drawn+(s'.V.drawn-s.V.drawn+i)=s'.V.drawn+i by omega]at this;rw[this];congr 1;omega
omit [Gl] in
theorem cI.det {s s1 s2:St}(h1:cI P0 c s s1)(h2:cI P0 c s s2):s1=s2:=by
 obtain⟨_,h1⟩:=h1;obtain⟨_,h2⟩:=h2;rw[h1]at h2;simp only[GStep.go.injEq]at h2;obtain⟨e,e2,_⟩:=h2;have e3:=congrArg Goroutine.frame e;have e4:=congrArg Goroutine.callers e;simp only[G]at e3 e4;replace e4:=GJ e4;obtain⟨a,b,d⟩:=s1;obtain⟨a',b',d'⟩:=s2;simp only at e2 e3 e4;subst e2 e3 e4;rfl
omit [Gl] in
theorem lZ {s:St}(hs:pF P0 Q s):pG s:=by
 obtain⟨h1,v,⟨l1,l2,_⟩,_⟩:=hs;exact⟨h1,by rw[l1];simp,l2⟩
theorem H.succ (hP:bq P0 P0 ok)(hin:∀f,ok.fn f=true->ok.inn f=true)(hQ:∀v w τ d,Q v w->Q v (re w τ d)){s s':St}(hs:cU P0 ok s)(hH:H P0 c Q s)(h:m8 P0 c s' s):H P0 c Q s'/\cU P0 ok s':=by
 obtain⟨τ,d,h⟩:=h;have hs1:=hs.re τ d;obtain⟨k1,k2,k3⟩:=h.sh hP hs1;have hself:=h.self hP hin hs1;refine⟨λτ' d'=>?_,hself⟩;have k1':d<=s'.V.drawn:=k1;let t2:Nat->Question->Nat:=λi q=>if i<s'.V.drawn then τ i q else τ' (d'+(i-s'.V.drawn)) q
 have hA:fU (s.re τ d).V.tape (s.re τ d).V.drawn t2 d (s'.V.drawn-(s.re τ d).V.drawn):=by
  intro i hi q;show τ (d+i) q=t2 (d+i) q;simp only[t2];have hi':i<s'.V.drawn-d:=hi;rw[if_pos (by omega)]
 have h2:=k3 t2 d hA;obtain⟨n,hn⟩:=hH t2 d;have e1:(s.re τ d).re t2 d=s.re t2 d:=rfl;rw[e1]at h2;cases n with
 |zero=>exact absurd (lZ hn) (h2.inside hP (hs.re t2 d))
 |succ n=>
  obtain⟨s2,g1,g2⟩:=hn;have:=g1.det h2;subst this;refine⟨n,?_⟩;have e2:d+(s'.V.drawn-(s.re τ d).V.drawn)=s'.V.drawn:=by show d+(s'.V.drawn-d)=_;omega
  rw[e2]at g2;have:=tx.shift hP hin hQ n (hself.re t2 s'.V.drawn) g2 τ' d' (λi q=>by
   show t2 (s'.V.drawn+i) q=τ' (d'+i) q;simp only[t2];rw[if_neg (by omega)];congr 1;omega)
  exact this
omit [Gl] in
theorem ma {s:St}(h:¬Acc (m8 P0 c) s):∃f:Nat->St,f 0=s/\∀n,m8 P0 c (f (n+1)) (f n):=by
 have step:∀s:{s:St //¬Acc (m8 P0 c) s},∃s':{s:St //¬Acc (m8 P0 c) s},m8 P0 c s'.1 s.1:=by
  intro ⟨s,hs⟩;apply GL;intro hn;apply hs;refine⟨_,λy hy=>?_⟩;apply GL;intro hy';exact hn ⟨⟨y,hy'⟩,hy⟩
 let g:Nat->{s:St //¬Acc (m8 P0 c) s}:=λn=>Nat.rec ⟨s,h⟩ (λ_ x=>(step x).choose) n
 exact⟨λn=>(g n).1,rfl,λn=>(step (g n)).choose_spec⟩
omit [Gl] in
theorem tz (D:Nat->Nat)(hD:∀n,D n<=D (n+1))(t:Nat->Nat->Question->Nat):∃T:Nat->Question->Nat,∀n j q,D n+j<D (n+1)->T (D n+j) q=t n j q:=by
 have mono:∀n k,D n<=D (n+k):=by
  intro n k;induction k with
  |zero=>exact Gm _
  |succ k ih=>exact Gq ih (hD (n+k))
 have hmin:∀p,(∃n,p<D (n+1))->∃n,p<D (n+1)/\∀m,m<n->¬p<D (m+1):=by
  intro p ⟨n,hn⟩;induction n using Nat.strongRecOn with
  |ind n ih=>
   by_cases h:∃m,m<n/\p<D (m+1)
   .obtain⟨m,h1,h2⟩:=h;exact ih m h1 h2
   .exact⟨n,hn,λm hm hp=>h ⟨m,hm,hp⟩⟩
 classical
 refine⟨λp q=>if h:∃n,p<D (n+1)then t (hmin p h).choose (p-D (hmin p h).choose) q else 0,λn j q hj=>?_⟩;have h:∃n',D n+j<D (n'+1):=⟨n,hj⟩;simp only[dif_pos h];have hs:=(hmin (D n+j) h).choose_spec;have:(hmin (D n+j) h).choose=n:=by
  generalize (hmin (D n+j) h).choose=m at hs;rcases Nat.lt_trichotomy m n with hl|rfl|hg
  .have h1:=hs.1;have h2:=mono (m+1) (n-(m+1));rw[show m+1+(n-(m+1))=n by omega]at h2;omega
  .rfl
  .exact absurd hj (hs.2 n hg)
 rw[this];congr 1;omega
theorem zw (hP:bq P0 P0 ok)(hin:∀f,ok.fn f=true->ok.inn f=true)(hQ:∀v w τ d,Q v w->Q v (re w τ d)){s:St}(hs:cU P0 ok s)(hH:H P0 c Q s):Acc (m8 P0 c) s:=by
 apply GL;intro hn;obtain⟨f,f0,hf⟩:=ma hn;have all:∀n,H P0 c Q (f n)/\cU P0 ok (f n):=by
  intro n;induction n with
  |zero=>rw[f0];exact⟨hH,hs⟩
  |succ n ih=>exact H.succ hP hin hQ ih.2 ih.1 (hf n)
 let τ:Nat->Nat->Question->Nat:=λn=>(hf n).choose
 let d:Nat->Nat:=λn=>(hf n).choose_spec.choose
 have g:∀n,cI P0 c ((f n).re (τ n) (d n)) (f (n+1)):=λn=>(hf n).choose_spec.choose_spec
 let D:Nat->Nat:=λn=>Nat.rec 0 (λn x=>x+((f (n+1)).V.drawn-d n)) n
 have hD:∀n,D (n+1)=D n+((f (n+1)).V.drawn-d n):=λn=>rfl
 obtain⟨T,hT⟩:=tz D (λn=>by rw[hD];omega) (λn j q=>τ n (d n+j) q);have go:∀n,cI P0 c ((f n).re T (D n)) ((f (n+1)).re T (D (n+1))):=by
  intro n;obtain⟨_,_,k3⟩:=(g n).sh hP ((all n).2.re (τ n) (d n));have:=k3 T (D n) (λi hi q=>by
   show τ n (d n+i) q=T (D n+i) q;have hi':i<(f (n+1)).V.drawn-d n:=hi;rw[hT n i q (by rw[hD];omega)])
  rw[hD];exact this
 have none_:∀N n,¬tx P0 c Q N ((f n).re T (D n)):=by
  intro N;induction N with
  |zero=>intro n h;exact absurd (lZ h) ((go n).inside hP ((all n).2.re T (D n)))
  |succ N ih=>
   intro n h;obtain⟨s',h1,h2⟩:=h;have:=h1.det (go n);subst this;exact ih (n+1) h2
 obtain⟨N,hN⟩:=hH T 0;rw[<-f0]at hN;exact none_ N 0 hN
theorem H.step (hP:bq P0 P0 ok)(hin:∀f,ok.fn f=true->ok.inn f=true)(hQ:∀v w τ d,Q v w->Q v (re w τ d)){s:St}(hs:cU P0 ok s)(hH:H P0 c Q s)(τ:Nat->Question->Nat)(d:Nat):
  (pG s/\pF P0 Q (s.re τ d))\/(¬pG s/\∃s',cI P0 c (s.re τ d) s'/\m8 P0 c s' s/\H P0 c Q s'/\cU P0 ok s'):=by
 obtain⟨n,hn⟩:=hH τ d;cases n with
 |zero=>exact .inl ⟨lZ (s:=s.re τ d) hn,hn⟩
 |succ n=>
  obtain⟨s',h1,_⟩:=hn;have h2:=H.succ hP hin hQ hs hH ⟨τ,d,h1⟩;exact .inr ⟨λhe=>h1.inside hP (hs.re τ d) he,s',h1,⟨τ,d,h1⟩,h2⟩
omit [Gl] in
theorem iz {P:Program}{fr fr2:Frame}{cs cs2:List Frame}{w w2:World}{es:Array Event}(h:stepG P true (G fr cs) w=.go (G fr2 cs2) w2 es):step P (lone fr cs w)=.next (lone fr2 cs2 w2):=by
 refine step_lone_go ?_;have:({frame:=fr,callers:=cs,status:=.running,dying:=none}:Goroutine)=G fr cs:=rfl;rw[this,h];rfl
omit [Gl] in
theorem dv {P:Program}{fr:Frame}{cs:List Frame}{w w2:World}{o:Outcome}{es:Array Event}(h:stepG P true (G fr cs) w=.ended o w2 es):step P (lone fr cs w)=.ended o w2:=by
 refine step_lone_ended ?_;have:({frame:=fr,callers:=cs,status:=.running,dying:=none}:Goroutine)=G fr cs:=rfl;rw[this,h];rfl
omit [Gl] in
theorem je {fr fr2:Frame}{cs cs2:List Frame}{w w2:World}(h:lone fr cs w=lone fr2 cs2 w2):fr=fr2/\cs=cs2/\w=w2:=by
 simp only[lone,Machine.mk.injEq,Array.mk.injEq,List.cons.injEq,Goroutine.mk.injEq,and_true]at h;exact⟨h.2.1,h.2.2,h.1⟩
theorem uY (hP:bq P0 P0 ok)(hin:∀f,ok.fn f=true->ok.inn f=true)(hF:ff P0 c){frE:Frame}{wE:World}{v:Value}(hl:frE.leaving P0 wE (.returned v))(hq:Q v wE):
  ∀(n:Nat) {s:St},cU P0 ok s->runN P0 n (lone s.fr (s.cs++[c]) s.V)=.next (lone frE [c] wE)->∃k,tx P0 c Q k s:=by
 intro n;induction n with
 |zero=>
  intro s hs h;simp only[runN,Stepped.next.injEq]at h;obtain⟨e1,e2,e3⟩:=je h;have e2:s.cs=[]:=by
   have:=congrArg List.length e2;simpa using this
  refine⟨0,e2,v,?_,?_⟩
  .rw[e1,e3];exact hl
  .rw[e3];exact hq
 |succ n ih=>
  intro s hs h;obtain⟨ρ,h1,h2,h3,h4⟩:=hs;have hs:cU P0 ok s:=⟨ρ,h1,h2,h3,h4⟩;have hk:(∃g2 V2 es,stepG P0 true (G s.fr (s.cs++[c])) s.V=.go g2 V2 es)\/∃o w es,stepG P0 true (G s.fr (s.cs++[c])) s.V=.ended o w es:=by
   cases hcs:s.cs++[c]with
   |nil=>simp at hcs
   |cons a l=>exact(ru (m:=true) (c:=a) (cs:=l) hP h1 h4).1
  simp only[runN]at h;rcases hk with⟨g2,V2,es,hg⟩|⟨o,w,es,hg⟩
  .by_cases he:pG s
   .exfalso;have fin:∀fr2,g2=G fr2 []->(∀w,∃o w' es,stepG P0 true (G fr2 []) w=.ended o w' es)->False:=by
     intro fr2 e hend;subst e;rw[iz hg]at h;simp only at h;cases n with
     |zero=>
      simp only[runN,Stepped.next.injEq]at h;obtain⟨_,e2,_⟩:=je h;cases e2
     |succ n=>
      obtain⟨o,w',es',hh⟩:=hend V2;simp only[runN,dv hh]at h;cases h
    rcases lY hP hs he hg with⟨v,e⟩|⟨ch,e⟩
    .exact fin _ e (hF.ret v)
    .exact fin _ e (hF.pan ch)
   .obtain⟨s',e1,e2,h5⟩:=p8 hP hin hs he hg;subst e1 e2;rw[iz hg]at h;obtain⟨k,hk⟩:=ih h5 h;exact⟨k+1,s',⟨es,hg⟩,hk⟩
  .rw[dv hg]at h;cases h
theorem uZ (hP:bq P0 P0 ok)(hin:∀f,ok.fn f=true->ok.inn f=true)(hF:ff P0 c){f:FuncId}{xs:Array Value}{V:World}(hs:cU P0 ok ⟨Frame.enter P0 f xs .normal,[],V⟩)
  (hC:∀τ d,Calls P0 f xs (re V τ d) λe w'=>∃v,e=.returned v/\Q v w'):H P0 c Q ⟨Frame.enter P0 f xs .normal,[],V⟩:=by
 intro τ d;obtain⟨e,w',fr,⟨v,rfl,hq⟩,⟨n,hn⟩,_,hl⟩:=hC τ d [c];exact uY hP hin hF hl hq n (hs.re τ d) hn
end
end Go.Proofs.YtlmcblcijndipabGreatDoor
namespace Go.Proofs.YtlmcblcijndipabGreatDoor
open Go Go.Conc
variable [Gl]
structure fq (P0 P:Program)(ok:Ctx)(str:Bool)(c:Frame)(rb:List Frame)(Q:Value->World->Prop)(ρ:Ren)(s:St)(g:Goroutine)(W:World):Prop where
 at_:∃fr' cs',g=G fr' (cs'++rb)/\bJ P ok ρ s.fr fr'/\eH P ok ρ s.cs cs'
 bot:lV s.fr s.cs
 w:aH ok str ρ (re s.V W.tape W.drawn) W
 self:cU P0 ok s
 h:H P0 c Q s
 acc:Acc (m8 P0 c) s
section
variable {P0 P:Program}{ok:Ctx}{str:Bool}{c:Frame}{rb:List Frame}{Q:Value->World->Prop}{ρ:Ren}{s:St}{g:Goroutine}{W Fe:World}
theorem fq.rely (h:fq P0 P ok str c rb Q ρ s g W)(hk:∀b d,ρ b=some d->Fe.heap[d]?=W.heap[d]?)(hn:Gl.n<=Fe.heap.size):fq P0 P ok str c rb Q ρ s g Fe:=by
 refine⟨h.at_,h.bot,⟨λb d hb=>?_,rfl,rfl,h.w.gV,hn⟩,h.self,h.h,h.acc⟩;obtain⟨o,o',h1,h2,h3⟩:=h.w.heap b d hb;exact⟨o,o',h1,(hk b d hb).trans h2,h3⟩
theorem fq.running (h:fq P0 P ok str c rb Q ρ s g W):g.status=.running:=by
 obtain⟨fr',cs',rfl,_⟩:=h.at_;rfl
theorem fq.step (hP0:bq P0 P0 ok)(hP:bq P0 P ok)(hin:∀f,ok.fn f=true->ok.inn f=true)(hQ:∀v w τ d,Q v w->Q v (re w τ d))(m:Bool){r0:Frame}{rest:List Frame}(hrb:rb=r0::rest)(h:fq P0 P ok str c rb Q ρ s g W):
  (∃σ v v' V' W' es,stepG P m g W=.go (G (r0.finish v') rest) W' es/\aj ok σ v v'/\Q v V'/\aH ok str σ V' W'/\eD ρ (re s.V W.tape W.drawn) W σ V' W'/\∀e∈es,iO σ (re s.V W.tape W.drawn) e)\/
  ∃σ s' g' W' es,stepG P m g W=.go g' W' es/\m8 P0 c s' s/\fq P0 P ok str c rb Q σ s' g' W'/\eD ρ (re s.V W.tape W.drawn) W σ s'.V W'/\∀e∈es,iO σ (re s.V W.tape W.drawn) e:=by
 obtain⟨fr',cs',rfl,hf,hc⟩:=h.at_;rcases h.h.step hP0 hin hQ h.self W.tape W.drawn with⟨he,hE⟩|⟨he,s',hgo,hsu,hH,hself⟩
 .left;obtain⟨e1,v,⟨l1,l2,l3,fn,l4,l5⟩,hq⟩:=hE;have e1:s.cs=[]:=e1;have l1:s.fr.mode=.returning:=l1;have l2:s.fr.defers=[]:=l2;have l5:(results fn s.fr.tmps).run P0 (re s.V W.tape W.drawn)=.ok v (re s.V W.tape W.drawn):=l5;have hc':cs'=[]:=by rw[e1]at hc;cases hc;rfl
  subst hc';have hd:fr'.defers=[]:=by have:=hf.defers;rw[l2]at this;generalize fr'.defers=x at this;cases this;rfl
  have hm:fr'.mode=.returning:=by have:=hf.mode;rw[l1]at this;generalize fr'.mode=x at this;cases this;rfl
  have l4:P.funcs[fr'.fn]?=some fn:=by
   obtain⟨F,cd,f1,f2,_⟩:=hP.same _ hf.inn;rw[hf.fn,f2,<-f1];exact l4
  generalize hx:(results fn s.fr.tmps).runT P0 (re s.V W.tape W.drawn) #[]=x;obtain⟨r,e⟩:=x;have hr:r=.ok v (re s.V W.tape W.drawn):=by
   have:=Sem.runT_fst P0 (results fn s.fr.tmps) (re s.V W.tape W.drawn) #[];rw[hx,l5]at this;exact this
  subst hr;rcases(iy (P0:=P0) (P:=P) (str:=str) hP.tab fn hf.tmps).sound #[] #[] h.w hx with hst|⟨σ,r',V',W',d',h1,h2,h4,h5⟩
  .cases hst
  .cases h2 with
   |@ok _ v' _ W' hv hw'=>
    refine⟨σ,v,v',_,W',seen P fr'.fn d',?_,hv,hq,hw',h4,λx hx=>h5 x (fe _ _ _ x hx)⟩;rw[eL (by rw[hm];simp)];have hk:=hf.kind';obtain⟨fn',tmps',todo',defers',mode',kind',roundOf'⟩:=fr';simp only at hd hm l4 hk h1⊢;subst hd hm hk hrb;simp only[unwind,l4,List.nil_append,h1,doReturn,GStep.after];simp[G]
 .right;obtain⟨es,hes⟩:=hgo;have hl:s.cs=[]->s.fr.mode≠.run->s.fr.defers≠[]:=λa b d=>he ⟨a,b,d⟩
  obtain⟨σ,g2,W2,es2,e,hg,hw,hk,hev⟩:=kT (lb:=[c]) (rb:=rb) (FV:=m) hP hf hc h.bot h.w hl hes;have key:∃fr2 cs2,g2=G fr2 (cs2++rb)/\bJ P ok σ s'.fr fr2/\eH P ok σ s'.cs cs2/\lV s'.fr s'.cs:=by
   generalize hz:G s'.fr (s'.cs++[c])=z at hg;cases hg with
   |@inside fr fr2 cs cs2 a1 a2 a3=>
    have z1:=congrArg Goroutine.frame hz;have z2:=congrArg Goroutine.callers hz;simp only[G]at z1 z2;replace z2:=GJ z2;subst z1 z2;exact⟨fr2,cs2,rfl,a1,a2,a3⟩
   |door a1 a2=>rw[hin _ a1]at a2;cases a2
  obtain⟨fr2,cs2,rfl,b1,b2,b3⟩:=key;refine⟨σ,s',_,W2,es2,e,hsu,⟨⟨fr2,cs2,rfl,b1,b2⟩,b3,⟨hw.heap,rfl,rfl,hw.gV,hw.gW⟩,hself,hH,h.acc.inv hsu⟩,hk,hev⟩
end
end Go.Proofs.YtlmcblcijndipabGreatDoor
namespace Go.Proofs.YtlmcblcijndipabGreatDoor
section
open Go Go.Conc
inductive Rk:Type
 |leaf
 |node (f:World->Rk)
def Rk.lt (r:Rk):Rk->Prop
 |.leaf=>False
 |.node f=>∃w,r=f w
theorem Rk.wf:WellFounded Rk.lt:=⟨λr=>by
 induction r with
 |leaf=>exact⟨_,λy h=>h.elim⟩
 |node f ih=>exact⟨_,λy ⟨w,e⟩=>e▸ih w⟩⟩
structure ax (S:Nat->Prop)(W Fe:World):Prop where
 block:∀b,S b->Fe.heap[b]?=W.heap[b]?
 size:W.heap.size<=Fe.heap.size
 os:Fe.os=W.os
 out:Fe.output=W.output
theorem ax.refl (S:Nat->Prop)(W:World):ax S W W:=⟨λ_ _=>rfl,Gm _,rfl,rfl⟩
theorem ax.trans {S:Nat->Prop}{W Fe Ff:World}(h:ax S W Fe)(h':ax S Fe Ff):ax S W Ff:=⟨λb hb=>(h'.block b hb).trans (h.block b hb),Gq h.size h'.size,h'.os.trans h.os,h'.out.trans h.out⟩
theorem ax.mono {S S':Nat->Prop}{W Fe:World}(h:ax S W Fe)(l:∀b,S' b->S b):ax S' W Fe:=⟨λb hb=>h.block b (l b hb),h.size,h.os,h.out⟩
def grow (M:Nat->Prop)(W W':World):Nat->Prop:=λb=>M b\/(W.heap.size<=b/\b<W'.heap.size)
def uw (X:Event->Prop)(M Ro:Nat->Prop)(e:Event):Prop:=
 (e.sync=false/\∃a,e.loc=.cell a/\(M a.block\/(Ro a.block/\e.write=false)))\/(e.sync=false/\∃r,e.loc=.obj r/\(M r\/(Ro r/\e.write=false)))\/(∃m,yY m=true/\e=⟨.mark m,false,true⟩)\/X e
structure bT (X:Event->Prop)(M Ro:Nat->Prop)(W W':World)(es:Array Event):Prop where
 keep:∀b,b<W.heap.size->¬M b->W'.heap[b]?=W.heap[b]?
 size:W.heap.size<=W'.heap.size
 tape:W'.tape=W.tape
 os:W'.os=W.os
 out:W'.output=W.output
 ev:∀e∈es,uw X (grow M W W') Ro e
section
variable (P:Program)(m:Bool)(I:World->Prop)(X:Event->Prop)(Ro:Nat->Prop)
def PT (Stop:(Nat->Prop)->Goroutine->World->Prop):Rk->(Nat->Prop)->Goroutine->World->Prop
 |.leaf,M,g,W=>∀Fe,ax (λb=>M b\/Ro b) W Fe->I Fe->Stop M g Fe
 |.node f,M,g,W=>(∀Fe,ax (λb=>M b\/Ro b) W Fe->I Fe->Stop M g Fe)\/
   (g.status=.running/\∀Fe,ax (λb=>M b\/Ro b) W Fe->I Fe->∃g' W' es,stepG P m g Fe=.go g' W' es/\bT X M Ro Fe W' es/\PT Stop (f Fe) (grow M Fe W') g' W')
def ET (Stop:(Nat->Prop)->Goroutine->World->Prop)(M:Nat->Prop)(g:Goroutine)(W:World):Prop:=∃r,PT P m I X Ro Stop r M g W
end
section
variable {P:Program}{m:Bool}{I:World->Prop}{X:Event->Prop}{Ro:Nat->Prop}{Stop Stop':(Nat->Prop)->Goroutine->World->Prop}{M:Nat->Prop}{g:Goroutine}{W Fe:World}
theorem PT.rely {r:Rk}(h:PT P m I X Ro Stop r M g W)(k:ax (λb=>M b\/Ro b) W Fe):PT P m I X Ro Stop r M g Fe:=by
 cases r with
 |leaf=>exact λFf FP i=>h Ff (k.trans FP) i
 |node f=>
  rcases h with h|⟨hs,h⟩
  .exact .inl λFf FP i=>h Ff (k.trans FP) i
  .exact .inr ⟨hs,λFf FP i=>h Ff (k.trans FP) i⟩
theorem ET.rely (h:ET P m I X Ro Stop M g W)(k:ax (λb=>M b\/Ro b) W Fe):ET P m I X Ro Stop M g Fe:=let⟨r,hr⟩:=h;⟨r,hr.rely k⟩
theorem ET.stop (h:∀Fe,ax (λb=>M b\/Ro b) W Fe->I Fe->Stop M g Fe):ET P m I X Ro Stop M g W:=⟨.leaf,h⟩
theorem ET.step (hs:g.status=.running)(h:∀Fe,ax (λb=>M b\/Ro b) W Fe->I Fe->∃g' W' es,stepG P m g Fe=.go g' W' es/\bT X M Ro Fe W' es/\ET P m I X Ro Stop (grow M Fe W') g' W'):ET P m I X Ro Stop M g W:=by
 classical
 have:∀Fe,∃r,ax (λb=>M b\/Ro b) W Fe->I Fe->∃g' W' es,stepG P m g Fe=.go g' W' es/\bT X M Ro Fe W' es/\PT P m I X Ro Stop r (grow M Fe W') g' W':=by
  intro Fe;by_cases k:ax (λb=>M b\/Ro b) W Fe
  .by_cases i:I Fe
   .obtain⟨g',W',es,a,b,r,hr⟩:=h Fe k i;exact⟨r,λ_ _=>⟨g',W',es,a,b,hr⟩⟩
   .exact⟨.leaf,λ_ x=>absurd x i⟩
  .exact⟨.leaf,λx=>absurd x k⟩
 exact⟨.node λFe=>(this Fe).choose,.inr ⟨hs,λFe k i=>(this Fe).choose_spec k i⟩⟩
structure pH (Sp M:Nat->Prop)(W:World):Prop where
 own:∀b,Sp b->¬M b
 lt:∀b,Sp b->b<W.heap.size
theorem pH.grow {Sp:Nat->Prop}{W':World}(h:pH Sp M W)(hs:W.heap.size<=W'.heap.size):pH Sp (grow M W W') W':=
 ⟨λb hb hg=>hg.elim (h.own b hb) λx=>by have:=h.lt b hb;omega,λb hb=>by have:=h.lt b hb;omega⟩
theorem pH.rely {Sp:Nat->Prop}(h:pH Sp M W)(hs:W.heap.size<=Fe.heap.size):pH Sp M Fe:=⟨h.own,λb hb=>by have:=h.lt b hb;omega⟩
def ww (Sp:Nat->Prop)(I:World->Prop):Prop:=∀W W':World,(∀b,Sp b->W'.heap[b]?=W.heap[b]?)->I W->I W'
section
variable [Gl]{ok:Ctx}{c r0:Frame}{rest:List Frame}{Q:Value->World->Prop}
def kW (ρ:Ren)(V:World)(M Ro:Nat->Prop):Prop:=∀b d,ρ b=some d->M d\/(Ro d/\Proofs.YtlmcblcijndipabGreatDoor.Ro V b)
theorem A4 {ρ σ:Ren}{V V' W W':World}(hh:kW ρ V M Ro)(hk:eD ρ V W σ V' W')(hlt:∀b d,σ b=some d->d<W'.heap.size){e:Event}(he:iO σ V e):uw X (grow M W W') Ro e:=by
 have cases_:∀b d,σ b=some d->grow M W W' d\/(Ro d/\Proofs.YtlmcblcijndipabGreatDoor.Ro V b):=by
  intro b d hb;rcases hk.new b d hb with h|⟨_,h⟩
  .rcases hh b d h with h|h
   .exact .inl (.inl h)
   .exact .inr h
  .exact .inl (.inr ⟨h,hlt b d hb⟩)
 rcases he with⟨s,a,a',e1,r,w⟩|⟨s,r,r',e1,h,n⟩|h
 .refine .inl ⟨s,a',e1,?_⟩;rcases cases_ _ _ r.blk with x|⟨x,y⟩
  .exact .inl x
  .refine .inr ⟨x,?_⟩;cases hw:e.write with
   |false=>rfl
   |true=>exact absurd y (w hw)
 .refine .inr (.inl ⟨s,r',e1,?_⟩);rcases cases_ _ _ h with x|⟨x,y⟩
  .exact .inl x
  .exact absurd y n
 .exact .inr (.inr (.inl h))
theorem kW.step {ρ σ:Ren}{V V' W W':World}(hh:kW ρ V M Ro)(hk:eD ρ V W σ V' W')(hlt:∀b d,σ b=some d->d<W'.heap.size):kW σ V' (grow M W W') Ro:=by
 intro b d hb;rcases hk.new b d hb with h|⟨_,h⟩
 .rcases hh b d h with x|⟨x,y⟩
  .exact .inl (.inl x)
  .obtain⟨cs,e,z⟩:=y;exact .inr ⟨x,cs,e,by rw[(hk.ro b d h ⟨cs,e,z⟩).1];exact z⟩
 .exact .inl (.inr ⟨h,hlt b d hb⟩)
theorem kW.priv {ρ σ:Ren}{V V' W W':World}(hh:kW ρ V M Ro)(hk:eD ρ V W σ V' W')(hlt:∀b d,σ b=some d->d<W'.heap.size){es:Array Event}(he:∀e∈es,iO σ V e):bT X M Ro W W' es:=by
 refine⟨λb hb hn=>?_,hk.size,hk.tape,hk.os,hk.out,λe hx=>A4 hh hk hlt (he e hx)⟩;by_cases h:∃x,ρ x=some b
 .obtain⟨x,hx⟩:=h;rcases hh x b hx with y|⟨_,y⟩
  .exact absurd y hn
  .exact(hk.ro x b hx y).2
 .exact hk.keep b hb λx hx=>h ⟨x,hx⟩
theorem ET.call {P0:Program}(hP0:bq P0 P0 ok)(hP:bq P0 P ok)(hin:∀f,ok.fn f=true->ok.inn f=true)(hQ:∀v w τ d,Q v w->Q v (re w τ d)){ρ:Ren}{s:St}
  (hret:∀{σ:Ren} {v v':Value} {V' W':World} {M':Nat->Prop},aj ok σ v v'->Q v V'->aH ok false σ V' W'->kW σ V' M' Ro->(∀b,M b->M' b)->ax Ro W W'->ax (λb=>M b/\∀x,ρ x≠some b) W W'->(∀b d,ρ b=some d->σ b=some d)->(∀b d,σ b=some d->ρ b=some d\/W.heap.size<=d)->I W'->(∀b,M' b->b<W'.heap.size)->(∀b,M' b->M b\/W.heap.size<=b)->ET P m I X Ro Stop M' (G (r0.finish v') rest) W')
  {Sp:Nat->Prop}(hI:ww Sp I)(hRo:∀b,Ro b->Sp b)(hN:pH Sp M W)(hMl:∀b,M b->b<W.heap.size)(hi:I W)
  (h:fq P0 P ok false c (r0::rest) Q ρ s g W)(hh:kW ρ (re s.V W.tape W.drawn) M Ro):ET P m I X Ro Stop M g W:=by
 have main:∀(s:St) (_:Acc (m8 P0 c) s) {ρ':Ren} {g:Goroutine} {W2:World} {M':Nat->Prop},fq P0 P ok false c (r0::rest) Q ρ' s g W2->kW ρ' (re s.V W2.tape W2.drawn) M' Ro->pH Sp M' W2->I W2->
   (∀b,M b->M' b)->ax Ro W W2->ax (λb=>M b/\∀x,ρ x≠some b) W W2->(∀b d,ρ b=some d->ρ' b=some d)->(∀b d,ρ' b=some d->ρ b=some d\/W.heap.size<=d)->(∀b,M' b->b<W2.heap.size)->(∀b,M' b->M b\/W.heap.size<=b)->ET P m I X Ro Stop M' g W2:=by
  intro s hacc;induction hacc with
  |intro s _ ih=>
   intro ρ' g W2 M' h hh hN hi hM k1 k2 le new lt' nw;refine ET.step h.running λFe k FK=>?_
   have FI:fq P0 P ok false c (r0::rest) Q ρ' s g Fe:=h.rely (λb d hb=>k.block d ((hh b d hb).imp id And.left)) (Gq h.w.gW k.size);have hh1:kW ρ' (re s.V Fe.tape Fe.drawn) M' Ro:=hh;have Fq:=hN.rely k.size;have kr:ax Ro W Fe:=k1.trans (k.mono λb hb=>.inr hb);have km:ax (λb=>M b/\∀x,ρ x≠some b) W Fe:=k2.trans (k.mono λb hb=>.inl (hM b hb.1));have lt2:∀{W':World},Fe.heap.size<=W'.heap.size->∀b,grow M' Fe W' b->b<W'.heap.size:=λhz b hb=>hb.elim (λx=>Gn (Gn (lt' b x) k.size) hz) And.right
   have nw2:∀{W':World},∀b,grow M' Fe W' b->M b\/W.heap.size<=b:=λb hb=>hb.elim (nw b) λx=>.inr (Gq kr.size x.1)
   have not_in:∀b,b<W.heap.size->(∀x,ρ x≠some b)->∀x,ρ' x≠some b:=by
    intro b hb hx x hx';rcases new x b hx' with e|e
    .exact hx x e
    .omega
   rcases FI.step hP0 hP hin hQ m rfl with⟨σ,v,v',V',W',es,e1,hv,hq,hw,hk,hev⟩|⟨σ,s',g',W',es,e1,hsu,h2,hk,hev⟩
   .have hlt:∀b d,σ b=some d->d<W'.heap.size:=λb d hb=>(hw.lt hb).2
    have hp:=hh1.priv (X:=X) hk hlt hev;have hN':=Fq.grow hk.size;have kr':ax Ro Fe W':=⟨λb hb=>hp.keep b (Fq.lt b (hRo b hb)) (Fq.own b (hRo b hb)),hk.size,hk.os,hk.out⟩;have km':ax (λb=>M b/\∀x,ρ x≠some b) Fe W':=⟨λb hb=>hk.keep b (Gn (hMl b hb.1) kr.size) (not_in b (hMl b hb.1) hb.2),hk.size,hk.os,hk.out⟩;refine⟨_,W',es,e1,hp,hret hv hq hw (hh1.step hk hlt) (λb hb=>.inl (hM b hb)) (kr.trans kr') (km.trans km') (λb d hb=>hk.le _ _ (le _ _ hb)) (λb d hb=>?_) (hI Fe W' (λx hx=>hp.keep x (Fq.lt x hx) (Fq.own x hx)) FK) (lt2 hk.size) nw2⟩;rcases hk.new b d hb with x|⟨_,x⟩
    .exact new b d x
    .exact .inr (Gq kr.size x)
   .have hlt:∀b d,σ b=some d->d<W'.heap.size:=λb d hb=>(h2.w.lt hb).2
    have hp:=hh1.priv (X:=X) hk hlt hev;have kr':ax Ro Fe W':=⟨λb hb=>hp.keep b (Fq.lt b (hRo b hb)) (Fq.own b (hRo b hb)),hk.size,hk.os,hk.out⟩;have km':ax (λb=>M b/\∀x,ρ x≠some b) Fe W':=⟨λb hb=>hk.keep b (Gn (hMl b hb.1) kr.size) (not_in b (hMl b hb.1) hb.2),hk.size,hk.os,hk.out⟩;refine⟨g',W',es,e1,hp,ih s' hsu h2 (show kW σ s'.V (grow M' Fe W') Ro from hh1.step hk hlt) (Fq.grow hk.size) (hI Fe W' (λx hx=>hp.keep x (Fq.lt x hx) (Fq.own x hx)) FK) (λb hb=>.inl (hM b hb)) (kr.trans kr') (km.trans km') (λb d hb=>hk.le _ _ (le _ _ hb)) (λb d hb=>?_) (lt2 hk.size) nw2⟩;rcases hk.new b d hb with x|⟨_,x⟩
    .exact new b d x
    .exact .inr (Gq kr.size x)
 exact main s h.acc h hh hN hi (λ_ h=>h) (ax.refl _ _) (ax.refl _ _) (λ_ _ h=>h) (λ_ _ h=>.inl h) hMl (λ_ h=>.inl h)
end
end
end
section
open Go Go.Conc
open Go.ConcN (CT Apart Ok0 OkW RelBy PermW sumTo upd)
open Go.ConcR (stA)
def DO (n:Nat)(f g:Nat->Rk):Prop:=∃i,i<n/\Rk.lt (f i) (g i)/\∀j,j≠i->f j=g j
theorem DO.wf (n:Nat):WellFounded (DO n):=by
 induction n with
 |zero=>exact⟨λg=>⟨_,λf ⟨i,h,_⟩=>absurd h (by omega)⟩⟩
 |succ n ih=>
  have key:∀r:Rk,Acc Rk.lt r->∀g:Nat->Rk,Acc (DO n) g->g n=r->Acc (DO (n+1)) g:=by
   intro r hr;induction hr with
   |intro r _ ihr=>
    intro g hg;induction hg with
    |intro g _ ihg=>
     intro e;refine⟨_,λf ⟨i,hi,hlt,hs⟩=>?_⟩;by_cases h:i=n
     .subst h;rw[e]at hlt;exact ihr _ hlt f (ih.apply f) rfl
     .have hn:f n=g n:=hs n (by omega);exact ihg f ⟨i,by omega,hlt,hs⟩ (hn.trans e)
  exact⟨λg=>key _ (Rk.wf.apply _) g (ih.apply g) rfl⟩
def Rk.nat:Nat->Rk
 |0=>.leaf
 |n+1=>.node λ_=>Rk.nat n
theorem Rk.nat_lt (n:Nat)(w:World):Rk.lt (Rk.nat n) (Rk.nat (n+1)):=⟨w,rfl⟩
section
variable {Sh:Loc->Prop}{Own Rd Own' Rd':Nat->Loc->Prop}{t u:Trace}{j:Nat}
def jG (t:Trace)(l:Loc):Prop:=∀i a,touchAt t i=some a->a.loc≠l
theorem CT.grow (h:CT Sh Own Rd t j)(ho:∀k l,1<=k->k<=j->Own' k l->Own k l\/jG t l)(hr:∀k l,1<=k->k<=j->Rd' k l->Rd k l\/jG t l)(lo:∀k l,1<=k->k<=j->Own k l->Own' k l)(lr:∀k l,1<=k->k<=j->Rd k l->Rd' k l):CT Sh Own' Rd' t j:=
 ⟨h.quiet,λk k1 kj l hl=>(ho k l k1 kj hl).elim (h.own k k1 kj l) λx i a ha e=>absurd e (x i a ha),λk k1 kj l hl=>(hr k l k1 kj hl).elim (h.rd k k1 kj l) λx i a ha e=>absurd e (x i a ha),
  λl hs hl=>h.free l hs λk k1 kj=>⟨λx=>(hl k k1 kj).1 (lo k l k1 kj x),λx=>(hl k k1 kj).2 (lr k l k1 kj x)⟩,λl hs hl=>h.mine l hs λk k1 kj x=>hl k k1 kj (lo k l k1 kj x),h.nr,h.gs⟩
theorem gn {B:Nat}(h:∀i a,touchAt t i=some a->a.loc.low B){l:Loc}(hl:¬l.low B):jG t l:=λi a ha e=>hl (e▸h i a ha)
variable (Shun:Loc->Prop)(Sh:Loc->Prop)(Own Rd:Nat->Loc->Prop)(Wg J T0 K B:Nat)
structure Tr (t:Trace):Prop where
 ct:CT Sh Own Rd t K
 old:∀(i:Nat) (op:MemOp),t[i]?=some op->op.g<J->∀a,op.act.touch?=some a->Knows t 0 i\/(Shun a.loc/\a.kind=.atomic)
 over:∀i g,t.g? i=some g->g≠0->g<J->t.counts i->∃q,t.g? q=some 0/\HappensBefore t i q
 mem:∀i a,touchAt t i=some a->a.loc.isMemory=true
 seen:∀i a,touchAt t i=some a->a.loc.low B
 t0:T0<=t.size
 nore:∀i,T0<=i->t.act? i≠some (.mark (.release (stA Wg)))
 born:∀(i:Nat) (op:MemOp),t[i]?=some op->J<=op.g->T0<=i
 atom:∀(i:Nat) (op:MemOp),t[i]?=some op->J<=op.g->∀a,op.act.touch?=some a->a.kind=.atomic->Sh a.loc
structure tA (op:MemOp):Prop where
 mem:∀a,op.act.touch?=some a->a.loc.isMemory=true
 low:∀a,op.act.touch?=some a->a.loc.low B
 nore:op.act≠.mark (.release (stA Wg))
 atom:J<=op.g->∀a,op.act.touch?=some a->a.kind=.atomic->Sh a.loc
end
section
variable {Shun:Loc->Prop}{Sh:Loc->Prop}{Own Rd Own' Rd':Nat->Loc->Prop}{Wg J T0 K B:Nat}{t u:Trace}
theorem Tr.mono {B':Nat}(h:Tr Shun Sh Own Rd Wg J T0 K B t)(hB:B<=B'):Tr Shun Sh Own Rd Wg J T0 K B' t:=
 ⟨h.ct,h.old,h.over,h.mem,λi a ha=>Loc.low_mono hB (h.seen i a ha),h.t0,h.nore,h.born,h.atom⟩
theorem Tr.app' {K':Nat}(h:Tr Shun Sh Own Rd Wg J T0 K B t)(hc:CT Sh Own Rd (t++u) K')(hu:∀op∈u,tA Sh Wg J B op)(ho:∀op∈u,op.g<J->op.g=0\/op.act.touch?=none):Tr Shun Sh Own Rd Wg J T0 K' B (t++u):=by
 refine⟨hc,λi op hi hg a ha=>?_,λi g hg h0 hJ hcn=>?_,λi a ha=>?_,λi a ha=>?_,by have:=h.t0;simp;omega,λi hi e=>?_,λi op hi hg=>?_,λi op hi hg a ha hk=>?_⟩
 .rcases getElem?_append_cases hi with⟨_,hi'⟩|⟨_,hiu⟩
  .exact(h.old i op hi' hg a ha).imp (·.app u) id
  .rcases ho op hiu hg with e|e
   .have:=knows_own hi;rw[e]at this;exact .inl this
   .rw[e]at ha;cases ha
 .obtain⟨op,hop,hog⟩:=GG.1 hg;rcases getElem?_append_cases hop with⟨hlt,hop'⟩|⟨_,hopu⟩
  .obtain⟨q,hq,hb⟩:=h.over i g (by rw[<-g?_old (u:=u) hlt];exact hg) h0 hJ ((counts_old hlt).1 hcn);have hql:q<t.size:=by
    obtain⟨z,hz,_⟩:=GG.1 hq;exact lt_size_of_getElem? hz
   exact⟨q,by rw[g?_old hql];exact hq,hb_app u hb⟩
  .rcases ho op hopu (by rw[hog];exact hJ)with e|e
   .exact absurd (hog.symm.trans e) h0
   .obtain⟨x,hx,_⟩:=hcn;simp[Trace.act?,hop,e]at hx
 .obtain⟨op,hop,hoa⟩:=touch_of ha;rcases getElem?_append_cases hop with⟨_,hop'⟩|⟨_,hopu⟩
  .exact h.mem i a (by rw[touchAt_of hop'];exact hoa)
  .exact(hu op hopu).mem a hoa
 .obtain⟨op,hop,hoa⟩:=touch_of ha;rcases getElem?_append_cases hop with⟨_,hop'⟩|⟨_,hopu⟩
  .exact h.seen i a (by rw[touchAt_of hop'];exact hoa)
  .exact(hu op hopu).low a hoa
 .obtain⟨op,hop,hoa⟩:=GG.1 e;rcases getElem?_append_cases hop with⟨_,hop'⟩|⟨_,hopu⟩
  .exact h.nore i hi (by rw[act?_of hop',hoa])
  .exact(hu op hopu).nore hoa
 .rcases getElem?_append_cases hi with⟨_,hi'⟩|⟨hge,_⟩
  .exact h.born i op hi' hg
  .exact Gq h.t0 hge
 .rcases getElem?_append_cases hi with⟨_,hi'⟩|⟨_,hiu⟩
  .exact h.atom i op hi' hg a ha hk
  .exact(hu op hiu).atom hg a ha hk
theorem Tr.grow (h:Tr Shun Sh Own Rd Wg J T0 K B t)(ho:∀k l,1<=k->k<=K->Own' k l->Own k l\/¬l.low B)(hr:∀k l,1<=k->k<=K->Rd' k l->Rd k l\/¬l.low B)(lo:∀k l,1<=k->k<=K->Own k l->Own' k l)(lr:∀k l,1<=k->k<=K->Rd k l->Rd' k l):Tr Shun Sh Own' Rd' Wg J T0 K B t:=
 ⟨CT.grow h.ct (λk l k1 k2 x=>(ho k l k1 k2 x).imp id (gn h.seen)) (λk l k1 k2 x=>(hr k l k1 k2 x).imp id (gn h.seen)) lo lr,h.old,h.over,h.mem,h.seen,h.t0,h.nore,h.born,h.atom⟩
theorem Tr.app0 (A:Apart Sh Own Rd)(h:Tr Shun Sh Own Rd Wg J T0 K B t)(hk:∀op∈u,Ok0 Sh Own Rd K op)(hu:∀op∈u,tA Sh Wg J B op):Tr Shun Sh Own Rd Wg J T0 K B (t++u):=
 h.app' (h.ct.app0 A hk) hu λop hop _=>.inl (hk op hop).1
theorem Tr.appW (A:Apart Sh Own Rd)(h:Tr Shun Sh Own Rd Wg J T0 K B t){k:Nat}(k1:J<=k)(kK:k<=K)(hJ:1<=J)(hk:∀op∈u,OkW Sh Own Rd k op)(hu:∀op∈u,tA Sh Wg J B op):Tr Shun Sh Own Rd Wg J T0 K B (t++u):=
 h.app' (h.ct.appW A (by omega) kK hk) hu λop hop hg=>by have:=(hk op hop).1;omega
theorem Tr.appM (A:Apart Sh Own Rd)(h:Tr Shun Sh Own Rd Wg J T0 K B t){k:Nat}(k1:1<=k)(kK:k<=K)(hk:∀op∈u,op.g=k)(hn:∀op∈u,op.act.touch?=none)(hu:∀op∈u,op.act≠.mark (.release (stA Wg))):Tr Shun Sh Own Rd Wg J T0 K B (t++u):=
 h.app' (h.ct.appW A k1 kK λop hop=>⟨hk op hop,λx hx=>by rw[hn op hop]at hx;cases hx⟩) (λop hop=>⟨λa ha=>(by rw[hn op hop]at ha;cases ha),λa ha=>(by rw[hn op hop]at ha;cases ha),hu op hop,λ_ a ha=>(by rw[hn op hop]at ha;cases ha)⟩) λop hop _=>.inr (hn op hop)
theorem Tr.fork (A:Apart Sh Own Rd)(h:Tr Shun Sh Own Rd Wg J T0 K B t){x y:MemOp}(hx:x.g=0/\x.act=.go (K+1))(hy:y.g=K+1/\y.act=.start)(h0:Deaf t 0=0):Tr Shun Sh Own Rd Wg J T0 (K+1) B (t++#[x,y]):=by
 have hm:∀op∈#[x,y],op=x\/op=y:=λop hop=>by simpa using hop
 refine h.app' (h.ct.fork A hx hy h0) (λop hop=>?_) (λop hop hg=>?_)
 .rcases hm op hop with rfl|rfl
  .exact⟨λa ha=>(by rw[hx.2]at ha;cases ha),λa ha=>(by rw[hx.2]at ha;cases ha),(by rw[hx.2];simp),λ_ a ha=>(by rw[hx.2]at ha;cases ha)⟩
  .exact⟨λa ha=>(by rw[hy.2]at ha;cases ha),λa ha=>(by rw[hy.2]at ha;cases ha),(by rw[hy.2];simp),λ_ a ha=>(by rw[hy.2]at ha;cases ha)⟩
 .rcases hm op hop with rfl|rfl
  .exact .inl hx.1
  .exact .inr (by rw[hy.2];rfl)
structure gp (Shun:Loc->Prop)(B:Nat)(t:Trace):Prop where
 clean:∀said,¬Race said t
 known:∀i a,touchAt t i=some a->Knows t 0 i\/(Shun a.loc/\a.kind=.atomic)
 over:t.HandedOver
 hears:Deaf t 0=0
 seen:∀i a,touchAt t i=some a->a.loc.low B
 quiet:Quiet Shun t
 mem:∀i a,touchAt t i=some a->a.loc.isMemory=true
theorem gp.tr (h:gp Shun B t)(hs:∀l,Sh l->Shun l\/jG t l)(ls:∀l,Shun l->Sh l)(hgs:∀(i:Nat) (op:MemOp),t[i]?=some op->op.g<J)(hJ:K+1=J)(hO:∀k l,k<J->¬Own k l/\¬Rd k l):Tr Shun Sh Own Rd Wg J t.size K B t:=by
 have kn:∀l,¬Sh l->Perm t 0 l:=λl hl i a ha e=>(h.known i a ha).resolve_right λx=>hl (ls l (e▸x.1))
 refine⟨⟨λi op x hi hx hsx=>?_,λk _ kK l hl=>absurd hl (hO k l (by omega)).1,λk _ kK l hl=>absurd hl (hO k l (by omega)).2,λl hl _=>kn l hl,λl hl _=>.of (kn l hl),h.clean,λi op hi=>by have:=hgs i op hi;omega⟩,
  λi op hi _ a ha=>h.known i a (by rw[touchAt_of hi];exact ha),λi g hg h0 _ hc=>h.over i g hg h0 hc,h.mem,h.seen,Gm _,λi hi e=>?_,λi op hi hg=>absurd (hgs i op hi) (by omega),λi op hi hg=>absurd (hgs i op hi) (by omega)⟩
 .rcases hs _ hsx with e|e
  .exact h.quiet i op x hi hx e
  .exact absurd rfl (e i x (by rw[touchAt_of hi];exact hx))
 .have:=lt_of_act? e;omega
theorem Tr.past (h:Tr Shun Sh Own Rd Wg J T0 K B t)(ls:∀l,Shun l->Sh l){q:Nat}(hq:t.act? q=some (.mark (.acquire (stA Wg))))(hg:t.g? q=some 0)(hh:t.heard q)(all:∀k,J<=k->k<=K->∃r,RelBy (stA Wg) t k r/\r<q)(hd:Deaf t 0=0):gp Sh B t:=by
 have edge:∀i k,J<=k->t.g? i=some k->t.counts i->∃q,t.g? q=some 0/\HappensBefore t i q:=by
  intro i k hJ hk hc;obtain⟨op,ho,hog⟩:=GG.1 hk;obtain⟨r,hr,hrq⟩:=all k hJ (hog▸h.ct.gs i op ho);obtain⟨or,hor,horg⟩:=GG.1 hr.g;have hr0:T0<=r:=h.born r or hor (by rw[horg];exact hJ);have ed:HappensBefore t r q:=.single (.inr ⟨.marked hrq (.inr hr.act) hq (λk hk _=>h.nore k (by omega)),hr.heard,hh⟩);have hle:i<=r:=Nat.le_of_not_lt λhlt=>hr.after i hlt hk hc
  rcases Gv i r with hlt|hge
  .exact⟨q,hg,.trans (.single (.inl ⟨hlt,k,hk,hr.g⟩)) ed⟩
  .obtain rfl:i=r:=by omega
   exact⟨q,hg,ed⟩
 refine⟨h.ct.nr,λi a ha=>?_,λi g hgi h0 hc=>?_,hd,h.seen,h.ct.quiet,h.mem⟩
 .obtain⟨op,ho,hoa⟩:=touch_of ha;rcases Gv op.g J with hlt|hge
  .exact(h.old i op ho hlt a hoa).imp id λx=>⟨ls _ x.1,x.2⟩
  .have hk:t.g? i=some op.g:=by simp[Trace.g?,ho]
   by_cases hc:t.counts i
   .obtain⟨p,hp,hb⟩:=edge i op.g hge hk hc;obtain⟨z,hz,hzg⟩:=GG.1 hp;exact .inl ⟨p,z,hz,hzg,.inr hb⟩
   .have hka:a.kind=.atomic:=GL λhne=>hc ⟨a,ha,h.mem i a ha,.inl hne⟩
    exact .inr ⟨h.atom i op ho hge a hoa hka,hka⟩
 .rcases Gv g J with hlt|hge
  .exact h.over i g hgi h0 hlt hc
  .exact edge i g hge hgi hc
end
end
section
open Go Go.Conc
open Go.ConcN (CT Apart Ok0 OkW RelBy PermW sumTo upd WgLive RW DWs AtR0 WSit CTag WD Mode Vc pend phi PayAt Has)
open Go.ConcR (stA smA WgAt KK rd wr mk)
structure Ph where
 P:Program
 ty:TypeId
 Wg:Nat
 tk:Addr
 Bs:Nat
 bty:TypeId
 wd:Nat
 n:Nat
 L:Nat
 J:Nat
 T0:Nat
 Res:List Nat->List Value->(Nat->Prop)->World->Prop
 pl:Go.ConcR.Payload
namespace Ph
variable (p:Ph)
def Sp (b:Nat):Prop:=b=p.Wg\/b=p.tk.block\/b=p.Bs
def TkAt (w:World)(x:Nat):Prop:=w.cell? p.tk=some (.int .i64 x)/\w.frozen? p.tk=false
def BsAt (cs:Array Value)(w:World):Prop:=w.heap[p.Bs]?=some (.cells cs p.bty)/\cs.size=p.n*p.wd
def I (w:World):Prop:=WgLive p.ty p.Wg w/\(∃x,p.TkAt w x)/\∃cs,p.BsAt cs w
theorem local_I:ww p.Sp p.I:=by
 rintro w w' h ⟨⟨st,sm,hw⟩,⟨x,hx1,hx2⟩,cs,hc,hn⟩;have h1:=h p.Wg (.inl rfl);have h2:=h p.tk.block (.inr (.inl rfl));have h3:=h p.Bs (.inr (.inr rfl));exact⟨⟨st,sm,h1.trans hw⟩,⟨x,by simpa[World.cell?,h2]using hx1,by simpa[World.frozen?,h2]using hx2⟩,cs,h3.trans hc,hn⟩
structure IsPut (k:Nat)(vs:List Value)(w w':World):Prop where
 size:w'.heap.size=w.heap.size
 tape:w'.tape=w.tape
 os:w'.os=w.os
 out:w'.output=w.output
 block:∀b,b≠p.Bs->w'.heap[b]?=w.heap[b]?
 len:vs.length=p.wd
 put:∀cs,p.BsAt cs w->∃cs',p.BsAt cs' w'/\∀o,cs'[o]?=if k*p.wd<=o/\o<(k+1)*p.wd then vs[o-k*p.wd]? else cs[o]?
def Slot (k:Nat)(vs:List Value)(w:World):Prop:=vs.length=p.wd/\∀cs,p.BsAt cs w->∀o,o<p.wd->cs[k*p.wd+o]?=vs[o]?
def noX (_:Event):Prop:=False
def saidX (e:Event):Prop:=∃a:Addr,a.block=p.Wg/\(e=⟨.mark (.read a),false,true⟩\/e=⟨.mark (.write a),false,true⟩)
section
variable (k:Nat)(Ro:Nat->Prop)
def AtPut (seq:List Nat)(M:Nat->Prop)(g:Goroutine)(W:World):Prop:=
 g.status=.running/\((∃cs,p.BsAt cs W)->∃g' W' es vs,stepG p.P false g W=.go g' W' es/\p.IsPut k vs W W'/\(∀e∈es,e.sync=false/\∃a:Addr,e.loc=.cell a/\a.block=p.Bs/\k*p.wd<=a.off/\a.off<(k+1)*p.wd)/\
  ∃Mr C c v m,p.Res seq vs Mr W'/\(∀b,Mr b->M b)/\M C/\¬Mr C/\@Goes p.P false (@RW p.pl p.ty p.Wg C c 0 0) (@DWs p.pl p.Wg (λ_ _=>False) (λ_ _=>False) C c 1) (@AtR0 p.pl p.P p.ty p.Wg C c 0 1 v) m g' W')
def AtFetch:Nat->Nat->List Nat->(Nat->Prop)->Goroutine->World->Prop
 |0,lo,seq=>λM g W=>g.status=.running/\∀x:Nat,lo<=x->x<4611686018427387904->p.TkAt W x->p.L<=x/\
   ∃g',stepG p.P false g W=.go g' (W.setCell p.tk (.int .i64 (x+1))) #[rd p.tk,wr p.tk]/\ET p.P false p.I noX Ro (AtPut p k seq) M g' (W.setCell p.tk (.int .i64 (x+1)))
 |f+1,lo,seq=>λM g W=>g.status=.running/\∀x:Nat,lo<=x->x<4611686018427387904->p.TkAt W x->
   ∃g',stepG p.P false g W=.go g' (W.setCell p.tk (.int .i64 (x+1))) #[rd p.tk,wr p.tk]/\
    (p.L<=x->ET p.P false p.I noX Ro (AtPut p k seq) M g' (W.setCell p.tk (.int .i64 (x+1))))/\(x<p.L->ET p.P false p.I noX Ro (AtFetch f (x+1) (seq++[x])) M g' (W.setCell p.tk (.int .i64 (x+1))))
end
section
variable (Fin:(Nat->Prop)->(Nat->Prop)->Goroutine->World->Prop)(Anch:(Nat->Prop)->(Nat->Prop)->Goroutine->World->Prop)(Ro:Nat->Prop)
def AtAcq (M:Nat->Prop)(g:Goroutine)(W:World):Prop:=g.status=.running/\∃g',stepG p.P true g W=.go g' W #[Go.ConcR.mk (.acquire (stA p.Wg))]/\Fin Ro M g' W
def AtKe (M:Nat->Prop)(g:Goroutine)(W:World):Prop:=g.status=.running/\∃g',stepG p.P true g W=.go g' W #[Go.ConcR.mk .enable]/\ET p.P true p.I p.saidX Ro (p.AtAcq Fin Ro) M g' W
def AtW4 (M:Nat->Prop)(g:Goroutine)(W:World):Prop:=g.status=.running/\(WgAt p.ty p.Wg W 0 0->∃g',stepG p.P true g W=.go g' W #[rd (stA p.Wg)]/\ET p.P true p.I p.saidX Ro (p.AtKe Fin Ro) M g' W)
def AtW3 (M:Nat->Prop)(g:Goroutine)(W:World):Prop:=
 g.status=.running/\g.offers=none/\((∃st,WgAt p.ty p.Wg W st 0)->stepG p.P true g W=.go {g with status:=.blocked} W #[])/\
  (WgAt p.ty p.Wg W 0 1->∃g',stepG p.P true g W=.go g' (W.setCell (smA p.Wg) (.int .u32 0)) (semEvents (smA p.Wg))/\ET p.P true p.I p.saidX Ro (p.AtW4 Fin Ro) M g' (W.setCell (smA p.Wg) (.int .u32 0)))
def AtW2 (vs:Nat)(M:Nat->Prop)(g:Goroutine)(W:World):Prop:=
 g.status=.running/\∀v:Nat,v<2147483648->WgAt p.ty p.Wg W (v*KK) 0->
  (v=vs->∃g',stepG p.P true g W=.go g' (W.setCell (stA p.Wg) (.int .u64 (v*KK+1))) #[rd (stA p.Wg),wr (stA p.Wg)]/\ET p.P true p.I p.saidX Ro (p.AtW3 Fin Ro) M g' (W.setCell (stA p.Wg) (.int .u64 (v*KK+1))))/\
  (v≠vs->∃g',stepG p.P true g W=.go g' W #[rd (stA p.Wg)]/\ET p.P true p.I p.saidX Ro (Anch Ro) M g' W)
def AtW1 (M:Nat->Prop)(g:Goroutine)(W:World):Prop:=
 g.status=.running/\∀v:Nat,v<2147483648->WgAt p.ty p.Wg W (v*KK) 0->∃g',stepG p.P true g W=.go g' W #[rd (stA p.Wg)]/\
  (v=0->ET p.P true p.I p.saidX Ro (p.AtKe Fin Ro) M g' W)/\(v≠0->ET p.P true p.I p.saidX Ro (p.AtW2 Fin Anch Ro v) M g' W)
def AtKd (M:Nat->Prop)(g:Goroutine)(W:World):Prop:=g.status=.running/\∃g',stepG p.P true g W=.go g' W #[Go.ConcR.mk .disable]/\ET p.P true p.I p.saidX Ro (Anch Ro) M g' W
variable (k:Nat)(Next:(Nat->Prop)->(Nat->Prop)->Goroutine->World->Prop)
def AtGo (M:Nat->Prop)(g:Goroutine)(W:World):Prop:=
 g.status=.running/\∃g' child Ro',stepG p.P true g W=.spawn g' child W #[]/\child.status=.running/\(∀b,Ro b->Ro' b)/\(∀b,Ro' b->Ro b\/M b)/\
  ET p.P false p.I noX Ro' (p.AtFetch k Ro' p.L 0 []) (λ_=>False) child W/\Next Ro' (λb=>M b/\¬Ro' b) g' W
def AtKeS (M:Nat->Prop)(g:Goroutine)(W:World):Prop:=g.status=.running/\∃g',stepG p.P true g W=.go g' W #[Go.ConcR.mk .enable]/\ET p.P true p.I p.saidX Ro (p.AtGo Ro k Next) M g' W
def AtA1 (M:Nat->Prop)(g:Goroutine)(W:World):Prop:=
 g.status=.running/\∀v:Nat,v<2147483647->WgAt p.ty p.Wg W (v*KK) 0->
  ∃g',stepG p.P true g W=.go g' (W.setCell (stA p.Wg) (.int .u64 ((v+1)*KK))) #[rd (stA p.Wg),wr (stA p.Wg)]/\ET p.P true p.I p.saidX Ro (p.AtKeS Ro k Next) M g' (W.setCell (stA p.Wg) (.int .u64 ((v+1)*KK)))
def AtKdS (M:Nat->Prop)(g:Goroutine)(W:World):Prop:=g.status=.running/\∃g',stepG p.P true g W=.go g' W #[Go.ConcR.mk .disable]/\ET p.P true p.I p.saidX Ro (p.AtA1 Ro k Next) M g' W
end
section
variable (Fin:(Nat->Prop)->(Nat->Prop)->Goroutine->World->Prop)(Anch:(Nat->Prop)->(Nat->Prop)->Goroutine->World->Prop)
def Spawns:Nat->(Nat->Prop)->(Nat->Prop)->Goroutine->World->Prop
 |0,Ro=>λM g W=>ET p.P true p.I p.saidX Ro (p.AtKd Anch Ro) M g W
 |r+1,Ro=>λM g W=>ET p.P true p.I p.saidX Ro (p.AtKdS Ro (p.n-(r+1)) (Spawns r)) M g W
inductive MSit:CTag->Nat->Rk->Nat->Nat->(Nat->Prop)->(Nat->Prop)->Goroutine->World->Prop
 |skd {r:Nat} {ρ:Rk} {Ro M:Nat->Prop} {g:Goroutine} {w:World}:r<p.n->PT p.P true p.I p.saidX Ro (p.AtKdS Ro (p.n-(r+1)) (p.Spawns Anch r)) ρ M g w->MSit (.sp r 5) (p.n-(r+1)) ρ 0 0 Ro M g w
 |sa1 {r:Nat} {ρ:Rk} {Ro M:Nat->Prop} {g:Goroutine} {w:World}:r<p.n->PT p.P true p.I p.saidX Ro (p.AtA1 Ro (p.n-(r+1)) (p.Spawns Anch r)) ρ M g w->MSit (.sp r 4) (p.n-(r+1)) ρ 0 1 Ro M g w
 |ske {r:Nat} {ρ:Rk} {Ro M:Nat->Prop} {g:Goroutine} {w:World}:r<p.n->PT p.P true p.I p.saidX Ro (p.AtKeS Ro (p.n-(r+1)) (p.Spawns Anch r)) ρ M g w->MSit (.sp r 3) (p.n-(r+1)) ρ 0 1 Ro M g w
 |sgo {r:Nat} {ρ:Rk} {Ro M:Nat->Prop} {g:Goroutine} {w:World}:r<p.n->PT p.P true p.I p.saidX Ro (p.AtGo Ro (p.n-(r+1)) (p.Spawns Anch r)) ρ M g w->MSit (.sp r 2) (p.n-(r+1)) ρ 0 0 Ro M g w
 |kd {ρ:Rk} {Ro M:Nat->Prop} {g:Goroutine} {w:World}:PT p.P true p.I p.saidX Ro (p.AtKd Anch Ro) ρ M g w->MSit .kd p.n ρ 0 0 Ro M g w
 |anch {ρ:Rk} {Ro M:Nat->Prop} {g:Goroutine} {w:World}:PT p.P true p.I p.saidX Ro (Anch Ro) ρ M g w->MSit .anch p.n ρ 0 1 Ro M g w
 |w1 {ρ:Rk} {Ro M:Nat->Prop} {g:Goroutine} {w:World}:PT p.P true p.I p.saidX Ro (p.AtW1 Fin Anch Ro) ρ M g w->MSit .w1 p.n ρ 0 1 Ro M g w
 |w2 {vs:Nat} {ρ:Rk} {Ro M:Nat->Prop} {g:Goroutine} {w:World}:PT p.P true p.I p.saidX Ro (p.AtW2 Fin Anch Ro vs) ρ M g w->MSit (.w2 vs) p.n ρ 0 1 Ro M g w
 |w3 {ρ:Rk} {Ro M:Nat->Prop} {g:Goroutine} {w:World}:PT p.P true p.I p.saidX Ro (p.AtW3 Fin Ro) ρ M g w->MSit .w3 p.n ρ 1 1 Ro M g w
 |blk {ρ:Rk} {Ro M:Nat->Prop} {g:Goroutine} {w:World}:g.status=.running->g.offers=none->PT p.P true p.I p.saidX Ro (p.AtW3 Fin Ro) ρ M g w->(∀F4,ax (λb=>M b\/Ro b) w F4->p.I F4->p.AtW3 Fin Ro M g F4)->MSit .blk p.n ρ 0 1 Ro M {g with status:=.blocked} w
 |w4 {ρ:Rk} {Ro M:Nat->Prop} {g:Goroutine} {w:World}:PT p.P true p.I p.saidX Ro (p.AtW4 Fin Ro) ρ M g w->MSit .w4 p.n ρ 0 1 Ro M g w
 |ke {ρ:Rk} {Ro M:Nat->Prop} {g:Goroutine} {w:World}:PT p.P true p.I p.saidX Ro (p.AtKe Fin Ro) ρ M g w->MSit .ke p.n ρ 0 1 Ro M g w
 |acq {ρ:Rk} {Ro M:Nat->Prop} {g:Goroutine} {w:World}:PT p.P true p.I p.saidX Ro (p.AtAcq Fin Ro) ρ M g w->MSit .acq p.n ρ 0 0 Ro M g w
inductive WPl where
 |fetch (f lo:Nat) (seq:List Nat)
 |put (seq:List Nat)
 |lib (s:Nat) (seq:List Nat) (vs:List Value) (Mr:Nat->Prop)
def WPl.stage:WPl->Nat
 |.lib s _ _ _=>s
 |_=>7
def WPl.cost:WPl->Nat
 |.fetch f _ _=>9+f
 |.put _=>8
 |.lib s _ _ _=>s
def WPl.seq:WPl->List Nat
 |.fetch _ _ s=>s
 |.put s=>s
 |.lib _ s _ _=>s
inductive WS (k:Nat)(Ro:Nat->Prop):WPl->Rk->Nat->(Nat->Prop)->Goroutine->World->Prop
 |fetch {f lo:Nat} {seq:List Nat} {ρ:Rk} {M:Nat->Prop} {g:Goroutine} {w:World}:PT p.P false p.I noX Ro (p.AtFetch k Ro f lo seq) ρ M g w->WS k Ro (.fetch f lo seq) ρ 0 M g w
 |put {seq:List Nat} {ρ:Rk} {M:Nat->Prop} {g:Goroutine} {w:World}:PT p.P false p.I noX Ro (p.AtPut k seq) ρ M g w->WS k Ro (.put seq) ρ 0 M g w
 |lib {s m d C c:Nat} {v:Value} {seq:List Nat} {vs:List Value} {Mr M:Nat->Prop} {g:Goroutine} {w:World}:M C->¬Mr C->@WSit p.pl p.P p.ty p.Wg C c (λ_ _=>False) (λ_ _=>False) 0 1 v s m d g w->WS k Ro (.lib s seq vs Mr) (Rk.nat m) d M g w
end
end Ph
end
section
open Go Go.Conc
open Go.ConcN (CT Apart Ok0 OkW RelBy PermW sumTo upd WgLive RW DWs AtR0 WSit CTag WD Mode Vc pend phi PayAt Has upd_same upd_ne)
open Go.ConcR (stA smA WgAt KK rd wr)
def inBk (S:Nat->Prop):Loc->Prop
 |.cell a=>S a.block
 |.obj r=>S r
 |_=>False
theorem inBk.mono {S S':Nat->Prop}(h:∀b,S b->S' b):∀{l:Loc},inBk S l->inBk S' l
 |.cell _,x|.obj _,x=>h _ x
theorem inBk.some {S:Nat->Prop}:∀{l:Loc},inBk S l->∃b,S b/\inBk (·=b) l
 |.cell _,x|.obj _,x=>⟨_,x,rfl⟩
theorem inBk.eq {b b':Nat}:∀{l:Loc},inBk (·=b) l->inBk (·=b') l->b=b'
 |.cell _,x,y|.obj _,x,y=>x.symm.trans y
theorem inBk.low {S:Nat->Prop}{B:Nat}(h:∀b,S b->b<B):∀{l:Loc},inBk S l->l.low B
 |.cell _,x|.obj _,x=>h _ x
theorem inBk.nlow {b B:Nat}(h:B<=b):∀{l:Loc},inBk (·=b) l->¬l.low B
 |.cell _,x,y|.obj _,x,y=>by cases x;exact absurd y (Nat.not_lt.2 h)
namespace Ph
variable (p:Ph)(Shun:Loc->Prop)
def mineBs (k:Nat)(l:Loc):Prop:=∃a:Addr,l=.cell a/\a.block=p.Bs/\k*p.wd<=a.off/\a.off<(k+1)*p.wd
def Own (M:Nat->Nat->Prop)(k:Nat)(l:Loc):Prop:=p.J<=k/\(inBk (M (k-p.J+1)) l\/p.mineBs (k-p.J) l)
def Rd (Ro:Nat->Nat->Prop)(k:Nat)(l:Loc):Prop:=p.J<=k/\inBk (Ro (k-p.J+1)) l
def Sh (l:Loc):Prop:=Shun l\/∃a:Addr,l=.cell a/\(a.block=p.Wg\/a.block=p.tk.block)
structure Geo:Prop where
 wt:p.Wg≠p.tk.block
 wb:p.Wg≠p.Bs
 tb:p.tk.block≠p.Bs
 shBs:∀a:Addr,a.block=p.Bs->¬Shun (.cell a)
 J1:1<=p.J
structure Fam (E1:Nat)(M Ro:Nat->Nat->Prop)(w:World):Prop where
 disj:∀i k,i≠k->∀b,M i b->¬M k b
 ro:∀i k b,M i b->¬Ro k b
 sp:∀i b,p.Sp b->¬M i b/\¬Ro i b
 lt:∀i b,M i b\/Ro i b->b<w.heap.size
 spLt:∀b,p.Sp b->b<w.heap.size
 shun:∀i b,M i b\/Ro i b->∀l,inBk (·=b) l->¬Shun l
 base:E1<=w.heap.size
variable {p}{Shun}{E1:Nat}{M Ro:Nat->Nat->Prop}{w w':World}
theorem mineBs.eq {k k':Nat}{l:Loc}(h:p.mineBs k l)(h':p.mineBs k' l):k=k':=by
 obtain⟨a,rfl,_,h1,h2⟩:=h;obtain⟨a',e,_,h3,h4⟩:=h';cases e;have:∀x y:Nat,x*p.wd<=a.off->a.off<(y+1)*p.wd->x<=y:=λx y hx hy=>GK (Nat.lt_of_mul_lt_mul_right (a:=p.wd) (by rw[Nat.succ_eq_add_one];omega))
 have a1:=this k k' h1 h4;have a2:=this k' k h3 h2;omega
theorem mineBs.inBk {k:Nat}{l:Loc}(h:p.mineBs k l):inBk (·=p.Bs) l:=by obtain⟨a,rfl,h,_⟩:=h;exact h
theorem sh_in {l:Loc}(h:p.Sh Shun l):Shun l\/inBk (λb=>b=p.Wg\/b=p.tk.block) l:=h.imp id λ⟨_,e,h⟩=>e▸h
theorem Fam.apart (h:Fam p Shun E1 M Ro w)(G:Geo p Shun):Apart (p.Sh Shun) (p.Own M) (p.Rd Ro):=by
 refine⟨λk k' l ⟨hk,h1⟩ ⟨hk',h2⟩=>?_,λk k' l ⟨hk,h1⟩ ⟨hk',h2⟩=>?_,λk l ⟨hk,h1⟩ hs=>?_,λk l ⟨hk,h1⟩ hs=>?_⟩
 .rcases h1 with h1|h1<;>rcases h2 with h2|h2
  .obtain⟨b,hb,hl⟩:=h1.some;obtain⟨b',hb',hl'⟩:=h2.some;obtain rfl:=hl.eq hl';rcases Nat.decEq (k-p.J+1) (k'-p.J+1)with hne|he
   .exact absurd hb' (h.disj _ _ hne b hb)
   .omega
  .obtain⟨b,hb,hl⟩:=h1.some;obtain rfl:=hl.eq h2.inBk;exact absurd hb (h.sp _ _ (.inr (.inr rfl))).1
  .obtain⟨b,hb,hl⟩:=h2.some;obtain rfl:=hl.eq h1.inBk;exact absurd hb (h.sp _ _ (.inr (.inr rfl))).1
  .have:=h1.eq h2;omega
 .obtain⟨b',hb',hl'⟩:=h2.some;rcases h1 with h1|h1
  .obtain⟨b,hb,hl⟩:=h1.some;obtain rfl:=hl.eq hl';exact h.ro _ _ b hb hb'
  .obtain rfl:=hl'.eq h1.inBk;exact(h.sp _ _ (.inr (.inr rfl))).2 hb'
 .rcases h1 with h1|h1
  .obtain⟨b,hb,hl⟩:=h1.some;rcases sh_in hs with x|x
   .exact h.shun _ b (.inl hb) l hl x
   .obtain⟨b',hb',hl'⟩:=x.some;obtain rfl:=hl.eq hl';exact(h.sp _ b (hb'.imp id .inl)).1 hb
  .rcases sh_in hs with x|x
   .obtain⟨a,rfl,ha,_⟩:=h1;exact G.shBs a ha x
   .obtain⟨b',hb',hl'⟩:=x.some;obtain rfl:=h1.inBk.eq hl';exact hb'.elim (λe=>G.wb e.symm) λe=>G.tb e.symm
 .obtain⟨b,hb,hl⟩:=h1.some;rcases sh_in hs with x|x
  .exact h.shun _ b (.inr hb) l hl x
  .obtain⟨b',hb',hl'⟩:=x.some;obtain rfl:=hl.eq hl';exact(h.sp _ b (hb'.imp id .inl)).2 hb
theorem Fam.grow (h:Fam p Shun E1 M Ro w)(hS:∀l,Shun l->l.low E1)(i:Nat)(hs:w.heap.size<=w'.heap.size):Fam p Shun E1 (upd M i (grow (M i) w w')) Ro w':=by
 have key:∀k b,upd M i (Proofs.YtlmcblcijndipabGreatDoor.grow (M i) w w') k b->M k b\/(k=i/\w.heap.size<=b/\b<w'.heap.size):=by
  intro k b hb;by_cases e:k=i
  .subst e;rw[upd_same]at hb;exact hb.imp id λx=>⟨rfl,x⟩
  .rw[upd_ne _ _ e]at hb;exact .inl hb
 refine⟨λk k' hne b hb hb'=>?_,λk k' b hb hb'=>?_,λk b hb=>⟨λhk=>?_,(h.sp k b hb).2⟩,λk b hb=>?_,λb hb=>Gn (h.spLt b hb) hs,λk b hb l hl hx=>?_,Gq h.base hs⟩
 .rcases key _ _ hb with x|⟨x,y,z⟩<;>rcases key _ _ hb' with x'|⟨x',y',z'⟩
  .exact h.disj k k' hne b x x'
  .have:=h.lt k b (.inl x);omega
  .have:=h.lt k' b (.inl x');omega
  .exact hne (x.trans x'.symm)
 .rcases key _ _ hb with x|⟨x,y,z⟩
  .exact h.ro k k' b x hb'
  .have:=h.lt k' b (.inr hb');omega
 .rcases key _ _ hk with x|⟨x,y,z⟩
  .exact(h.sp k b hb).1 x
  .have:=h.spLt b hb;omega
 .rcases hb with hb|hb
  .rcases key _ _ hb with x|⟨x,y,z⟩
   .exact Gn (h.lt k b (.inl x)) hs
   .exact z
  .exact Gn (h.lt k b (.inr hb)) hs
 .rcases hb with hb|hb
  .rcases key _ _ hb with x|⟨x,y,z⟩
   .exact h.shun k b (.inl x) l hl hx
   .exact hl.nlow (Gq h.base y) (hS l hx)
  .exact h.shun k b (.inr hb) l hl hx
theorem Fam.at (h:Fam p Shun E1 M Ro w)(hs:w.heap.size<=w'.heap.size):Fam p Shun E1 M Ro w':=
 ⟨h.disj,h.ro,h.sp,λi b hb=>Gn (h.lt i b hb) hs,λb hb=>Gn (h.spLt b hb) hs,h.shun,Gq h.base hs⟩
theorem tr_grow {K:Nat}{t:Trace}(h:Tr Shun (p.Sh Shun) (p.Own M) (p.Rd Ro) p.Wg p.J p.T0 K w.heap.size t)(i:Nat)(hs:w.heap.size<=w'.heap.size):Tr Shun (p.Sh Shun) (p.Own (upd M i (grow (M i) w w'))) (p.Rd Ro) p.Wg p.J p.T0 K w'.heap.size t:=by
 refine(h.grow (λk l _ _ ⟨hk,hx⟩=>?_) (λk l _ _ hx=>.inl hx) (λk l _ _ ⟨hk,hx⟩=>⟨hk,hx.imp (inBk.mono λb hb=>?_) id⟩) (λk l _ _ hx=>hx)).mono hs
 .rcases hx with hx|hx
  .by_cases e:k-p.J+1=i
   .rw[e,upd_same]at hx;obtain⟨b,hb,hl⟩:=hx.some;rcases hb with hb|⟨hb,_⟩
    .exact .inl ⟨hk,.inl (by rw[e];exact inBk.mono (λ_ (y:_=b)=>y▸hb) hl)⟩
    .exact .inr (hl.nlow hb)
   .rw[upd_ne _ _ e]at hx;exact .inl ⟨hk,.inl hx⟩
  .exact .inl ⟨hk,.inr hx⟩
 .by_cases e:k-p.J+1=i
  .rw[e,upd_same];rw[e]at hb;exact .inl hb
  .rw[upd_ne _ _ e];exact hb
theorem touch_private {e:Event}{S R:Nat->Prop}{X:Event->Prop}(h:uw X S R e)(hX:X e->(MemAct.ofEvent e).touch?=none){x:Touch}(hx:(MemAct.ofEvent e).touch?=some x):x.kind=.plain/\x.loc.isMemory=true/\(inBk S x.loc\/(inBk R x.loc/\x.write=false)):=by
 obtain⟨loc,wr,sy⟩:=e;rcases h with⟨e1,a,e2,h⟩|⟨e1,r,e2,h⟩|h|h
 .simp only at e1 e2;subst e1 e2;simp[MemAct.ofEvent,MemAct.touch?]at hx;subst hx;exact⟨rfl,rfl,h.imp id λy=>⟨y.1,y.2⟩⟩
 .simp only at e1 e2;subst e1 e2;simp[MemAct.ofEvent,MemAct.touch?]at hx;subst hx;exact⟨rfl,rfl,h.imp id λy=>⟨y.1,y.2⟩⟩
 .obtain⟨m,h1,h2⟩:=h;cases h2;cases m<;>first|(cases h1;done)|(cases hx;done)
 .rw[hX h]at hx;cases hx
theorem mark_private {e:Event}{S R:Nat->Prop}{X:Event->Prop}{m:Mark}(h:uw X S R e)(hX:X e->e.loc≠.mark m)(hm:yY m=false):e.loc≠.mark m:=by
 rcases h with⟨_,a,e2,_⟩|⟨_,r,e2,_⟩|h|h
 .rw[e2];simp
 .rw[e2];simp
 .obtain⟨m',h1,rfl⟩:=h;intro e;simp only[Loc.mark.injEq]at e;rw[e,hm]at h1;cases h1
 .exact hX h
end Ph
section
variable {P:Program}{m:Bool}{I:World->Prop}{X:Event->Prop}{Ro:Nat->Prop}{Stop:(Nat->Prop)->Goroutine->World->Prop}{M:Nat->Prop}{g:Goroutine}{W:World}{r:Rk}
theorem PT.cases (h:PT P m I X Ro Stop r M g W):(∀Fe,ax (λb=>M b\/Ro b) W Fe->I Fe->Stop M g Fe)\/
  ∃f,r=.node f/\g.status=.running/\∀Fe,ax (λb=>M b\/Ro b) W Fe->I Fe->∃g' W' es,stepG P m g Fe=.go g' W' es/\bT X M Ro Fe W' es/\PT P m I X Ro Stop (f Fe) (grow M Fe W') g' W':=by
 cases r with
 |leaf=>exact .inl h
 |node f=>exact Or.imp id (λx=>⟨f,rfl,x⟩) h
theorem PT.running (hst:∀M g W,Stop M g W->g.status=.running)(h:PT P m I X Ro Stop r M g W)(i:I W):g.status=.running:=by
 rcases h.cases with h|⟨_,_,h,_⟩
 .exact hst _ _ _ (h W (ax.refl _ _) i)
 .exact h
end
namespace Ph
variable {p:Ph}{Fin Anch:(Nat->Prop)->(Nat->Prop)->Goroutine->World->Prop}{tag:CTag}{j x d k:Nat}{ρ:Rk}{Ro M:Nat->Prop}{a g:Goroutine}{w F4:World}{pl:WPl}
theorem MSit.rely (h:p.MSit Fin Anch tag j ρ x d Ro M a w)(hk:ax (λb=>M b\/Ro b) w F4):p.MSit Fin Anch tag j ρ x d Ro M a F4:=by
 cases h with
 |skd h1 h=>exact .skd h1 (h.rely hk)
 |sa1 h1 h=>exact .sa1 h1 (h.rely hk)
 |ske h1 h=>exact .ske h1 (h.rely hk)
 |sgo h1 h=>exact .sgo h1 (h.rely hk)
 |kd h=>exact .kd (h.rely hk)
 |anch h=>exact .anch (h.rely hk)
 |w1 h=>exact .w1 (h.rely hk)
 |w2 h=>exact .w2 (h.rely hk)
 |w3 h=>exact .w3 (h.rely hk)
 |blk h1 h2 h3 h=>exact .blk h1 h2 (h3.rely hk) λF5 FP i=>h F5 (hk.trans FP) i
 |w4 h=>exact .w4 (h.rely hk)
 |ke h=>exact .ke (h.rely hk)
 |acq h=>exact .acq (h.rely hk)
theorem MSit.status (hAr:∀Ro M g W,Anch Ro M g W->g.status=.running)(h:p.MSit Fin Anch tag j ρ x d Ro M a w)(i:p.I w):(a.status=.running/\tag≠.blk)\/(a.status=.blocked/\tag=.blk):=by
 cases h with
 |skd _ h=>exact .inl ⟨h.running (λ_ _ _ x=>x.1) i,by simp⟩
 |sa1 _ h=>exact .inl ⟨h.running (λ_ _ _ x=>x.1) i,by simp⟩
 |ske _ h=>exact .inl ⟨h.running (λ_ _ _ x=>x.1) i,by simp⟩
 |sgo _ h=>exact .inl ⟨h.running (λ_ _ _ x=>x.1) i,by simp⟩
 |kd h=>exact .inl ⟨h.running (λ_ _ _ x=>x.1) i,by simp⟩
 |anch h=>exact .inl ⟨h.running (λ_ _ _ x=>hAr _ _ _ _ x) i,by simp⟩
 |w1 h=>exact .inl ⟨h.running (λ_ _ _ x=>x.1) i,by simp⟩
 |w2 h=>exact .inl ⟨h.running (λ_ _ _ x=>x.1) i,by simp⟩
 |w3 h=>exact .inl ⟨h.running (λ_ _ _ x=>x.1) i,by simp⟩
 |blk _ _ _ _=>exact .inr ⟨rfl,rfl⟩
 |w4 h=>exact .inl ⟨h.running (λ_ _ _ x=>x.1) i,by simp⟩
 |ke h=>exact .inl ⟨h.running (λ_ _ _ x=>x.1) i,by simp⟩
 |acq h=>exact .inl ⟨h.running (λ_ _ _ x=>x.1) i,by simp⟩
theorem MSit.wokenBy (hAr:∀Ro M g W,Anch Ro M g W->g.status=.running)(h:p.MSit Fin Anch tag j ρ x d Ro M a w)(i:p.I w)(g g':Goroutine):
  ∃tag' x',p.MSit Fin Anch tag' j ρ x' d Ro M (woken p.P g g' w a) w/\(tag'=tag\/(tag=.blk/\tag'=.w3))/\(mayWake p.P g=true->g'.status=.running->tag'≠.blk):=by
 unfold Go.Conc.woken;split
 .rcases h.status hAr i with⟨hs,hne⟩|⟨_,rfl⟩
  .exact⟨tag,x,by rw[again_running _ (.inl hs)];exact h,.inl rfl,λ_ _=>hne⟩
  .cases h with
   |blk h1 h2 h3 hb=>exact⟨.w3,1,by rw[Go.ConcR.again_blocked h1 h2];exact .w3 h3,.inr ⟨rfl,rfl⟩,λ_ _=>by simp⟩
 .rename_i hc;exact⟨tag,x,h,.inl rfl,λh1 h2=>absurd (by simp[h1,h2]) hc⟩
theorem rw_keep {C c:Nat}(hC:M C)(hk:ax (λb=>M b\/Ro b) w F4)(i:p.I F4):@RW p.pl p.ty p.Wg C c 0 0 w F4:=
 letI:=p.pl;⟨λb h=>absurd h (Gr b),λ_=>i.1,λ⟨cs,h,hn⟩=>⟨cs,(hk.block C (.inl hC)).trans h,hn⟩,Go.ConcN.cell_of_block (hk.block C (.inl hC)) 0⟩
theorem WS.rely (h:p.WS k Ro pl ρ d M g w)(hk:ax (λb=>M b\/Ro b) w F4)(i:p.I F4):p.WS k Ro pl ρ d M g F4:=by
 cases h with
 |fetch h=>exact .fetch (h.rely hk)
 |put h=>exact .put (h.rely hk)
 |lib hC hr h=>exact .lib hC hr (@WSit.rely p.pl _ _ _ _ _ _ _ _ _ _ _ _ _ _ _ _ h (rw_keep hC hk i))
theorem AtFetch.running {f lo:Nat}{seq:List Nat}{M:Nat->Prop}{g:Goroutine}{W:World}(h:p.AtFetch k Ro f lo seq M g W):g.status=.running:=by
 cases f<;>exact h.1
theorem WS.status (h:p.WS k Ro pl ρ d M g w)(i:p.I w):g.status=.running\/(g.status=.finished/\pl.stage=1):=by
 cases h with
 |fetch h=>exact .inl (h.running (λ_ _ _ x=>x.running) i)
 |put h=>exact .inl (h.running (λ_ _ _ x=>x.1) i)
 |lib hC hr h=>
  rename_i s _ _ _ _ _ _ _;by_cases hs:s=1
  .exact(@WSit.status p.pl _ _ _ _ _ _ _ _ _ _ _ _ _ _ _ h).imp id λx=>⟨x,hs⟩
  .exact .inl (@Go.ConcN.WSit.running_of p.pl _ _ _ _ _ _ _ _ _ _ _ _ _ _ _ h hs)
theorem WS.woken (h:p.WS k Ro pl ρ d M g w)(i:p.I w)(a a':Goroutine)(w':World):woken p.P a a' w' g=g:=by
 unfold Go.Conc.woken;split
 .exact again_running _ ((h.status i).imp id And.left)
 .rfl
end Ph
end
section
open Go Go.Conc
open Go.ConcN (CT Apart Ok0 OkW RelBy PermW sumTo sumTo_upd sumTo_congr upd WgLive RW DWs AtR0 WSit CTag WD Vc cnt pend phi phi_mono phi_retag PayAt Has upd_same upd_ne get_map_set get_map_set_same)
open Go.ConcR (stA smA WgAt KK rd wr g_of_ofEvents)
namespace Ph
structure Gh where
 gs:Array Goroutine
 w:World
 sl:Option (Nat×Nat)
 j:Nat
 D:Nat->WPl
 tag:CTag
 ρ:Rk
 x:Nat
 a:Goroutine
 M:Nat->Nat->Prop
 Ro:Nat->Nat->Prop
 R:Nat->Rk
 c:Nat
 st:Int
 sm:Int
def wdOf (D:Nat->WPl)(i:Nat):WD:=⟨(D i).stage,0,0⟩
def WPl.exited:WPl->Nat
 |.fetch _ _ _=>0
 |_=>1
def WPl.lo:WPl->Nat->Prop
 |.fetch _ lo _,c=>lo<=c
 |_,_=>True
def Gh.μ (p:Ph)(G:Gh):Nat×(Nat->Rk)×Rk×Nat:=(phi p.n (Vc G.j (wdOf G.D)) G.tag+(p.L+20)*(p.n-G.j)+sumTo G.j (λi=>(G.D i).cost),G.R,G.ρ,G.x)
def Lt4 (p:Ph):Nat×(Nat->Rk)×Rk×Nat->Nat×(Nat->Rk)×Rk×Nat->Prop:=Prod.Lex (·<·) (Prod.Lex (DO (p.J+p.n)) (Prod.Lex Rk.lt (·<·)))
theorem Lt4.wf (p:Ph):WellFounded (Lt4 p):=(Prod.lex Nat.lt_wfRel (Prod.lex ⟨_,DO.wf _⟩ (Prod.lex ⟨_,Rk.wf⟩ Nat.lt_wfRel))).wf
variable (p:Ph)(Shun:Loc->Prop)(E1:Nat)(Fin Anch:(Nat->Prop)->(Nat->Prop)->Goroutine->World->Prop)
structure Fact (i:Nat)(pl:WPl)(Mi:Nat->Prop)(c:Nat)(w:World)(t:Trace):Prop where
 seq:∀x∈pl.seq,x<p.L
 lo:pl.lo c
 out:pl.exited=1->p.L<c
 lib:∀s seq vs Mr,pl=.lib s seq vs Mr->p.Slot i vs w/\(p.Res seq vs Mr w/\∀b,Mr b->Mi b)/\(s<=6->∃r,RelBy (stA p.Wg) t (p.J+i) r)
structure Inv (G:Gh)(t:Trace):Prop where
 size:G.gs.size=p.J+G.j
 jn:G.j<=p.n
 main:G.gs[0]?=some G.a
 sit:p.MSit Fin Anch G.tag G.j G.ρ G.x (Deaf t 0) (G.Ro 0) (G.M 0) G.a G.w
 wk:∀i,i<G.j->∃g,G.gs[p.J+i]?=some g/\p.WS i (G.Ro (i+1)) (G.D i) (G.R (p.J+i)) (Deaf t (p.J+i)) (G.M (i+1)) g G.w
 old:∀i,0<i->i<p.J->∃g q,G.gs[i]?=some g/\QuitsD p.P q (Deaf t i) g/\G.R i=Rk.nat q
 above:∀k,p.J+G.j<=k->Deaf t k=0
 fam:Fam p Shun E1 G.M G.Ro G.w
 tr:Tr Shun (p.Sh Shun) (p.Own G.M) (p.Rd G.Ro) p.Wg p.J p.T0 (p.J-1+G.j) G.w.heap.size t
 wg:WgAt p.ty p.Wg G.w G.st G.sm
 tk:p.TkAt G.w G.c
 bs:∃cs,p.BsAt cs G.w
 mode:Go.ConcN.Mode G.j (wdOf G.D) G.tag G.st G.sm
 fact:∀i,i<G.j->p.Fact i (G.D i) (G.M (i+1)) G.c G.w t
 cov:∀x,x<p.L->x<G.c->∃i,i<G.j/\x∈(G.D i).seq
 bound:G.c<=p.L+sumTo G.j λi=>(G.D i).exited
def InvM (μ:Nat×(Nat->Rk)×Rk×Nat)(m:Machine)(t:Trace):Prop:=∃G:Gh,m=crowd G.gs G.w G.sl/\μ=G.μ p/\p.Inv Shun E1 Fin Anch G t
def ResOk:Prop:=∀seq vs M w w',p.Res seq vs M w->ax M w w'->p.Res seq vs M w'
variable {p}{Shun}{E1}{Fin Anch}{G:Gh}{t:Trace}
theorem Inv.I (h:p.Inv Shun E1 Fin Anch G t):p.I G.w:=⟨⟨_,_,h.wg⟩,⟨_,h.tk⟩,h.bs⟩
theorem Inv.at (hR:p.ResOk)(h:p.Inv Shun E1 Fin Anch G t)(d:Nat)(sl:Option (Nat×Nat)):p.Inv Shun E1 Fin Anch {G with w:=G.w.at d,sl:=sl} t:=by
 have k:∀S,ax S G.w (G.w.at d):=λS=>⟨λ_ _=>rfl,Gm _,rfl,rfl⟩
 have i:p.I (G.w.at d):=h.I;exact⟨h.size,h.jn,h.main,h.sit.rely (k _),λi' hi=>let⟨g,h1,h2⟩:=h.wk i' hi;⟨g,h1,h2.rely (k _) i⟩,h.old,h.above,h.fam.at (Gm _),h.tr,h.wg,h.tk,h.bs,h.mode,
  λi' hi=>let f:=h.fact i' hi;⟨f.seq,f.lo,f.out,λs seq vs Mr e=>let⟨a,b,c⟩:=f.lib s seq vs Mr e;⟨a,⟨hR _ _ _ _ _ b.1 (k _),b.2⟩,c⟩⟩,h.cov,h.bound⟩
theorem Inv.keep (h:p.Inv Shun E1 Fin Anch G t){i k:Nat}{w':World}(hsz:G.w.heap.size<=w'.heap.size)(hkeep:∀b,b<G.w.heap.size->¬G.M i b->¬p.Sp b->w'.heap[b]?=G.w.heap[b]?)(hne:k≠i)(hoo:w'.os=G.w.os/\w'.output=G.w.output):ax (λb=>G.M k b\/G.Ro k b) G.w w':=
 ⟨λb hb=>hkeep b (h.fam.lt k b hb) (λhi=>hb.elim (h.fam.disj i k (Ne.symm hne) b hi) (h.fam.ro i k b hi)) (λhs=>hb.elim (h.fam.sp k b hs).1 (h.fam.sp k b hs).2),hsz,hoo.1,hoo.2⟩
theorem wdOf_upd (D:Nat->WPl)(i:Nat)(pl:WPl):wdOf (upd D i pl)=upd (wdOf D) i ⟨pl.stage,0,0⟩:=by
 funext a;by_cases e:a=i
 .subst e;simp[wdOf,upd_same]
 .simp[wdOf,upd_ne _ _ e]
theorem Fact.other {i k:Nat}{pl:WPl}{Mi:Nat->Prop}{c c':Nat}{w w':World}(hR:p.ResOk)(f:p.Fact i pl Mi c w t)(hc:c<=c')(hk:ax Mi w w')(hs:∀vs,p.Slot i vs w->p.Slot i vs w'){u:Trace}(hu:∀op∈u,op.g=k)(hne:k≠p.J+i):p.Fact i pl Mi c' w' (t++u):=
 ⟨f.seq,by have:=f.lo;cases pl<;>simp only[WPl.lo]at this⊢<;>first|trivial|omega,λe=>Gn (f.out e) hc,λs seq vs Mr e=>let⟨a,b,d⟩:=f.lib s seq vs Mr e;⟨hs vs a,⟨hR _ _ _ _ _ b.1 (hk.mono b.2),b.2⟩,λh6=>let⟨r,hr⟩:=d h6;⟨r,hr.appOther hu hne⟩⟩⟩
theorem Inv.stepW (hR:p.ResOk)(G0:Geo p Shun)(hS:∀l,Shun l->l.low E1)(hAr:∀Ro M g W,Anch Ro M g W->g.status=.running)(h:p.Inv Shun E1 Fin Anch G t){i:Nat}(hi:i<G.j){g g':Goroutine}{w':World}{es:Array Event}{pl':WPl}{ρ':Rk}{st' sm':Int}{c':Nat}
  (hg:G.gs[p.J+i]?=some g)(hgo:stepG p.P false g G.w=.go g' w' es)(hsz:G.w.heap.size<=w'.heap.size)(hkeep:∀b,b<G.w.heap.size->¬G.M (i+1) b->¬p.Sp b->w'.heap[b]?=G.w.heap[b]?)
  (hs':p.WS i (G.Ro (i+1)) pl' ρ' (deafBehind (Deaf t (p.J+i)) es) (grow (G.M (i+1)) G.w w') g' w')
  (hok:∀op∈MemOp.ofEvents (p.J+i) g.frame.fn g.frame.place es,OkW (p.Sh Shun) (p.Own (upd G.M (i+1) (grow (G.M (i+1)) G.w w'))) (p.Rd G.Ro) (p.J+i) op)(hop:∀op∈MemOp.ofEvents (p.J+i) g.frame.fn g.frame.place es,tA (p.Sh Shun) p.Wg p.J w'.heap.size op)
  (hwg:WgAt p.ty p.Wg w' st' sm')(htk:p.TkAt w' c')(hbs:∃cs,p.BsAt cs w')
  (hmode:∀tag',(tag'=G.tag\/(G.tag=.blk/\tag'=.w3))->(mayWake p.P g=true->g'.status=.running->tag'≠.blk)->Go.ConcN.Mode G.j (upd (wdOf G.D) i ⟨pl'.stage,0,0⟩) tag' st' sm')
  (hfi:p.Fact i pl' (grow (G.M (i+1)) G.w w') c' w' (t++MemOp.ofEvents (p.J+i) g.frame.fn g.frame.place es))(hfo:∀k,k≠i->∀vs,p.Slot k vs G.w->p.Slot k vs w')(hcc:G.c<=c')
  (hcov:∀x,x<p.L->G.c<=x->x<c'->x∈pl'.seq)(hseq:∀x∈(G.D i).seq,x∈pl'.seq)(hb:c'<=p.L+sumTo G.j λk=>(upd G.D i pl' k).exited)
  (hlt:(pl'.cost<(G.D i).cost/\cnt ⟨pl'.stage,0,0⟩<=cnt ⟨(G.D i).stage,0,0⟩)\/(pl'.cost=(G.D i).cost/\pl'.stage=(G.D i).stage/\Rk.lt ρ' (G.R (p.J+i))))(hoo:w'.os=G.w.os/\w'.output=G.w.output:=by first|exact⟨rfl,rfl⟩|exact⟨hp.os,hp.out⟩|exact⟨hput.os,hput.out⟩|exact⟨hA.os,hA.output⟩|exact⟨hac.os,hac.output⟩|exact⟨hk.os,hk.out⟩):
  ∃FV ops μ',runT p.P (crowd G.gs G.w G.sl) (p.J+i)=(.next FV,ops)/\Lt4 p μ' (G.μ p)/\p.InvM Shun E1 Fin Anch μ' FV (t++ops):=by
 have i':p.I w':=⟨⟨_,_,hwg⟩,⟨_,htk⟩,hbs⟩;have hJ:=G0.J1;obtain⟨tag',x',hsit,htag,hwk⟩:=(h.sit.rely (h.keep (i:=i+1) (k:=0) hsz hkeep (by omega) hoo)).wokenBy hAr i' g g';have hrun:=runT_crowd_go (P:=p.P) (sl:=G.sl) (i:=p.J+i) hg (by rw[show((p.J+i)==0)=false by simp;omega];exact hgo);have hdo:∀k,k≠p.J+i->Deaf (t++MemOp.ofEvents (p.J+i) g.frame.fn g.frame.place es) k=Deaf t k:=λk hk=>Deaf_other t (Ne.symm hk) _ g_of_ofEvents
 have hM0:upd G.M (i+1) (grow (G.M (i+1)) G.w w') 0=G.M 0:=upd_ne _ _ (by omega);have hsz':G.gs.size=p.J+G.j:=h.size;let G':Gh:={gs:=(G.gs.map (Go.Conc.woken p.P g g' w')).setIfInBounds (p.J+i) g',w:=w',sl:=G.sl,j:=G.j,D:=upd G.D i pl',tag:=tag',ρ:=G.ρ,x:=x',a:=Go.Conc.woken p.P g g' w' G.a,M:=upd G.M (i+1) (grow (G.M (i+1)) G.w w'),Ro:=G.Ro,R:=upd G.R (p.J+i) ρ',c:=c',st:=st',sm:=sm'}
 have hI:p.Inv Shun E1 Fin Anch G' (t++MemOp.ofEvents (p.J+i) g.frame.fn g.frame.place es):=by
  refine⟨by simpa[G']using hsz',h.jn,?_,?_,λk hk=>?_,λk h0 hk=>?_,λk hk=>?_,h.fam.grow hS (i+1) hsz,?_,hwg,htk,hbs,?_,λk hk=>?_,λx hx hxc=>?_,hb⟩
  .show((G.gs.map _).setIfInBounds _ _)[0]?=_;rw[get_map_set _ _ _ _ (by omega),h.main];rfl
  .show p.MSit Fin Anch tag' G.j G.ρ x' (Deaf (t++MemOp.ofEvents (p.J+i) g.frame.fn g.frame.place es) 0) (G.Ro 0) (upd G.M (i+1) (grow (G.M (i+1)) G.w w') 0) (Go.Conc.woken p.P g g' w' G.a) w';rw[hM0,hdo 0 (by omega)];exact hsit
  .by_cases e:k=i
   .subst e;refine⟨g',get_map_set_same _ _ _ (by omega),?_⟩;simp only[G',upd_same];rw[Deaf_own];exact hs'
   .obtain⟨gk,h1,h2⟩:=h.wk k hk;have h3:=h2.rely (h.keep (i:=i+1) (k:=k+1) hsz hkeep (by omega) hoo) i';refine⟨gk,?_,?_⟩
    .show((G.gs.map _).setIfInBounds _ _)[p.J+k]?=_;rw[get_map_set _ _ _ _ (by omega),h1,Option.map_some,h3.woken i']
    .simp only[G',upd_ne G.D _ e,upd_ne G.R ρ' (show p.J+k≠p.J+i by omega),upd_ne G.M _ (show k+1≠i+1 by omega)];rw[hdo _ (by omega)];exact h3
  .obtain⟨gk,q,h1,h2,h3⟩:=h.old k h0 hk;refine⟨gk,q,?_,?_,?_⟩
   .show((G.gs.map _).setIfInBounds _ _)[k]?=_;rw[get_map_set _ _ _ _ (by omega),h1,Option.map_some,woken_quitsD h2]
   .rw[hdo _ (by omega)];exact h2
   .simp only[G',upd_ne G.R ρ' (show k≠p.J+i by omega)];exact h3
  .have hk':p.J+G.j<=k:=hk;rw[hdo _ (by omega)];exact h.above k hk
  .exact(tr_grow h.tr (i+1) hsz).appW ((h.fam.grow hS (i+1) hsz).apart G0) (by omega) (by show p.J+i<=p.J-1+G.j;omega) hJ hok hop
  .show Go.ConcN.Mode G.j (wdOf (upd G.D i pl')) tag' st' sm';rw[wdOf_upd];exact hmode tag' htag hwk
  .by_cases e:k=i
   .subst e;simp only[G',upd_same];exact hfi
   .simp only[G',upd_ne G.D _ e,upd_ne G.M _ (show k+1≠i+1 by omega)];exact(h.fact k hk).other hR hcc ((h.keep (i:=i+1) (k:=k+1) hsz hkeep (by omega) hoo).mono λb hb=>.inl hb) (hfo k e) g_of_ofEvents (by omega)
  .rcases Gv x G.c with hlt'|hge
   .obtain⟨k,hk,hxk⟩:=h.cov x hx hlt';refine⟨k,hk,?_⟩;by_cases e:k=i
    .subst e;simp only[G',upd_same];exact hseq x hxk
    .simp only[G',upd_ne G.D _ e];exact hxk
   .exact⟨i,hi,by simp only[G',upd_same];exact hcov x hx hge hxc⟩
 refine⟨_,_,G'.μ p,hrun,?_,G',rfl,rfl,hI⟩;have e1:=sumTo_upd (wdOf G.D) (⟨pl'.stage,0,0⟩:WD) cnt hi;have e2:sumTo G.j (λk=>(upd G.D i pl' k).cost)+(G.D i).cost=sumTo G.j (λk=>(G.D k).cost)+pl'.cost:=sumTo_upd G.D pl' WPl.cost hi;have ev:Vc G.j (wdOf (upd G.D i pl'))+cnt (wdOf G.D i)=Vc G.j (wdOf G.D)+cnt ⟨pl'.stage,0,0⟩:=by rw[wdOf_upd];exact e1
 show Lt4 p (phi p.n (Vc G.j (wdOf (upd G.D i pl'))) tag'+(p.L+20)*(p.n-G.j)+sumTo G.j (λk=>(upd G.D i pl' k).cost),upd G.R (p.J+i) ρ',G.ρ,x') (phi p.n (Vc G.j (wdOf G.D)) G.tag+(p.L+20)*(p.n-G.j)+sumTo G.j (λi=>(G.D i).cost),G.R,G.ρ,G.x);rw[phi_retag p.n _ htag];rcases hlt with⟨h1,h2⟩|⟨h1,h2,h3⟩
 .refine Prod.Lex.left _ _ ?_;have hv:Vc G.j (wdOf (upd G.D i pl'))<=Vc G.j (wdOf G.D):=by simp only[wdOf]at ev h2⊢;omega
  have:=phi_mono p.n hv G.tag;omega
 .have hv:Vc G.j (wdOf (upd G.D i pl'))=Vc G.j (wdOf G.D):=by
   have:cnt (⟨pl'.stage,0,0⟩:WD)=cnt (wdOf G.D i):=by show(if 5<=pl'.stage then 1 else 0)=(if 5<=(G.D i).stage then 1 else 0);rw[h2]
   omega
  have hc:sumTo G.j (λk=>(upd G.D i pl' k).cost)=sumTo G.j (λk=>(G.D k).cost):=by omega
  rw[hv,hc];refine Prod.Lex.right _ (Prod.Lex.left _ _ ⟨p.J+i,?_,by rw[upd_same];exact h3,λk hk=>upd_ne _ _ hk⟩);have:=h.jn;omega
end Ph
namespace Ph
variable {p:Ph}{Shun:Loc->Prop}{E1:Nat}{Fin Anch:(Nat->Prop)->(Nat->Prop)->Goroutine->World->Prop}{G:Gh}{t:Trace}
theorem Inv.stepL (hR:p.ResOk)(G0:Geo p Shun)(hAr:∀Ro M g W,Anch Ro M g W->g.status=.running)(h:p.Inv Shun E1 Fin Anch G t){i:Nat}(h0:0<i)(hi:i<p.J){g:Goroutine}(hg:G.gs[i]?=some g)(hrn:g.status=.running):
  ∃FV ops μ',runT p.P (crowd G.gs G.w G.sl) i=(.next FV,ops)/\Lt4 p μ' (G.μ p)/\p.InvM Shun E1 Fin Anch μ' FV (t++ops):=by
 obtain⟨Fp,q,Fv,hq,hRi⟩:=h.old i h0 hi;obtain rfl:g=Fp:=by rw[hg]at Fv;exact Gt Fv
 cases q with
 |zero=>rw[hq.1]at hrn;cases hrn
 |succ q=>
  rcases hq with⟨hf,_⟩|⟨_,g',es,hm,hst,hq'⟩
  .rw[hf]at hrn;cases hrn
  have hgo:=hst G.w;have i':=h.I;have hsz':G.gs.size=p.J+G.j:=h.size;obtain⟨tag',x',hsit,htag,hwk⟩:=h.sit.wokenBy hAr i' g g';have hrun:=runT_crowd_go (P:=p.P) (sl:=G.sl) (i:=i) hg (by rw[show(i==0)=false by simp;omega];exact hgo);have hdo:∀k,k≠i->Deaf (t++MemOp.ofEvents i g.frame.fn g.frame.place es) k=Deaf t k:=λk hk=>Deaf_other t (Ne.symm hk) _ g_of_ofEvents
  let G':Gh:={G with gs:=(G.gs.map (Go.Conc.woken p.P g g' G.w)).setIfInBounds i g',tag:=tag',x:=x',a:=Go.Conc.woken p.P g g' G.w G.a,R:=upd G.R i (Rk.nat q)}
  have hI:p.Inv Shun E1 Fin Anch G' (t++MemOp.ofEvents i g.frame.fn g.frame.place es):=by
   refine⟨by simpa[G']using hsz',h.jn,?_,?_,λk hk=>?_,λk h0 hk=>?_,λk hk=>?_,h.fam,?_,h.wg,h.tk,h.bs,?_,λk hk=>?_,h.cov,h.bound⟩
   .show((G.gs.map _).setIfInBounds _ _)[0]?=_;rw[get_map_set _ _ _ _ (by omega),h.main];rfl
   .show p.MSit Fin Anch tag' G.j G.ρ x' (Deaf (t++MemOp.ofEvents i g.frame.fn g.frame.place es) 0) (G.Ro 0) (G.M 0) (Go.Conc.woken p.P g g' G.w G.a) G.w;rw[hdo 0 (by omega)];exact hsit
   .obtain⟨gk,h1,h2⟩:=h.wk k hk;refine⟨gk,?_,?_⟩
    .show((G.gs.map _).setIfInBounds _ _)[p.J+k]?=_;rw[get_map_set _ _ _ _ (by omega),h1,Option.map_some,h2.woken i']
    .simp only[G',upd_ne G.R (Rk.nat q) (show p.J+k≠i by omega)];rw[hdo _ (by omega)];exact h2
   .by_cases e:k=i
    .subst e;exact⟨g',q,get_map_set_same _ _ _ (by omega),by rw[Deaf_own];exact hq',by simp only[G',upd_same]⟩
    .obtain⟨gk,q',h1,h2,h3⟩:=h.old k h0 hk;refine⟨gk,q',?_,?_,?_⟩
     .show((G.gs.map _).setIfInBounds _ _)[k]?=_;rw[get_map_set _ _ _ _ (Ne.symm e),h1,Option.map_some,woken_quitsD h2]
     .rw[hdo _ e];exact h2
     .simp only[G',upd_ne G.R _ e];exact h3
   .have hk':p.J+G.j<=k:=hk;rw[hdo _ (by omega)];exact h.above k hk
   .refine h.tr.appM (h.fam.apart G0) (k:=i) (by omega) (by show i<=p.J-1+G.j;omega) g_of_ofEvents (λop hop=>?_) (λop hop=>?_)
    .obtain⟨e,he,rfl⟩:=Go.Conc.mem_ofEvents hop;exact touch_mute (hm e he)
    .obtain⟨e,he,rfl⟩:=Go.Conc.mem_ofEvents hop;intro hx;have hl:=Go.ConcR.loc_of_ofEvent hx;have hme:=hm e he;obtain⟨loc,_,_⟩:=e;simp only at hl;subst hl;cases hme
   .exact h.mode.retag htag
   .exact(h.fact k hk).other hR (Gm _) (ax.refl _ _) (λ_ x=>x) g_of_ofEvents (by omega)
  refine⟨_,_,G'.μ p,hrun,?_,G',rfl,rfl,hI⟩;show Lt4 p (phi p.n (Vc G.j (wdOf G.D)) tag'+(p.L+20)*(p.n-G.j)+sumTo G.j (λk=>(G.D k).cost),upd G.R i (Rk.nat q),G.ρ,x') (phi p.n (Vc G.j (wdOf G.D)) G.tag+(p.L+20)*(p.n-G.j)+sumTo G.j (λi=>(G.D i).cost),G.R,G.ρ,G.x);rw[phi_retag p.n _ htag];exact Prod.Lex.right _ (Prod.Lex.left _ _ ⟨i,by omega,by rw[upd_same,hRi];exact Rk.nat_lt q G.w,λk hk=>upd_ne _ _ hk⟩)
theorem Inv.step0 (hR:p.ResOk)(G0:Geo p Shun)(hS:∀l,Shun l->l.low E1)(h:p.Inv Shun E1 Fin Anch G t){a':Goroutine}{w':World}{es:Array Event}{tag':CTag}{ρ':Rk}{x':Nat}{st' sm':Int}
  (hgo:stepG p.P true G.a G.w=.go a' w' es)(hsz:G.w.heap.size<=w'.heap.size)(hkeep:∀b,b<G.w.heap.size->¬G.M 0 b->¬p.Sp b->w'.heap[b]?=G.w.heap[b]?)
  (hs':p.MSit Fin Anch tag' G.j ρ' x' (deafBehind (Deaf t 0) es) (G.Ro 0) (grow (G.M 0) G.w w') a' w')
  (hok:∀op∈MemOp.ofEvents 0 G.a.frame.fn G.a.frame.place es,Ok0 (p.Sh Shun) (p.Own (upd G.M 0 (grow (G.M 0) G.w w'))) (p.Rd G.Ro) (p.J-1+G.j) op)(hop:∀op∈MemOp.ofEvents 0 G.a.frame.fn G.a.frame.place es,tA (p.Sh Shun) p.Wg p.J w'.heap.size op)
  (hwg:WgAt p.ty p.Wg w' st' sm')(htk:p.TkAt w' G.c)(hbs:∃cs,p.BsAt cs w')(hmode:Go.ConcN.Mode G.j (wdOf G.D) tag' st' sm')(hfo:∀k vs,p.Slot k vs G.w->p.Slot k vs w')
  (hlt:phi p.n (Vc G.j (wdOf G.D)) tag'<phi p.n (Vc G.j (wdOf G.D)) G.tag\/(phi p.n (Vc G.j (wdOf G.D)) tag'=phi p.n (Vc G.j (wdOf G.D)) G.tag/\(Rk.lt ρ' G.ρ\/(ρ'=G.ρ/\x'<G.x))))(hoo:w'.os=G.w.os/\w'.output=G.w.output:=by first|exact⟨rfl,rfl⟩|exact⟨hp.os,hp.out⟩|exact⟨hput.os,hput.out⟩|exact⟨hA.os,hA.output⟩|exact⟨hac.os,hac.output⟩|exact⟨hk.os,hk.out⟩):
  ∃FV ops μ',runT p.P (crowd G.gs G.w G.sl) 0=(.next FV,ops)/\Lt4 p μ' (G.μ p)/\p.InvM Shun E1 Fin Anch μ' FV (t++ops):=by
 have i':p.I w':=⟨⟨_,_,hwg⟩,⟨_,htk⟩,hbs⟩;have hJ:=G0.J1;have hsz':G.gs.size=p.J+G.j:=h.size;have hrun:=runT_crowd_go (P:=p.P) (sl:=G.sl) (i:=0) h.main (show stepG p.P (0==0) G.a G.w=_ from hgo);have hdo:∀k,k≠0->Deaf (t++MemOp.ofEvents 0 G.a.frame.fn G.a.frame.place es) k=Deaf t k:=λk hk=>Deaf_other t (Ne.symm hk) _ g_of_ofEvents
 let G':Gh:={G with gs:=(G.gs.map (Go.Conc.woken p.P G.a a' w')).setIfInBounds 0 a',w:=w',tag:=tag',ρ:=ρ',x:=x',a:=a',M:=upd G.M 0 (grow (G.M 0) G.w w'),st:=st',sm:=sm'}
 have hI:p.Inv Shun E1 Fin Anch G' (t++MemOp.ofEvents 0 G.a.frame.fn G.a.frame.place es):=by
  refine⟨by simpa[G']using hsz',h.jn,get_map_set_same _ _ _ (by omega),?_,λk hk=>?_,λk h0 hk=>?_,λk hk=>?_,h.fam.grow hS 0 hsz,?_,hwg,htk,hbs,hmode,λk hk=>?_,h.cov,h.bound⟩
  .show p.MSit Fin Anch tag' G.j ρ' x' (Deaf (t++MemOp.ofEvents 0 G.a.frame.fn G.a.frame.place es) 0) (G.Ro 0) (upd G.M 0 (grow (G.M 0) G.w w') 0) a' w';rw[Deaf_own,upd_same];exact hs'
  .obtain⟨gk,h1,h2⟩:=h.wk k hk;have h3:=h2.rely (h.keep (i:=0) (k:=k+1) hsz hkeep (by omega) hoo) i';refine⟨gk,?_,?_⟩
   .show((G.gs.map _).setIfInBounds _ _)[p.J+k]?=_;rw[get_map_set _ _ _ _ (by omega),h1,Option.map_some,h3.woken i']
   .simp only[G',upd_ne G.M _ (show k+1≠0 by omega)];rw[hdo _ (by omega)];exact h3
  .obtain⟨gk,q,h1,h2,h3⟩:=h.old k h0 hk;refine⟨gk,q,?_,?_,h3⟩
   .show((G.gs.map _).setIfInBounds _ _)[k]?=_;rw[get_map_set _ _ _ _ (by omega),h1,Option.map_some,woken_quitsD h2]
   .rw[hdo _ (by omega)];exact h2
  .have hk':p.J+G.j<=k:=hk;rw[hdo _ (by omega)];exact h.above k hk
  .exact(tr_grow h.tr 0 hsz).app0 ((h.fam.grow hS 0 hsz).apart G0) hok hop
  .simp only[G',upd_ne G.M _ (show k+1≠0 by omega)];exact(h.fact k hk).other hR (Gm _) ((h.keep (i:=0) (k:=k+1) hsz hkeep (by omega) hoo).mono λb hb=>.inl hb) (hfo k) g_of_ofEvents (by omega)
 refine⟨_,_,G'.μ p,hrun,?_,G',rfl,rfl,hI⟩;show Lt4 p (phi p.n (Vc G.j (wdOf G.D)) tag'+(p.L+20)*(p.n-G.j)+sumTo G.j (λk=>(G.D k).cost),G.R,ρ',x') (phi p.n (Vc G.j (wdOf G.D)) G.tag+(p.L+20)*(p.n-G.j)+sumTo G.j (λi=>(G.D i).cost),G.R,G.ρ,G.x);rcases hlt with h1|⟨h1,h2⟩
 .exact Prod.Lex.left _ _ (by omega)
 .rw[h1];refine Prod.Lex.right _ (Prod.Lex.right _ ?_);rcases h2 with h2|⟨rfl,h2⟩
  .exact Prod.Lex.left _ _ h2
  .exact Prod.Lex.right _ h2
end Ph
end
section
open Go Go.Conc
open Go.ConcN (CT Apart Ok0 OkW RelBy PermW sumTo sumTo_upd sumTo_upd_out sumTo_congr upd WgLive RW DWs AtR0 WSit CTag WD Vc cnt pend phi phi_mono phi_retag PayAt Has upd_same upd_ne get_map_set get_map_set_same)
open Go.ConcR (stA smA WgAt KK rd wr g_of_ofEvents)
namespace Ph
variable {p:Ph}{Shun:Loc->Prop}{E1:Nat}{Fin Anch:(Nat->Prop)->(Nat->Prop)->Goroutine->World->Prop}{G:Gh}{t:Trace}
theorem Inv.spawn (G0:Geo p Shun)(h:p.Inv Shun E1 Fin Anch G t){r:Nat}(hr:r<p.n)(htag:G.tag=.sp r 2)(hj:G.j=p.n-(r+1))(hd:Deaf t 0=0)
  (hstop:p.AtGo (G.Ro 0) (p.n-(r+1)) (p.Spawns Anch r) (G.M 0) G.a G.w):
  ∃FV ops μ',runT p.P (crowd G.gs G.w G.sl) 0=(.next FV,ops)/\Lt4 p μ' (G.μ p)/\p.InvM Shun E1 Fin Anch μ' FV (t++ops):=by
 obtain⟨_,g',child,Ro',hgo,hcs,hle,hnew,⟨rc,hch⟩,hnext⟩:=hstop;have hsz':G.gs.size=p.J+G.j:=h.size;have hJ:=G0.J1;have hrun:=runT_crowd_spawn (P:=p.P) (sl:=G.sl) (i:=0) h.main (show stepG p.P (0==0) G.a G.w=_ from hgo);rw[<-hj]at hch;obtain⟨tag',ρ',hsit,hop',hpend,hw2,hphi⟩:∃tag' ρ',p.MSit Fin Anch tag' (G.j+1) ρ' 0 0 Ro' (λb=>G.M 0 b/\¬Ro' b) g' G.w/\Go.ConcN.isOpen tag'/\pend tag'=0/\(∀vs,tag'≠.w2 vs)/\∀v v',phi p.n v' tag'<phi p.n v (.sp r 2):=by
  cases r with
  |zero=>
   obtain⟨ρ',hn⟩:=hnext;have e:G.j+1=p.n:=by omega
   exact⟨.kd,ρ',e▸.kd hn,trivial,rfl,by simp,λv v'=>by simp only[phi];omega⟩
  |succ r=>
   obtain⟨ρ',hn⟩:=hnext;have e:G.j+1=p.n-(r+1):=by omega
   exact⟨.sp r 5,ρ',e▸.skd (by omega) hn,trivial,rfl,by simp,λv v'=>by simp only[phi];omega⟩
 let M':Nat->Nat->Prop:=upd (upd G.M 0 λb=>G.M 0 b/\¬Ro' b) (G.j+1) λ_=>False
 let R':Nat->Nat->Prop:=upd (upd G.Ro 0 Ro') (G.j+1) Ro'
 have M0:M' 0=λb=>G.M 0 b/\¬Ro' b:=by simp only[M'];rw[upd_ne _ _ (by omega),upd_same]
 have R0:R' 0=Ro':=by simp only[R'];rw[upd_ne _ _ (by omega),upd_same]
 have Mj:M' (G.j+1)=λ_=>False:=by simp only[M'];rw[upd_same]
 have Rj:R' (G.j+1)=Ro':=by simp only[R'];rw[upd_same]
 have Mk:∀k,k≠0->k≠G.j+1->M' k=G.M k:=λk h0 h1=>by simp only[M'];rw[upd_ne _ _ h1,upd_ne _ _ h0]
 have Rk':∀k,k≠0->k≠G.j+1->R' k=G.Ro k:=λk h0 h1=>by simp only[R'];rw[upd_ne _ _ h1,upd_ne _ _ h0]
 have mM:∀k b,M' k b->G.M k b/\(k=0->¬Ro' b):=λk b hb=>by
  by_cases e1:k=G.j+1
  .subst e1;rw[Mj]at hb;exact hb.elim
  .by_cases e0:k=0
   .subst e0;rw[M0]at hb;exact⟨hb.1,λ_=>hb.2⟩
   .rw[Mk k e0 e1]at hb;exact⟨hb,λe=>absurd e e0⟩
 have mR:∀k b,R' k b->G.Ro k b\/Ro' b:=λk b hb=>by
  by_cases e1:k=G.j+1
  .subst e1;rw[Rj]at hb;exact .inr hb
  .by_cases e0:k=0
   .subst e0;rw[R0]at hb;exact .inr hb
   .rw[Rk' k e0 e1]at hb;exact .inl hb
 have roB:∀b,Ro' b->G.M 0 b\/G.Ro 0 b:=λb hb=>(hnew b hb).symm
 have hfam:Fam p Shun E1 M' R' G.w:=by
  refine⟨λi k hne b hi hk=>h.fam.disj i k hne b (mM i b hi).1 (mM k b hk).1,λi k b hi hk=>?_,λi b hs=>⟨λhi=>(h.fam.sp i b hs).1 (mM i b hi).1,λhi=>?_⟩,λi b hb=>?_,h.fam.spLt,λi b hb l hl=>?_,h.fam.base⟩
  .rcases mR k b hk with x|x
   .exact h.fam.ro i k b (mM i b hi).1 x
   .by_cases e:i=0
    .exact(mM i b hi).2 e x
    .rcases roB b x with y|y
     .exact h.fam.disj i 0 e b (mM i b hi).1 y
     .exact h.fam.ro i 0 b (mM i b hi).1 y
  .rcases mR i b hi with x|x
   .exact(h.fam.sp i b hs).2 x
   .exact(roB b x).elim (h.fam.sp 0 b hs).1 (h.fam.sp 0 b hs).2
  .rcases hb with hb|hb
   .exact h.fam.lt i b (.inl (mM i b hb).1)
   .exact(mR i b hb).elim (λx=>h.fam.lt i b (.inr x)) λx=>h.fam.lt 0 b (roB b x)
  .rcases hb with hb|hb
   .exact h.fam.shun i b (.inl (mM i b hb).1) l hl
   .exact(mR i b hb).elim (λx=>h.fam.shun i b (.inr x) l hl) λx=>h.fam.shun 0 b (roB b x) l hl
 let X:MemOp:={g:=0,fn:=G.a.frame.fn,pos:=G.a.frame.place,act:=.go G.gs.size}
 let Y:MemOp:={g:=G.gs.size,fn:=child.frame.fn,pos:=G.a.frame.place,act:=.start}
 have hops:((MemOp.ofEvents 0 G.a.frame.fn G.a.frame.place #[]).push X).push Y=#[X,Y]:=by rw[ofEvents_eq,Array.map_empty];rfl
 have hXY:∀op∈#[X,Y],op=X\/op=Y:=λop hop=>by simpa using hop
 have hdf:∀k,Deaf (t++#[X,Y]) k=Deaf t k:=λk=>Go.ConcN.Deaf_still t k _ λop hop=>by rcases hXY op hop with rfl|rfl<;>simp[X,Y]
 have htr:Tr Shun (p.Sh Shun) (p.Own M') (p.Rd R') p.Wg p.J p.T0 (p.J-1+G.j+1) G.w.heap.size (t++#[X,Y]):=by
  have h1:Tr Shun (p.Sh Shun) (p.Own M') (p.Rd R') p.Wg p.J p.T0 (p.J-1+G.j) G.w.heap.size t:=by
   refine h.tr.grow (λk l _ hk ⟨hx,hy⟩=>.inl ⟨hx,?_⟩) (λk l _ hk ⟨hx,hy⟩=>.inl ⟨hx,?_⟩) (λk l _ hk ⟨hx,hy⟩=>⟨hx,?_⟩) (λk l _ hk ⟨hx,hy⟩=>⟨hx,?_⟩)
   .rwa [Mk _ (by omega) (by omega)]at hy
   .rwa [Rk' _ (by omega) (by omega)]at hy
   .rwa [Mk _ (by omega) (by omega)]
   .rwa [Rk' _ (by omega) (by omega)]
  exact h1.fork (hfam.apart G0) ⟨rfl,by show MemAct.go G.gs.size=_;rw[hsz'];congr 1;omega⟩ ⟨by show G.gs.size=_;rw[hsz'];omega,rfl⟩ hd
 let D':Nat->WPl:=upd G.D G.j (.fetch p.L 0 [])
 have Dk:∀k,k<G.j->D' k=G.D k:=λk hk=>upd_ne _ _ (by omega)
 have Dj:D' G.j=.fetch p.L 0 []:=upd_same _ _ _;have hrel:∀i r,i<G.j->RelBy (stA p.Wg) t (p.J+i) r->RelBy (stA p.Wg) (t++#[X,Y]) (p.J+i) r:=λi r hi hb=>by
  have e:t++#[X,Y]=(t++#[X])++#[Y]:=by apply Array.ext';simp
  rw[e];exact(hb.appOther (g:=0) (by simp[X]) (by omega)).appOther (g:=G.gs.size) (by simp[Y]) (by omega)
 let G':Gh:={gs:=(G.gs.setIfInBounds 0 g').push child,w:=G.w,sl:=G.sl,j:=G.j+1,D:=D',tag:=tag',ρ:=ρ',x:=0,a:=g',M:=M',Ro:=R',R:=upd G.R (p.J+G.j) rc,c:=G.c,st:=G.st,sm:=G.sm}
 have hget:∀k,k≠0->k<p.J+G.j->((G.gs.setIfInBounds 0 g').push child)[k]?=G.gs[k]?:=λk h0 hk=>by
  rw[Array.getElem?_push,if_neg (by simp;omega),Array.getElem?_setIfInBounds_ne (by omega)]
 have hVc:Vc (G.j+1) (wdOf D')=Vc G.j (wdOf G.D)+1:=by
  show sumTo G.j (λi=>cnt (wdOf D' i))+cnt (wdOf D' G.j)=_;have:cnt (wdOf D' G.j)=1:=by simp only[wdOf,Dj];rfl
  rw[this,sumTo_congr (g:=λi=>cnt (wdOf G.D i)) λi hi=>by simp only[wdOf,Dk i hi]];rfl
 have hI:p.Inv Shun E1 Fin Anch G' (t++#[X,Y]):=by
  refine⟨by simp[G',hsz'];omega,by show G.j+1<=p.n;omega,?_,?_,λk hk=>?_,λk h0 hk=>?_,λk hk=>?_,hfam,htr,h.wg,h.tk,h.bs,?_,λk hk=>?_,λx hx hxc=>?_,?_⟩
  .show((G.gs.setIfInBounds 0 g').push child)[0]?=some g';rw[Array.getElem?_push,if_neg (by simp;omega)];exact Array.getElem?_setIfInBounds_self_of_lt (by omega)
  .show p.MSit Fin Anch tag' (G.j+1) ρ' 0 (Deaf (t++#[X,Y]) 0) (R' 0) (M' 0) g' G.w;rw[hdf,hd,R0,M0];exact hsit
  .have hk':k<G.j+1:=hk;by_cases e:k=G.j
   .subst e;refine⟨child,?_,?_⟩
    .show((G.gs.setIfInBounds 0 g').push child)[p.J+G.j]?=_;rw[Array.getElem?_push,if_pos (by simp[hsz'])]
    .simp only[G',Dj,upd_same,Mj,Rj];rw[hdf,h.above _ (Gm _)];exact .fetch hch
   .obtain⟨gk,h1,h2⟩:=h.wk k (by omega);refine⟨gk,?_,?_⟩
    .rw[<-h1];exact hget _ (by omega) (by omega)
    .simp only[G',Dk k (by omega),upd_ne G.R rc (show p.J+k≠p.J+G.j by omega),Mk (k+1) (by omega) (by omega),Rk' (k+1) (by omega) (by omega)];rw[hdf];exact h2
  .obtain⟨gk,q,h1,h2,h3⟩:=h.old k h0 hk;refine⟨gk,q,?_,by rw[hdf];exact h2,?_⟩
   .rw[<-h1];exact hget _ (by omega) (by omega)
   .simp only[G',upd_ne G.R rc (show k≠p.J+G.j by omega)];exact h3
  .have hk':p.J+(G.j+1)<=k:=hk;rw[hdf];exact h.above k (by omega)
  .have hm:=h.mode;rw[htag]at hm;show Go.ConcN.Mode (G.j+1) (wdOf D') tag' G.st G.sm;generalize hst:G.st=st at hm;generalize hsm:G.sm=sm at hm;cases hm with
   |opn h1 h2 h3=>
    have:=Go.ConcN.Mode.opn (j:=G.j+1) (D:=wdOf D') (tag:=tag') hop' (λi hi=>by
     by_cases e:i=G.j
     .subst e;left;simp only[wdOf,Dj];rfl
     .have:=h2 i (by omega);simpa only[wdOf,Dk i (by omega)]using this) (λvs e=>absurd e (hw2 vs))
    rw[hVc,hpend]at this;exact this
   |reg h1=>exact h1.elim
   |last _ h1=>exact h1.elim
   |fin h1=>exact h1.elim
  .have hk':k<G.j+1:=hk;by_cases e:k=G.j
   .subst e;simp only[G',Dj];exact⟨λx hx=>absurd hx (by simp[WPl.seq]),Gs _,λe=>by simp[WPl.exited]at e,λs seq vs Mr e=>by cases e⟩
   .have f:=h.fact k (by omega);simp only[G',Dk k (by omega),Mk (k+1) (by omega) (by omega)];exact⟨f.seq,f.lo,f.out,λs seq vs Mr e=>let⟨a,b,c⟩:=f.lib s seq vs Mr e;⟨a,b,λh6=>let⟨r,hr⟩:=c h6;⟨r,hrel k r (by omega) hr⟩⟩⟩
  .obtain⟨i,hi,hxi⟩:=h.cov x hx hxc;exact⟨i,by show i<G.j+1;omega,by simp only[G',Dk i hi];exact hxi⟩
  .show G.c<=p.L+(sumTo G.j (λi=>(D' i).exited)+(D' G.j).exited);have:=h.bound;rw[sumTo_congr (g:=λi=>(G.D i).exited) λi hi=>by rw[Dk i hi]];omega
 refine⟨_,_,G'.μ p,hrun,?_,G',rfl,rfl,?_⟩
 .show Lt4 p (phi p.n (Vc (G.j+1) (wdOf D')) tag'+(p.L+20)*(p.n-(G.j+1))+(sumTo G.j (λk=>(D' k).cost)+(D' G.j).cost),upd G.R (p.J+G.j) rc,ρ',0) (phi p.n (Vc G.j (wdOf G.D)) G.tag+(p.L+20)*(p.n-G.j)+sumTo G.j (λi=>(G.D i).cost),G.R,G.ρ,G.x);refine Prod.Lex.left _ _ ?_;have h1:=hphi (Vc G.j (wdOf G.D)) (Vc (G.j+1) (wdOf D'));rw[sumTo_congr (g:=λi=>(G.D i).cost) λi hi=>by rw[Dk i hi],Dj,htag];have e1:p.n-G.j=p.n-(G.j+1)+1:=by omega
  rw[e1,Nat.mul_add,Nat.mul_one];simp only[WPl.cost];omega
 .rw[hops];exact hI
end Ph
end
section
open Go Go.Conc
open Go.ConcN (CT Apart Ok0 OkW RelBy PermW sumTo sumTo_upd sumTo_upd_out sumTo_congr sumTo_le upd WgLive RW DWs AtR0 WSit CTag WD Vc cnt pend phi phi_mono phi_retag PayAt Has upd_same upd_ne get_map_set get_map_set_same)
open Go.ConcR (stA smA WgAt KK rd wr g_of_ofEvents)
theorem aW {M:Nat->Prop}{w w':World}(h:w'.heap.size=w.heap.size):grow M w w'=M:=by
 funext b;simp only[grow,eq_iff_iff];exact⟨λx=>x.elim id λy=>absurd y.2 (by omega),.inl⟩
namespace Ph
variable {p:Ph}{Shun:Loc->Prop}{E1:Nat}{Fin Anch:(Nat->Prop)->(Nat->Prop)->Goroutine->World->Prop}{G:Gh}{t:Trace}{M Ro:Nat->Nat->Prop}{w w':World}{fn:FuncId}{pos:String}{es:Array Event}{i K:Nat}
def EvS (p:Ph)(e:Event):Prop:=(∃m,e.loc=.mark m/\(m=.disable\/m=.enable\/(∃a,m=.releaseMerge a)\/∃a,m=.acquire a))\/∃a wr,e=⟨.cell a,wr,true⟩/\(a.block=p.Wg\/a.block=p.tk.block)
theorem EvS.touch {e:Event}(h:p.EvS e){x:Touch}(hx:(MemAct.ofEvent e).touch?=some x):x.kind=.atomic/\∃a:Addr,x.loc=.cell a/\(a.block=p.Wg\/a.block=p.tk.block):=by
 rcases h with⟨m,hm,h⟩|⟨a,wr,rfl,h⟩
 .rw[Go.ConcR.ofEvent_loc_mark hm]at hx;rcases h with rfl|rfl|⟨a,rfl⟩|⟨a,rfl⟩<;>cases hx
 .rw[Go.ConcR.ofEvent_cell]at hx;cases hx;exact⟨rfl,a,rfl,h⟩
theorem EvS.nore {e:Event}(h:p.EvS e):MemAct.ofEvent e≠.mark (.release (stA p.Wg)):=by
 intro hx;have hl:=Go.ConcR.loc_of_ofEvent hx;rcases h with⟨m,hm,h⟩|⟨a,wr,rfl,h⟩
 .rw[hm]at hl;cases hl;rcases h with h|h|⟨a,h⟩|⟨a,h⟩<;>cases h
 .cases hl
theorem opOk_sync (hw:p.Wg<w.heap.size)(ht:p.tk.block<w.heap.size)(h:∀e∈es,p.EvS e){g:Nat}:∀op∈MemOp.ofEvents g fn pos es,tA (p.Sh Shun) p.Wg p.J w.heap.size op:=by
 intro op hop;obtain⟨e,he,rfl⟩:=Go.Conc.mem_ofEvents hop;refine⟨λa ha=>?_,λa ha=>?_,(h e he).nore,λ_ a ha _=>?_⟩
 .obtain⟨_,b,e1,_⟩:=(h e he).touch ha;rw[e1];rfl
 .obtain⟨_,b,e1,e2⟩:=(h e he).touch ha;rw[e1];show b.block<_;rcases e2 with e2|e2<;>rw[e2]<;>assumption
 .obtain⟨_,b,e1,e2⟩:=(h e he).touch ha;exact .inr ⟨b,e1,e2⟩
theorem okW_sync {Own Rd:Nat->Loc->Prop}(h:∀e∈es,p.EvS e){g:Nat}:∀op∈MemOp.ofEvents g fn pos es,OkW (p.Sh Shun) Own Rd g op:=by
 intro op hop;obtain⟨e,he,rfl⟩:=Go.Conc.mem_ofEvents hop;refine⟨rfl,λx hx=>?_⟩;obtain⟨hk,b,e1,e2⟩:=(h e he).touch hx;exact .inl ⟨.inr ⟨b,e1,e2⟩,by rw[hk];simp,by rw[hk];simp⟩
theorem ok0_sync {Own Rd:Nat->Loc->Prop}(h:∀e∈es,p.EvS e):∀op∈MemOp.ofEvents 0 fn pos es,Ok0 (p.Sh Shun) Own Rd K op:=by
 intro op hop;obtain⟨e,he,rfl⟩:=Go.Conc.mem_ofEvents hop;refine⟨rfl,λx hx=>?_⟩;obtain⟨hk,b,e1,e2⟩:=(h e he).touch hx;exact .inl ⟨.inr ⟨b,e1,e2⟩,by rw[hk];simp⟩
theorem okW_priv (hf:Fam p Shun E1 (upd M (i+1) (grow (M (i+1)) w w')) Ro w')(hp:bT noX (M (i+1)) (Ro (i+1)) w w' es):∀op∈MemOp.ofEvents (p.J+i) fn pos es,OkW (p.Sh Shun) (p.Own (upd M (i+1) (grow (M (i+1)) w w'))) (p.Rd Ro) (p.J+i) op/\tA (p.Sh Shun) p.Wg p.J w'.heap.size op:=by
 intro op hop;obtain⟨e,he,rfl⟩:=Go.Conc.mem_ofEvents hop;have ht:=λx hx=>touch_private (hp.ev e he) (λy=>y.elim) (x:=x) hx
 have ei:p.J+i-p.J+1=i+1:=by omega
 refine⟨⟨rfl,λx hx=>?_⟩,λx hx=>(ht x hx).2.1,λx hx=>?_,λhx=>?_,λ_ x hx hk=>?_⟩
 .rcases(ht x hx).2.2 with h|⟨h,h'⟩
  .exact .inr (.inl ⟨Nat.le_add_right _ _,.inl (by rw[ei,upd_same];exact h)⟩)
  .exact .inr (.inr ⟨⟨Nat.le_add_right _ _,by rw[ei];exact h⟩,h'⟩)
 .rcases(ht x hx).2.2 with h|⟨h,h'⟩
  .exact h.low λb hb=>hf.lt (i+1) b (.inl (by rw[upd_same];exact hb))
  .exact h.low λb hb=>hf.lt (i+1) b (.inr hb)
 .exact mark_private (hp.ev e he) (λy=>y.elim) rfl (Go.ConcR.loc_of_ofEvent hx)
 .rw[(ht x hx).1]at hk;cases hk
theorem TkAt.set {x:Nat}(h:p.TkAt w x)(y:Nat):p.TkAt (w.setCell p.tk (.int .i64 y)) y:=by
 obtain⟨h1,h2⟩:=h;unfold World.cell? at h1;unfold World.frozen? at h2;cases hb:w.heap[p.tk.block]? with
 |none=>rw[hb]at h1;cases h1
 |some o=>
  cases o with
  |cells c el fz=>
   rw[hb]at h1 h2;simp only at h1 h2;by_cases hs:p.tk.spot.isSome
   .rw[if_pos hs]at h1;cases h1
   .rw[if_neg hs]at h1;have hlt:p.tk.off<c.size:=by
     rcases Gv p.tk.off c.size with h|h
     .exact h
     .rw[Array.getElem?_eq_none h]at h1;cases h1
    have hb':(w.setCell p.tk (.int .i64 y)).heap[p.tk.block]?=some (.cells (c.setIfInBounds p.tk.off (.int .i64 y)) el fz):=by
     simp[World.setCell,Array.getElem?_modify,hb,hs]
    refine⟨?_,?_⟩
    .unfold World.cell?;rw[hb'];simp[hs,hlt]
    .unfold World.frozen?;rw[hb'];exact h2
  |_=>rw[hb]at h1;cases h1
theorem TkAt.of_block {x:Nat}(h:p.TkAt w x)(e:w'.heap[p.tk.block]?=w.heap[p.tk.block]?):p.TkAt w' x:=⟨by simpa[World.cell?,e]using h.1,by simpa[World.frozen?,e]using h.2⟩
theorem Slot.of_block {k:Nat}{vs:List Value}(h:p.Slot k vs w)(e:w'.heap[p.Bs]?=w.heap[p.Bs]?):p.Slot k vs w':=⟨h.1,λcs hc=>h.2 cs ⟨e▸hc.1,hc.2⟩⟩
theorem BsAt.of_block {cs:Array Value}(h:p.BsAt cs w)(e:w'.heap[p.Bs]?=w.heap[p.Bs]?):p.BsAt cs w':=⟨e.trans h.1,h.2⟩
theorem exited_le (D:Nat->WPl)(j:Nat):sumTo j (λi=>(D i).exited)<=j:=by
 have:=sumTo_le (f:=λi=>(D i).exited) (c:=1) (j:=j) λi _=>by cases hD:D i<;>simp[WPl.exited]
 omega
theorem mode_same {j:Nat}{D:Nat->WD}{tag tag':CTag}{st sm:Int}(h:Go.ConcN.Mode j D tag st sm)(ht:tag'=tag\/(tag=.blk/\tag'=.w3)){s:Nat}(hs:(D i).stage=s):Go.ConcN.Mode j (upd D i ⟨s,0,0⟩) tag' st sm:=by
 have:=(h.same (i:=i) 0 0).retag ht;rwa [hs]at this
theorem Inv.privW (hR:p.ResOk)(G0:Geo p Shun)(hS:∀l,Shun l->l.low E1)(hAr:∀Ro M g W,Anch Ro M g W->g.status=.running)(h:p.Inv Shun E1 Fin Anch G t)(hi:i<G.j){g g':Goroutine}{ρ':Rk}
  (hg:G.gs[p.J+i]?=some g)(hgo:stepG p.P false g G.w=.go g' w' es)(hp:bT noX (G.M (i+1)) (G.Ro (i+1)) G.w w' es)(hd:Deaf t (p.J+i)=0)
  (hs':p.WS i (G.Ro (i+1)) (G.D i) ρ' 0 (grow (G.M (i+1)) G.w w') g' w')(hlib:∀s seq vs Mr,G.D i≠.lib s seq vs Mr)(hlt:Rk.lt ρ' (G.R (p.J+i))):
  ∃FV ops μ',runT p.P (crowd G.gs G.w G.sl) (p.J+i)=(.next FV,ops)/\Lt4 p μ' (G.μ p)/\p.InvM Shun E1 Fin Anch μ' FV (t++ops):=by
 have hf:=h.fam.grow hS (i+1) hp.size;have ks:∀b,p.Sp b->w'.heap[b]?=G.w.heap[b]?:=λb hb=>hp.keep b (h.fam.spLt b hb) (h.fam.sp (i+1) b hb).1
 have f:=h.fact i hi;have hde:deafBehind (Deaf t (p.J+i)) es=0:=by rw[hd];exact deafBehind_still (λe he=>⟨mark_private (hp.ev e he) (λy=>y.elim) rfl,mark_private (hp.ev e he) (λy=>y.elim) rfl⟩) 0
 obtain⟨cs,hcs⟩:=h.bs;refine h.stepW hR G0 hS hAr hi (pl':=G.D i) hg hgo hp.size (λb hb hn _=>hp.keep b hb hn) (by rw[hde];exact hs') (λop hop=>(okW_priv hf hp op hop).1) (λop hop=>(okW_priv hf hp op hop).2) (h.wg.of_block (ks _ (.inl rfl))) (h.tk.of_block (ks _ (.inr (.inl rfl)))) ⟨cs,hcs.of_block (ks _ (.inr (.inr rfl)))⟩
  (λtag' ht _=>mode_same h.mode ht rfl) ⟨f.seq,f.lo,f.out,λs seq vs Mr e=>absurd e (hlib s seq vs Mr)⟩ (λk _ vs hs=>hs.of_block (ks _ (.inr (.inr rfl)))) (Gm _) (λx _ h1 h2=>by omega) (λx hx=>hx) ?_ (.inr ⟨rfl,rfl,hlt⟩)
 have e:(λk=>(upd G.D i (G.D i) k).exited)=λk=>(G.D k).exited:=by
  funext k;by_cases e:k=i
  .subst e;rw[upd_same]
  .rw[upd_ne _ _ e]
 rw[e];exact h.bound
end Ph
namespace Ph
variable {p:Ph}{Shun:Loc->Prop}{E1:Nat}{Fin Anch:(Nat->Prop)->(Nat->Prop)->Goroutine->World->Prop}{G:Gh}{t:Trace}{i:Nat}
theorem Inv.drawW (hR:p.ResOk)(G0:Geo p Shun)(hS:∀l,Shun l->l.low E1)(hAr:∀Ro M g W,Anch Ro M g W->g.status=.running)(h:p.Inv Shun E1 Fin Anch G t)(hi:i<G.j){g g':Goroutine}{ρ':Rk}{f lo:Nat}{seq:List Nat}{pl':WPl}(hD:G.D i=.fetch f lo seq)
  (hg:G.gs[p.J+i]?=some g)(hgo:stepG p.P false g G.w=.go g' (G.w.setCell p.tk (.int .i64 (G.c+1))) #[rd p.tk,wr p.tk])(hd:Deaf t (p.J+i)=0)
  (hs':p.WS i (G.Ro (i+1)) pl' ρ' 0 (G.M (i+1)) g' (G.w.setCell p.tk (.int .i64 (G.c+1))))(hcost:pl'.cost<9+f)(hst:pl'.stage=7)(hlib:∀s seq vs Mr,pl'≠.lib s seq vs Mr)
  (hsq:∀x∈pl'.seq,x<p.L)(hsub:∀x∈seq,x∈pl'.seq)(hlo:pl'.lo (G.c+1))(hcov:G.c<p.L->G.c∈pl'.seq)(hout:pl'.exited=1->p.L<G.c+1)(hb:G.c<p.L\/pl'.exited=1):
  ∃FV ops μ',runT p.P (crowd G.gs G.w G.sl) (p.J+i)=(.next FV,ops)/\Lt4 p μ' (G.μ p)/\p.InvM Shun E1 Fin Anch μ' FV (t++ops):=by
 have ha:=aside_setCell G.w p.tk (.int .i64 (G.c+1));have hgr:grow (G.M (i+1)) G.w (G.w.setCell p.tk (.int .i64 (G.c+1)))=G.M (i+1):=aW ha.size;have hev:∀e∈#[rd p.tk,wr p.tk],p.EvS e:=by
  intro e he;simp at he;rcases he with rfl|rfl<;>exact .inr ⟨_,_,rfl,.inr rfl⟩
 have hde:deafBehind (Deaf t (p.J+i)) #[rd p.tk,wr p.tk]=0:=by rw[hd];rfl
 have hW:p.Wg<(G.w.setCell p.tk (.int .i64 (G.c+1))).heap.size:=by rw[ha.size];exact h.fam.spLt _ (.inl rfl)
 have hT:p.tk.block<(G.w.setCell p.tk (.int .i64 (G.c+1))).heap.size:=by rw[ha.size];exact h.fam.spLt _ (.inr (.inl rfl))
 obtain⟨cs,hcs⟩:=h.bs;have hstD:(wdOf G.D i).stage=7:=by simp only[wdOf,hD];rfl
 refine h.stepW hR G0 hS hAr hi (pl':=pl') (c':=G.c+1) hg hgo (by rw[ha.size];exact Gm _) (λb _ _ hn=>ha.block b λe=>hn (.inr (.inl e))) (by rw[hde,hgr];exact hs') (okW_sync hev) (opOk_sync hW hT hev) (h.wg.of_block (ha.block _ G0.wt)) (h.tk.set _) ⟨cs,hcs.of_block (ha.block _ (Ne.symm G0.tb))⟩
  (λtag' ht _=>by rw[hst];exact mode_same h.mode ht hstD) ⟨hsq,hlo,hout,λs seq vs Mr e=>absurd e (hlib s seq vs Mr)⟩ (λk _ vs hs=>hs.of_block (ha.block _ (Ne.symm G0.tb))) (Nat.le_succ _) (λx hx h1 h2=>?_) (λx hx=>hsub x (by rw[hD]at hx;exact hx)) ?_ (.inl ⟨by rw[hD];exact hcost,by rw[hst,hD];exact Gm _⟩)
 .obtain rfl:x=G.c:=by omega
  exact hcov hx
 .have e:sumTo G.j (λk=>(upd G.D i pl' k).exited)+(G.D i).exited=sumTo G.j (λk=>(G.D k).exited)+pl'.exited:=sumTo_upd G.D pl' WPl.exited hi;have e0:(G.D i).exited=0:=by rw[hD];rfl
  have:=h.bound;rcases hb with hb|hb<;>omega
theorem Inv.fetchW (hR:p.ResOk)(G0:Geo p Shun)(hS:∀l,Shun l->l.low E1)(hAr:∀Ro M g W,Anch Ro M g W->g.status=.running)(hL:p.L+p.n<4611686018427387904)(h:p.Inv Shun E1 Fin Anch G t)(hi:i<G.j){g:Goroutine}{f lo:Nat}{seq:List Nat}(hD:G.D i=.fetch f lo seq)
  (hg:G.gs[p.J+i]?=some g)(hd:Deaf t (p.J+i)=0)(hs:PT p.P false p.I noX (G.Ro (i+1)) (p.AtFetch i (G.Ro (i+1)) f lo seq) (G.R (p.J+i)) (G.M (i+1)) g G.w):
  ∃FV ops μ',runT p.P (crowd G.gs G.w G.sl) (p.J+i)=(.next FV,ops)/\Lt4 p μ' (G.μ p)/\p.InvM Shun E1 Fin Anch μ' FV (t++ops):=by
 have fa:=h.fact i hi;rw[hD]at fa;have hlo:lo<=G.c:=fa.lo;have hsq:∀x∈seq,x<p.L:=fa.seq;have hc:G.c<4611686018427387904:=by have:=h.bound;have:=exited_le G.D G.j;have:=h.jn;omega
 rcases hs.cases with hstop|⟨fr,hr,hrn,hstep⟩
 .have hst:=hstop G.w (ax.refl _ _) h.I;cases f with
  |zero=>
   obtain⟨hge,g',hgo,ρ',hput⟩:=hst.2 G.c hlo hc h.tk;exact h.drawW hR G0 hS hAr hi hD hg hgo hd (.put hput) (by simp only[WPl.cost];omega) rfl (by simp) hsq (λx hx=>hx) trivial (λhx=>by omega) (λ_=>by omega) (.inr rfl)
  |succ f=>
   obtain⟨g',hgo,hput,hnext⟩:=hst.2 G.c hlo hc h.tk;rcases Gv G.c p.L with hlt|hge
   .obtain⟨ρ',hn⟩:=hnext hlt;refine h.drawW hR G0 hS hAr hi hD hg hgo hd (.fetch hn) (by simp only[WPl.cost];omega) rfl (by simp) (λx hx=>?_) (λx hx=>List.mem_append_left _ hx) (Gm _) (λ_=>by simp[WPl.seq]) (λe=>by cases e) (.inl hlt);rcases GO.1 hx with hx|hx
    .exact hsq x hx
    .simp at hx;omega
   .obtain⟨ρ',hp⟩:=hput hge;exact h.drawW hR G0 hS hAr hi hD hg hgo hd (.put hp) (by simp only[WPl.cost];omega) rfl (by simp) hsq (λx hx=>hx) trivial (λhx=>by omega) (λ_=>by omega) (.inr rfl)
 .obtain⟨g',w',es,hgo,hp,hn⟩:=hstep G.w (ax.refl _ _) h.I;exact h.privW hR G0 hS hAr hi hg hgo hp hd (by rw[hD];exact .fetch hn) (by rw[hD];simp) (by rw[hr];exact⟨_,rfl⟩)
theorem Inv.putW (hR:p.ResOk)(G0:Geo p Shun)(hS:∀l,Shun l->l.low E1)(hAr:∀Ro M g W,Anch Ro M g W->g.status=.running)(h:p.Inv Shun E1 Fin Anch G t)(hi:i<G.j){g:Goroutine}{seq:List Nat}(hD:G.D i=.put seq)
  (hg:G.gs[p.J+i]?=some g)(hd:Deaf t (p.J+i)=0)(hs:PT p.P false p.I noX (G.Ro (i+1)) (p.AtPut i seq) (G.R (p.J+i)) (G.M (i+1)) g G.w):
  ∃FV ops μ',runT p.P (crowd G.gs G.w G.sl) (p.J+i)=(.next FV,ops)/\Lt4 p μ' (G.μ p)/\p.InvM Shun E1 Fin Anch μ' FV (t++ops):=by
 have fa:=h.fact i hi;rw[hD]at fa;rcases hs.cases with hstop|⟨fr,hr,hrn,hstep⟩
 .obtain⟨_,hst⟩:=hstop G.w (ax.refl _ _) h.I;obtain⟨g',w',es,vs,hgo,hput,hev,Mr,C,c,v,m,hres,hMr,hC,hCr,hGo⟩:=hst h.bs;have hgr:grow (G.M (i+1)) G.w w'=G.M (i+1):=aW hput.size;have hloc:∀e∈es,MemAct.ofEvent e=.access e/\∃a:Addr,e.loc=.cell a/\e.sync=false:=λe he=>by
   obtain⟨h1,a,h2,_⟩:=hev e he;obtain⟨loc,wr,sy⟩:=e;simp only at h1 h2;subst h1 h2;exact⟨rfl,a,rfl,rfl⟩
  have htouch:∀e∈es,∀x,(MemAct.ofEvent e).touch?=some x->x.kind=.plain/\p.mineBs i x.loc:=λe he x hx=>by
   obtain⟨h1,a,h2,h3,h4,h5⟩:=hev e he;rw[(hloc e he).1]at hx;simp only[MemAct.touch?,h1,Option.some.injEq]at hx;subst hx;exact⟨rfl,a,h2,h3,h4,h5⟩
  have hde:deafBehind (Deaf t (p.J+i)) es=0:=by
   rw[hd];refine deafBehind_still (λe he=>?_) 0;obtain⟨_,a,h2,_⟩:=hloc e he;rw[h2];exact⟨by simp,by simp⟩
  have ks:∀b,b≠p.Bs->w'.heap[b]?=G.w.heap[b]?:=hput.block;obtain⟨cs,hcs⟩:=h.bs;obtain⟨cs',hcs',hcell⟩:=hput.put cs hcs;have uniq:∀{w:World} {a b:Array Value},p.BsAt a w->p.BsAt b w->a=b:=λh1 h2=>by
   have:=h1.1.symm.trans h2.1;simpa using this
  have hslot:p.Slot i vs w':=by
   refine⟨hput.len,λd hd o ho=>?_⟩;obtain rfl:=uniq hd hcs';rw[hcell,if_pos (by
    constructor;· omega
    .rw[Nat.add_mul];omega)]
   congr 1;omega
  have hsl:∀k,k≠i->∀vs,p.Slot k vs G.w->p.Slot k vs w':=by
   intro k hk vs hs;refine⟨hs.1,λd hd o ho=>?_⟩;obtain rfl:=uniq hd hcs';rw[hcell,if_neg,hs.2 cs hcs o ho];intro ⟨h1,h2⟩;have a1:i*p.wd<(k+1)*p.wd:=by rw[Nat.add_mul k];omega
   have a2:k*p.wd<(i+1)*p.wd:=by omega
   have b1:=Nat.lt_of_mul_lt_mul_right a1;have b2:=Nat.lt_of_mul_lt_mul_right a2;omega
  have hstD:(wdOf G.D i).stage=7:=by simp only[wdOf,hD];rfl
  have ei:p.J+i-p.J=i:=by omega
  refine h.stepW hR G0 hS hAr hi (pl':=.lib 7 seq vs Mr) (ρ':=Rk.nat m) hg hgo (by rw[hput.size];exact Gm _) (λb _ _ hn=>ks b λe=>hn (.inr (.inr e))) ?_ (λop hop=>?_) (λop hop=>?_) (h.wg.of_block (ks _ G0.wb)) (h.tk.of_block (ks _ G0.tb)) ⟨cs',hcs'⟩
   (λtag' ht _=>mode_same h.mode ht hstD) ⟨fa.seq,trivial,λ_=>fa.out rfl,λs sq v' Mr' e=>?_⟩ hsl (Gm _) (λx _ h1 h2=>by omega) (λx hx=>by rw[hD]at hx;exact hx) ?_ (.inl ⟨by rw[hD];simp[WPl.cost],by rw[hD];exact Gm _⟩)
  .rw[hde,hgr];exact .lib hC hCr (@WSit.r0 p.pl _ _ _ _ _ _ _ _ _ _ _ _ _ hGo)
  .obtain⟨e,he,rfl⟩:=Go.Conc.mem_ofEvents hop;refine⟨rfl,λx hx=>.inr (.inl ⟨Nat.le_add_right _ _,.inr ?_⟩)⟩;rw[ei];exact(htouch e he x hx).2
  .obtain⟨e,he,rfl⟩:=Go.Conc.mem_ofEvents hop;refine⟨λx hx=>?_,λx hx=>?_,λhx=>?_,λ_ x hx hk=>?_⟩
   .obtain⟨_,a,e1,_⟩:=htouch e he x hx;rw[e1];rfl
   .obtain⟨_,a,e1,e2,_⟩:=htouch e he x hx;rw[e1];show a.block<_;rw[e2,hput.size];exact h.fam.spLt _ (.inr (.inr rfl))
   .have:=Go.ConcR.loc_of_ofEvent hx;obtain⟨_,a,h2,_⟩:=hloc e he;rw[h2]at this;cases this
   .rw[(htouch e he x hx).1]at hk;cases hk
  .cases e;exact⟨hslot,⟨hres,by rw[hgr];exact hMr⟩,λh6=>absurd h6 (by omega)⟩
  .have e:sumTo G.j (λk=>(upd G.D i (.lib 7 seq vs Mr) k).exited)+(G.D i).exited=sumTo G.j (λk=>(G.D k).exited)+1:=sumTo_upd G.D (.lib 7 seq vs Mr) WPl.exited hi;have e0:(G.D i).exited=1:=by rw[hD];rfl
   have:=h.bound;omega
 .obtain⟨g',w',es,hgo,hp,hn⟩:=hstep G.w (ax.refl _ _) h.I;exact h.privW hR G0 hS hAr hi hg hgo hp hd (by rw[hD];exact .put hn) (by rw[hD];simp) (by rw[hr];exact⟨_,rfl⟩)
end Ph
end
