import Derived.Test.YtjoalkgmgmmedaaGreatDoorj19
set_option linter.unusedVariables false
set_option linter.defProp false
open Array renaming append_inj->a8,replicate->a9
open Go renaming World->au,Value->av,Frame->ax,Program->aB,FuncId->aE,Question->aI,Goroutine->aV,TypeId->bb,stepG->be,callFunc->bk,undef->bm,runN->bn
open Go.Frame renaming enter->aa,tmps->a0,fn->bj
open Go.Goroutine renaming frame->ad,callers->ao
open Or renaming inl->aL,inr->bi
namespace Go.Proofs.YtjoalkgmgmmedaaGreatDoor
open Conc
variable {xs:Array av}{f:aE}{n:Nat}{s s':St}{v:av}
section
open ConcN (sumTo)
def Ye [Gl](fr:ax)(V:au):Prop:=∃(b:ax) (a:Act) (ops:Array Oper) (i:Nat) (r:List Nat) (k:List Item) (o:Oper) (x y:Nat) (g:Array bb) (p q:Addr) (j l t u:Nat) (d e:Array av) (w z:bb),
 Gl.ov<1000000000/\fr=b.at a (.inRegion ops (i::r)::k)/\ops[i]?=some o/\Region.wanted o (yielded ops a.tmps)/\o.op=.call {callee:=.value<|.func Gl.ov,args:=#[.tmp x,.tmp y],argTypes:=g}/\
 a.tmps[x]?=some (.slice (some p) j l)/\a.tmps[y]?=some (.slice (some q) t u)/\p.block≠q.block/\V.heap[p.block]?=some (.cells d w (0,0))/\d.size≠0/\V.heap[q.block]?=some (.cells e z (0,0))/\e.size≠0
def Dx [Gl](P:aB):Prop:=∀p q (r t u x:Nat) (y A:Array av) (B C:bb) (W:au),p.block≠q.block->W.heap[p.block]?=some (.cells y B (0,0))->y.size≠0->W.heap[q.block]?=some (.cells A C (0,0))->A.size≠0->
 (bk Gl.ov #[.slice (some p) r t,.slice (some q) u x]).run P W=.ok (.value false) W/\∀e∈(bk Gl.ov #[.slice (some p) r t,.slice (some q) u x]).events P W #[],∃f,e=⟨.mark<|.extern f,false,true⟩
def Mc [Gl]{a:Act}{o}{x y:Nat}{d u}(j:o.op=.call {callee:=.value<|.func Gl.ov,args:=#[.tmp x,.tmp y],argTypes:=d})(e:a.tmps[x]?=some u)(g:a.tmps[y]?=some v):execOp a.eval o=bk Gl.ov #[u,v]:=by
 have l:a.eval (.tmp x)=u:=by simp[Act.eval,e]
 have p:a.eval (.tmp y)=v:=by simp[Act.eval,g]
 have q:a.eval (.func Gl.ov)=.func (.func Gl.ov) #[] #[]:=rfl;unfold execOp;grind [resolve,invoke,Deferred.ofValue]
section
variable [Gl](P:aB)(ok:Ctx)(c:ax)(Dr:aE->Array av->au->(av->au->Prop)->Prop)(Q:av->au->Prop)
def aab (s s':St):Prop:=fK P c s s'\/(yv ok s.fr s.V s'.fr/\s'.cs=s.cs/\s'.V=s.V)
inductive Wk:St->Prop
 |ends {s:St}:(∀τ d,Ends P Q<|s.re τ d)->(∃fn t,P.funcs[s.fr.fn]?=some fn/\fn.results=#[.tmp t])->Wk s
 |step {s:St} (f:(Nat->aI->Nat)->Nat->St):ok.aN s.fr.fn->(∀τ d,aab P ok c (s.re τ d)<|f τ d)->(∀τ d,Wk<|f τ d)->Wk s
 |door {f:aE} {xs:Array av} {fr:ax} {cs:List ax} {V:au} {R:av->au->Prop}:ok.aN f=false->Dr f xs V R->(∀v V',R v V'->Wk ⟨fr.finish v,cs,V'⟩)->Wk ⟨aa P f xs .normal,fr::cs,V⟩
 |ext {fr:ax} {cs:List ax} {V:au}:ok.aN fr.fn->fr.kind=.normal->Ye fr V->Wk ⟨fr.finish false,cs,V⟩->Wk ⟨fr,cs,V⟩
end
section
variable [Gl]{afn P:aB}{ok:Ctx}{c:ax}{Dr:aE->Array av->au->(av->au->Prop)->Prop}{Q:av->au->Prop}
set_option linter.unusedSectionVars false in
def Tx (B:Same afn P ok)(C:ok.aN s.fr.fn)(hk:s.fr.kind=.normal)(he:Edge s)(h:fK afn c s s'):False:=by
 let⟨fr,cs,V⟩:=s;let⟨D,y,z⟩:=he;let⟨N,h⟩:=h;subst D;rw[gn y]at h;let⟨F,O,_,A,_⟩:=B.same _ C;let⟨fn,tmps,q,u,t,kind,p⟩:=fr;simp at y z hk A;subst z hk;cases t with
 |run=>grind
 |panicking ch=>
  have R:Frame.catches afn ⟨fn,tmps,q,[],.panicking ch,.normal,p⟩=false:=by grind [Frame.catches]
  simp[unwind]at h;simp_all [G]
 |returning=>
  simp only[unwind,A]at h;let⟨T,J⟩:=lL h;generalize (results F tmps).runT afn V #[]=x at J;let⟨r,e⟩:=x;cases r with
  |ok v w=>
   simp_all [doReturn,G]
  |halt U w=>grind
def Ih (ρ:Ren)(M:Nat->Prop):Prop:=∀b d,ρ b=some d->M d
def jH:Nat->Prop:=λ_=>False
def bw.others {ρ:Ren}{M V W ai}(hw:bw ok true ρ (re V W.tape W.drawn) W)(ho:Ih ρ M)(k:aU (λb=>M b\/jH b) W ai):bw ok true ρ (re V ai.tape ai.drawn) ai:=by
 refine⟨λb d e=>?_,rfl,rfl,hw.gV,afN hw.gW k.size,hw.gs⟩;let⟨o,g,j,l,p⟩:=hw.heap b d e;exact⟨o,g,j,(k.block d<|aL<|ho b d e).trans l,p⟩
def qa (P:aB)(ok:Ctx)(Inv:(Nat->Prop)->au->Prop)(Dr:aE->Array av->au->(av->au->Prop)->Prop):Prop:=
 ∀{f:aE} {xs:Array av} {V:au} {ρ:Ren} {u:Array av} {W:au} {M:Nat->Prop} {J:Loc->Prop} {A:Array aV} {r0:ax} {rest:List ax} {t:Trace} {q:Nat->Nat} {O:Option (Nat×Nat)} {R:av->au->Prop},
  Inv M W->Dr f xs V R->aA ok ρ xs u->bw ok true ρ (re V W.tape W.drawn) W->Ih ρ M->dP P J jH jH M A (G (aa P f u .normal)<|r0::rest) W t q->
  ∃N B r T C U Y x D σ v y,runNT P N (crowd A W O) t=(.next<|crowd B r T,C)/\dP P Y jH jH x B (G (r0.finish D) rest) r C U/\
   ρ.le σ/\aq ok σ v D/\bw ok true σ (re y r.tape r.drawn) r/\Ih σ x/\R v y/\aU (λd=>M d/\∀b,ρ b=some d->Ro V b) W r/\(∀d,M d->x d)/\(∀b d,σ b=some d->ρ b=some d\/W<=d)/\∀b,Ro V b->y.heap[b]?=V.heap[b]?
omit [Gl] in
def RP [Gl]{ρ:Ren}(h:aq ok ρ bm v):v=undef:=by
 unfold bm at h;generalize b:Value.tuple #[]=u at h;cases h with
 |@tuple xs a e h=>
  simp at b;have:a=#[]:=by
   grind
  rw[this];rfl
 |_=>cases b
def yZ {ρ:Ren}{t y}(B:((afn.funcs[f]?).map (·.ntmps)).getD 0=((P.funcs[f]?).map (·.ntmps)).getD 0)(e:aa afn f xs .normal=aa afn f t .normal)(h:aA ok ρ t y):∃u,aA ok ρ xs u/\aa P f u .normal=aa P f y .normal:=by
 have et:=congrArg a0 e;simp[aa]at et;rw[B]at et;have r:aA ok ρ (t++a9 (((P.funcs[f]?).map (·.ntmps)).getD 0-t.size) bm) _:=h.append<|aA.replicate jT _;rw[<-et]at r;generalize hm:((P.funcs[f]?).map (·.ntmps)).getD 0=n at et r;generalize C:y++a9 (n-t.size) bm=A at r;have hs:=r.size;simp at hs;have x:aA ok ρ xs (A.extract 0 xs.size):=by
  have:=r.extract 0 xs.size;rw[Array.extract_append_left]at this;simp_all
 refine⟨A.extract 0 xs.size,x,?_⟩;simp only[aa,hm,Frame.mk.injEq,true_and,and_true];rw[<-h.size,C,<-x.size];refine Array.ext dj λi N D=>?_
 by_cases J:i<xs.size
 .rw[Array.getElem_append_left (by rw[<-x.size];exact J)];simp
 rw[Array.getElem_append_right (by rw[<-x.size];omega)];simp;have:=r.at_ i bm A[i] (by rw[Array.getElem?_append_right ab,Array.getElem?_replicate,if_pos ab])<|afR D;exact(RP this).symm
def XE {p:Prop}(x9:p:=by
  have z1:=congrArg Goroutine.frame hz;simp[G]at z1;rw[z1]at hi;simp[Frame.enter]at hi;rw[hi]at a2;cases a2):p:=x9
def Wk.beside (hP:dQ afn P ok)(bz:¬Gl.XA P/\Gl.top P)(hN:∀f,ok.aN f=false->((afn.funcs[f]?).map (·.ntmps)).getD 0=((P.funcs[f]?).map (·.ntmps)).getD 0){Inv}(bA:Gl.ov<1000000000->Dx P)(hD:qa P ok Inv Dr){F bI}(Y0:∀M W,(∀d,F d->M d)->aU F bI W->Inv M W)(h:Wk afn ok c Dr Q s):∀{ρ:Ren} {a:aV} {gs:Array aV} {M:Nat->Prop} {W:au} {sl:Option (Nat×Nat)} {t:Trace} {q:Nat->Nat} {ay:Loc->Prop},
  aU F bI W->qc afn P ok ρ [c] [] (G s.fr<|s.cs++[c]) a->bw ok true ρ (re s.V W.tape W.drawn) W->Ih ρ M->dP P ay jH jH M gs a W t q->(∀d,F d->M d/\((∀b,ρ b≠some d)\/∃b,ρ b=some d/\Ro s.V b))->
  ∃N kJ W' ot t' q' tU M' σ,∃(s':St) (D:ax),runNT P N (crowd gs W sl) t=(.next<|crowd kJ W' ot,t')/\dP P tU jH jH M' kJ (G D []) W' t' q'/\
   ρ.le σ/\cU P ok σ s'.fr D/\bw ok true σ (re s'.V W'.tape W'.drawn) W'/\Ih σ M'/\(∀τ d,Ends afn Q<|s'.re τ d)/\aU F W W'/\D.kind=.normal/\∃fn t,afn.funcs[s'.fr.fn]?=some fn/\fn.results=#[.tmp t]:=by
 induction h with
 |@ends s he pT=>
  intro ρ a gs M W sl t q ay hK J hw ho U hF;generalize hz:G s.fr (s.cs++[c])=z at J;cases J with
  |@inside fr D cs O B a2 a3=>
   have z1:=congrArg ad hz;have A:=congrArg ao hz;simp only[G]at z1 A;replace A:=af6 A;subst z1 A;have Od:s.cs=[]:=(he (λ_ _=>0) 0).1;rw[Od]at a2;cases a2;rw[Od]at a3;exact⟨0,gs,W,sl,t,q,ay,M,ρ,s,D,rfl,U,Ren.le_refl _,B,hw,ho,he,aU.refl _ _,B.eu.trans<|congrArg Prod.snd<|a3 s.fr rfl,pT⟩
  |door B a2=>
   have z1:=congrArg ad hz;simp[G]at z1;obtain⟨_,v,U,_⟩:=he (λ_ _=>0) 0;have:=U.1;have C:s.fr.mode=.returning:=this;rw[z1]at C;simp[aa]at C
 |@step s f hi bB vw ih=>
  intro ρ a gs M W sl t q ay hK J hw ho U hF;generalize hz:G s.fr (s.cs++[c])=z at J;cases J with
  |@inside fr D cs O B a2 a3=>
   have z1:=congrArg ad hz;have A:=congrArg ao hz;simp only[G]at z1 A;replace A:=af6 A;subst z1 A;let Stop:(Nat->Prop)->aV->au->Prop:=λM' a' ai=>∃σ τ d,ρ.le σ/\qc afn P ok σ [c] [] (G (f τ d).fr<|(f τ d).cs++[c]) a'/\bw ok true σ (re (f τ d).V ai.tape ai.drawn) ai/\Ih σ M'/\aU F W ai/\∀d',F d'->M' d'/\((∀b,σ b≠some d')\/∃b,σ b=some d'/\Ro (f τ d).V b)
   have bE:PT P true (λ_=>True) Ph.oq jH Stop (.node λ_=>.leaf) M (G D<|O++[]) W:=by
    refine bi ⟨rfl,λai k _=>?_⟩;have rZ:=hw.others ho k;obtain⟨σ,g2,T,DO,e,jC,KZ,Z,oj⟩:dR afn P ok true ρ [c] [] (re s.V ai.tape ai.drawn) ai _ (f ai.tape ai.drawn).V (be P true (G D<|O++[]) ai):=by
     rcases bB ai.tape ai.drawn with⟨es,Mu⟩|⟨u,e1,e2⟩
     .exact uY hP B a2 a3 rZ (λx y z=>Tx (s:=s.re ai.tape ai.drawn) hP.toSame hi (by have x':=x;rw[x']at a3;exact congrArg Prod.snd<|a3 s.fr rfl) ⟨x,y,z⟩ ⟨es,Mu⟩) Mu
     have u:=u;obtain⟨IN,r1,r2⟩:=Qk bz rZ B u;rw[e1,e2];exact⟨ρ,_,ai,#[],r2 _ _,.inside r1 a2<|a3.swap<|K7 u,rZ,Kept.refl _ _ _,aP⟩
    have hh:tP ρ (re s.V ai.tape ai.drawn) M jH:=λb d hb=>aL<|ho b d hb
    have aF:∀b d,σ b=some d->d<T:=λb d hb=>(KZ.lt hb).2
    have nP:Ih σ (grow M ai T):=λb d hb=>(hh.step Z aF b d hb).elim id λx=>x.1.elim
    have bl:∀d,F d->d<W:=λd u=>U.lt d<|aL (hF d u).1
    have bs:∀d,F d->T.heap[d]?=ai.heap[d]?:=λd u=>by
     rcases(hF d u).2 with x|⟨b,x,y⟩
     .exact Z.keep d (afL (bl d u) k.size) x
     exact(Z.ro b d x y).2
    have kF:aU F W T:=⟨λd u=>(bs d u).trans<|k.block d<|aL (hF d u).1,afN k.size Z.size,Z.os.trans k.os,Z.out.trans k.out⟩;have bo:∀d,F d->grow M ai T d/\((∀b,σ b≠some d)\/∃b,σ b=some d/\Ro (f ai.tape ai.drawn).V b):=λd u=>⟨aL (hF d u).1,by
     rcases(hF d u).2 with y|⟨b,x,y⟩
     .refine aL λb hb=>?_
      rcases Z.new b d hb with x|⟨_,x⟩
      .exact y b x
      have:=bl d u;have:=k.size;omega
     .refine bi ⟨b,Z.le _ _ x,?_⟩;have Y:=(Z.ro b d x y).1;obtain⟨c1,c2,c3⟩:=y;exact⟨c1,c2,Y.trans c3⟩⟩
    refine⟨g2,T,DO,e,hh.e_ Z aF oj,λdN bt _=>⟨σ,ai.tape,ai.drawn,Z.le,jC,?_,nP,kF.trans<|bt.mono λd u=>aL (bo d u).1,bo⟩⟩;have:bw ok true σ (re (f ai.tape ai.drawn).V T.tape T.drawn) T:=⟨KZ.heap,rfl,rfl,KZ.gV,KZ.gW,KZ.gs⟩;exact this.others nP bt
   obtain⟨N,kJ,M',a',w',ot,t',q',Y,_,h3,h4,_⟩:=jR (λ_=>trivial) _ _ gs M _ W sl t q (afK _) U bE;obtain⟨σ,τ,d,g1,g2,g3,g4,g5,g6⟩:=h3 w' (aU.refl _ _) trivial;obtain⟨N2,TP,T,Ve,t2,q2,Fg,M2,R7,s2,aZ,i1,i2,i3,i4,i5,i6,i7,i8,i9⟩:=ih τ d (hK.trans g5) g2 g3 g4 h4 g6;exact⟨N+N2,TP,T,Ve,t2,q2,Fg,M2,R7,s2,aZ,runNT_add i1 _ _ _ Y,i2,g1.trans i3,i4,i5,i6,i7,g5.trans i8,i9⟩
  |door B a2=>
   exact XE
 |@door f xs fr cs V R hf hp vw ih=>
  intro ρ a gs M W sl t q ay hK J hw ho U hF;generalize hz:G (aa afn f xs .normal) (fr::cs++[c])=z at J;cases J with
  |@inside bS D bH O B a2 a3=>
   have z1:=congrArg ad hz;simp[G]at z1;have:=B.aN;rw[<-z1]at this;simp[aa]at this;rw[hf]at this;cases this
  |@door f1 ys vc bH bV B a2 a3 a4 a5 a6=>
   have z1:=congrArg ad hz;have A:=congrArg ao hz;simp only[G]at z1 A;replace A:=af6 A;subst A;have z3:=congrArg bj z1;simp[aa]at z3;subst z3;obtain⟨bW,hx,hE⟩:=yZ (hN _ hf) z1 a3;cases a4 with
   |@cons _ r0 _ rest b1 b2=>
    simp at U;rw[<-hE]at U;obtain⟨N,b0,W1,b3,t1,q1,b4,M1,v',σ,v,V',e1,e2,e3,e4,e5,e6,e7,e8,e9,bL,U_⟩:=hD (Y0 M W (λd u=>(hF d u).1) hK) hp hx hw ho U;have bl:∀d,F d->d<W:=λd u=>U.lt d<|aL (hF d u).1
    have bo:∀d,F d->M1 d/\((∀b,σ b≠some d)\/∃b,σ b=some d/\Ro V' b):=λd u=>⟨e9 d (hF d u).1,by
     rcases(hF d u).2 with y|⟨b,x,y⟩
     .refine aL λb hb=>?_
      rcases bL b d hb with x|x
      .exact y b x
      have:=bl d u;omega
     .refine bi ⟨b,e3 _ _ x,?_⟩;have Y:=U_ b y;obtain⟨c1,c2,c3⟩:=y;exact⟨c1,c2,Y.trans c3⟩⟩
    have bv:=e8.mono λd u=>⟨(hF d u).1,λb hb=>by
     rcases(hF d u).2 with y|⟨b',x,y⟩
     .exact absurd hb (y b)
     .exact ρ.inj _ _ _ x hb▸y⟩
    have hb:wh (fr.finish v) cs:=by
     have:wh fr cs:=λg J=>a6 g J
     exact this.swap<|ey _ _
    have hG:qc afn P ok σ [c] [] (G (fr.finish v)<|cs++[c]) (G (r0.finish v')<|rest++[]):=.inside ((b1.mono e3).finish e4) (b2.mono e3) hb;rw[List.append_nil]at hG;obtain⟨N2,TP,T,Ve,t2,q2,Fg,M2,R7,s2,aZ,i1,i2,i3,i4,i5,i6,i7,i8,i9⟩:=ih v V' e7 (hK.trans bv) hG e5 e6 e2 bo;exact⟨N+N2,TP,T,Ve,t2,q2,Fg,M2,R7,s2,aZ,runNT_add i1 _ _ _ e1,i2,e3.trans i3,i4,i5,i6,i7,bv.trans i8,i9⟩
 |@ext fr cs V hi hk hA vw ih=>
  intro ρ a gs M W sl t q ay hK J hw ho U hF;generalize hz:G fr (cs++[c])=z at J;cases J with
  |@inside b5 D b6 O B a2 a3=>
   have z1:=congrArg ad hz;have A:=congrArg ao hz;simp only[G]at z1 A;replace A:=af6 A;subst z1 A;obtain⟨b,ac,ops,i,r,k,o,x,y,ts,p,q',la,ca,lb,cb,c1,c2,t1,t2,bM,e0,I0,bN,bF,hx,hy,bO,g1,n1,g2,n2⟩:=hA;obtain⟨bq,fI,k',WT,e',ht⟩:∃bq fI k',pM P ok.fn ops fI/\D=D.at bq (.inRegion fI (i::r)::k')/\aA ok ρ ac.tmps bq.tmps:=by
    have Y:=B.todo;have C:=B.tmps;have h3:=B.mode;have h4:=B.round;rw[e0]at Y C h3 h4;obtain⟨d7,dt,gS,cX,pJ,eu,bp⟩:=D;simp at Y C h3 h4;cases h3;cases h4;cases Y with
    |cons h5 h6=>
     cases h5 with
     |inRegion _ WT=>exact⟨⟨dt,cX⟩,_,_,WT,rfl,C⟩
   have nP:fI[i]?=some o:=by
    obtain⟨o',Y,(C|C)|C⟩:=WT.get I0
    .rw[Y,C.1]
    .rw[bF]at C;rcases C with C|C;exact nomatch C.2.2;exact nomatch C.1
    rw[bF]at C;cases C
   obtain⟨x',eX,rx⟩:=ht.get hx;obtain⟨y',Sz,ry⟩:=ht.get hy;obtain⟨p',rfl,rp⟩:∃p',x'=.slice (some p') la ca/\dD ρ p p':=by cases rx with|slice _ _ r=>exact⟨_,rfl,r⟩
   obtain⟨r',rfl,rq⟩:∃r',y'=.slice (some r') lb cb/\dD ρ q' r':=by cases ry with|slice _ _ r=>exact⟨_,rfl,r⟩
   have a7:∀{ai:au} {d d':Nat} {cc:Array av} {tt:bb},bw ok true ρ (re V ai.tape ai.drawn) ai->ρ d=some d'->V.heap[d]?=some (.cells cc tt (0,0))->cc.size≠0->∃bx,ai.heap[d']?=some (.cells bx tt (0,0))/\bx.size≠0:=by
    intro ai d d' cc tt rZ u J hn;obtain⟨o1,o2,i1,i2,i3⟩:=rZ.heap d d' u;replace i1:V.heap[d]?=some o1:=i1;rw[J]at i1;obtain rfl:=afQ i1;cases i3 with
    |@cells _ c' _ _ z' Cv hz=>
     have Ok:z'=(0,0):=by
      rcases hz with h|⟨_,h,h'⟩
      .simpa using h
      simp at h;omega
     subst Ok;exact⟨c',i2,by rw[<-Cv.size];exact hn⟩
   have bR:p'.block≠r'.block:=λe=>bO (ρ.inj _ _ _ rp.blk<|by rw[e];exact rq.blk)
   have hE:ET P true (λ_=>True) Ph.oq jH (λM' g W'=>g=G (D.finish false) (O++[])/\M'=M/\aU (λb=>M b\/jH b) W W') M (G D<|O++[]) W:=by
    rw[e'];refine ET.val false nP (by rw[tI ht WT];exact bN) (by rw[B.eu,hk];simp) (λai br _=>?_)<|ET.stop λai br _=>⟨?_,rfl,br⟩
    .have rZ:=hw.others ho br;obtain⟨Sb,j1,j2⟩:=a7 rZ rp.blk g1 n1;obtain⟨U',j3,j4⟩:=a7 rZ rq.blk g2 n2;have fO:=bA bM p' r' la ca lb cb Sb U' t1 t2 ai bR j1 j2 j3 j4;rw[Mc bF eX Sz];refine⟨fO.1,λe he=>?_⟩;obtain⟨f,rfl⟩:=fO.2 e he;exact bi<|bi<|aL ⟨_,rfl,rfl⟩
    rw[<-e'];conv=>rhs;rw[e']
    rw[Frame.finish_at,nP];rfl
   obtain⟨r,hr⟩:=hE;obtain⟨N,kJ,M',a',w',ot,t',q2,Y,_,h3,h4,_⟩:=jR (λ_=>trivial) r _ gs M _ W sl t q (afK _) U hr;obtain⟨rfl,rfl,h5⟩:=h3 w' (aU.refl _ _) trivial;obtain⟨N2,TP,T,Ve,t2,q2,Fg,M2,R7,s2,aZ,i1,i2,i3,i4,i5,i6,i7,i8,i9⟩:=ih (hK.trans<|h5.mono λd u=>aL (hF d u).1) (.inside (B.finish<|.bool _) a2<|a3.swap<|ey _ _) (hw.others ho h5) ho h4 hF;exact⟨N+N2,TP,T,Ve,t2,q2,Fg,M2,R7,s2,aZ,runNT_add i1 _ _ _ Y,i2,i3,i4,i5,i6,i7,(h5.mono λd u=>aL (hF d u).1).trans i8,i9⟩
  |door B a2=>
   exact XE
end
end
section
variable [Gl]{afn:aB}{ok:Ctx}{c:ax}{Dr:aE->Array av->au->(av->au->Prop)->Prop}{Q:av->au->Prop}
def rX (afn:aB)(ok:Ctx):Prop:=∀f xs cs V,ok.fn f->ok.aN f=false->∃o w r,be afn true (G (aa afn f xs .normal) cs) V=.ended o w r
def Oq (afn:aB)(ok:Ctx)(s:St):Prop:=∃ρ f xs,s.fr=aa afn f xs .normal/\ok.fn f/\ok.aN f=false/\aA ok ρ xs xs/\ja afn ok ρ s.cs s.cs/\bw ok true ρ s.V s.V/\∀f,s.cs.getLast?=some f->DQ f=(none,.normal)
def tA (N:dQ afn afn ok)(hs:ge afn ok s)(he:¬Edge s){x y es}(h:be afn true (G s.fr<|s.cs++[c]) s.V=.go x y es):
  ∃s',x=G s'.fr (s'.cs++[c])/\y=s'.V/\(ge afn ok s'\/Oq afn ok s'):=by
 obtain⟨ρ,O,R,T,U⟩:=hs;obtain⟨σ,t,W2,DO,e,Y,hw,_,_⟩:=uY N O R T U (λa b=>λd=>he ⟨a,b,d⟩) h;rw[h]at e;obtain⟨rfl,rfl,_⟩:=e;generalize u:x=t at Y;have Z:qc afn afn ok σ [c] [c] x t:=by rw[u]at*;omega
 cases Z with
 |@inside fr dx cs B C D A=>
  have J:=congrArg ad u;have r:=congrArg ao u;simp only[G]at J r;have r:=af6 r;subst J r;exact⟨⟨fr,cs,y⟩,rfl,rfl,aL ⟨σ,C,D,A,hw⟩⟩
 |@door f xs ay cs B C D A a4 a5 a6=>
  have r:=congrArg ao u;have r:=af6 r;subst r;refine⟨⟨aa afn f xs .normal,cs,y⟩,cO,rfl,bi ⟨σ,f,xs,rfl,C,D,?_,a4,hw,a6⟩⟩;have et:=congrArg a0<|congrArg ad u;simp[aa]at et;have:=(a8 et<|by first|exact A.size|exact A.size.symm).1|>λh=>ab
  grind
section
variable {Tgt:St->Prop}
def xz (afn:aB)(c:ax)(Tgt:St->Prop):Nat->St->Prop
 |0,s=>Tgt s
 |n+1,s=>¬Tgt s/\∃s',fK afn c s s'/\xz afn c Tgt n s'
def xz.ZW (r:rX afn ok)(t:∀s,Tgt s->ok.aN s.fr.fn)(h:xz afn c Tgt n s)(u:Oq afn ok s):False:=by
 let⟨ρ,f,xs,e,x,y,_⟩:=u;cases n with
 |zero=>
  have:=t s h;grind [aa]
 |succ n=>
  let⟨_,s',⟨A,B⟩,_⟩:=h;let⟨o,w,C,D⟩:=r f xs (s.cs++[c]) s.V x y;grind
def fK.Xy (y:dQ afn afn ok)(D:rX afn ok)(J:∀s,Tgt s->ok.aN s.fr.fn)(hs:ge afn ok s)(h:fK afn c s s')(x:∃τ d,xz afn c Tgt n<|s'.re τ d):ge afn ok s':=by
 have N:=h.inside y hs;let⟨es,h⟩:=h;let⟨s2,A,B,r⟩:=tA y hs N h;let⟨fr,cs,V⟩:=s';have C:=congrArg ad A;have t:=congrArg ao A;simp only[G]at C t B;have t:=af6 t;subst C t B;rcases r with r|r
 .omega
 let⟨τ,d,x⟩:=x;exfalso;refine x.ZW D J ?_;let⟨ρ,f,xs,O,R,T,U,Y,u,Z⟩:=r;exact⟨ρ,f,xs,O,R,T,U,Y,⟨u.heap,rfl,rfl,u.gV,u.gW,u.gs⟩,Z⟩
def xz.shift (e:dQ afn afn ok)(u:rX afn ok)(x:∀s,Tgt s->ok.aN s.fr.fn)(p:∀s τ d,Tgt s->Tgt (s.re τ d)):∀n {s:St},ge afn ok s->xz afn c Tgt n s->∀τ d,(∀i q,s.V.tape (s.V.drawn+i) q=τ (d+i) q)->xz afn c Tgt n (s.re τ d):=by
 intro n;induction n with
 |zero=>intro s hs h τ d _;exact p s τ d h
 |succ n y=>
  intro s hs h τ d hA;let⟨z,s',r,t⟩:=h;let⟨B,C,A⟩:=r.sh e hs;refine⟨λh=>z<|p (s.re τ d) s.V.tape s.V.drawn h,_,A τ d λi _ q=>hA i q,y (r.Xy e u x hs ⟨s'.V.tape,s'.V.drawn,t⟩) t τ _ λi q=>?_⟩;have:=hA (s'.V.drawn-s.V.drawn+i) q;grind
def HT (afn:aB)(c:ax)(Tgt:St->Prop)(s:St):Prop:=∀τ d,∃n,xz afn c Tgt n (s.re τ d)
theorem HT.succ (u:dQ afn afn ok)(y:rX afn ok)(z:∀s,Tgt s->ok.aN s.fr.fn)(A:∀s τ d,Tgt s->Tgt (s.re τ d))(hs:ge afn ok s)(J:HT afn c Tgt s)(N:¬Tgt s){τ:Nat->aI->Nat}{d}(h:fK afn c (s.re τ d) s'):HT afn c Tgt s'/\ge afn ok s':=by
 have B:=hs.re τ d;let⟨O,k2,R⟩:=h.sh u B;have T:d<=s'.V.drawn:=O;have t:∀(e:Nat->aI->Nat) (r:Nat),∃n p,xz afn c Tgt n (s'.re p s'.V.drawn)/\∀i q,p (s'.V.drawn+i) q=e (r+i) q:=by
  intro e r;let p:Nat->aI->Nat:=λi q=>if i<s'.V.drawn then τ i q else e (r+(i-s'.V.drawn)) q
  have hA:mG (s.re τ d).V.tape (s.re τ d).V.drawn p d (s'.V.drawn-(s.re τ d).V.drawn):=by
   intro i U q;show τ (d+i) q=p (d+i) q;have p8:i<s'.V.drawn-d:=U;grind
  let⟨n,C⟩:=J p d;have e1:(s.re τ d).re p d=s.re p d:=rfl;cases n with
  |zero=>exact absurd (A (s.re p d) s.V.tape s.V.drawn C) N
  |succ n=>
   let⟨_,s2,Y,g2⟩:=C;have:=Y.det<|R p d hA;have e2:d+(s'.V.drawn-(s.re τ d).V.drawn)=s'.V.drawn:=by show d+(s'.V.drawn-d)=_;omega
   grind
 have D:ge afn ok s':=by
  let⟨n,p,x,_⟩:=t τ d;exact h.Xy u y z B ⟨_,_,x⟩
 refine⟨λe r=>?_,D⟩;let⟨n,p,x,Z⟩:=t e r;exact⟨n,xz.shift u y z A n (D.re p s'.V.drawn) x e r Z⟩
def aaf (afn:aB)(c:ax)(Tgt:St->Prop)(s' s:St):Prop:=¬Tgt s/\∃τ d,fK afn c (s.re τ d) s'
omit [Gl] in
def OT {α:Type}{r:α->α->Prop}{s:α}(h:¬Acc r s):∃f:Nat->α,f 0=s/\∀n,r (f<|n+1) (f n):=by
 have step:∀s:{s:α //¬Acc r s},∃s':{s:α //¬Acc r s},r s'.1 s.1:=by
  intro ⟨s,hs⟩;apply af8;intro t;apply hs;refine⟨_,λy u=>?_⟩;apply af8;intro A;simp_all
 let g:Nat->{s:α //¬Acc r s}:=λn=>Nat.rec ⟨s,h⟩ (λ_ x=>(step x).choose) n
 exact⟨λn=>(g n).1,rfl,λn=>(step<|g n).choose_spec⟩
def LU (A:dQ afn afn ok)(FE:rX afn ok)(hI:∀s,Tgt s->ok.aN s.fr.fn)(B:∀s τ d,Tgt s->Tgt (s.re τ d))(hs:ge afn ok s)(C:HT afn c Tgt s):Acc (aaf afn c Tgt) s:=by
 apply af8;intro J;let⟨f,O,t⟩:=OT J;have u:∀n,HT afn c Tgt (f n)/\ge afn ok (f n):=by
  intro n;induction n with
  |zero=>grind
  |succ n R=>let⟨h0,τ,d,h⟩:=t n;grind [HT.succ]
 let τ:Nat->Nat->aI->Nat:=λn=>(t n).2.choose
 let d:Nat->Nat:=λn=>(t n).2.choose_spec.choose
 have g:∀n,fK afn c ((f n).re (τ n)<|d n) (f<|n+1):=λn=>(t n).2.choose_spec.choose_spec
 let D:Nat->Nat:=λn=>Nat.rec 0 (λn x=>x+((f<|n+1).V.drawn-d n)) n
 have hD:∀n,D (n+1)=D n+((f<|n+1).V.drawn-d n):=λn=>rfl
 let⟨T,U⟩:=GB D (λn=>cO) λn j q=>τ n (d n+j) q;have go:∀n,fK afn c ((f n).re T<|D n) ((f<|n+1).re T<|D<|n+1):=by
  intro n;let⟨_,_,Y⟩:=(g n).sh A<|(u n).2.re (τ n)<|d n;have:=Y T (D n) (λi Z q=>by
   show τ n (d n+i) q=T (D n+i) q;have p8:i<(f<|n+1).V.drawn-d n:=Z;rw[U n i q cO])
  assumption
 have r:∀N n,¬xz afn c Tgt N ((f n).re T<|D n):=by
  intro N;induction N with
  |zero=>intro n h;exact(t n).1 (B ((f n).re T<|D n) (f n).V.tape (f n).V.drawn h)
  |succ N R=>
   intro n h;let⟨_,s',h1,h2⟩:=h;have:=h1.det<|go n;grind
 let⟨N,y⟩:=C T 0;rw[<-O]at y;exact r N 0 y
def R2 (t:dQ afn afn ok)(u:rX afn ok)(x:∀s,Tgt s->ok.aN s.fr.fn)(q:∀s τ d,Tgt s->Tgt (s.re τ d))(A:∀s,Tgt s->ge afn ok s->Wk afn ok c Dr Q s)(hs:ge afn ok s)(r:HT afn c Tgt s):Wk afn ok c Dr Q s:=by
 induction (LU t u x q hs r)with
 |intro s _ B=>
  by_cases p:Tgt s
  .exact A s p hs
  have e:∀τ d,∃s',fK afn c (s.re τ d) s':=by
   intro τ d;let⟨n,y⟩:=r τ d;cases n with
   |zero=>exact absurd (q _ s.V.tape s.V.drawn y) p
   |succ n=>let⟨_,s',z,_⟩:=y;grind
  have hk:ok.aN s.fr.fn=true:=by let⟨ρ,z,_⟩:=hs;exact z.aN
  refine .step (λτ d=>(e τ d).choose) hk (λτ d=>aL (e τ d).choose_spec) λτ d=>?_
  have:=HT.succ t u x q hs r p (e τ d).choose_spec;exact B _ ⟨p,τ,d,(e τ d).choose_spec⟩ this.2 this.1
def Fz (C:dQ afn afn ok)(Y:rX afn ok)(hI:∀s,Tgt s->ok.aN s.fr.fn)(hF:j9 afn c){y}(Z:Tgt y):
  ∀n {s:St},ge afn ok s->bn afn n (lone s.fr (s.cs++[c]) s.V)=.next (lone y.fr (y.cs++[c]) y.V)->∃k,xz afn c Tgt k s:=by
 intro n;induction n with
 |zero=>
  intro s hs h;simp[bn]at h;let⟨O,x,e3⟩:=qB h;have x:=af6 x;have:s=y:=by
   let⟨a,b,d⟩:=s;simp_all
  exact⟨0,this▸Z⟩
 |succ n ih=>
  intro s hs h;by_cases R:Tgt s
  .exact⟨0,R⟩
  let⟨ρ,T,h2,h3,U⟩:=hs;have hs:ge afn ok s:=⟨ρ,T,h2,h3,U⟩;have hk:(∃D J r,be afn true (G s.fr<|s.cs++[c]) s.V=.go D J r)\/∃o w r,be afn true (G s.fr<|s.cs++[c]) s.V=.ended o w r:=by
   cases ay:s.cs++[c]with
   |nil=>simp_all
   |cons a l=>exact(EP C T U).1
  simp[bn]at h;rcases hk with⟨D,J,r,t⟩|⟨o,w,r,t⟩
  .by_cases he:Edge s
   .exfalso;have A:∀u,D=G u []->(∀w,∃o w' r,be afn true (G u []) w=.ended o w' r)->False:=by
     intro u e pP;subst e;rw[mu t]at h;cases n with
     |zero=>
      simp[bn]at h;let⟨_,x,_⟩:=qB h;simp at x
     |succ n=>
      let⟨o,w',iq,N⟩:=pP J;simp only[bn,iz N]at h;grind
    rcases vr C hs he t with⟨v,e⟩|⟨ch,e⟩
    .exact A _ e (hF.ret v)
    exact A _ e<|hF.pan ch
   let⟨s',O,x,B⟩:=tA C hs he t;subst O x;rw[mu t]at h;rcases B with B|B
   .let⟨k,hk⟩:=ih B h;exact⟨k+1,R,s',⟨r,t⟩,hk⟩
   let⟨aF,f,xs,x1,x2,x3,_⟩:=B;cases n with
   |zero=>
    simp[bn]at h;let⟨y1,_,_⟩:=qB h;grind [aa]
   |succ n=>
    let⟨o,w',iq,N⟩:=Y f xs (s'.cs++[c]) s'.V x2 x3;rw[x1]at h;simp only[bn,iz N]at h;grind
  rw[iz t]at h;grind
end
variable (afn ok c Dr Q)in
def ae (s:St):Prop:=∀τ d,ge afn ok (s.re τ d)->Wk afn ok c Dr Q (s.re τ d)
def qb (ok:Ctx)(Dr:aE->Array av->au->(av->au->Prop)->Prop):Prop:=∀{f:aE} {xs:Array av} {V r:au} {v:av} {ρ:Ren} {R:av->au->Prop},Dr f xs V R->R v r->aA ok ρ xs xs->bw ok true ρ V V->∃σ,ρ.le σ/\aq ok σ v v/\bw ok true σ r r
def ae.of_steps (u:dQ afn afn ok)(x:rX afn ok)(hF:j9 afn c)(Good:St->Prop)(y:∀e,Good e->ok.aN e.fr.fn)
  (h:∀τ d,∃e,Good e/\Steps afn (lone s.fr (s.cs++[c])<|re s.V τ d) (lone e.fr (e.cs++[c]) e.V))(z:∀e,Good e->ae afn ok c Dr Q e):ae afn ok c Dr Q s:=by
 refine λτ d hs=>R2 (Tgt:=λe=>∃p τ d,Good p/\e=p.re τ d) u x ?_ ?_ ?_ hs ?_
 .rintro _ ⟨p,τ,d,q,rfl⟩;exact y p q
 .rintro _ r t ⟨p,τ,d,q,rfl⟩;exact⟨p,r,t,q,rfl⟩
 .rintro _ ⟨p,τ,d,q,rfl⟩ hs;exact z p q τ d hs
 intro r t;let⟨e,q,n,A⟩:=h r t;exact Fz u x (by rintro _ ⟨p,τ,d,q,rfl⟩;exact y p q) hF ⟨e,e.V.tape,e.V.drawn,q,rfl⟩ n (hs.re r t) A
def ae.door (J:dQ afn afn ok)(B:qb ok Dr)(hf:ok.aN f=false)(hgo:∀τ d,fK afn c (s.re τ d) ⟨aa afn f xs .normal,s.fr::s.cs,re s.V τ d⟩)
  {R:(Nat->aI->Nat)->Nat->av->au->Prop}(N:∀τ d,Dr f xs (re s.V τ d)<|R τ d)(h:∀τ d v x,R τ d v x->ae afn ok c Dr Q ⟨s.fr.finish v,s.cs,x⟩):ae afn ok c Dr Q s:=by
 intro τ d hs;have hk:ok.aN s.fr.fn=true:=by let⟨ρ,h1,_⟩:=hs;exact h1.aN
 refine .step (λr t=>⟨aa afn f xs .normal,s.fr::s.cs,re s.V r t⟩) hk (λτ d=>aL<|hgo τ d) λr t=>.door hf (N r t) λv x O=>?_
 have T:=hs.re r t;let⟨es,y⟩:=hgo r t;let⟨s2,U,Y,h2⟩:=tA J T (fK.inside J T ⟨es,y⟩) y;let⟨ay,aF,V2⟩:=s2;have Z:=congrArg ad U;have A:=congrArg ao U;simp only[G]at Z A Y;have A:=af6 A;subst Z A Y;refine h r t v x O x.tape x.drawn ?_;rcases h2 with⟨ρ,u,_⟩|⟨ρ,f',aZ,u,x2,x3,x4,x5,x6,x7⟩
 .have:=u.aN;grind [aa]
 have u:=u;have C:=congrArg bj u;subst C;let⟨a1,y1,y2⟩:=yZ rfl u x4;have D:aA ok ρ xs xs:=by
  have et:=congrArg a0<|y2.trans u.symm;simp[aa]at et;have:=(a8 et y1.size.symm).1;grind
 let⟨σ,z1,z2,z3⟩:=B (N r t) O D x6;cases x5 with
 |cons b1 b2=>
  refine⟨σ,(b1.mono z1).finish z2,b2.mono z1,?_,z3⟩;have:wh s.fr s.cs:=λg y=>x7 g y
  exact this.swap<|ey _ _
def ae.late {r:ax}(h:∀τ d,yv ok s.fr (re s.V τ d) r)(u:ae afn ok c Dr Q ⟨r,s.cs,s.V⟩):ae afn ok c Dr Q s:=by
 intro τ d hs;let⟨ρ,t,x,y,q⟩:=hs;refine .step (λe p=>⟨r,s.cs,re s.V e p⟩) t.aN (λe p=>bi ⟨h e p,rfl,rfl⟩) λe p=>u e p ⟨ρ,MO q.gl t<|h e p,x,y.swap<|K7<|h e p,q.heap,rfl,rfl,q.gV,q.gW,q.gs⟩
def ae.ends (h:∀τ d,Ends afn Q<|s.re τ d)(e:∃fn t,afn.funcs[s.fr.fn]?=some fn/\fn.results=#[.tmp t]):ae afn ok c Dr Q s:=λ_ _ _=>.ends h e
end
