/- FnExactStripAdd answers true at every book and move and leaves the book as it was: the program's StripAdd answers as the model's, every field, writes into no argument, and its answer owns its memory. No condition. It starts goroutines; they leave. -/
import Derived.Test.YtlmcblcijndipabGreatDoorAd49
import Derived.Test.YtlmcblcijndipabGreatDoorAd38
set_option linter.unusedVariables false
set_option maxRecDepth 100000
namespace Go.Proofs.YtlmcblcijndipabGreatDoor
open Go.ChangeShapes Go.WideShapes Go.ChangeAt Go.RowKit Go.Conc
namespace LawAdd
theorem kb {W W':World}(h:ax (λd=>d<W.heap.size) W W'):Below W.heap.size W {W' with tape:=W.tape}:=⟨h.os,rfl,h.out,h.size,h.block⟩
theorem kf {W W':World}(h:ax (λd=>d<W.heap.size) W W')(may:MemPlace->Prop):W.keptBut W' may:=by
 refine⟨h.os,h.out,λi hi=>?_⟩;rw[h.block i hi];split<;>simp_all
theorem tb:Tryz.prog.cellTypes Tryz.prog.depth 25=some [3,3,22,23]:=by kernel_rfl
theorem um:∀m u,Tryz.prog.underlying 27≠some (.array m u):=λm u h=>by rw[Tryz.underlying27]at h;cases h
theorem ui:∀m u,Tryz.prog.underlying 3≠some (.array m u):=λm u h=>by rw[Tryz.underlying3]at h;cases h
theorem bb {W:World}{r:Reach}{base:Nat}{now shift:Int}{a a':Option Addr}{n cap m cap':Nat}(hE:W.heap[0]?=some mc)(h:Value.okWide Tryz.prog W r base 25 (.agg #[.int .i64 now,.int .i64 shift,.slice a n cap,.slice a' m cap'])):
  ∀x,a=some x\/a'=some x->(∃cs e z,W.heap[x.block]?=some (.cells cs e z))/\x.block≠0:=by
 simp only[Value.okWide,Tryz.underlying25]at h;obtain⟨cs,hc,_,ts,ht,_,hall⟩:=h;rw[tb]at ht;obtain rfl:=Gt ht;simp only[Value.agg.injEq]at hc;subst hc;rintro x (rfl|rfl)
 .obtain⟨u,hu,h2⟩:=hall 2 (.slice (some x) n cap) (by simp);simp at hu;subst hu;exact pw Tryz.underlying22 CB um hE h2
 .obtain⟨u,hu,h2⟩:=hall 3 (.slice (some x) m cap') (by simp);simp at hu;subst hu;exact pw Tryz.underlying23 AH ui hE h2
def hB (a a':Option Addr)(b:Nat):Bool:=a.any (λx=>x.block==b)||a'.any (λx=>x.block==b)
theorem hI {a a':Option Addr}{b:Nat}:hB a a' b=true<->∃x,(a=some x\/a'=some x)/\x.block=b:=by
 unfold hB;rw[GP];constructor
 .rintro(h|h)
  .cases a with
   |none=>simp at h
   |some x=>exact⟨x,.inl rfl,by simpa using h⟩
  .cases a' with
   |none=>simp at h
   |some x=>exact⟨x,.inr rfl,by simpa using h⟩
 .rintro⟨x,rfl|rfl,rfl⟩
  .exact .inl (by simp)
  .exact .inr (by simp)
theorem mr {W V:World}{a:Option Addr}{n cap:Nat}{f:Nat->Mv}(h:dp W a n cap f)(hR:xk W V):dp V a n cap f:=by
 obtain⟨h1,h2,h3⟩:=h;refine⟨h1,h2.imp id λ⟨b,off,e,hl,hr⟩=>⟨b,off,e,by rw[hR.1];exact hl,λi hi=>?_⟩,h3⟩;have q:=hr i hi;exact⟨hR.2 _ _ _ rfl q.c0,hR.2 _ _ _ rfl q.c1,hR.2 _ _ _ rfl q.c2,hR.2 _ _ _ rfl q.c3,hR.2 _ _ _ rfl q.c4,hR.2 _ _ _ rfl q.c5⟩
theorem ir {W V:World}{a:Option Addr}{n:Nat}{t:Nat->Int}(h:cp W a n t)(hR:xk W V):cp V a n t:=by
 obtain⟨h1,h2,h3⟩:=h;exact⟨h1,h2.imp id λ⟨b,off,e,hl,hr⟩=>⟨b,off,e,by rw[hR.1];exact hl,λi hi=>hR.2 _ _ _ rfl (hr i hi)⟩,h3⟩
theorem lifted (os:Os)(started:os.Started)(H:Type)(enc:TypeId×Value->H):
  ReturnsInLeavingWide {} Tryz.checked os 3 .any (λw args=>(Rows.fnExactStripAddSpec.pre enc Tryz.prog Tryz.f3 [] false w args/\laidMetH Tryz.prog [("errors.errorType",Rows.laid_errors_errorType)] w)/\sizedMet enc Tryz.prog Tryz.f3 (OpenSpec.ofChange Rows.fnExactStripAddSpec) false w args)
   (Rows.fnExactStripAddSpec.post enc Tryz.prog Tryz.f3 false true false false):=by
 refine iP (C:=Tryz.checked) (X:=λw _=>laidMetH Tryz.prog [("errors.errorType",Rows.laid_errors_errorType)] w) (λ_ _ _ hh h=>h.of_heap hh) own started Tryz.func3
  (ChangeSpec.witness_at (enc:=enc) (C:=Tryz.checked) (os:=os) (X:=λw _=>laidMetH Tryz.prog [("errors.errorType",Rows.laid_errors_errorType)] w) false (qK os) #[.agg #[.int .i64 0,.int .i64 0,.slice none 0 0,.slice none 0 0],.agg #[.string ByteArray.empty,.bool false,.int .i64 0,.int .i64 0,.int .i64 0,.int .i64 0]] 8 rfl (by kernel_rfl) (by kernel_rfl) (by kernel_rfl) (by kernel_rfl) (by kernel_rfl) (pN os _)) ?_
 intro W base args ds gs before hsh hval0 hW hlaid;have hval:∀(j:Nat) t v,Tryz.f3.params[j]?=some t->args[j]?=some v->Value.okWide Tryz.prog W .any base t v:=hval0;have hW':=hW;obtain⟨p,q,hA0,hV,rfl,hfz,hnd⟩:=hW;have hA:DataW.TrodAll enc Tryz.prog W 0 (λ_=>true) true Tryz.f3.params.toList args.toList ds p:=hA0;rw[Tryz.params3]at hA hval;obtain⟨v0,vs0,d0,ds0,p0,q0,hargs,rfl,rfl,h0,r0⟩:=trodAll_cons hA;obtain⟨v1,vs1,d1,ds1,p1,q1,hargs1,rfl,rfl,h1,r1⟩:=trodAll_cons r0;obtain⟨rfl,rfl,rfl⟩:=trodAll_nil r1;obtain rfl:args=#[v0,v1]:=by cases args;simp_all
 obtain⟨rfl,rfl⟩:=trodVars_none hV;have hv0:=hval 0 25 v0 rfl rfl;obtain⟨mv,hmv,rfl⟩:=yw (hval 1 27 v1 rfl rfl) h1;obtain⟨now,shift,a,n,cap,f,a',m,cap',t,rfl,w0,w1⟩:=yL hv0 h0;have k0:=h0;have k1:=h1;have lt0:∀x∈p0,x.block<W.heap.size:=by obtain⟨n,hn⟩:=k0;exact DataW.trod_lt n _ _ _ hn
 have lt1:∀x∈p1,x.block<W.heap.size:=by obtain⟨n,hn⟩:=k1;exact DataW.trod_lt n _ _ _ hn
 clear hA0 hval0;obtain⟨hE,hgl⟩:=DN hsh hlaid;have hblk:=bb hE hv0;obtain⟨M,last,o,w',t',g1,g2,g3,g4⟩:=CA Cx AD (L:=3) (by kernel_rfl) (W:=W) hgl hE (xs:=#[.agg #[.int .i64 now,.int .i64 shift,.slice a n cap,.slice a' m cap'],.agg #[.string mv.name,.bool mv.lands,.int .i64 mv.wake,.int .i64 mv.est,.int .i64 mv.late,.int .i64 mv.prom]]) (hB a a') (by
   cases hc:hB a a' 0 with
   |false=>rfl
   |true=>obtain⟨x,hx,e⟩:=hI.1 hc;exact((hblk x hx).2 e).elim) (λb hb=>by
   obtain⟨x,hx,rfl⟩:=hI.1 hb;exact(hblk x hx).1)
  (λok ρ hρ=>by
   letI:=j0;have hs:∀(y:Option Addr) (l c:Nat),(∀x,y=some x->a=some x\/a'=some x)->aj ok ρ (.slice y l c) (.slice y l c):=λy l c hy=>by
    cases ha:y with
    |none=>exact .slice0 _ _
    |some x=>exact .slice _ _ ⟨hρ x.block (hI.2 ⟨x,hy x ha,rfl⟩),rfl,rfl⟩
   refine⟨rfl,λi x x' hx hx'=>?_⟩;match i with
   |0=>
    simp at hx hx';subst hx hx';refine .agg rfl λi x x' hx hx'=>?_
    match i with
    |0|1=>simp at hx hx';subst hx hx';exact .int _ _
    |2=>simp at hx hx';subst hx hx';exact hs _ _ _ λx h=>.inl h
    |3=>simp at hx hx';subst hx hx';exact hs _ _ _ λx h=>.inr h
    |i+4=>simp at hx
   |1=>
    simp at hx hx';subst hx hx';refine .agg rfl λi x x' hx hx'=>?_
    match i with
    |0=>simp at hx hx';subst hx hx';exact .string _
    |1=>simp at hx hx';subst hx hx';exact .bool _
    |2|3|4|5=>simp at hx hx';subst hx hx';exact .int _ _
    |i+6=>simp at hx
   |i+2=>simp at hx)
  (λok V E h2 hR=>by
   letI:=j0;exact DG E (by constructor<;>(rw[h2];kernel_rfl)) rfl (by rw[h2];kernel_rfl) (by rw[h2];kernel_rfl) (mr w0 hR) (ir w1 hR) hmv)
 refine⟨M,last,o,w',t',g1,g2,g3,g4.mono λv hv=>?_⟩;obtain⟨rfl,hk⟩:=hv;have bel:=kb hk;have hh:({w' with tape:=W.tape}:World).heap=w'.heap:=rfl;have e0:=(Below.trod wW (by kernel_rfl) (of_decide_eq_true (by kernel_rfl)) k0 bel lt0).of_heap (w':=w') hh;have e1:=(Below.trod wW (by kernel_rfl) (of_decide_eq_true (by kernel_rfl)) k1 bel lt1).of_heap (w':=w') hh;exact⟨_,_,_,[],_,[],hW',trodAll_mk1 (shut_bool Tryz.underlying4 _),(trodAll_cons_mk e0 (trodAll_cons_mk e1 trodAll_mk0)),rfl,kf hk _,λh=>by cases h⟩
theorem over:Rows.FnExactStripAddSaid:=
 OpenClaim.holds_of_wide_leaving 3 Tryz.f3 rfl rfl rfl rfl rfl rfl rfl ⟨rfl,rfl,rfl,rfl,rfl⟩ rfl rfl rfl rfl rfl (by kernel_rfl) Tryz.func3 (by kernel_rfl)
  (of_decide_eq_true (by kernel_rfl)) (by unfold Func.isWrapper;first|(rw[if_pos (by decide +kernel)];kernel_rfl)|(rw[if_neg (by decide +kernel)];exact⟨rfl,rfl⟩))
  (λos started H enc _=>lifted os started H enc)
end LawAdd
theorem fnExactStripAdd_holds:Rows.FnExactStripAddCardSaid:=
 yM .later [.handle] true Rows.fnExactStripAddCard.stood.harness true
  LawAdd.over (by kernel_rfl) fnExactStripAdd_row_tie rfl ⟨rfl,rfl⟩ (by kernel_rfl) rfl
  (λf fn hf hfn=>by
   obtain rfl:f=3:=Gt ((show Tryz.prog.funcNamed "loop.example/lapstrip/laws.FnExactStripAdd"=some 3 by kernel_rfl).symm.trans hf)|>.symm;obtain rfl:fn=Tryz.f3:=(Gt (Tryz.func3.symm.trans hfn)).symm;exact⟨by kernel_rfl,λj t ht=>by
    rw[Tryz.params3]at ht;rcases j with _|_|j
    .obtain rfl:t=25:=by simpa using ht.symm
     exact(show Tryz.prog.wantsStandIn 25=false by kernel_rfl)
    .obtain rfl:t=27:=by simpa using ht.symm
     exact(show Tryz.prog.wantsStandIn 27=false by kernel_rfl)
    .simp at ht⟩)
  (by kernel_rfl)
#print axioms fnExactStripAdd_holds
