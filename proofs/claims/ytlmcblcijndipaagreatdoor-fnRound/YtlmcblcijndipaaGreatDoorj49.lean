/- FnRound answers true at every two codes and leaves them as they were: of a drawn book the program's going round, being sure and passing of a tick answer as the model's do, and keep what the law asks. No condition. It starts goroutines; they leave. -/
import Derived.Test.YtlmcblcijndipaaGreatDoorj48
import Derived.Test.YtlmcblcijndipaaGreatDoorj40
set_option linter.unusedVariables false
set_option maxRecDepth 100000
namespace Go.Proofs.YtlmcblcijndipaaGreatDoor
open ChangeAt ChangeShapes Conc RowKit WideShapes
namespace vr
theorem Fi {W W':World}(h:aO (λd=>d<W.heap.size) W W'):Below W.heap.size W {W' with tape:=W.tape}:=⟨h.os,rfl,h.out,h.size,h.block⟩
theorem Fj {W W':World}(h:aO (λd=>d<W.heap.size) W W')(may:MemPlace->Prop):W.keptBut W' may:=by
 refine⟨h.os,h.out,λi hi=>?_⟩;rw[h.block i hi];split<;>simp_all
theorem GA:sameLayout Tryz.prog Tryz.prog.depth 165 5=false:=bR
theorem Rf:∀m u,Tryz.prog.underlying 5≠some (.array m u):=λm u h=>by rw[Tryz.underlying5]at h;cases h
def heldBy (a a':Option Addr)(b:Nat):Bool:=a.any (λx=>x.block==b)||a'.any (λx=>x.block==b)
theorem vZ {a a':Option Addr}{b:Nat}:heldBy a a' b=true<->∃x,(a=some x\/a'=some x)/\x.block=b:=by
 unfold heldBy;rw[acO];constructor
 .rintro(h|h)
  .cases a with
   |none=>simp at h
   |some x=>exact⟨x,.inl rfl,qg⟩
  .cases a' with
   |none=>simp at h
   |some x=>exact⟨x,.inr rfl,qg⟩
 .rintro⟨x,rfl|rfl,rfl⟩
  .exact .inl aH
  .exact .inr aH
theorem Ug:IntKind.u8.min=0:=bK
theorem Uf:IntKind.u8.max=255:=bK
theorem PY {x:Int}(h:(Lit.int .u8 x).wf=true):0<=x/\x<=255:=by
 have h':(decide (IntKind.u8.min<=x)&&decide (x<=IntKind.u8.max))=true:=h;rw[Ug,Uf]at h';simpa using h'
theorem Ez:Tryz.prog.cellsOf 5=1:=bR
theorem wG {H:Type}{enc:TypeId×Value->H}{w:World}{a:Option Addr}{n cap:Nat}{d:DataW H}{p:List MemPlace}(h:DataW.Trod enc Tryz.prog w 0 (λ_=>true) true 22 (.slice a n cap) d p):
  ∃c,ig w a n c/\n<=cap:=by
 obtain⟨fuel,hf⟩:=h;rcases Deep.open_slice1 Tryz.underlying22 Ez hf with⟨hcs,_⟩|⟨x,l,c,m,k,V,D,Pl,hcs,_,hl,hm,Qw,_,hel⟩
 .simp[Value.cells]at hcs;obtain⟨rfl,rfl,rfl⟩:=hcs;exact⟨λ_=>0,⟨acp _,.inl rfl,λi hi=>absurd hi (aco _)⟩,ack _⟩
 .simp[Value.cells]at hcs;obtain⟨rfl,rfl,rfl⟩:=hcs;simp only[if_true]at Qw;subst Qw;have cP:∀i,i<n->∃z:Int,w.cell? (x.add i)=some (.int .u8 z)/\(Lit.int .u8 z).wf=true:=by
   intro i gY;obtain⟨h1,h2⟩:=hel i ab;obtain⟨z,hz,_,hwf⟩:=DataW.trod_int Tryz.underlying5 h2;simp at hz;exact⟨z,by rw[h1,hz],hwf⟩
  obtain⟨g,hg⟩:=Deep.choose_lt cP;refine⟨g,⟨ab,?_,λi hi=>PY (hg i hi).2⟩,ab⟩;by_cases hz:n=0
  .exact .inl hz
  .right;obtain⟨b,off,spot⟩:=x;have h00:=(hg 0 ab).1;have Xp:spot=none:=by
    have:=World.cell?_spot (a:=(Addr.mk b off spot)) (v:=.int .u8 (g 0)) Vr;simpa using this
   subst Xp;refine⟨b,off,rfl,?_,?_⟩
   .exact block_lt_of_cell (w:=w) (a:=⟨b,off,none⟩) (v:=.int .u8 (g 0)) Vr
   .intro i hi;have:=(hg i hi).1;simpa[add_plain]using this
theorem vK {W V:World}{a:Option Addr}{n:Nat}{c:Nat->Int}(h:ig W a n c)(hR:J3 W V):ig V a n c:=by
 obtain⟨h1,h2,h3⟩:=h;refine⟨h1,h2.imp id λ⟨b,off,e,hl,hr⟩=>⟨b,off,e,by rw[hR.1];exact hl,λi hi=>hR.2 _ _ _ rfl (hr i hi)⟩,h3⟩
theorem lifted (os:Os)(started:os.Started)(H:Type)(enc:TypeId×Value->H):
  ReturnsInLeavingWide {} Tryz.checked os 5 .any (λw args=>(Rows.fnRoundSpec.pre enc Tryz.prog Tryz.f5 [] false w args/\laidMetH Tryz.prog [("errors.errorType",Rows.laid_errors_errorType)] w)/\sizedMet enc Tryz.prog Tryz.f5 (OpenSpec.ofChange Rows.fnRoundSpec) false w args)
   (Rows.fnRoundSpec.post enc Tryz.prog Tryz.f5 false true false false):=by
 refine ol (C:=Tryz.checked) (X:=λw _=>laidMetH Tryz.prog [("errors.errorType",Rows.laid_errors_errorType)] w) (λ_ _ _ hh h=>h.of_heap hh) own started Tryz.func5
  (ChangeSpec.witness_at (enc:=enc) (C:=Tryz.checked) (os:=os) (X:=λw _=>laidMetH Tryz.prog [("errors.errorType",Rows.laid_errors_errorType)] w) false (yV os) #[.slice none 0 0,.slice none 0 0] 8 rfl bR bR bR bR bR (xV os _)) ?_
 intro W base args ds gs before jh QM hW WM;have hval:∀(j:Nat) t v,Tryz.f5.params[j]?=some t->args[j]?=some v->Value.okWide Tryz.prog W .any base t v:=QM;have hW':=hW;obtain⟨p,q,In,hV,rfl,Qp,OP⟩:=hW;have hA:DataW.TrodAll enc Tryz.prog W 0 (λ_=>true) true Tryz.f5.params.toList args.toList ds p:=In;rw[Tryz.params5]at hA hval;obtain⟨v0,vs0,d0,ds0,p0,q0,K3,rfl,rfl,h0,r0⟩:=trodAll_cons hA;obtain⟨v1,vs1,d1,ds1,p1,q1,Q_,rfl,rfl,h1,r1⟩:=trodAll_cons r0;obtain⟨rfl,rfl,rfl⟩:=trodAll_nil r1;obtain rfl:args=#[v0,v1]:=by cases args;simp_all
 obtain⟨rfl,rfl⟩:=trodVars_none hV;have Zr:=hval 0 22 v0 rfl rfl;have OU:=hval 1 22 v1 rfl rfl;obtain⟨a,n,cap,rfl⟩:=okWide_slice Tryz.underlying22 Zr;obtain⟨a',m,cap',rfl⟩:=okWide_slice Tryz.underlying22 OU;have k0:=h0;have k1:=h1;have O3:∀x∈p0,x.block<W.heap.size:=by obtain⟨n,hn⟩:=k0;exact DataW.trod_lt n _ _ _ hn
 have lt1:∀x∈p1,x.block<W.heap.size:=by obtain⟨n,hn⟩:=k1;exact DataW.trod_lt n _ _ _ hn
 clear In QM;obtain⟨hE,DR⟩:=Sb jh WM;obtain⟨c0,w0,OI⟩:=wG h0;obtain⟨c1,w1,kJ⟩:=wG h1;have hblk:∀x,a=some x\/a'=some x->(∃cs e z,W.heap[x.block]?=some (.cells cs e z))/\x.block≠0:=by
  rintro x (rfl|rfl)
  .exact vG Tryz.underlying22 GA Rf hE (by simpa only[Value.okWide,Tryz.underlying22]using Zr)
  .exact vG Tryz.underlying22 GA Rf hE (by simpa only[Value.okWide,Tryz.underlying22]using OU)
 obtain⟨M,last,o,w',t',g1,g2,g3,g4⟩:=Pv Oo KP (L:=5) bR (W:=W) DR hE (xs:=#[.slice a n cap,.slice a' m cap']) (heldBy a a') (by
   cases hc:heldBy a a' 0 with
   |false=>rfl
   |true=>obtain⟨x,hx,e⟩:=vZ.1 hc;exact((hblk x hx).2 e).elim) (λb hb=>by
   obtain⟨x,hx,rfl⟩:=vZ.1 hb;exact(hblk x hx).1)
  (λok ρ xN=>by
   letI:=qm;have hs:∀(y:Option Addr) (l c:Nat),(∀x,y=some x->a=some x\/a'=some x)->ar ok ρ (.slice y l c) (.slice y l c):=λy l c hy=>by
    cases ha:y with
    |none=>exact .dg _ _
    |some x=>exact .slice _ _ ⟨xN x.block (vZ.2 ⟨x,hy x ha,rfl⟩),rfl,rfl⟩
   refine⟨rfl,λi x x' hx dB=>?_⟩;match i with
   |0=>simp at hx dB;subst hx dB;exact hs _ _ _ λx h=>.inl h
   |1=>simp at hx dB;subst hx dB;exact hs _ _ _ λx h=>.inr h
   |i+2=>simp at hx)
  (λok V E h2 hR=>by
   letI:=qm;exact Gb E RL (by constructor<;>(rw[h2];kernel_rfl)) (vK w0 hR) OI (vK w1 hR) kJ)
 refine⟨M,last,o,w',t',g1,g2,g3,g4.mono λv hv=>?_⟩;obtain⟨rfl,hk⟩:=hv;have JH:=Fi hk;have hh:({w' with tape:=W.tape}:World).heap=w'.heap:=rfl;have e0:=(Below.trod Gj bR (of_decide_eq_true bR) k0 JH O3).of_heap (w':=w') hh;have e1:=(Below.trod Gj bR (of_decide_eq_true bR) k1 JH lt1).of_heap (w':=w') hh;exact⟨_,_,_,[],_,[],hW',trodAll_mk1 (shut_bool Tryz.underlying4 _),(trodAll_cons_mk e0 (trodAll_cons_mk e1 trodAll_mk0)),rfl,Fj hk _,λh=>qh⟩
theorem over:Rows.FnRoundSaid:=
 OpenClaim.holds_of_wide_leaving 5 Tryz.f5 rfl rfl rfl rfl rfl rfl rfl ⟨rfl,rfl,rfl,rfl,rfl⟩ rfl rfl rfl rfl rfl bR Tryz.func5 bR
  (of_decide_eq_true bR) (by unfold Func.isWrapper;first|(rw[if_pos Kr];kernel_rfl)|(rw[if_neg Kr];exact⟨rfl,rfl⟩))
  (λos started H enc _=>lifted os started H enc)
end vr
theorem fnRound_holds:Rows.FnRoundCardSaid:=
 Jw .later [.handle] true Rows.fnRoundCard.stood.harness true
  vr.over bR fnRound_row_tie rfl ⟨rfl,rfl⟩ bR rfl
  (λf fn hf rJ=>by
   obtain rfl:f=5:=acr ((show Tryz.prog.funcNamed "loop.example/lapstrip/laws.FnRound"=some 5 by kernel_rfl).symm.trans hf)|>.symm;obtain rfl:fn=Tryz.f5:=(acr (Tryz.func5.symm.trans rJ)).symm;exact⟨bR,λj t ht=>by
    rw[Tryz.params5]at ht;rcases j with _|_|j
    .obtain rfl:t=22:=by simpa using ht.symm
     exact(show Tryz.prog.wantsStandIn 22=false by kernel_rfl)
    .obtain rfl:t=22:=by simpa using ht.symm
     exact(show Tryz.prog.wantsStandIn 22=false by kernel_rfl)
    .simp at ht⟩)
  bR
#print axioms fnRound_holds
