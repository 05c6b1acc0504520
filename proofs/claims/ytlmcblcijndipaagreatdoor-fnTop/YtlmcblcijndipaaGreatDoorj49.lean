/- FnTop answers true at every code and leaves it as it was: through a drawn row of events the program's coming, going and passing of a tick answer as the model's do, the book stays sure, and whoever is called may go round. No condition. It starts goroutines; they leave. -/
import Derived.Test.YtlmcblcijndipaaGreatDoorj48
import Derived.Test.YtlmcblcijndipaaGreatDoorj41
set_option linter.unusedVariables false
set_option maxRecDepth 100000
namespace Go.Proofs.YtlmcblcijndipaaGreatDoor
variable {n:Nat}{a:Option Addr}{W W':World}
open ChangeAt ChangeShapes Conc RowKit WideShapes
namespace DK
theorem Hh (h:aO (λd=>d<W.heap.size) W W'):Below W.heap.size W {W' with tape:=W.tape}:=⟨h.os,rfl,h.out,h.size,h.block⟩
theorem Hi (h:aO (λd=>d<W.heap.size) W W')(may:MemPlace->Prop):W.keptBut W' may:=by
 refine⟨h.os,h.out,λi hi=>?_⟩;rw[h.block i hi];split<;>simp_all
theorem Q0:sameLayout Tryz.prog Tryz.prog.depth 165 5=false:=bj
theorem aaf:∀m u,Tryz.prog.underlying 5≠some (.array m u):=λm u h=>by rw[Tryz.underlying5]at h;cases h
def heldBy (a:Option Addr)(b:Nat):Bool:=a.any λx=>x.block==b
theorem xF {b:Nat}:heldBy a b=true<->∃x,a=some x/\x.block=b:=by
 unfold heldBy;cases a<;>simp
theorem Xg:IntKind.u8.min=0:=bd
theorem Xf:IntKind.u8.max=255:=bd
theorem SH {x:Int}(h:(Lit.int .u8 x).wf=true):0<=x/\x<=255:=by
 have h':(decide (IntKind.u8.min<=x)&&decide (x<=IntKind.u8.max))=true:=h;rw[Xg,Xf]at h';simpa using h'
theorem GA:Tryz.prog.cellsOf 5=1:=bj
theorem Hx {H:Type}{enc:TypeId×Value->H}{w:World}{cap:Nat}{d:DataW H}{p:List MemPlace}(h:DataW.Trod enc Tryz.prog w 0 (λ_=>true) true 22 (.slice a n cap) d p):
  ∃c,tV w a n c/\n<=cap:=by
 let⟨fuel,hf⟩:=h;rcases Deep.open_slice1 Tryz.underlying22 GA hf with⟨hcs,_⟩|⟨x,l,c,m,k,V,D,Pl,hcs,_,hl,hm,Tq,_,hel⟩
 .simp[Value.cells]at hcs;obtain⟨rfl,rfl,rfl⟩:=hcs;exact⟨λ_=>0,⟨ac8 _,.inl rfl,λi hi=>absurd hi<|ac7 _⟩,ac3 _⟩
 .simp[Value.cells]at hcs;obtain⟨rfl,rfl,rfl⟩:=hcs;simp only[if_true]at Tq;subst Tq;have cD:∀i,i<n->∃z:Int,w.cell? (x.add i)=some (.int .u8 z)/\(Lit.int .u8 z).wf=true:=by
   intro i iA;let⟨h1,h2⟩:=hel i ab;let⟨z,hz,_,hwf⟩:=DataW.trod_int Tryz.underlying5 h2;simp at hz;exact⟨z,by rw[h1,hz],hwf⟩
  let⟨g,hg⟩:=Deep.choose_lt cD;refine⟨g,⟨ab,?_,λi hi=>SH (hg i hi).2⟩,ab⟩;by_cases hz:n=0
  .exact .inl hz
  .right;let⟨b,off,spot⟩:=x;have h00:=(hg 0 ab).1;have Z5:spot=none:=by
    have:=World.cell?_spot (a:=(Addr.mk b off spot)) (v:=.int .u8<|g 0) Yt;simpa using this
   subst Z5;refine⟨b,off,rfl,?_,?_⟩
   .exact block_lt_of_cell (w:=w) (a:=⟨b,off,none⟩) (v:=.int .u8<|g 0) Yt
   .intro i hi;have:=(hg i hi).1;simpa[add_plain]using this
theorem GD {V:World}{c:Nat->Int}(h:tV W a n c)(hR:Mm W V):tV V a n c:=by
 let⟨h1,h2,h3⟩:=h;refine⟨h1,h2.imp id λ⟨b,off,e,hl,hr⟩=>⟨b,off,e,by rw[hR.1];exact hl,λi hi=>hR.2 _ _ _ rfl<|hr i hi⟩,h3⟩
theorem lifted (os:Os)(started:os.Started)(H:Type)(enc:TypeId×Value->H):
  ReturnsInLeavingWide {} Tryz.checked os 3 .any (λw args=>(Rows.fnTopSpec.pre enc Tryz.prog Tryz.f3 [] false w args/\laidMetH Tryz.prog [("errors.errorType",Rows.laid_errors_errorType)] w)/\sizedMet enc Tryz.prog Tryz.f3 (OpenSpec.ofChange Rows.fnTopSpec) false w args)
   (Rows.fnTopSpec.post enc Tryz.prog Tryz.f3 false true false false):=by
 refine pj (C:=Tryz.checked) (X:=λw _=>laidMetH Tryz.prog [("errors.errorType",Rows.laid_errors_errorType)] w) (λ_ _ _ hh h=>h.of_heap hh) own started Tryz.func3
  (ChangeSpec.witness_at (enc:=enc) (C:=Tryz.checked) (os:=os) (X:=λw _=>laidMetH Tryz.prog [("errors.errorType",Rows.laid_errors_errorType)] w) false (AH os) #[.slice none 0 0] 8 rfl bj bj bj bj bj (zC os _)) ?_
 intro W base args ds gs before lh TO hW Zx;have hval:∀(j:Nat) t v,Tryz.f3.params[j]?=some t->args[j]?=some v->Value.okWide Tryz.prog W .any base t v:=TO;have YX:=hW;obtain⟨p,q,Ks,hV,rfl,I8,Rv⟩:=hW;have hA:DataW.TrodAll enc Tryz.prog W 0 (λ_=>true) true Tryz.f3.params.toList args.toList ds p:=Ks;rw[Tryz.params3]at hA hval;obtain⟨v0,vs0,d0,ds0,p0,q0,Nw,rfl,rfl,h0,r0⟩:=trodAll_cons hA;obtain⟨rfl,rfl,rfl⟩:=trodAll_nil r0;obtain rfl:args=#[v0]:=by cases args;simp_all
 obtain⟨rfl,rfl⟩:=trodVars_none hV;have hv0:=hval 0 22 v0 rfl rfl;obtain⟨a,n,cap,rfl⟩:=okWide_slice Tryz.underlying22 hv0;have k0:=h0;have RH:∀x∈p0,x.block<W.heap.size:=by let⟨n,hn⟩:=k0;exact DataW.trod_lt n _ _ _ hn
 clear Ks TO;let⟨hE,F0⟩:=U1 lh Zx;let⟨c0,w0,hc0⟩:=Hx h0;have hblk:∀x,a=some x->(∃cs e z,W.heap[x.block]?=some (.cells cs e z))/\x.block≠0:=by
  rintro x rfl;exact Gy Tryz.underlying22 Q0 aaf hE<|by simpa only[Value.okWide,Tryz.underlying22]using hv0
 let⟨M,last,o,w',t',g1,g2,g3,g4⟩:=R9 Q2 Nm (L:=3) bj (W:=W) F0 hE (xs:=#[.slice a n cap]) (heldBy a) (by
   cases hc:heldBy a 0 with
   |false=>rfl
   |true=>let⟨x,hx,e⟩:=xF.1 hc;exact((hblk x hx).2 e).elim) (λb hb=>by
   obtain⟨x,hx,rfl⟩:=xF.1 hb;exact(hblk x hx).1)
  (λok ρ zt=>by
   letI:=qQ;refine⟨rfl,λi x x' hx dK=>?_⟩;match i with
   |0=>
    simp at hx dK;subst hx dK;cases ha:a with
    |none=>exact .dH _ _
    |some y=>exact .slice _ _ ⟨zt y.block<|xF.2 ⟨y,ha,rfl⟩,rfl,rfl⟩
   |i+1=>simp at hx)
  (λok V E h2 hR=>by
   letI:=qQ;exact PD E UB (by constructor<;>(rw[h2];kernel_rfl)) (by constructor<;>(rw[h2];kernel_rfl)) (by constructor<;>(rw[h2];kernel_rfl)) rfl (GD w0 hR) hc0)
 refine⟨M,last,o,w',t',g1,g2,g3,g4.mono λv hv=>?_⟩;obtain⟨rfl,hk⟩:=hv;have MI:=Hh hk;have hh:({w' with tape:=W.tape}:World).heap=w'.heap:=rfl;have e0:=(Below.trod Qm bj (of_decide_eq_true bj) k0 MI RH).of_heap (w':=w') hh;exact⟨_,_,_,[],_,[],YX,trodAll_mk1<|shut_bool Tryz.underlying4 _,(trodAll_cons_mk e0 trodAll_mk0),rfl,Hi hk _,λh=>qK⟩
theorem over:Rows.FnTopSaid:=
 OpenClaim.holds_of_wide_leaving 3 Tryz.f3 rfl rfl rfl rfl rfl rfl rfl ⟨rfl,rfl,rfl,rfl,rfl⟩ rfl rfl rfl rfl rfl bj Tryz.func3 bj
  (of_decide_eq_true bj) (by unfold Func.isWrapper;first|(rw[if_pos MQ];kernel_rfl)|(rw[if_neg MQ];exact⟨rfl,rfl⟩))
  (λos started H enc _=>lifted os started H enc)
end DK
theorem fnTop_holds:Rows.FnTopCardSaid:=
 LL .later [.handle] true Rows.fnTopCard.stood.harness true
  DK.over bj fnTop_row_tie rfl ⟨rfl,rfl⟩ bj rfl
  (λf fn hf sJ=>by
   obtain rfl:f=3:=ac9 ((show Tryz.prog.funcNamed "loop.example/lapstrip/laws.FnTop"=some 3 by kernel_rfl).symm.trans hf)|>.symm;obtain rfl:fn=Tryz.f3:=(ac9<|Tryz.func3.symm.trans sJ).symm;exact⟨bj,λj t ht=>by
    rw[Tryz.params3]at ht;rcases j with _|j
    .obtain rfl:t=22:=by simpa using ht.symm
     exact(show Tryz.prog.wantsStandIn 22=false by kernel_rfl)
    .simp at ht⟩)
  bj
#print axioms fnTop_holds
