/- FnAdd answers true at every two codes and leaves them as they were: of a drawn book the program's coming in and going answer as the model's do, and keep what the law asks. No condition. It starts goroutines; they leave. -/
import Derived.Test.YtlmcblcijndipaaGreatDoora48
import Derived.Test.YtlmcblcijndipaaGreatDoora35
set_option linter.unusedVariables false
set_option maxRecDepth 100000
namespace Go.Proofs.YtlmcblcijndipaaGreatDoor
open ChangeAt ChangeShapes Conc RowKit WideShapes
namespace Do
theorem GR {W W':World}(h:aK (λd=>d<W.heap.size) W W'):Below W.heap.size W {W' with tape:=W.tape}:=⟨h.os,rfl,h.out,h.size,h.block⟩
theorem GS {W W':World}(h:aK (λd=>d<W.heap.size) W W')(may:MemPlace->Prop):W.keptBut W' may:=by
 refine⟨h.os,h.out,λi hi=>?_⟩;rw[h.block i hi];split<;>simp_all
theorem Iz:sameLayout Tryz.prog Tryz.prog.depth 165 5=false:=bD
theorem S9:∀m u,Tryz.prog.underlying 5≠some (.array m u):=λm u h=>by rw[Tryz.underlying5]at h;cases h
def heldBy (a a':Option Addr)(b:Nat):Bool:=a.any (λx=>x.block==b)||a'.any (λx=>x.block==b)
theorem xe {a a':Option Addr}{b:Nat}:heldBy a a' b=true<->∃x,(a=some x\/a'=some x)/\x.block=b:=by
 unfold heldBy;rw[ady];constructor
 .rintro(h|h)
  .cases a with
   |none=>simp at h
   |some x=>exact⟨x,.inl rfl,oO⟩
  .cases a' with
   |none=>simp at h
   |some x=>exact⟨x,.inr rfl,oO⟩
 .rintro⟨x,rfl|rfl,rfl⟩
  .exact .inl aF
  .exact .inr aF
theorem VT:IntKind.u8.min=0:=bF
theorem VS:IntKind.u8.max=255:=bF
theorem RF {x:Int}(h:(Lit.int .u8 x).wf=true):0<=x/\x<=255:=by
 have h':(decide (IntKind.u8.min<=x)&&decide (x<=IntKind.u8.max))=true:=h;rw[VT,VS]at h';simpa using h'
theorem F8:Tryz.prog.cellsOf 5=1:=bD
theorem xR {H:Type}{enc:TypeId×Value->H}{w:World}{a:Option Addr}{n cap:Nat}{d:DataW H}{p:List MemPlace}(h:DataW.Trod enc Tryz.prog w 0 (λ_=>true) true 22 (.slice a n cap) d p):
  ∃c,iB w a n c/\n<=cap:=by
 obtain⟨fuel,hf⟩:=h;rcases Deep.open_slice1 Tryz.underlying22 F8 hf with⟨hcs,_⟩|⟨x,l,c,m,k,V,D,Pl,hcs,_,hl,hm,Sr,_,hel⟩
 .simp[Value.cells]at hcs;obtain⟨rfl,rfl,rfl⟩:=hcs;exact⟨λ_=>0,⟨ada _,.inl rfl,λi hi=>absurd hi (ac9 _)⟩,ac5 _⟩
 .simp[Value.cells]at hcs;obtain⟨rfl,rfl,rfl⟩:=hcs;simp only[if_true]at Sr;subst Sr;have cE:∀i,i<n->∃z:Int,w.cell? (x.add i)=some (.int .u8 z)/\(Lit.int .u8 z).wf=true:=by
   intro i iv;obtain⟨h1,h2⟩:=hel i aa;obtain⟨z,hz,_,hwf⟩:=DataW.trod_int Tryz.underlying5 h2;simp at hz;exact⟨z,by rw[h1,hz],hwf⟩
  obtain⟨g,hg⟩:=Deep.choose_lt cE;refine⟨g,⟨aa,?_,λi hi=>RF (hg i hi).2⟩,aa⟩;by_cases hz:n=0
  .exact .inl hz
  .right;obtain⟨b,off,spot⟩:=x;have h00:=(hg 0 aa).1;have Zi:spot=none:=by
    have:=World.cell?_spot (a:=(Addr.mk b off spot)) (v:=.int .u8 (g 0)) XA;simpa using this
   subst Zi;refine⟨b,off,rfl,?_,?_⟩
   .exact block_lt_of_cell (w:=w) (a:=⟨b,off,none⟩) (v:=.int .u8 (g 0)) XA
   .intro i hi;have:=(hg i hi).1;simpa[add_plain]using this
theorem wK {W V:World}{a:Option Addr}{n:Nat}{c:Nat->Int}(h:iB W a n c)(hR:Lu W V):iB V a n c:=by
 obtain⟨h1,h2,h3⟩:=h;refine⟨h1,h2.imp id λ⟨b,off,e,hl,hr⟩=>⟨b,off,e,by rw[hR.1];exact hl,λi hi=>hR.2 _ _ _ rfl (hr i hi)⟩,h3⟩
theorem lifted (os:Os)(started:os.Started)(H:Type)(enc:TypeId×Value->H):
  ReturnsInLeavingWide {} Tryz.checked os 4 .any (λw args=>(Rows.fnAddSpec.pre enc Tryz.prog Tryz.f4 [] false w args/\laidMetH Tryz.prog [("errors.errorType",Rows.laid_errors_errorType)] w)/\sizedMet enc Tryz.prog Tryz.f4 (OpenSpec.ofChange Rows.fnAddSpec) false w args)
   (Rows.fnAddSpec.post enc Tryz.prog Tryz.f4 false true false false):=by
 refine oX (C:=Tryz.checked) (X:=λw _=>laidMetH Tryz.prog [("errors.errorType",Rows.laid_errors_errorType)] w) (λ_ _ _ hh h=>h.of_heap hh) own started Tryz.func4
  (ChangeSpec.witness_at (enc:=enc) (C:=Tryz.checked) (os:=os) (X:=λw _=>laidMetH Tryz.prog [("errors.errorType",Rows.laid_errors_errorType)] w) false (AB os) #[.slice none 0 0,.slice none 0 0] 8 rfl bD bD bD bD bD (zr os _)) ?_
 intro W base args ds gs before ku SG hW YM;have hval:∀(j:Nat) t v,Tryz.f4.params[j]?=some t->args[j]?=some v->Value.okWide Tryz.prog W .any base t v:=SG;have X9:=hW;obtain⟨p,q,JW,hV,rfl,IC,Qr⟩:=hW;have hA:DataW.TrodAll enc Tryz.prog W 0 (λ_=>true) true Tryz.f4.params.toList args.toList ds p:=JW;rw[Tryz.params4]at hA hval;obtain⟨v0,vs0,d0,ds0,p0,q0,MF,rfl,rfl,h0,r0⟩:=trodAll_cons hA;obtain⟨v1,vs1,d1,ds1,p1,q1,aaG,rfl,rfl,h1,r1⟩:=trodAll_cons r0;obtain⟨rfl,rfl,rfl⟩:=trodAll_nil r1;obtain rfl:args=#[v0,v1]:=by cases args;simp_all
 obtain⟨rfl,rfl⟩:=trodVars_none hV;have hv0:=hval 0 22 v0 rfl rfl;have Kd:=hval 1 22 v1 rfl rfl;obtain⟨a,n,cap,rfl⟩:=okWide_slice Tryz.underlying22 hv0;obtain⟨a',m,cap',rfl⟩:=okWide_slice Tryz.underlying22 Kd;have k0:=h0;have k1:=h1;have QE:∀x∈p0,x.block<W.heap.size:=by obtain⟨n,hn⟩:=k0;exact DataW.trod_lt n _ _ _ hn
 have lt1:∀x∈p1,x.block<W.heap.size:=by obtain⟨n,hn⟩:=k1;exact DataW.trod_lt n _ _ _ hn
 clear JW SG;obtain⟨hE,Fv⟩:=T3 ku YM;obtain⟨c0,w0,X'⟩:=xR h0;obtain⟨c1,w1,kq⟩:=xR h1;have hblk:∀x,a=some x\/a'=some x->(∃cs e z,W.heap[x.block]?=some (.cells cs e z))/\x.block≠0:=by
  rintro x (rfl|rfl)
  .exact wF Tryz.underlying22 Iz S9 hE (by simpa only[Value.okWide,Tryz.underlying22]using hv0)
  .exact wF Tryz.underlying22 Iz S9 hE (by simpa only[Value.okWide,Tryz.underlying22]using Kd)
 obtain⟨M,last,o,w',t',g1,g2,g3,g4⟩:=Q6 P4 Mu (L:=4) bD (W:=W) Fv hE (xs:=#[.slice a n cap,.slice a' m cap']) (heldBy a a') (by
   cases hc:heldBy a a' 0 with
   |false=>rfl
   |true=>obtain⟨x,hx,e⟩:=xe.1 hc;exact((hblk x hx).2 e).elim) (λb hb=>by
   obtain⟨x,hx,rfl⟩:=xe.1 hb;exact(hblk x hx).1)
  (λok ρ zh=>by
   letI:=qJ;have hs:∀(y:Option Addr) (l c:Nat),(∀x,y=some x->a=some x\/a'=some x)->ar ok ρ (.slice y l c) (.slice y l c):=λy l c hy=>by
    cases ha:y with
    |none=>exact .dH _ _
    |some x=>exact .slice _ _ ⟨zh x.block (xe.2 ⟨x,hy x ha,rfl⟩),rfl,rfl⟩
   refine⟨rfl,λi x x' hx dG=>?_⟩;match i with
   |0=>simp at hx dG;subst hx dG;exact hs _ _ _ λx h=>.inl h
   |1=>simp at hx dG;subst hx dG;exact hs _ _ _ λx h=>.inr h
   |i+2=>simp at hx)
  (λok V E h2 hR=>by
   letI:=qJ;exact OQ E TD (by constructor<;>(rw[h2];kernel_rfl)) (by constructor<;>(rw[h2];kernel_rfl)) rfl (wK w0 hR) X' (wK w1 hR) kq)
 refine⟨M,last,o,w',t',g1,g2,g3,g4.mono λv hv=>?_⟩;obtain⟨rfl,hk⟩:=hv;have K8:=GR hk;have hh:({w' with tape:=W.tape}:World).heap=w'.heap:=rfl;have e0:=(Below.trod Ic bD (of_decide_eq_true bD) k0 K8 QE).of_heap (w':=w') hh;have e1:=(Below.trod Ic bD (of_decide_eq_true bD) k1 K8 lt1).of_heap (w':=w') hh;exact⟨_,_,_,[],_,[],X9,trodAll_mk1 (shut_bool Tryz.underlying4 _),(trodAll_cons_mk e0 (trodAll_cons_mk e1 trodAll_mk0)),rfl,GS hk _,λh=>qC⟩
theorem over:Rows.FnAddSaid:=
 OpenClaim.holds_of_wide_leaving 4 Tryz.f4 rfl rfl rfl rfl rfl rfl rfl ⟨rfl,rfl,rfl,rfl,rfl⟩ rfl rfl rfl rfl rfl bD Tryz.func4 bD
  (of_decide_eq_true bD) (by unfold Func.isWrapper;first|(rw[if_pos LU];kernel_rfl)|(rw[if_neg LU];exact⟨rfl,rfl⟩))
  (λos started H enc _=>lifted os started H enc)
end Do
theorem fnAdd_holds:Rows.FnAddCardSaid:=
 KY .later [.handle] true Rows.fnAddCard.stood.harness true
  Do.over bD fnAdd_row_tie rfl ⟨rfl,rfl⟩ bD rfl
  (λf fn hf sz=>by
   obtain rfl:f=4:=adb ((show Tryz.prog.funcNamed "loop.example/lapstrip/laws.FnAdd"=some 4 by kernel_rfl).symm.trans hf)|>.symm;obtain rfl:fn=Tryz.f4:=(adb (Tryz.func4.symm.trans sz)).symm;exact⟨bD,λj t ht=>by
    rw[Tryz.params4]at ht;rcases j with _|_|j
    .obtain rfl:t=22:=by simpa using ht.symm
     exact(show Tryz.prog.wantsStandIn 22=false by kernel_rfl)
    .obtain rfl:t=22:=by simpa using ht.symm
     exact(show Tryz.prog.wantsStandIn 22=false by kernel_rfl)
    .simp at ht⟩)
  bD
#print axioms fnAdd_holds
