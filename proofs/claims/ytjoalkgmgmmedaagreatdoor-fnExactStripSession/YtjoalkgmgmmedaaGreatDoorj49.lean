/- FnExactStripSession answers true at every text: the program's StripSession answers as the model's. The row, and its tied card. It starts goroutines; they leave. -/
import Derived.Test.YtjoalkgmgmmedaaGreatDoorj48
import Derived.Test.YtjoalkgmgmmedaaGreatDoorj33
set_option linter.unusedVariables false
set_option maxRecDepth 100000
namespace Go.Proofs.YtjoalkgmgmmedaaGreatDoor
open ChangeAt ChangeShapes Conc RowKit WideShapes
namespace Ku
theorem acU:(3::TL).all (λx=>decide (x<2000000)||x==2000004||x==2000006)=true:=aO
theorem lifted (os:Os)(r:os.Started)(H:Type)(enc:TypeId×Value->H):
  ReturnsInLeavingWide {} Tryz.checked os 3 .any (λw args=>(Rows.fnExactStripSessionSpec.pre enc Tryz.prog Tryz.f3 [] false w args/\laidMetH Tryz.prog Rows.fnExactStripSessionRow.laid w)/\sizedMet enc Tryz.prog Tryz.f3 (OpenSpec.ofChange Rows.fnExactStripSessionSpec) false w args)
   (Rows.fnExactStripSessionSpec.post enc Tryz.prog Tryz.f3 false true false false):=by
 refine pU (C:=Tryz.checked) (X:=λw _=>laidMetH Tryz.prog Rows.fnExactStripSessionRow.laid w) (λ_ _ _ N h=>h.of_heap N) own r Tryz.func3
  (ChangeSpec.witness_at (enc:=enc) (C:=Tryz.checked) (os:=os) (X:=λw _=>laidMetH Tryz.prog Rows.fnExactStripSessionRow.laid w) false (wS os) #[.string ByteArray.empty] 8 (World.layVars_os _ _ _) (by kernel_rfl) (by kernel_rfl) (by kernel_rfl) (by kernel_rfl) (by kernel_rfl) (O' os _)) ?_
 intro W base args ds gs B nk Z hW O;have u:∀(j:Nat) t v,Tryz.f3.params[j]?=some t->args[j]?=some v->Value.okWide Tryz.prog W .any base t v:=Z;have R:=hW;obtain⟨p,q,Mg,hV,rfl,AQ,Ul⟩:=hW;have hA:DataW.TrodAll enc Tryz.prog W 0 (λ_=>true) true Tryz.f3.params.toList args.toList ds p:=Mg;rw[Tryz.params3]at hA u;obtain⟨v0,aa,d0,ad,p0,q0,Py,rfl,rfl,h0,r0⟩:=trodAll_cons hA;obtain⟨rfl,rfl,rfl⟩:=trodAll_nil r0;obtain rfl:args=#[v0]:=by cases args;simp_all
 obtain⟨rfl,rfl⟩:=trodVars_none hV;obtain⟨s,rfl⟩:=okWide_string Tryz.underlying9<|u 0 9 v0 rfl rfl;have k0:=h0;have UG:∀x∈p0,x.block<W.heap.size:=by let⟨n,hn⟩:=k0;exact DataW.trod_lt n _ _ _ hn
 clear Mg Z;let⟨hE,E4⟩:=YQ nk<|O.filter λx=>x.1== "errors.errorType";have hT:=d_ O;let⟨t4,u4,h4⟩:=acS O;let⟨e6,z6,T⟩:=Do (g:=6) aO hT;let⟨e4,z4,b4⟩:=Do (g:=4) aO h4;let⟨M,last,o,w',t',g1,g2,g3,g4⟩:=U8 TM Pi (L:=3) (by kernel_rfl) (W:=W) E4 hE (xs:=#[.string s]) (λb=>b==4||b==6) (λg hg=>by
   have:=List.all_eq_true.1 acU _<|List.contains_iff_mem.1 hg;simp at this⊢;omega) rfl (λb hb=>by
   simp only[Bool.or_eq_true,beq_iff_eq]at hb;rcases hb with rfl|rfl
   .exact⟨_,_,_,b4,λi x h=>by rcases i with _|i<;>simp at h⟩
   .exact⟨_,_,_,T,λi x h=>by simp at h⟩)
  (λok ρ CA=>by
   letI:=oK;refine⟨rfl,λi x x' U eX=>?_⟩;match i with
   |0=>simp at U eX;subst U eX;exact .string _
   |i+1=>simp at U)
  (λok V E y hR=>by
   letI:=oK;let⟨r1,r2,r3⟩:=hR;refine VS ⟨E,λP hP=>hP,λf D=>?_,by rw[y];kernel_rfl,by rw[y];kernel_rfl,rfl⟩ (by rw[y];kernel_rfl) ⟨?_,?_,?_⟩
   .rw[y];unfold inZ at D;rw[agd]at D⊢;exact⟨by rw[List.contains_cons,D.1,Bool.or_true],D.2⟩
   .rw[r1];exact afN (by decide) E4
   .have q:=hT;unfold Tb Lib.TabIs World.var? at q⊢;rw[show Tryz.prog.globalNamed "internal/strconv.uint64pow10"=some 6 by kernel_rfl]at q;rw[show Tz.prog.globalNamed "internal/strconv.uint64pow10"=some 6 by kernel_rfl];let⟨A,z',J,Y,c3⟩:=r3 6 _ _ _ T;simp only[Option.bind_some,J];congr 1;apply Array.ext
    .exact Y
    .intro i h1 y;have:=r2 6 i (((Lib.pow10Tab.map λz=>Value.int .u64 z).toArray)[i]) (by simp[flat]) (by simp[World.cell?,T]);simp[World.cell?,J]at this;simpa using(afM.1 this).2
   .let⟨A,z',J,Y,c3⟩:=r3 4 _ _ _ b4;let⟨l⟩:=A;match l,Y with
    |[x],_=>exact⟨x,by simp[World.cell?,J],c3 0 x t4 u4 rfl rfl⟩)
 refine⟨M,last,o,w',t',g1,g2,g3,g4.mono λv hv=>?_⟩;obtain⟨rfl,hk⟩:=hv;have OJ:=Jh hk;have N:({w' with tape:=W.tape}:World).heap=w'.heap:=rfl;have e0:=(Below.trod laidOut (by kernel_rfl) (of_decide_eq_true<|by kernel_rfl) k0 OJ UG).of_heap (w':=w') N;exact⟨_,_,_,[],_,[],R,trodAll_mk1<|shut_bool Tryz.underlying4 _,(trodAll_cons_mk e0 trodAll_mk0),rfl,Ji hk _,λh=>by cases h⟩
theorem over:Rows.FnExactStripSessionSaid:=
 OpenClaim.holds_of_wide_leaving 3 Tryz.f3 rfl rfl rfl rfl rfl rfl rfl ⟨rfl,rfl,rfl,rfl,rfl⟩ rfl rfl rfl rfl rfl (by kernel_rfl) Tryz.func3 jf
  (of_decide_eq_true (by kernel_rfl)) (by unfold Func.isWrapper;first|(rw[if_pos (by decide +kernel)];kernel_rfl)|(rw[if_neg (by decide +kernel)];exact⟨rfl,rfl⟩))
  (λc a H b _=>lifted c a H b)
end Ku
theorem fnExactStripSession_holds:Rows.FnExactStripSessionCardSaid:=
 NN .later [.data,.data,.data,.data,.handle,.sentinel,.sentinel,.pinned] true Rows.fnExactStripSessionCard.stood.harness true
  Ku.over (by kernel_rfl) fnExactStripSession_row_tie rfl ⟨rfl,rfl⟩ (by kernel_rfl) rfl
  (λf fn s u=>by
   obtain rfl:f=3:=afQ ((show Tryz.prog.funcNamed "loop.example/lapstrip/laws.FnExactStripSession"=some 3 by kernel_rfl).symm.trans s)|>.symm;obtain rfl:fn=Tryz.f3:=(afQ<|Tryz.func3.symm.trans u).symm;exact⟨by kernel_rfl,λj t r=>by
    rw[Tryz.params3]at r;rcases j with _|j
    .obtain rfl:t=9:=by simpa using r.symm
     exact(show Tryz.prog.wantsStandIn 9=false by kernel_rfl)
    .simp at r⟩)
  (by kernel_rfl)
