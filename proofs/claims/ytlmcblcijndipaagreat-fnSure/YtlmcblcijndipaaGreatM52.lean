/- FnSure answers true at every code and leaves it as it was: a drawn book is sure, by the program and by the model, just if for each who lands there are, at their tick, ticks for all in time; a book that is not ok is not sure. No condition. It starts goroutines; they leave. -/
import Derived.Test.YtlmcblcijndipaaGreatM51
import Derived.Test.YtlmcblcijndipaaGreatM41
import Derived.Test.YtlmcblcijndipaaGreatM42
import Derived.Test.YtlmcblcijndipaaGreatM27
set_option linter.unusedVariables false
set_option maxRecDepth 100000
namespace Go.Proofs.YtlmcblcijndipaaGreat
open Go.ChangeShapes Go.WideShapes Go.ChangeAt Go.RowKit Go.Conc
namespace LawFnSure
theorem keep_below {W W':World}(h:ay (λd=>d<W.heap.size) W W'):Below W.heap.size W {W' with tape:=W.tape}:=⟨h.os,rfl,h.out,h.size,h.block⟩
theorem keep_frame {W W':World}(h:ay (λd=>d<W.heap.size) W W')(may:MemPlace->Prop):W.keptBut W' may:=by
 refine⟨h.os,h.out,λi hi=>?_⟩;rw[h.block i hi];split<;>simp_all
theorem has_block {P:Program}{W:World}{r:Reach}{base:Nat}{t e:TypeId}{x:Addr}{n cap:Nat}(ht:P.underlying t=some (.slice e))(h:Value.okWide P W r base t (.slice (some x) n cap)):x.spot=none/\∃cs e z,W.heap[x.block]?=some (.cells cs e z):=by
 simp only[Value.okWide,ht,Cell.okWide,Cell.ok]at h;obtain⟨_,_,_,hs,row,cells,hsh,_⟩:=h;refine⟨hs,?_⟩;unfold World.shape? at hsh;split at hsh
 .rename_i c el z hc;exact⟨c,el,z,hc⟩
 .cases hsh
theorem u8_min:IntKind.u8.min=0:=by decide
theorem u8_max:IntKind.u8.max=255:=by decide
theorem wf_byte {x:Int}(h:(Lit.int .u8 x).wf=true):0<=x/\x<=255:=by
 have h':(decide (IntKind.u8.min<=x)&&decide (x<=IntKind.u8.max))=true:=h;rw[u8_min,u8_max]at h';simpa using h'
theorem cells_byte:Tryz.prog.cellsOf 5=1:=by kernel_rfl
theorem open_bytes {H:Type}{enc:TypeId×Value->H}{w:World}{a:Option Addr}{n cap:Nat}{d:DataW H}{p:List MemPlace}(h:DataW.Trod enc Tryz.prog w 0 (λ_=>true) true 22 (.slice a n cap) d p):
  ∃c,jf w a n c/\n<=cap:=by
 obtain⟨fuel,hf⟩:=h;rcases Deep.open_slice1 Tryz.underlying22 cells_byte hf with⟨hcs,_⟩|⟨x,l,c,m,k,V,D,Pl,hcs,_,hl,hm,hmm,_,hel⟩
 .simp[Value.cells]at hcs;obtain⟨rfl,rfl,rfl⟩:=hcs;exact⟨λ_=>0,⟨Nat.zero_le _,.inl rfl,λi hi=>absurd hi (Nat.not_lt_zero _)⟩,Nat.le_refl _⟩
 .simp[Value.cells]at hcs;obtain⟨rfl,rfl,rfl⟩:=hcs;simp only[if_true]at hmm;subst hmm;have hall:∀i,i<n->∃z:Int,w.cell? (x.add i)=some (.int .u8 z)/\(Lit.int .u8 z).wf=true:=by
   intro i hin;obtain⟨h1,h2⟩:=hel i (by omega);obtain⟨z,hz,_,hwf⟩:=DataW.trod_int Tryz.underlying5 h2;simp at hz;exact⟨z,by rw[h1,hz],hwf⟩
  obtain⟨g,hg⟩:=Deep.choose_lt hall;refine⟨g,⟨by omega,?_,λi hi=>wf_byte (hg i hi).2⟩,by omega⟩;by_cases hz:n=0
  .exact .inl hz
  .right;obtain⟨b,off,spot⟩:=x;have h00:=(hg 0 (by omega)).1;have hspot:spot=none:=by
    have:=World.cell?_spot (a:=(Addr.mk b off spot)) (v:=.int .u8 (g 0)) (by simpa[Addr.add]using h00);simpa using this
   subst hspot;refine⟨b,off,rfl,?_,?_⟩
   .exact block_lt_of_cell (w:=w) (a:=⟨b,off,none⟩) (v:=.int .u8 (g 0)) (by simpa[Addr.add]using h00)
   .intro i hi;have:=(hg i hi).1;simpa[add_plain]using this
theorem code_reads {W V:World}{a:Option Addr}{n:Nat}{c:Nat->Int}(h:jf W a n c)(hR:xU W V):jf V a n c:=by
 obtain⟨h1,h2,h3⟩:=h;refine⟨h1,h2.imp id λ⟨b,off,e,hl,hr⟩=>⟨b,off,e,by rw[hR.1];exact hl,λi hi=>hR.2 _ _ _ rfl (hr i hi)⟩,h3⟩
theorem lifted (os:Os)(started:os.Started)(H:Type)(enc:TypeId×Value->H):
  ReturnsInLeavingWide {} Tryz.checked os 4 .any (Rows.fnSureSpec.pre6 enc Tryz.prog Tryz.f4 Rows.fnSureRow.domain false) (Rows.fnSureSpec.post enc Tryz.prog Tryz.f4 false true false false):=by
 refine returnsInLeavingWide_of_change_sized (C:=Tryz.checked) own started Tryz.func4
  (ChangeSpec.witness6 (enc:=enc) (C:=Tryz.checked) false ⟨#[],#[.slice none 0 0],[]⟩ 8 (by kernel_rfl) (by kernel_rfl) (by kernel_rfl) (by kernel_rfl)) ?_
 intro W base args ds gs before hval0 hW hcnd _ _;have hval:∀(j:Nat) t v,Tryz.f4.params[j]?=some t->args[j]?=some v->Value.okWide Tryz.prog W .any base t v:=hval0;have hW':=hW;obtain⟨p,q,hA0,hV,rfl,hfz,hnd⟩:=hW;have hA:DataW.TrodAll enc Tryz.prog W 0 (λ_=>true) true Tryz.f4.params.toList args.toList ds p:=hA0;rw[Tryz.params4]at hA hval;obtain⟨v0,vs0,d0,ds0,p0,q0,hargs,rfl,rfl,h0,r0⟩:=trodAll_cons hA;obtain⟨rfl,rfl,rfl⟩:=trodAll_nil r0;obtain rfl:args=#[v0]:=by cases args;simp_all
 obtain⟨rfl,rfl⟩:=trodVars_none hV;have hv0:=hval 0 22 v0 rfl rfl;obtain⟨a0,len0,cap0,rfl⟩:=okWide_slice Tryz.underlying22 hv0;have k0:=h0;have lt0:∀x∈p0,x.block<W.heap.size:=by obtain⟨m,hm⟩:=k0;exact DataW.trod_lt m _ _ _ hm
 obtain⟨c0,w0,hc0⟩:=open_bytes h0;clear hA0 hval0;have hblk:∀x,a0=some x->x.spot=none/\∃cs e z,W.heap[x.block]?=some (.cells cs e z):=λx hx=>by subst hx;exact has_block Tryz.underlying22 hv0
 obtain⟨M,last,o,w',t',g1,g2,g3,g4⟩:=zq zl xP (L:=4) (by kernel_rfl) (W:=W) (xs:=#[.slice a0 len0 cap0]) (λb=>decide (∃x,a0=some x/\x.block=b)) (λb hb=>by
   obtain⟨x,hx,rfl⟩:=of_decide_eq_true hb;exact(hblk x hx).2)
  (λok ρ hρ=>by
   letI:=tW;refine⟨rfl,λi x x' hx hx'=>?_⟩;match i with
   |0=>
    simp at hx hx';subst hx hx';cases ha:a0 with
    |none=>exact .slice0 _ _
    |some y=>exact .slice _ _ ⟨hρ y.block (decide_eq_true ⟨y,ha,rfl⟩),rfl,rfl⟩
   |i+1=>simp at hx)
  (λok V E h2 hR=>by
   letI:=tW;exact vN E (by rw[h2];kernel_rfl) (by rw[h2];kernel_rfl) (by rw[h2];kernel_rfl) (by rw[h2];kernel_rfl) (by rw[h2];kernel_rfl) (by rw[h2];kernel_rfl) (by rw[h2];kernel_rfl) (code_reads w0 hR) hc0)
 refine⟨M,last,o,w',t',g1,g2,g3,g4.mono λv hv=>?_⟩;obtain⟨rfl,hk⟩:=hv;have bel:=keep_below hk;have hh:({w' with tape:=W.tape}:World).heap=w'.heap:=rfl;have e0:=(Below.trod zr (by kernel_rfl) (of_decide_eq_true (by kernel_rfl)) k0 bel lt0).of_heap (w':=w') hh;exact⟨_,_,_,[],_,[],hW',trodAll_mk1 (shut_bool Tryz.underlying4 _),(trodAll_cons_mk e0 trodAll_mk0),rfl,keep_frame hk _,λh=>by cases h⟩
theorem over:Rows.fnSureRow.holds Tryz.pinned (OpenSpec.ofChange Rows.fnSureSpec):=
 OpenClaim.holds_of_wide_leaving 4 Tryz.f4 rfl rfl rfl rfl rfl rfl rfl ⟨rfl,rfl,rfl,rfl,rfl⟩ rfl rfl rfl rfl rfl (by kernel_rfl) Tryz.func4 (by kernel_rfl)
  (of_decide_eq_true (by kernel_rfl)) (by unfold Func.isWrapper;first|(rw[if_pos (by decide +kernel)];kernel_rfl)|(rw[if_neg (by decide +kernel)];exact⟨rfl,rfl⟩))
  (λos started H enc _=>lifted os started H enc)
end LawFnSure
theorem fnSure_holds:Rows.FnSureSaid:=LawFnSure.over
#print axioms fnSure_holds
end Go.Proofs.YtlmcblcijndipaaGreat
