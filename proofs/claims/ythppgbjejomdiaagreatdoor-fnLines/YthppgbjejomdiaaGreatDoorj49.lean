/- FnLines answers true at every code and leaves it as it was: of a drawn session the program's answers to the first lines, and to all, are the model's. The row, and its tied card. It starts goroutines; they leave. -/
import Derived.Test.YthppgbjejomdiaaGreatDoorj48
import Derived.Test.YthppgbjejomdiaaGreatDoorj32
set_option linter.all false
set_option maxRecDepth 100000
open List renaming contains_iff_mem->aa
namespace Go.Proofs.YthppgbjejomdiaaGreatDoor
variable {n:Nat}{a:Option Addr}
open ChangeAt ChangeShapes Conc RowKit WideShapes
namespace K3
theorem adL:ZP.all (λx=>decide (x<2000000)||x==2000004||x==2000006)=true:=aO
theorem Ul:sameLayout Tryz.prog Tryz.prog.depth 195 5=false:=aO
theorem adp:∀m u,Tryz.prog.underlying 5≠some (.array m u):=λm u h=>by rw[Tryz.underlying5]at h;cases h
def heldBy (a:Option Addr)(b:Nat):Bool:=a.any λx=>x.block==b
theorem zK {b}:heldBy a b=true<->∃x,a=some x/\x.block=b:=by unfold heldBy;cases a<;>simp
theorem aaM:IntKind.u8.min=0:=bc
theorem aaL:IntKind.u8.max=255:=bc
theorem WM {x}(h:(Lit.int .u8 x).wf=true):0<=x/\x<=255:=by have b:(decide (IntKind.u8.min<=x)&&decide (x<=IntKind.u8.max))=true:=h;rw[aaM,aaL]at b;simpa using b
theorem Ja:Tryz.prog.cellsOf 5=1:=aO
theorem J8 {H:Type}{enc:TypeId×Value->H}{w:World}{cap:Nat}{d:DataW H}{p:List MemPlace}(h:DataW.Trod enc Tryz.prog w 0 (λ_=>true) true 22 (.slice a n cap) d p): ∃c,vE w a n c/\n<=cap:=by
 let⟨C,N⟩:=h;rcases Deep.open_slice1 Tryz.underlying22 Ja N with⟨e,_⟩|⟨x,l,c,m,k,V,D,U,e,_,Y,Z,J,_,u⟩;simp[Value.cells]at e;obtain⟨rfl,rfl,rfl⟩:=e;exact⟨λ_=>0,⟨agB _,.inl rfl,λi s=>absurd s<|agA _⟩,agw _⟩;simp[Value.cells]at e;obtain⟨rfl,rfl,rfl⟩:=e;simp only[if_true]at J;subst J;have O:∀i,i<n->∃z:Int,w.cell? (x.add i)=some (.int .u8 z)/\(Lit.int .u8 z).wf=true:=by intro i jp;let⟨R,T⟩:=u i ab;let⟨z,t,_,y⟩:=DataW.trod_int Tryz.underlying5 T;simp at t;exact⟨z,by rw[R,t],y⟩
 let⟨g,A⟩:=Deep.choose_lt O;refine⟨g,⟨ab,?_,λi s=>WM (A i s).2⟩,ab⟩;by_cases t:n=0;exact .inl t;right;let⟨b,r,f⟩:=x;have h00:=(A 0 ab).1;have B:f=none:=by have:=World.cell?_spot (a:=(Addr.mk b r f)) (v:=.int .u8<|g 0) aa3;simpa using this
 subst B;refine⟨b,r,rfl,?_,?_⟩;exact block_lt_of_cell (w:=w) (a:=⟨b,r,none⟩) (v:=.int .u8<|g 0) aa3;intro i s;have:=(A i s).1;simpa[add_plain]using this
theorem Je {W V c}(h:vE W a n c)(p:Reads W V):vE V a n c:=by let⟨q,r,s⟩:=h;refine⟨q,r.imp id λ⟨b,f,e,t,u⟩=>⟨b,f,e,by rw[p.1];exact t,λi v=>p.2.1 _ _ _ rfl<|u i v⟩,s⟩
theorem lifted (os)(r:os.Started)(H)(enc:TypeId×Value->H): ReturnsInLeavingWide {} Tryz.checked os 3 .any (λw args=>(Rows.fnLinesSpec.pre enc Tryz.prog Tryz.f3 [] false w args/\laidMetH Tryz.prog Rows.fnLinesRow.laid w)/\sizedMet enc Tryz.prog Tryz.f3 (OpenSpec.ofChange Rows.fnLinesSpec) false w args) (Rows.fnLinesSpec.post enc Tryz.prog Tryz.f3 false true false false):=by
 refine p7 (C:=Tryz.checked) (X:=λw _=>laidMetH Tryz.prog Rows.fnLinesRow.laid w) (λ_ _ _ T h=>h.of_heap T) own r Tryz.func3
  (ChangeSpec.witness_at (enc:=enc) (C:=Tryz.checked) (os:=os) (X:=λw _=>laidMetH Tryz.prog Rows.fnLinesRow.laid w) false (wS os) #[.slice none 0 0] 8 (World.layVars_os _ _ _) (by kernel_rfl) (by kernel_rfl) (by kernel_rfl) (by kernel_rfl) (by kernel_rfl) (aaN os _)) ?_
 intro W base args ds gs N m8 X6 hW U;have s:∀(j:Nat) t v,Tryz.f3.params[j]?=some t->args[j]?=some v->Value.okWide Tryz.prog W .any base t v:=X6;have Y:=hW;obtain⟨p,q,MY,hV,rfl,Bc,UY⟩:=hW;have hA:DataW.TrodAll enc Tryz.prog W 0 (λ_=>true) true Tryz.f3.params.toList args.toList ds p:=MY;rw[Tryz.params3]at hA s;obtain⟨v0,ad,d0,ao,p0,q0,Qe,rfl,rfl,h0,r0⟩:=trodAll_cons hA;obtain⟨rfl,rfl,rfl⟩:=trodAll_nil r0;obtain rfl:args=#[v0]:=by cases args;simp_all
 obtain⟨rfl,rfl⟩:=trodVars_none hV;have B:=s 0 22 v0 rfl rfl;obtain⟨a,n,Z,rfl⟩:=okWide_slice Tryz.underlying22 B;have k0:=h0;have Vl:∀x∈p0,x.block<W:=by let⟨n,hn⟩:=k0;exact DataW.trod_lt n _ _ _ hn
 clear MY X6;let⟨hE,Et⟩:=ZK m8<|U.filter λx=>x.1== "errors.errorType";have hT:=Z' U;let⟨t4,u4,h4⟩:=adJ U;let⟨e6,z6,b6⟩:=DN (g:=6) aO hT;let⟨e4,z4,b4⟩:=DN (g:=4) aO h4;let⟨c0,w0,Lp⟩:=J8 h0;have u:∀x,a=some x->(∃cs e z,W.heap[x.block]?=some (.cells cs e z))/\x.block≠3:=by rintro x rfl;exact I8 Tryz.underlying22 Ul adp hE<|by simpa only[Value.okWide,Tryz.underlying22]using B
 let⟨M,last,o,w',t',g1,g2,g3,g4⟩:=VO Up PX (L:=3) (by kernel_rfl) (W:=W) Et hE (xs:=#[.slice a n Z]) (λb=>heldBy a b||b==4||b==6) (λg hg=>by
   have:=List.all_eq_true.1 adL _<|aa.1 hg;simp at this⊢;omega) (by
   cases hc:heldBy a 3 with
   |false=>rfl
   |true=>let⟨x,A,e⟩:=zK.1 hc;exact((u x A).2 e).elim) (λb hb=>by
   simp only[Bool.or_eq_true,beq_iff_eq]at hb;rcases hb with(hb|rfl)|rfl
   .obtain⟨x,A,rfl⟩:=zK.1 hb;exact(u x A).1
   .exact⟨_,_,_,b4⟩
   .exact⟨_,_,_,b6⟩)
  (λok ρ BP=>by
   letI:=oW;refine⟨rfl,λi x x' A fe=>?_⟩;match i with
   |0=>
    simp at A fe;subst A fe;cases ha:a with
    |none=>exact .dj _ _
    |some y=>exact .slice _ _ ⟨BP y.block (by rw[zK.2 ⟨y,ha,rfl⟩];rfl),rfl,rfl⟩
   |i+1=>simp at A)
  (λok V E D hR=>by
   letI:=oW;have hC:=Je w0 hR;let⟨r1,r2,r3⟩:=hR;refine KQ ⟨E,λP hP=>hP,λf O=>?_,by rw[D];kernel_rfl,by rw[D];kernel_rfl,rfl⟩ (by rw[D];kernel_rfl) ⟨?_,?_,?_⟩ hC Lp
   .rw[D];unfold inZ at O;rw[agZ]at O⊢;exact⟨aa.2<|List.mem_append_right _<|aa.1 O.1,O.2⟩
   .rw[r1];exact agz (by decide) Et
   .have q:=hT;unfold Tb Lib.TabIs World.var? at q⊢;rw[show Tryz.prog.globalNamed "internal/strconv.uint64pow10"=some 6 by kernel_rfl]at q;rw[show Tz.prog.globalNamed "internal/strconv.uint64pow10"=some 6 by kernel_rfl];let⟨J,z',R,c2,c3⟩:=r3 6 _ _ _ b6;simp only[Option.bind_some,R];congr 1;apply Array.ext
    .exact c2
    .intro i h1 D;have:=r2 6 i (((Lib.pow10Tab.map λz=>Value.int .u64 z).toArray)[i]) (by simp[flat]) (by simp[World.cell?,b6]);simp[World.cell?,R]at this;simpa using(agy.1 this).2
   .let⟨J,z',R,c2,c3⟩:=r3 4 _ _ _ b4;let⟨l⟩:=J;match l,c2 with
    |[x],_=>exact⟨x,by simp[World.cell?,R],c3 0 x t4 u4 rfl rfl⟩)
 refine⟨M,last,o,w',t',g1,g2,g3,g4.mono λv hv=>?_⟩;obtain⟨rfl,hk⟩:=hv;have Pk:=JO hk;have T:({w' with tape:=W.tape}:World).heap=w'.heap:=rfl;have e0:=(Below.trod laidOut (by kernel_rfl) (of_decide_eq_true<|by kernel_rfl) k0 Pk Vl).of_heap (w':=w') T;exact⟨_,_,_,[],_,[],Y,trodAll_mk1<|shut_bool Tryz.underlying4 _,(trodAll_cons_mk e0 trodAll_mk0),rfl,JP hk _,λh=>by cases h⟩
theorem over:Rows.FnLinesSaid:=
 OpenClaim.holds_of_wide_leaving 3 Tryz.f3 rfl rfl rfl rfl rfl rfl rfl ⟨rfl,rfl,rfl,rfl,rfl⟩ rfl rfl rfl rfl rfl (by kernel_rfl) Tryz.func3 jf
  (of_decide_eq_true (by kernel_rfl)) (by unfold Func.isWrapper;first|(rw[if_pos (by decide +kernel)];kernel_rfl)|(rw[if_neg (by decide +kernel)];exact⟨rfl,rfl⟩))
  (λd b H c _=>lifted d b H c)
end K3
theorem fnLines_holds:Rows.FnLinesCardSaid:=
 Ox .later [.data,.data,.data,.data,.handle,.sentinel,.sentinel,.pinned] true Rows.fnLinesCard.stood.harness true
  K3.over (by kernel_rfl) fnLines_row_tie rfl ⟨rfl,rfl⟩ (by kernel_rfl) rfl
  (λf fn s u=>by
   obtain rfl:f=3:=agC ((show Tryz.prog.funcNamed "loop.example/lapstrip/laws.FnLines"=some 3 by kernel_rfl).symm.trans s)|>.symm;obtain rfl:fn=Tryz.f3:=(agC<|Tryz.func3.symm.trans u).symm;exact⟨by kernel_rfl,λj t r=>by
    rw[Tryz.params3]at r;rcases j with _|j
    .obtain rfl:t=22:=by simpa using r.symm
     exact(show Tryz.prog.wantsStandIn 22=false by kernel_rfl)
    .simp at r⟩)
  (by kernel_rfl)
