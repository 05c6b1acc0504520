import Derived.Test.YtlmcblcijndipabGreatDoorDr20
import Derived.Test.YtlmcblcijndipabGreatDoorDr06
import Derived.Test.YtlmcblcijndipabGreatDoorDr07
set_option linter.unusedSimpArgs false
set_option linter.unusedVariables false
set_option maxHeartbeats 4000000
set_option maxRecDepth 100000
namespace Go.Proofs.YtlmcblcijndipabGreatDoor
section
open Go Go.Conc Go.RowKit Go.Conc.Lib Go.ConcR.Gen
theorem vb {w:World}{b:Nat}{v u:Value}{e:TypeId}(h:w.heap[b]?=some (.cells #[v] e (0,0))):(w.setCell ⟨b,0,none⟩ u).heap[b]?=some (.cells #[u] e (0,0)):=by
 rw[setCell_eq_setRow w b 0 _ _ _ u h,setRow_heap _ _ _ _ _ _ h];rfl
noncomputable def body24:Code:=Tryz.f181.body.getD .skip
noncomputable def fC:Code:=(eZ body24).getD .skip
def cD:Code->Code
 |.seq _ b=>b
 |c=>c
noncomputable def dI:Code:=cD (cD (cD (cD (cD body24))))
noncomputable def lY:Array Oper:=(gu 10 body24).getD #[]
noncomputable def Db:Array Oper:=(gu 8 body24).getD #[]
section
variable [Gl]{J:Jb}{P₀:Program}{p:Ph}{ok:Ctx}{c:Frame}{M' Ro₀:Nat->Prop}{Wst:World}{cs:List Frame}{r4:Nat}{t0 t1:Value}
structure BT (J:Jb)(P₀:Program)(p:Ph)(ok:Ctx)(M' Ro₀:Nat->Prop)(Wst:World)(Ro M:Nat->Prop)(W:World):Prop where
 job:gv J P₀ p ok Ro W
 sub:∀b,M' b\/Ro₀ b->M b\/Ro b
 keep:aw (λb=>M' b\/Ro₀ b) Wst W
 sp:∀b,p.Sp b->¬M b/\¬Ro b/\b<W.heap.size
 lt:∀b,M b\/Ro b->b<W.heap.size
 mr:∀b,M b->¬Ro b
 gl:Gl.n<=W.heap.size
 wb:p.Wg≠p.Bs
section
variable {Ro M:Nat->Prop}{W W₁:World}
theorem BT.rely (h:BT J P₀ p ok M' Ro₀ Wst Ro M W)(k:aw (λb=>M b\/Ro b) W W₁):BT J P₀ p ok M' Ro₀ Wst Ro M W₁:=
 ⟨h.job.mono (λ_ h=>h) (k.mono λ_ x=>.inr x),h.sub,h.keep.trans (k.mono h.sub),λb hb=>⟨(h.sp b hb).1,(h.sp b hb).2.1,Nat.lt_of_lt_of_le (h.sp b hb).2.2 k.size⟩,λb hb=>Nat.lt_of_lt_of_le (h.lt b hb) k.size,h.mr,Nat.le_trans h.gl k.size,h.wb⟩
theorem BT.alloc (h:BT J P₀ p ok M' Ro₀ Wst Ro M W)(o:Obj):BT J P₀ p ok M' Ro₀ Wst Ro (grow M W (W.alloc o)) (W.alloc o):=by
 have z:(W.alloc o).heap.size=W.heap.size+1:=by show(W.heap.push o).size=_;simp
 have hb:∀b,b<W.heap.size->(W.alloc o).heap[b]?=W.heap[b]?:=λb hb=>Below.heap_alloc _ _ _ hb
 have hk:aw (λb=>M b\/Ro b) W (W.alloc o):=⟨λb x=>hb b (h.lt b x),by rw[z];omega,rfl,rfl⟩;refine⟨h.job.mono (λ_ h=>h) (hk.mono λ_ x=>.inr x),λb x=>(h.sub b x).imp .inl id,h.keep.trans (hk.mono h.sub),λb x=>?_,λb x=>?_,λb x=>?_,by rw[z];have:=h.gl;omega,h.wb⟩
 .obtain⟨h1,h2,h3⟩:=h.sp b x;exact⟨λy=>y.elim h1 λy=>by omega,h2,by rw[z];omega⟩
 .rw[z];rcases x with(x|⟨_,x⟩)|x
  .have:=h.lt b (.inl x);omega
  .rw[z]at x;exact x
  .have:=h.lt b (.inr x);omega
 .rcases x with x|⟨x,_⟩
  .exact h.mr b x
  .exact λy=>by have:=h.lt b (.inr y);omega
theorem BT.set (h:BT J P₀ p ok M' Ro₀ Wst Ro M W){a:Addr}(v:Value)(ha:¬(M' a.block\/Ro₀ a.block))(hr:¬Ro a.block):BT J P₀ p ok M' Ro₀ Wst Ro M (W.setCell a v):=by
 have z:(W.setCell a v).heap.size=W.heap.size:=(aside_setCell W a v).size;have hb:∀b,b≠a.block->(W.setCell a v).heap[b]?=W.heap[b]?:=λb hb=>Below.heap_setCell _ _ _ _ hb
 have hkr:aw Ro W (W.setCell a v):=⟨λb x=>hb b (λe=>hr (e▸x)),by rw[z];omega,rfl,rfl⟩;exact⟨h.job.mono (λ_ h=>h) hkr,h.sub,h.keep.trans ⟨λb x=>hb b (λe=>ha (e▸x)),by rw[z];omega,rfl,rfl⟩,λb x=>by rw[z];exact h.sp b x,λb x=>by rw[z];exact h.lt b x,h.mr,by rw[z];exact h.gl,h.wb⟩
theorem BT.go (h:BT J P₀ p ok M' Ro₀ Wst Ro M W){bi:Nat}(hM:M bi):BT J P₀ p ok M' Ro₀ Wst (λb=>Ro b\/b=bi) (λb=>M b/\¬(Ro b\/b=bi)) W:=by
 refine⟨h.job.mono (λ_ h=>.inl h) (aw.refl _ _),λb x=>?_,h.keep,λb x=>?_,λb x=>?_,λb x=>x.2,h.gl,h.wb⟩
 .rcases h.sub b x with y|y
  .by_cases e:b=bi
   .exact .inr (.inr e)
   .exact .inl ⟨y,λz=>z.elim (h.mr b y) e⟩
  .exact .inr (.inl y)
 .obtain⟨h1,h2,h3⟩:=h.sp b x;exact⟨λy=>h1 y.1,λy=>y.elim h2 λe=>h1 (e▸hM),h3⟩
 .rcases x with x|x|rfl
  .exact h.lt b (.inl x.1)
  .exact h.lt b (.inr x)
  .exact h.lt _ (.inl hM)
end
def Co (J:Jb)(P₀:Program)(p:Ph)(ok:Ctx)(M' Ro₀:Nat->Prop)(Wst:World)(r4:Nat)(t0 t1:Value)(a:Act)(Ro M:Nat->Prop)(W:World):Prop:=
 (∃v8 v9 v10 v12 v13 v14 v15 v16 v17 v18 v19 v20:Value,a=⟨#[t0,t1,.pointer (some ⟨J.bl,0,none⟩),.pointer (some ⟨J.bn,0,none⟩),.pointer (some ⟨r4,0,none⟩),.pointer (some ⟨J.tb,0,none⟩),.pointer (some ⟨p.Wg,0,none⟩),.pointer (some ⟨J.bb,0,none⟩),v8,v9,v10,.int .i64 4,v12,v13,v14,v15,v16,v17,v18,v19,v20],[]⟩)/\BT J P₀ p ok M' Ro₀ Wst Ro M W
omit [Gl] in
theorem vW (Anch:(Nat->Prop)->(Nat->Prop)->Goroutine->World->Prop)(r:Nat)(Ro:Nat->Prop):∃Stop,∀M g W,p.Spawns Anch r Ro M g W=ET p.P true p.I p.saidX Ro Stop M g W:=by
 cases r<;>exact⟨_,λ_ _ _=>rfl⟩
theorem xX (hP₀:bh P₀ P₀ ok)(hP:bh P₀ Tryz.prog ok)(hin:∀f,ok.fn f=true->ok.inn f=true)(hFl:eI P₀ c)(hL:p.L<4611686018427387904)(hpr:p.P=Tryz.prog)(hn4:p.n=4)(r:Nat):
  ∀(j:Nat) (v8 v9 v10 v13 v14 v15 v16 v17 v18 v19 v20:Value) (Ro M:Nat->Prop) (W:World),j+r=4->BT J P₀ p ok M' Ro₀ Wst Ro M W->
   p.Spawns (p.AnW link (Co J P₀ p ok M' Ro₀ Wst r4 t0 t1) (base 181) lY 0 [] [.code (cD dI)] cs) r Ro M (G ((base 181).at ⟨#[t0,t1,.pointer (some ⟨J.bl,0,none⟩),.pointer (some ⟨J.bn,0,none⟩),.pointer (some ⟨r4,0,none⟩),.pointer (some ⟨J.tb,0,none⟩),.pointer (some ⟨p.Wg,0,none⟩),.pointer (some ⟨J.bb,0,none⟩),v8,v9,v10,.int .i64 4,.int .i64 j,v13,v14,v15,v16,v17,v18,v19,v20],[]⟩ [.code fC,.inLoop fC,.inBlock 0,.code dI]) cs) W:=by
 have H:WgLib p.P link:=hpr▸pv;obtain⟨An,hAn⟩:∃An,An=p.AnW link (Co J P₀ p ok M' Ro₀ Wst r4 t0 t1) (base 181) lY 0 [] [.code (cD dI)] cs:=⟨_,rfl⟩;rw[<-hAn];induction r with
 |zero=>
  intro j v8 v9 v10 v13 v14 v15 v16 v17 v18 v19 v20 Ro M W hj hb;obtain rfl:j=4:=by omega
  show ET p.P true p.I p.saidX Ro (p.AtKd An Ro) M _ W;simp only[fC,dI,body24,Tryz.f181,Option.getD_some,eZ,cD,Option.or_some,Option.or_none,Option.none_or];rw[hpr];refine ET.c (λ_=>stepG_seq) ?_
  (refine ET.c (λ_=>stepG_region) ?_;simp only[List.size_toArray,List.length_cons,List.length_nil,Nat.reduceAdd,Nat.zero_add,List.range,List.range.loop])
  (refine ET.k rfl (λ_ _ _=>?_);refine goes_oper_k rfl rfl (by k_ne) (λK hK=>?_);go_simp;refine hK _ _ ⟨⟨rfl,λe he=>(by have hm:=mem_listed he;simp[go_sem, *]at hm)⟩,?_⟩;clear hK K;try w_num)
  refine ET.c (λ_=>stepG_region_end) ?_;refine ET.c (λ_=>stepG_seq) ?_;refine ET.condF rfl ?_;refine ET.c (λ_=>stepG_exit rfl) ?_;refine ET.c (λ_=>stepG_seq) ?_
  (refine ET.c (λ_=>stepG_region) ?_;simp only[List.size_toArray,List.length_cons,List.length_nil,Nat.reduceAdd,Nat.zero_add,List.range,List.range.loop])
  refine ET.k rfl (λ_ _ _=>goes_call rfl rfl (by k_ne) rfl pv.f_wait (nm_wait link) rfl ⟨⟨rfl,λe he=>(by simp at he)⟩,?_⟩);walk_nrmf waitFn
  have hA:=Ph.waitStart (p:=p) (L:=link) (F:=Co J P₀ p ok M' Ro₀ Wst r4 t0 t1) (b₀:=base 181) (ops₀:=lY) (i₀:=0) (rest₀:=[]) (k₀:=[.code (cD dI)]) (cs:=cs) (Ro:=Ro) (M:=M) (w₀:=W) (a₀:=⟨#[t0,t1,.pointer (some ⟨J.bl,0,none⟩),.pointer (some ⟨J.bn,0,none⟩),.pointer (some ⟨r4,0,none⟩),.pointer (some ⟨J.tb,0,none⟩),.pointer (some ⟨p.Wg,0,none⟩),.pointer (some ⟨J.bb,0,none⟩),v8,v9,v10,.int .i64 4,.int .i64 4,.bool false,v14,v15,v16,v17,v18,v19,v20],[]⟩) H (λw k=>⟨⟨v8,v9,v10,_,_,v14,v15,v16,v17,v18,v19,v20,rfl⟩,hb.rely k⟩);rw[<-hAn,hpr]at hA;simp only[body_wait,waitFn,Option.getD_some]at hA;exact hA
 |succ r ih=>
  intro j v8 v9 v10 v13 v14 v15 v16 v17 v18 v19 v20 Ro M W hj hb;show ET p.P true p.I p.saidX Ro (p.AtKdS Ro (p.n-(r+1)) (p.Spawns An r)) M _ W;have ej:p.n-(r+1)=j:=by omega
  rw[ej];have hlt:(j:Int)<4:=by omega
  have hd:decide ((j:Int)<4)=true:=decide_eq_true hlt;simp only[fC,dI,body24,Tryz.f181,Option.getD_some,eZ,cD,Option.or_some,Option.or_none,Option.none_or];rw[hpr];refine ET.c (λ_=>stepG_seq) ?_
  (refine ET.c (λ_=>stepG_region) ?_;simp only[List.size_toArray,List.length_cons,List.length_nil,Nat.reduceAdd,Nat.zero_add,List.range,List.range.loop])
  (refine ET.k rfl (λ_ _ _=>?_);refine goes_oper_k rfl rfl (by k_ne) (λK hK=>?_);go_simp;refine hK _ _ ⟨⟨rfl,λe he=>(by have hm:=mem_listed he;simp[go_sem, *]at hm)⟩,?_⟩;clear hK K;try w_num)
  refine ET.c (λ_=>stepG_region_end) ?_;refine ET.c (λ_=>stepG_seq) ?_;refine ET.condT rfl ?_;refine ET.c (λ_=>stepG_skip) ?_;refine ET.c (λ_=>stepG_seq) ?_;refine ET.c (λ_=>stepG_block) ?_;refine ET.c (λ_=>stepG_seq) ?_
  (refine ET.c (λ_=>stepG_region) ?_;simp only[List.size_toArray,List.length_cons,List.length_nil,Nat.reduceAdd,Nat.zero_add,List.range,List.range.loop])
  (refine ET.k rfl (λ_ _ _=>?_);refine goes_oper_k rfl rfl (by k_ne) (λK hK=>?_);go_simp;refine hK _ _ ⟨⟨rfl,λe he=>(by have hm:=mem_listed he;simp[go_sem, *]at hm)⟩,?_⟩;clear hK K;try w_num)
  refine ET.oper rfl rfl (by k_ne) λW₁ k₁ _=>⟨.pointer (some ⟨W₁.heap.size,0,none⟩),W₁.alloc (.cells #[.int .i64 0] 3),?_,?_,?_⟩
  .go_simp
  .refine bU.alloc _ λe he=>?_
   have hm:=mem_listed he;simp[go_sem]at hm
  walk_nrm
  have hb₁:=hb.rely k₁;have z0:(W₁.alloc (.cells #[.int .i64 0] 3)).heap.size=W₁.heap.size+1:=by show(W₁.heap.push _).size=_;simp
  have hbi:grow M W₁ (W₁.alloc (.cells #[.int .i64 0] 3)) W₁.heap.size:=.inr ⟨Nat.le_refl _,by rw[z0];omega⟩;have hb₂:=hb₁.alloc (.cells #[.int .i64 0] 3);have hni:¬(M' W₁.heap.size\/Ro₀ W₁.heap.size):=λe=>by have:=hb₁.lt _ (hb₁.sub _ e);omega
  have hci:(W₁.alloc (.cells #[.int .i64 0] 3)).heap[W₁.heap.size]?=some (.cells #[.int .i64 0] 3 (0,0)):=heap_alloc_new _ _;generalize W₁.alloc (.cells #[.int .i64 0] 3)=W₂ at hb₂ hbi hci z0⊢;generalize grow M W₁ W₂=M₂ at hb₂ hbi⊢;generalize W₁.heap.size=bi at hbi hni hci z0⊢;clear hb₁ hb;refine ET.none rfl rfl (by k_ne) λW₃ k₃ _=>⟨W₃.setCell ⟨bi,0,none⟩ (.int .i64 j),?_,?_,?_⟩
  .have hc:=cC ((k₃.block _ (.inl hbi)).trans hci);have hz:W₃.frozen? ⟨bi,0,none⟩=false:=by simp[World.frozen?,(k₃.block _ (.inl hbi)).trans hci]
   go_simp
  .have hc:=cC ((k₃.block _ (.inl hbi)).trans hci);have hz:W₃.frozen? ⟨bi,0,none⟩=false:=by simp[World.frozen?,(k₃.block _ (.inl hbi)).trans hci]
   refine bU.set _ hbi λe he=>?_
   have hm:=mem_listed he;simp[go_sem,hc,hz]at hm;subst hm;exact dh hbi
  rw[aP (aside_setCell W₃ ⟨bi,0,none⟩ (.int .i64 j)).size];have hb₃:=(hb₂.rely k₃).set (a:=⟨bi,0,none⟩) (.int .i64 j) hni (hb₂.mr _ hbi);have hc₃:(W₃.setCell ⟨bi,0,none⟩ (.int .i64 j)).heap[bi]?=some (.cells #[.int .i64 j] 3 (0,0)):=vb ((k₃.block _ (.inl hbi)).trans hci);generalize W₃.setCell ⟨bi,0,none⟩ (.int .i64 j)=W₄ at hb₃ hc₃⊢;clear hb₂ k₃ hci;walk_nrm
  refine ET.c (λ_=>stepG_region_end) ?_;refine ET.c (λ_=>stepG_seq) ?_
  (refine ET.c (λ_=>stepG_region) ?_;simp only[List.size_toArray,List.length_cons,List.length_nil,Nat.reduceAdd,Nat.zero_add,List.range,List.range.loop])
  refine ET.k rfl (λ_ _ _=>goes_call rfl rfl (by k_ne) rfl pv.f_add (nm_add link) rfl ⟨⟨rfl,λe he=>(by simp at he)⟩,?_⟩);walk_nrmf addFn
  have hA:=@Ph.addPos p M₂ Ro link j (p.Spawns An r);simp only[body_add,addFn,Option.getD_some,hpr]at hA;refine hA pv (λe=>e.elim (hb₃.sp _ (.inl rfl)).1 (hb₃.sp _ (.inl rfl)).2.1) (λw k=>?_);clear hA;replace hb₃:=hb₃.rely k;replace hc₃:=(k.block _ (.inl hbi)).trans hc₃;clear k;walk_nrm
  refine ET.c (λ_=>stepG_region_end) ?_
  (refine ET.c (λ_=>stepG_region) ?_;simp only[List.size_toArray,List.length_cons,List.length_nil,Nat.reduceAdd,Nat.zero_add,List.range,List.range.loop])
  refine ET.val (.func (.func 199) #[] #[.pointer (some ⟨p.Wg,0,none⟩),.pointer (some ⟨J.bl,0,none⟩),.pointer (some ⟨J.bn,0,none⟩),.pointer (some ⟨J.tb,0,none⟩),.pointer (some ⟨J.bb,0,none⟩),.pointer (some ⟨bi,0,none⟩)]) rfl rfl (by k_ne) (λw₅ _ _=>⟨?_,λe he=>?_⟩) ?_
  .go_simp
   rfl
  .simp[go_sem]at he;change e∈#[]at he;simp at he
  walk_nrm
  refine ET.stop λw₅ k₅ i₅=>?_
  replace hb₃:=hb₃.rely k₅;replace hc₃:=(k₅.block _ (.inl hbi)).trans hc₃;clear k₅;refine⟨rfl,?gx,born Tryz.prog (call47 J p.Wg bi),λb=>Ro b\/b=bi,?_,rfl,λb hb=>.inl hb,λb hb=>hb.elim .inl λe=>.inr (e▸hbi),?_,?_⟩;rotate_left 1
  .rw[hpr,stepG_spawn (d:=call47 J p.Wg bi) (w':=w₅) (f:=.func 199) (c:=#[.pointer (some ⟨p.Wg,0,none⟩),.pointer (some ⟨J.bl,0,none⟩),.pointer (some ⟨J.bn,0,none⟩),.pointer (some ⟨J.tb,0,none⟩),.pointer (some ⟨J.bb,0,none⟩),.pointer (some ⟨bi,0,none⟩)]) rfl rfl (by k_ne) (by simp[go_sem,call47,Deferred.ofValue]) rfl];generalize hL:listed _ _ _ _ _=Lx;have hLx:Lx=#[]:=by
    rw[<-hL];simp[listed,go_sem,seen,Deferred.ofValue];rfl
   subst hLx;rfl
  .have hb':=hb₃.go hbi;exact Bd hb'.job hP₀ hP hin hFl hL (by omega) (.inr rfl) hc₃ hb'.wb (λb hb=>(hb'.sp b hb).2.1) (λb hb=>hb.elim (λx=>(hb'.sp b x).2.2) λx=>hb'.lt b (.inr x)) hb'.gl
  .have hb':=hb₃.go hbi;obtain⟨Stop,hS⟩:=vW (p:=p) An r (λb=>Ro b\/b=bi);have hwr:IntKind.i64.wrap ((j:Int)+1)=((j+1:Nat):Int):=by rw[IntKind.wrap_i64];omega
   rw[hS,hpr];walk_nrm
   refine ET.c (λ_=>stepG_region_end) ?_;refine ET.c (λ_=>stepG_inBlock) ?_
   (refine ET.c (λ_=>stepG_region) ?_;simp only[List.size_toArray,List.length_cons,List.length_nil,Nat.reduceAdd,Nat.zero_add,List.range,List.range.loop])
   iterate 2 (refine ET.k rfl (λ_ _ _=>?_);refine goes_oper_k rfl rfl (by k_ne) (λK hK=>?_);go_simp;refine hK _ _ ⟨⟨rfl,λe he=>(by have hm:=mem_listed he;simp[go_sem, *]at hm)⟩,?_⟩;clear hK K;try w_num)
   refine ET.c (λ_=>stepG_region_end) ?_;refine ET.c (λ_=>stepG_inLoop) ?_;have hI:=ih (j+1) (.pointer (some ⟨bi,0,none⟩)) v9 v10 (.bool true) (.int .i64 j) (.tuple #[]) (.func (.func 199) #[] #[.pointer (some ⟨p.Wg,0,none⟩),.pointer (some ⟨J.bl,0,none⟩),.pointer (some ⟨J.bn,0,none⟩),.pointer (some ⟨J.tb,0,none⟩),.pointer (some ⟨J.bb,0,none⟩),.pointer (some ⟨bi,0,none⟩)]) (.int .i64 ((j+1:Nat):Int)) v18 v19 v20 _ _ w₅ (by omega) hb';rw[hS,hpr]at hI;exact hI
end
noncomputable def py:Array Oper:=(gu 1 body24).getD #[]
noncomputable def pz:Array Oper:=(gu 2 body24).getD #[]
structure EN (M₀:Nat->Prop)(W₀:World)(M:Nat->Prop)(W:World):Prop where
 own:∀b,M₀ b->M b
 keep:aw M₀ W₀ W
 lt:∀b,M b->b<W.heap.size
 new:∀b,M b->M₀ b\/W₀.heap.size<=b
section
variable {M₀ M:Nat->Prop}{W₀ W W₁:World}
theorem EN.rely (h:EN M₀ W₀ M W)(k:aw (λb=>M b\/False) W W₁):EN M₀ W₀ M W₁:=⟨h.own,h.keep.trans (k.mono λb hb=>.inl (h.own b hb)),λb hb=>Nat.lt_of_lt_of_le (h.lt b hb) k.size,h.new⟩
theorem EN.alloc (h:EN M₀ W₀ M W)(o:Obj):EN M₀ W₀ (grow M W (W.alloc o)) (W.alloc o):=by
 have z:(W.alloc o).heap.size=W.heap.size+1:=by show(W.heap.push o).size=_;simp
 refine⟨λb hb=>.inl (h.own b hb),h.keep.trans ⟨λb hb=>Below.heap_alloc _ _ _ (h.lt b (h.own b hb)),by rw[z];omega,rfl,rfl⟩,λb hb=>hb.elim (λx=>by rw[z];have:=h.lt b x;omega) And.right,λb hb=>hb.elim (h.new b) λx=>.inr (Nat.le_trans h.keep.size x.1)⟩
end
section
variable {rb:List Frame}{M:Nat->Prop}{W:World}{la na:Option Addr}{ln lc nn nc:Nat}
theorem Be (hM:∀b,M b->b<W.heap.size):
  ET Tryz.prog true (λ_=>True) Ph.noX (λ_=>False) (λM' g W'=>∃bl bn r4,g=G ((base 181).at ⟨#[.slice la ln lc,.slice na nn nc,.pointer (some ⟨bl,0,none⟩),.pointer (some ⟨bn,0,none⟩),.pointer (some ⟨r4,0,none⟩),undef,undef,undef,undef,undef,undef,undef,undef,undef,undef,undef,undef,undef,undef,undef,undef],[]⟩ [.inRegion py [0],.code (cD (cD body24))]) rb/\EN M W M' W'/\(W.heap.size<=bl/\bl<bn/\bn<r4)/\M' bl/\M' bn/\M' r4/\
    W'.heap[bl]?=some (.cells #[.slice la ln lc] 30 (0,0))/\W'.heap[bn]?=some (.cells #[.slice na nn nc] 224 (0,0))/\W'.heap[r4]?=some (.cells noTry.cells.toArray 222 (0,0)))
   M (G ((base 181).at ⟨#[.slice la ln lc,.slice na nn nc,undef,undef,undef,undef,undef,undef,undef,undef,undef,undef,undef,undef,undef,undef,undef,undef,undef,undef,undef],[]⟩ [.code body24]) rb) W:=by
 have z0:∀(w:World) (o:Obj),(w.alloc o).heap.size=w.heap.size+1:=λw o=>by show(w.heap.push o).size=_;simp
 have hE:EN M W M W:=⟨λ_ h=>h,aw.refl _ _,hM,λ_ h=>.inl h⟩;simp only[body24,Tryz.f181,Option.getD_some];refine ET.c (λ_=>stepG_seq) ?_
 (refine ET.c (λ_=>stepG_region) ?_;simp only[List.size_toArray,List.length_cons,List.length_nil,Nat.reduceAdd,Nat.zero_add,List.range,List.range.loop])
 refine ET.oper rfl rfl (by k_ne) λW₁ k₁ _=>⟨.pointer (some ⟨W₁.heap.size,0,none⟩),W₁.alloc (.cells #[.slice la ln lc] 30),?_,?_,?_⟩
 .go_simp
 .refine bU.alloc _ λe he=>?_
  have hm:=mem_listed he;simp[go_sem]at hm
 walk_nrm
 have h1:=(hE.rely k₁).alloc (.cells #[.slice la ln lc] 30);have m1:grow M W₁ (W₁.alloc (.cells #[.slice la ln lc] 30)) W₁.heap.size:=.inr ⟨Nat.le_refl _,by rw[z0];omega⟩;have c1:(W₁.alloc (.cells #[.slice la ln lc] 30)).heap[W₁.heap.size]?=some (.cells #[.slice la ln lc] 30 (0,0)):=heap_alloc_new _ _;have s1:=k₁.size;have y1:=z0 W₁ (.cells #[.slice la ln lc] 30);generalize W₁.alloc (.cells #[.slice la ln lc] 30)=V₁ at h1 m1 c1 y1⊢;generalize grow M W₁ V₁=M₁ at h1 m1⊢;generalize W₁.heap.size=bl at m1 c1 s1 y1⊢;refine ET.oper rfl rfl (by k_ne) λW₂ k₂ _=>⟨.pointer (some ⟨W₂.heap.size,0,none⟩),W₂.alloc (.cells #[.slice na nn nc] 224),?_,?_,?_⟩
 .go_simp
 .refine bU.alloc _ λe he=>?_
  have hm:=mem_listed he;simp[go_sem]at hm
 walk_nrm
 have h2:=(h1.rely k₂).alloc (.cells #[.slice na nn nc] 224);have m2:grow M₁ W₂ (W₂.alloc (.cells #[.slice na nn nc] 224)) W₂.heap.size:=.inr ⟨Nat.le_refl _,by rw[z0];omega⟩;have s2:=k₂.size;have y2:=z0 W₂ (.cells #[.slice na nn nc] 224);have c2:(W₂.alloc (.cells #[.slice na nn nc] 224)).heap[W₂.heap.size]?=some (.cells #[.slice na nn nc] 224 (0,0)):=heap_alloc_new _ _;have c1':(W₂.alloc (.cells #[.slice na nn nc] 224)).heap[bl]?=some (.cells #[.slice la ln lc] 30 (0,0)):=(Below.heap_alloc _ _ _ (by omega)).trans ((k₂.block _ (.inl m1)).trans c1);have m1':grow M₁ W₂ (W₂.alloc (.cells #[.slice na nn nc] 224)) bl:=.inl m1;generalize W₂.alloc (.cells #[.slice na nn nc] 224)=V₂ at h2 m2 c2 c1' m1' y2⊢;generalize grow M₁ W₂ V₂=M₂ at h2 m2 m1'⊢;generalize W₂.heap.size=bn at m2 c2 s2 y2⊢;refine ET.oper rfl rfl (by k_ne) λW₃ k₃ _=>⟨.pointer (some ⟨W₃.heap.size,0,none⟩),W₃.alloc (.cells #[.bool false,.int .i64 0,.int .i64 0,.slice none 0 0] 222),?_,?_,?_⟩
 .go_simp
 .refine bU.alloc _ λe he=>?_
  have hm:=mem_listed he;simp[go_sem]at hm
 walk_nrm
 have h3:=(h2.rely k₃).alloc (.cells #[.bool false,.int .i64 0,.int .i64 0,.slice none 0 0] 222);have m3:grow M₂ W₃ (W₃.alloc (.cells #[.bool false,.int .i64 0,.int .i64 0,.slice none 0 0] 222)) W₃.heap.size:=.inr ⟨Nat.le_refl _,by rw[z0];omega⟩;have s3:=k₃.size;have c3:(W₃.alloc (.cells #[.bool false,.int .i64 0,.int .i64 0,.slice none 0 0] 222)).heap[W₃.heap.size]?=some (.cells noTry.cells.toArray 222 (0,0)):=heap_alloc_new _ _;have c2':(W₃.alloc (.cells #[.bool false,.int .i64 0,.int .i64 0,.slice none 0 0] 222)).heap[bn]?=some (.cells #[.slice na nn nc] 224 (0,0)):=(Below.heap_alloc _ _ _ (by omega)).trans ((k₃.block _ (.inl m2)).trans c2);have c1'':(W₃.alloc (.cells #[.bool false,.int .i64 0,.int .i64 0,.slice none 0 0] 222)).heap[bl]?=some (.cells #[.slice la ln lc] 30 (0,0)):=(Below.heap_alloc _ _ _ (by omega)).trans ((k₃.block _ (.inl m1')).trans c1');have m1'':grow M₂ W₃ (W₃.alloc (.cells #[.bool false,.int .i64 0,.int .i64 0,.slice none 0 0] 222)) bl:=.inl m1';have m2':grow M₂ W₃ (W₃.alloc (.cells #[.bool false,.int .i64 0,.int .i64 0,.slice none 0 0] 222)) bn:=.inl m2;generalize W₃.alloc (.cells #[.bool false,.int .i64 0,.int .i64 0,.slice none 0 0] 222)=V₃ at h3 m3 c3 c2' c1'' m1'' m2'⊢;generalize grow M₂ W₃ V₃=M₃ at h3 m3 m1'' m2'⊢;generalize W₃.heap.size=r4 at m3 c3 s3⊢;refine ET.c (λ_=>stepG_region_end) ?_;refine ET.c (λ_=>stepG_seq) ?_
 (refine ET.c (λ_=>stepG_region) ?_;simp only[List.size_toArray,List.length_cons,List.length_nil,Nat.reduceAdd,Nat.zero_add,List.range,List.range.loop])
 refine ET.stop λW₄ k₄ _=>⟨bl,bn,r4,rfl,h3.rely k₄,⟨by omega,by omega,by omega⟩,m1'',m2',m3,(k₄.block _ (.inl m1'')).trans c1'',(k₄.block _ (.inl m2')).trans c2',(k₄.block _ (.inl m3)).trans c3⟩
end
section
variable {rb:List Frame}{M:Nat->Prop}{W:World}{la na:Option Addr}{ln lc nn nc bl bn r4 tb wg:Nat}
theorem zK (w:World):stepG Tryz.prog true (G ((base 181).at ⟨#[.slice la ln lc,.slice na nn nc,.pointer (some ⟨bl,0,none⟩),.pointer (some ⟨bn,0,none⟩),.pointer (some ⟨r4,0,none⟩),undef,undef,undef,undef,undef,undef,undef,undef,undef,undef,undef,undef,undef,undef,undef,undef],[]⟩ [.inRegion py [0],.code (cD (cD body24))]) rb) w=
  .go (G ((base 181).at ⟨#[.slice la ln lc,.slice na nn nc,.pointer (some ⟨bl,0,none⟩),.pointer (some ⟨bn,0,none⟩),.pointer (some ⟨r4,0,none⟩),.pointer (some ⟨w.heap.size,0,none⟩),undef,undef,undef,undef,undef,undef,undef,undef,undef,undef,undef,undef,undef,undef,undef],[]⟩ [.inRegion py [],.code (cD (cD body24))]) rb) (w.alloc (.cells #[.int .i64 0] 250)) #[]:=by
 obtain⟨o,ho,hop,hd,hg⟩:∃o,py[0]?=some o/\o.op=.alloc 250/\o.dst=some 5/\o.guard=none:=⟨_,rfl,rfl,rfl,rfl⟩;have hr:∀f,(execOp f o).run Tryz.prog w=.ok (.value (.pointer (some ⟨w.heap.size,0,none⟩))) (w.alloc (.cells #[.int .i64 0] 250)):=λf=>by
  unfold execOp;simp only[hop];go_simp
 have he:∀f,(execOp f o).events Tryz.prog w #[]=#[]:=λf=>by
  unfold execOp;simp only[hop];simp[go_sem]
 rw[iJ ho (by simp[Region.wanted,hg]) (by k_ne) (hr _)];unfold listed;rw[he,seen_none,hd];walk_nrm
theorem zL (w:World):stepG Tryz.prog true (G ((base 181).at ⟨#[.slice la ln lc,.slice na nn nc,.pointer (some ⟨bl,0,none⟩),.pointer (some ⟨bn,0,none⟩),.pointer (some ⟨r4,0,none⟩),.pointer (some ⟨tb,0,none⟩),undef,undef,undef,undef,undef,undef,undef,undef,undef,undef,undef,undef,undef,undef,undef],[]⟩ [.inRegion pz [0],.code (cD (cD (cD body24)))]) rb) w=
  .go (G ((base 181).at ⟨#[.slice la ln lc,.slice na nn nc,.pointer (some ⟨bl,0,none⟩),.pointer (some ⟨bn,0,none⟩),.pointer (some ⟨r4,0,none⟩),.pointer (some ⟨tb,0,none⟩),.pointer (some ⟨w.heap.size,0,none⟩),undef,undef,undef,undef,undef,undef,undef,undef,undef,undef,undef,undef,undef,undef],[]⟩ [.inRegion pz [],.code (cD (cD (cD body24)))]) rb) (w.alloc (.cells #[.int .u64 0,.int .u32 0] 255)) #[]:=by
 obtain⟨o,ho,hop,hd,hg⟩:∃o,pz[0]?=some o/\o.op=.alloc 255/\o.dst=some 6/\o.guard=none:=⟨_,rfl,rfl,rfl,rfl⟩;have hr:∀f,(execOp f o).run Tryz.prog w=.ok (.value (.pointer (some ⟨w.heap.size,0,none⟩))) (w.alloc (.cells #[.int .u64 0,.int .u32 0] 255)):=λf=>by
  unfold execOp;simp only[hop];go_simp
 have he:∀f,(execOp f o).events Tryz.prog w #[]=#[]:=λf=>by
  unfold execOp;simp only[hop];simp[go_sem]
 rw[iJ ho (by simp[Region.wanted,hg]) (by k_ne) (hr _)];unfold listed;rw[he,seen_none,hd];walk_nrm
theorem Bf:ET Tryz.prog true (λ_=>True) Ph.noX (λ_=>False) (λM' g W'=>M'=M/\aw M W W'/\g=G ((base 181).at ⟨#[.slice la ln lc,.slice na nn nc,.pointer (some ⟨bl,0,none⟩),.pointer (some ⟨bn,0,none⟩),.pointer (some ⟨r4,0,none⟩),.pointer (some ⟨tb,0,none⟩),undef,undef,undef,undef,undef,undef,undef,undef,undef,undef,undef,undef,undef,undef,undef],[]⟩ [.inRegion pz [0],.code (cD (cD (cD body24)))]) rb)
  M (G ((base 181).at ⟨#[.slice la ln lc,.slice na nn nc,.pointer (some ⟨bl,0,none⟩),.pointer (some ⟨bn,0,none⟩),.pointer (some ⟨r4,0,none⟩),.pointer (some ⟨tb,0,none⟩),undef,undef,undef,undef,undef,undef,undef,undef,undef,undef,undef,undef,undef,undef,undef],[]⟩ [.inRegion py [],.code (cD (cD body24))]) rb) W:=by
 simp only[body24,Tryz.f181,Option.getD_some,cD];refine ET.c (λ_=>stepG_region_end) ?_;refine ET.c (λ_=>stepG_seq) ?_
 (refine ET.c (λ_=>stepG_region) ?_;simp only[List.size_toArray,List.length_cons,List.length_nil,Nat.reduceAdd,Nat.zero_add,List.range,List.range.loop])
 exact ET.stop λW₁ k₁ _=>⟨rfl,k₁.mono λb hb=>.inl hb,rfl⟩
end
theorem Bg (w:World):(Instr.makeSlice 256 (.int .i64 4) (.int .i64 4)).run Tryz.prog w=.ok (.slice (some ⟨w.heap.size,0,none⟩) 4 4) (w.alloc (.cells #[.bool false,.int .i64 0,.int .i64 0,.slice none 0 0,.bool false,.int .i64 0,.int .i64 0,.slice none 0 0,.bool false,.int .i64 0,.int .i64 0,.slice none 0 0,.bool false,.int .i64 0,.int .i64 0,.slice none 0 0] 222)):=by kernel_rfl
theorem Cq (w:World)(es:Array Event):(Instr.makeSlice 256 (.int .i64 4) (.int .i64 4)).events Tryz.prog w es=es:=by kernel_rfl
section
variable {rb:List Frame}{M:Nat->Prop}{W:World}{la na:Option Addr}{ln lc nn nc bl bn r4 tb wg:Nat}
theorem Bh (hM:∀b,M b->b<W.heap.size):
  ET Tryz.prog true (λ_=>True) Ph.noX (λ_=>False) (λM' g W'=>∃(Bs bb:Nat) (v9 v10:Value),g=G ((base 181).at ⟨#[.slice la ln lc,.slice na nn nc,.pointer (some ⟨bl,0,none⟩),.pointer (some ⟨bn,0,none⟩),.pointer (some ⟨r4,0,none⟩),.pointer (some ⟨tb,0,none⟩),.pointer (some ⟨wg,0,none⟩),.pointer (some ⟨bb,0,none⟩),undef,v9,v10,.int .i64 4,.int .i64 0,undef,undef,undef,undef,undef,undef,undef,undef],[]⟩ [.code fC,.inLoop fC,.inBlock 0,.code dI]) rb/\EN M W M' W'/\(W.heap.size<=Bs/\Bs<bb)/\M' Bs/\M' bb/\
    W'.heap[bb]?=some (.cells #[.slice (some ⟨Bs,0,none⟩) 4 4] 256 (0,0))/\∃cs,W'.heap[Bs]?=some (.cells cs 222 (0,0))/\cs.size=16)
   M (G ((base 181).at ⟨#[.slice la ln lc,.slice na nn nc,.pointer (some ⟨bl,0,none⟩),.pointer (some ⟨bn,0,none⟩),.pointer (some ⟨r4,0,none⟩),.pointer (some ⟨tb,0,none⟩),.pointer (some ⟨wg,0,none⟩),undef,undef,undef,undef,undef,undef,undef,undef,undef,undef,undef,undef,undef,undef],[]⟩ [.inRegion pz [],.code (cD (cD (cD body24)))]) rb) W:=by
 have z0:∀(w:World) (o:Obj),(w.alloc o).heap.size=w.heap.size+1:=λw o=>by show(w.heap.push o).size=_;simp
 have hE:EN M W M W:=⟨λ_ h=>h,aw.refl _ _,hM,λ_ h=>.inl h⟩;simp only[fC,dI,body24,Tryz.f181,Option.getD_some,eZ,cD,Option.or_some,Option.or_none,Option.none_or];refine ET.c (λ_=>stepG_region_end) ?_;refine ET.c (λ_=>stepG_seq) ?_
 (refine ET.c (λ_=>stepG_region) ?_;simp only[List.size_toArray,List.length_cons,List.length_nil,Nat.reduceAdd,Nat.zero_add,List.range,List.range.loop])
 refine ET.oper rfl rfl (by k_ne) λW₁ k₁ _=>⟨.slice (some ⟨W₁.heap.size,0,none⟩) 4 4,W₁.alloc (.cells #[.bool false,.int .i64 0,.int .i64 0,.slice none 0 0,.bool false,.int .i64 0,.int .i64 0,.slice none 0 0,.bool false,.int .i64 0,.int .i64 0,.slice none 0 0,.bool false,.int .i64 0,.int .i64 0,.slice none 0 0] 222),?_,?_,?_⟩
 .go_simp
  rw[Bg];rfl
 .refine bU.alloc _ λe he=>?_
  have hm:=mem_listed he;simp[go_sem]at hm;rw[Cq]at hm;simp at hm
 walk_nrm
 have h1:=(hE.rely k₁).alloc (.cells #[.bool false,.int .i64 0,.int .i64 0,.slice none 0 0,.bool false,.int .i64 0,.int .i64 0,.slice none 0 0,.bool false,.int .i64 0,.int .i64 0,.slice none 0 0,.bool false,.int .i64 0,.int .i64 0,.slice none 0 0] 222);have m1:grow M W₁ (W₁.alloc (.cells #[.bool false,.int .i64 0,.int .i64 0,.slice none 0 0,.bool false,.int .i64 0,.int .i64 0,.slice none 0 0,.bool false,.int .i64 0,.int .i64 0,.slice none 0 0,.bool false,.int .i64 0,.int .i64 0,.slice none 0 0] 222)) W₁.heap.size:=.inr ⟨Nat.le_refl _,by rw[z0];omega⟩;have c1:∃cs:Array Value,(W₁.alloc (.cells #[.bool false,.int .i64 0,.int .i64 0,.slice none 0 0,.bool false,.int .i64 0,.int .i64 0,.slice none 0 0,.bool false,.int .i64 0,.int .i64 0,.slice none 0 0,.bool false,.int .i64 0,.int .i64 0,.slice none 0 0] 222)).heap[W₁.heap.size]?=some (.cells cs 222 (0,0))/\cs.size=16:=⟨_,heap_alloc_new _ _,rfl⟩;have s1:=k₁.size;have y1:=z0 W₁ (.cells #[.bool false,.int .i64 0,.int .i64 0,.slice none 0 0,.bool false,.int .i64 0,.int .i64 0,.slice none 0 0,.bool false,.int .i64 0,.int .i64 0,.slice none 0 0,.bool false,.int .i64 0,.int .i64 0,.slice none 0 0] 222);generalize W₁.alloc (.cells #[.bool false,.int .i64 0,.int .i64 0,.slice none 0 0,.bool false,.int .i64 0,.int .i64 0,.slice none 0 0,.bool false,.int .i64 0,.int .i64 0,.slice none 0 0,.bool false,.int .i64 0,.int .i64 0,.slice none 0 0] 222)=V₁ at h1 m1 c1 y1⊢;generalize grow M W₁ V₁=M₁ at h1 m1⊢;generalize W₁.heap.size=Bs at m1 c1 s1 y1⊢;refine ET.oper rfl rfl (by k_ne) λW₂ k₂ _=>⟨.pointer (some ⟨W₂.heap.size,0,none⟩),W₂.alloc (.cells #[.slice none 0 0] 256),?_,?_,?_⟩
 .go_simp
 .refine bU.alloc _ λe he=>?_
  have hm:=mem_listed he;simp[go_sem]at hm
 walk_nrm
 have h2:=(h1.rely k₂).alloc (.cells #[.slice none 0 0] 256);have m2:grow M₁ W₂ (W₂.alloc (.cells #[.slice none 0 0] 256)) W₂.heap.size:=.inr ⟨Nat.le_refl _,by rw[z0];omega⟩;have s2:=k₂.size;have y2:=z0 W₂ (.cells #[.slice none 0 0] 256);have c2:(W₂.alloc (.cells #[.slice none 0 0] 256)).heap[W₂.heap.size]?=some (.cells #[.slice none 0 0] 256 (0,0)):=heap_alloc_new _ _;have c1':∃cs:Array Value,(W₂.alloc (.cells #[.slice none 0 0] 256)).heap[Bs]?=some (.cells cs 222 (0,0))/\cs.size=16:=by
  obtain⟨cs,g1,g2⟩:=c1;exact⟨cs,(Below.heap_alloc _ _ _ (by omega)).trans ((k₂.block _ (.inl m1)).trans g1),g2⟩
 have m1':grow M₁ W₂ (W₂.alloc (.cells #[.slice none 0 0] 256)) Bs:=.inl m1;have hbM:¬M W₂.heap.size:=λe=>by have:=(h1.rely k₂).lt _ ((h1.rely k₂).own _ e);omega
 generalize W₂.alloc (.cells #[.slice none 0 0] 256)=V₂ at h2 m2 c2 c1' m1' y2⊢;generalize grow M₁ W₂ V₂=M₂ at h2 m2 m1'⊢;generalize W₂.heap.size=bb at m2 c2 s2 y2 hbM⊢;refine ET.none rfl rfl (by k_ne) λW₃ k₃ _=>⟨W₃.setCell ⟨bb,0,none⟩ (.slice (some ⟨Bs,0,none⟩) 4 4),?_,?_,?_⟩
 .have hc:=cC ((k₃.block _ (.inl m2)).trans c2);have hz:W₃.frozen? ⟨bb,0,none⟩=false:=by simp[World.frozen?,(k₃.block _ (.inl m2)).trans c2]
  go_simp
 .have hc:=cC ((k₃.block _ (.inl m2)).trans c2);have hz:W₃.frozen? ⟨bb,0,none⟩=false:=by simp[World.frozen?,(k₃.block _ (.inl m2)).trans c2]
  refine bU.set _ m2 λe he=>?_
  have hm:=mem_listed he;simp[go_sem,hc,hz]at hm;rw[events_store _ _ _ _ _ _ rfl,hc]at hm;simp[hz]at hm;subst hm;exact dh m2
 rw[aP (aside_setCell W₃ ⟨bb,0,none⟩ (.slice (some ⟨Bs,0,none⟩) 4 4)).size];have c3:(W₃.setCell ⟨bb,0,none⟩ (.slice (some ⟨Bs,0,none⟩) 4 4)).heap[bb]?=some (.cells #[.slice (some ⟨Bs,0,none⟩) 4 4] 256 (0,0)):=vb ((k₃.block _ (.inl m2)).trans c2);have c1'':∃cs:Array Value,(W₃.setCell ⟨bb,0,none⟩ (.slice (some ⟨Bs,0,none⟩) 4 4)).heap[Bs]?=some (.cells cs 222 (0,0))/\cs.size=16:=by
  obtain⟨cs,g1,g2⟩:=c1';exact⟨cs,(Below.heap_setCell _ _ _ _ (by show Bs≠bb;omega)).trans ((k₃.block _ (.inl m1')).trans g1),g2⟩
 have h3:EN M W M₂ (W₃.setCell ⟨bb,0,none⟩ (.slice (some ⟨Bs,0,none⟩) 4 4)):=by
  have h:=h2.rely k₃;have z:=(aside_setCell W₃ ⟨bb,0,none⟩ (.slice (some ⟨Bs,0,none⟩) 4 4)).size;exact⟨h.own,h.keep.trans ⟨λb hb=>Below.heap_setCell _ _ _ _ (λe=>hbM (by have e':b=bb:=e;exact e'▸hb)),by rw[z];omega,rfl,rfl⟩,λb hb=>by rw[z];exact h.lt b hb,h.new⟩
 generalize W₃.setCell ⟨bb,0,none⟩ (.slice (some ⟨Bs,0,none⟩) 4 4)=V₃ at h3 c3 c1''⊢;walk_nrm
 refine ET.c (λ_=>stepG_region_end) ?_;refine ET.c (λ_=>stepG_seq) ?_;refine ET.c (λ_=>stepG_seq) ?_
 (refine ET.c (λ_=>stepG_region) ?_;simp only[List.size_toArray,List.length_cons,List.length_nil,Nat.reduceAdd,Nat.zero_add,List.range,List.range.loop])
 refine ET.val (.slice (some ⟨Bs,0,none⟩) 4 4) rfl rfl (by k_ne) (λW₄ k₄ _=>?_) ?_
 .have hc:=cC ((k₄.block _ (.inl m2)).trans c3);refine⟨?_,λe he=>?_⟩
  .go_simp
  .simp[go_sem,hc]at he;subst he;exact dh m2
 walk_nrm
 iterate 2 (refine ET.k rfl (λ_ _ _=>?_);refine goes_oper_k rfl rfl (by k_ne) (λK hK=>?_);go_simp;refine hK _ _ ⟨⟨rfl,λe he=>(by have hm:=mem_listed he;simp[go_sem, *]at hm)⟩,?_⟩;clear hK K;try w_num)
 refine ET.c (λ_=>stepG_region_end) ?_;refine ET.c (λ_=>stepG_block) ?_;refine ET.c (λ_=>stepG_loop) ?_;refine ET.stop λW₄ k₄ _=>⟨Bs,bb,_,_,rfl,h3.rely k₄,⟨by omega,by omega⟩,m1',m2,(k₄.block _ (.inl m2)).trans c3,?_⟩
 obtain⟨cs,g1,g2⟩:=c1'';exact⟨cs,(k₄.block _ (.inl m1')).trans g1,g2⟩
end
theorem dc {P:Program}{N':Nat}{m₁:Machine}{t₁:Trace}{r:Stepped×Trace}(h':runNT P N' m₁ t₁=r):∀(N:Nat) (m:Machine) (t:Trace),runNT P N m t=(.next m₁,t₁)->runNT P (N+N') m t=r:=by
 intro N;induction N with
 |zero=>intro m t h;simp only[runNT,Prod.mk.injEq,Stepped.next.injEq]at h;obtain⟨rfl,rfl⟩:=h;rw[Nat.zero_add];exact h'
 |succ N ih=>
  intro m t h;rw[show N+1+N'=(N+N')+1 by omega];simp only[runNT]at h⊢;generalize stepT P m=s at h⊢;obtain⟨s,ops⟩:=s;cases s with
  |next m'=>exact ih _ _ h
  |_=>simp at h
section
variable {Shun:Loc->Prop}{rb:List Frame}{M:Nat->Prop}{gs:Array Goroutine}{w:World}{sl:Option (Nat×Nat)}{t:Trace}{q:Nat->Nat}{la na:Option Addr}{ln lc nn nc:Nat}
theorem bf.lt' {P:Program}{V:Nat->Prop}{a:Goroutine}(h:bf P Shun V (λ_=>False) M gs a w t q):∀b,M b->b<w.heap.size:=λb hb=>h.lt b (.inl hb)
theorem zM (h:bf Tryz.prog Shun (λ_=>False) (λ_=>False) M gs (G ((base 181).at ⟨#[.slice la ln lc,.slice na nn nc,undef,undef,undef,undef,undef,undef,undef,undef,undef,undef,undef,undef,undef,undef,undef,undef,undef,undef,undef],[]⟩ [.code body24]) rb) w t q):
  ∃N gs₁ M₁ w₁ sl₁ t₁ q₁ bl bn r4 tb wg Bs bb v9 v10,runNT Tryz.prog N (crowd gs w sl) t=(.next (crowd gs₁ w₁ sl₁),t₁)/\gs₁.size=gs.size/\
   bf Tryz.prog Shun (λb=>(False\/b=tb)\/b=wg) (λ_=>False) M₁ gs₁ (G ((base 181).at ⟨#[.slice la ln lc,.slice na nn nc,.pointer (some ⟨bl,0,none⟩),.pointer (some ⟨bn,0,none⟩),.pointer (some ⟨r4,0,none⟩),.pointer (some ⟨tb,0,none⟩),.pointer (some ⟨wg,0,none⟩),.pointer (some ⟨bb,0,none⟩),undef,v9,v10,.int .i64 4,.int .i64 0,undef,undef,undef,undef,undef,undef,undef,undef],[]⟩ [.code fC,.inLoop fC,.inBlock 0,.code dI]) rb) w₁ t₁ q₁/\
   EN M w M₁ w₁/\(w.heap.size<=bl/\bl<bn/\bn<r4/\r4<tb/\tb<wg/\wg<Bs/\Bs<bb)/\(M₁ bl/\M₁ bn/\M₁ r4/\M₁ Bs/\M₁ bb)/\
   w₁.heap[bl]?=some (.cells #[.slice la ln lc] 30 (0,0))/\w₁.heap[bn]?=some (.cells #[.slice na nn nc] 224 (0,0))/\w₁.heap[r4]?=some (.cells noTry.cells.toArray 222 (0,0))/\
   w₁.heap[tb]?=some (.cells #[.int .i64 0] 250 (0,0))/\w₁.heap[wg]?=some (.cells #[.int .u64 0,.int .u32 0] 255 (0,0))/\
   w₁.heap[bb]?=some (.cells #[.slice (some ⟨Bs,0,none⟩) 4 4] 256 (0,0))/\∃cs,w₁.heap[Bs]?=some (.cells cs 222 (0,0))/\cs.size=16:=by
 have z0:∀(w:World) (o:Obj),(w.alloc o).heap.size=w.heap.size+1:=λw o=>by show(w.heap.push o).size=_;simp
 obtain⟨r,hr⟩:=Be (rb:=rb) (la:=la) (ln:=ln) (lc:=lc) (na:=na) (nn:=nn) (nc:=nc) h.lt';obtain⟨N1,gs1,M1,a1,w1,sl1,t1,q1,e1,e2,e3,e4,e5,e6,e7,e8⟩:=fk (λ_=>trivial) r _ gs M _ w sl t q (Nat.le_refl _) h hr;obtain⟨bl,bn,r4,rfl,hE,⟨o1,o2,o3⟩,m1,m2,m3,c1,c2,c3⟩:=e3 w1 (aw.refl _ _) trivial;have r4lt:=hE.lt _ m3;obtain⟨N2,gs2,a2,w2,sl2,t2,q2,f1,f2,f3,f4,f5,f6⟩:=bf.alloc (w:=w1) (sl:=sl1) (t:=t1) (q:=q1) (gs:=gs1) (d:=w1.drawn) (Q:=λa' w'=>a'=G ((base 181).at ⟨#[.slice la ln lc,.slice na nn nc,.pointer (some ⟨bl,0,none⟩),.pointer (some ⟨bn,0,none⟩),.pointer (some ⟨r4,0,none⟩),.pointer (some ⟨w1.heap.size,0,none⟩),undef,undef,undef,undef,undef,undef,undef,undef,undef,undef,undef,undef,undef,undef,undef],[]⟩ [.inRegion py [],.code (cD (cD body24))]) rb/\w'.heap[w1.heap.size]?=some (.cells #[.int .i64 0] 250 (0,0))/\w'.os=w1.os/\w'.output=w1.output)
  (λd=>⟨_,_,zK (w1.at d),z0 _ _,λb hb=>Below.heap_alloc _ _ _ hb,rfl,heap_alloc_new _ _,rfl,rfl⟩) rfl _ (Nat.le_refl _) e4
 obtain⟨rfl,ctk,os2,ou2⟩:=f3;obtain⟨r',hr'⟩:=Bf (rb:=rb) (M:=M1) (W:=w2) (la:=la) (ln:=ln) (lc:=lc) (na:=na) (nn:=nn) (nc:=nc) (bl:=bl) (bn:=bn) (r4:=r4) (tb:=w1.heap.size);obtain⟨N3,gs3,M3,a3,w3,sl3,t3,q3,g1,g2,g3,g4,g5,g6,g7,g8⟩:=fk (λ_=>trivial) r' _ gs2 M1 _ w2 sl2 t2 q2 (Nat.le_refl _) f4 hr';obtain⟨rfl,k3,rfl⟩:=g3 w3 (aw.refl _ _) trivial;obtain⟨N4,gs4,a4,w4,sl4,t4,q4,i1,i2,i3,i4,i5,i6⟩:=bf.alloc (w:=w3) (sl:=sl3) (t:=t3) (q:=q3) (gs:=gs3) (d:=w3.drawn) (Q:=λa' w'=>a'=G ((base 181).at ⟨#[.slice la ln lc,.slice na nn nc,.pointer (some ⟨bl,0,none⟩),.pointer (some ⟨bn,0,none⟩),.pointer (some ⟨r4,0,none⟩),.pointer (some ⟨w1.heap.size,0,none⟩),.pointer (some ⟨w3.heap.size,0,none⟩),undef,undef,undef,undef,undef,undef,undef,undef,undef,undef,undef,undef,undef,undef],[]⟩ [.inRegion pz [],.code (cD (cD (cD body24)))]) rb/\w'.heap[w3.heap.size]?=some (.cells #[.int .u64 0,.int .u32 0] 255 (0,0))/\w'.os=w3.os/\w'.output=w3.output)
  (λd=>⟨_,_,zL (w3.at d),z0 _ _,λb hb=>Below.heap_alloc _ _ _ hb,rfl,heap_alloc_new _ _,rfl,rfl⟩) rfl _ (Nat.le_refl _) g4
 obtain⟨rfl,cwg,os4,ou4⟩:=i3;obtain⟨r'',hr''⟩:=Bh (rb:=rb) (la:=la) (ln:=ln) (lc:=lc) (na:=na) (nn:=nn) (nc:=nc) (bl:=bl) (bn:=bn) (r4:=r4) (tb:=w1.heap.size) (wg:=w3.heap.size) i4.lt';obtain⟨N5,gs5,M5,a5,w5,sl5,t5,q5,j1,j2,j3,j4,j5,j6,j7,j8⟩:=fk (λ_=>trivial) r'' _ gs4 M3 _ w4 sl4 t4 q4 (Nat.le_refl _) i4 hr'';obtain⟨Bs,bb,v9,v10,rfl,hE5,⟨p1,p2⟩,n1,n2,cbb,cBs⟩:=j3 w5 (aw.refl _ _) trivial;have hE':aw M3 w1 w4:=(show aw M3 w1 w2 from⟨λb hb=>f6 b (hE.lt b hb),by omega,os2,ou2⟩).trans (k3.trans ⟨λb hb=>i6 b (by have:=hE.lt b hb;omega),by omega,os4,ou4⟩);have hk5:=hE'.trans hE5.keep;have tn:¬M3 w1.heap.size:=λx=>by have:=hE.lt _ x;omega
 have wn:¬M3 w3.heap.size:=λx=>by have:=hE.lt _ x;omega
 refine⟨N1+(N2+(N3+(N4+N5))),gs5,M5,w5,sl5,t5,q5,bl,bn,r4,w1.heap.size,w3.heap.size,Bs,bb,v9,v10,dc (dc (dc (dc j1 _ _ _ i1) _ _ _ g1) _ _ _ f1) _ _ _ e1,by omega,j4,⟨λb hb=>hE5.own b (hE.own b hb),hE.keep.trans (hk5.mono hE.own),hE5.lt,λb hb=>?_⟩,⟨o1,o2,o3,r4lt,by omega,by omega,p2⟩,⟨hE5.own _ m1,hE5.own _ m2,hE5.own _ m3,n1,n2⟩,(hk5.block _ m1).trans c1,(hk5.block _ m2).trans c2,(hk5.block _ m3).trans c3,?_,?_,cbb,cBs⟩
 .rcases hE5.new b hb with x|x
  .exact hE.new b x
  .exact .inr (by have:=hE.keep.size;omega)
 .rw[j8 _ (by omega) tn,i6 _ (by omega),g8 _ (by omega) tn];exact ctk
 .rw[j8 _ (by omega) wn];exact cwg
end
end
section
open Go Go.Conc
open Go.ConcN (sumTo)
section
variable (P:Program)(ok:Ctx)(c:Frame)(Dr:FuncId->Array Value->World->(Value->World->Prop)->Prop)(Q:Value->World->Prop)
inductive Wk:St->Prop
 |ends {s:St}:(∀τ d,oN P Q (s.re τ d))->(∃fn t,P.funcs[s.fr.fn]?=some fn/\fn.results=#[.tmp t])->Wk s
 |step {s:St} (f:(Nat->Question->Nat)->Nat->St):ok.inn s.fr.fn=true->s.fr.kind=.normal->(∀τ d,cq P c (s.re τ d) (f τ d))->(∀τ d,Wk (f τ d))->Wk s
 |door {f:FuncId} {xs:Array Value} {fr:Frame} {cs:List Frame} {V:World} {R:Value->World->Prop}:ok.inn f=false->Dr f xs V R->(∀v V',R v V'->Wk ⟨fr.finish v,cs,V'⟩)->Wk ⟨Frame.enter P f xs .normal,fr::cs,V⟩
end
section
variable [Gl]{P₀ P:Program}{ok:Ctx}{c:Frame}{Dr:FuncId->Array Value->World->(Value->World->Prop)->Prop}{Q:Value->World->Prop}
set_option linter.unusedSectionVars false in
theorem zN (hP:Same P₀ P ok){s s':St}(hi:ok.inn s.fr.fn=true)(hk:s.fr.kind=.normal)(he:oO s)(h:cq P₀ c s s'):False:=by
 obtain⟨fr,cs,V⟩:=s;obtain⟨e1,e2,e3⟩:=he;obtain⟨es,h⟩:=h;simp only at e1 e2 e3 h hi hk;subst e1;rw[ew e2]at h;obtain⟨F,cd,f1,_⟩:=hP.same _ hi;obtain⟨fn,tmps,todo,defers,mode,kind,roundOf⟩:=fr;simp only at e2 e3 hk f1;subst e3 hk;cases mode with
 |run=>exact absurd rfl e2
 |panicking ch=>
  have c1:Frame.catches P₀ ⟨fn,tmps,todo,[],.panicking ch,.normal,roundOf⟩=false:=by simp[Frame.catches,f1]
  simp only[unwind,c1,List.nil_append,Bool.false_eq_true,if_false,GStep.go.injEq]at h;have:=congrArg Goroutine.callers h.1;simp[G]at this
 |returning=>
  simp only[unwind,f1,List.nil_append]at h;obtain⟨es3,h3⟩:=fA h;generalize (results F tmps).runT P₀ V #[]=x at h3;obtain⟨r,e⟩:=x;cases r with
  |ok v w=>
   simp only[doReturn,GStep.go.injEq]at h3;have:=congrArg Goroutine.callers h3.1;simp[G]at this
  |halt hh w=>cases hh<;>cases h3
def tY (ρ:Ren)(M:Nat->Prop):Prop:=∀b d,ρ b=some d->M d
def none0:Nat->Prop:=λ_=>False
theorem aC.others {ρ:Ren}{M:Nat->Prop}{V W W₁:World}(hw:aC ok true ρ (re V W.tape W.drawn) W)(ho:tY ρ M)(k:aw (λb=>M b\/none0 b) W W₁):aC ok true ρ (re V W₁.tape W₁.drawn) W₁:=by
 refine⟨λb d hb=>?_,rfl,rfl,hw.gV,Nat.le_trans hw.gW k.size⟩;obtain⟨o,o',h1,h2,h3⟩:=hw.heap b d hb;exact⟨o,o',h1,(k.block d (.inl (ho b d hb))).trans h2,h3⟩
def iK (P:Program)(ok:Ctx)(Inv:(Nat->Prop)->World->Prop)(Dr:FuncId->Array Value->World->(Value->World->Prop)->Prop):Prop:=
 ∀{f:FuncId} {xs:Array Value} {V:World} {ρ:Ren} {xs':Array Value} {W:World} {M:Nat->Prop} {Shun:Loc->Prop} {gs:Array Goroutine} {r0:Frame} {rest:List Frame} {t:Trace} {q:Nat->Nat} {sl:Option (Nat×Nat)} {R:Value->World->Prop},
  Inv M W->Dr f xs V R->an ok ρ xs xs'->aC ok true ρ (re V W.tape W.drawn) W->tY ρ M->bf P Shun none0 none0 M gs (G (Frame.enter P f xs' .normal) (r0::rest)) W t q->
  ∃N gs' W' sl' t' q' Shun' M' v' σ v V',runNT P N (crowd gs W sl) t=(.next (crowd gs' W' sl'),t')/\bf P Shun' none0 none0 M' gs' (G (r0.finish v') rest) W' t' q'/\
   ρ.le σ/\ah ok σ v v'/\aC ok true σ (re V' W'.tape W'.drawn) W'/\tY σ M'/\R v V'/\aw M W W'/\(∀d,M d->M' d)/\(∀b d,σ b=some d->ρ b=some d\/W.heap.size<=d)/\∀b,Ro V b->V'.heap[b]?=V.heap[b]?
omit [Gl] in
theorem xY [Gl]{ρ:Ren}{v:Value}(h:ah ok ρ undef v):v=undef:=by
 unfold undef at h;generalize hu:Value.tuple #[]=u at h;cases h with
 |@tuple xs xs' e h=>
  simp only[Value.tuple.injEq]at hu;subst hu;have:xs'=#[]:=by
   have:=e.symm;simpa using this
  rw[this];rfl
 |_=>cases hu
theorem nq {ρ:Ren}{f:FuncId}{xs ys ys':Array Value}(hn:((P₀.funcs[f]?).map (·.ntmps)).getD 0=((P.funcs[f]?).map (·.ntmps)).getD 0)(e:Frame.enter P₀ f xs .normal=Frame.enter P₀ f ys .normal)(h:an ok ρ ys ys'):∃xs',an ok ρ xs xs'/\Frame.enter P f xs' .normal=Frame.enter P f ys' .normal:=by
 have et:=congrArg Frame.tmps e;simp only[Frame.enter]at et;rw[hn]at et;have hz:=h.size;have hT:an ok ρ (ys++Array.replicate (((P.funcs[f]?).map (·.ntmps)).getD 0-ys.size) undef) (ys'++Array.replicate (((P.funcs[f]?).map (·.ntmps)).getD 0-ys.size) undef):=h.append (an.replicate fu _);rw[<-et]at hT;generalize hm:((P.funcs[f]?).map (·.ntmps)).getD 0=n at et hT;generalize hT':ys'++Array.replicate (n-ys.size) undef=T' at hT;have hs:=hT.size;simp only[Array.size_append,Array.size_replicate]at hs;have hx:an ok ρ xs (T'.extract 0 xs.size):=by
  have:=hT.extract 0 xs.size;rw[Array.extract_append_left]at this;simpa using this
 refine⟨T'.extract 0 xs.size,hx,?_⟩;simp only[Frame.enter,hm,Frame.mk.injEq,true_and,and_true];rw[<-hz,hT',<-hx.size];refine Array.ext (by simp;omega) λi h1 h2=>?_
 by_cases hi:i<xs.size
 .rw[Array.getElem_append_left (by rw[<-hx.size];exact hi)];simp
 .rw[Array.getElem_append_right (by rw[<-hx.size];omega)];simp only[Array.getElem_replicate];have:=hT.at_ i undef T'[i] (by rw[Array.getElem?_append_right (by omega),Array.getElem?_replicate,if_pos (by omega)]) (Array.getElem?_eq_getElem h2);exact(xY this).symm
theorem Wk.beside (hP:bh P₀ P ok)(hN:∀f,ok.inn f=false->((P₀.funcs[f]?).map (·.ntmps)).getD 0=((P.funcs[f]?).map (·.ntmps)).getD 0){Inv:(Nat->Prop)->World->Prop}(hD:iK P ok Inv Dr){F:Nat->Prop}{W₀:World}(hInv:∀M W,(∀d,F d->M d)->aw F W₀ W->Inv M W){s:St}(h:Wk P₀ ok c Dr Q s):∀{ρ:Ren} {a:Goroutine} {gs:Array Goroutine} {M:Nat->Prop} {W:World} {sl:Option (Nat×Nat)} {t:Trace} {q:Nat->Nat} {Shun:Loc->Prop},
  aw F W₀ W->jG P₀ P ok ρ [c] [] (G s.fr (s.cs++[c])) a->aC ok true ρ (re s.V W.tape W.drawn) W->tY ρ M->bf P Shun none0 none0 M gs a W t q->(∀d,F d->M d/\((∀b,ρ b≠some d)\/∃b,ρ b=some d/\Ro s.V b))->
  ∃N gs' W' sl' t' q' Shun' M' σ,∃(s':St) (fr':Frame),runNT P N (crowd gs W sl) t=(.next (crowd gs' W' sl'),t')/\bf P Shun' none0 none0 M' gs' (G fr' []) W' t' q'/\
   ρ.le σ/\bK P ok σ s'.fr fr'/\aC ok true σ (re s'.V W'.tape W'.drawn) W'/\tY σ M'/\(∀τ d,oN P₀ Q (s'.re τ d))/\aw F W W'/\∃fn t,P₀.funcs[s'.fr.fn]?=some fn/\fn.results=#[.tmp t]:=by
 induction h with
 |@ends s he hres=>
  intro ρ a gs M W sl t q Shun hK hg hw ho hl hF;generalize hz:G s.fr (s.cs++[c])=z at hg;cases hg with
  |@inside fr fr' cs cs' a1 a2 a3=>
   have z1:=congrArg Goroutine.frame hz;have z2:=congrArg Goroutine.callers hz;simp only[G]at z1 z2;replace z2:=List.append_cancel_right z2;subst z1 z2;have hc0:s.cs=[]:=(he (λ_ _=>0) 0).1;rw[hc0]at a2;cases a2;exact⟨0,gs,W,sl,t,q,Shun,M,ρ,s,fr',rfl,hl,Ren.le_refl _,a1,hw,ho,he,aw.refl _ _,hres⟩
  |door a1 a2=>
   have z1:=congrArg Goroutine.frame hz;simp only[G]at z1;obtain⟨_,v,hl,_⟩:=he (λ_ _=>0) 0;have:=hl.1;have h2:s.fr.mode=.returning:=this;rw[z1]at h2;simp[Frame.enter]at h2
 |@step s f hi hk hgo hch ih=>
  intro ρ a gs M W sl t q Shun hK hg hw ho hl hF;generalize hz:G s.fr (s.cs++[c])=z at hg;cases hg with
  |@inside fr fr' cs cs' a1 a2 a3=>
   have z1:=congrArg Goroutine.frame hz;have z2:=congrArg Goroutine.callers hz;simp only[G]at z1 z2;replace z2:=List.append_cancel_right z2;subst z1 z2;let Stop:(Nat->Prop)->Goroutine->World->Prop:=λM' a' W₁=>∃σ τ d,ρ.le σ/\jG P₀ P ok σ [c] [] (G (f τ d).fr ((f τ d).cs++[c])) a'/\aC ok true σ (re (f τ d).V W₁.tape W₁.drawn) W₁/\tY σ M'/\aw F W W₁/\∀d',F d'->M' d'/\((∀b,σ b≠some d')\/∃b,σ b=some d'/\Ro (f τ d).V b)
   have hPT:PT P true (λ_=>True) Ph.noX none0 Stop (.node λ_=>.leaf) M (G fr' (cs'++[])) W:=by
    refine .inr ⟨rfl,λW₁ k _=>?_⟩;have hw₁:=hw.others ho k;obtain⟨es,hes⟩:=hgo W₁.tape W₁.drawn;obtain⟨σ,g2,W2,es2,e,hg2,hw2,hk2,hev⟩:=kC (lb:=[c]) (rb:=[]) (m₁:=true) hP a1 a2 a3 hw₁ (λx y z=>zN (c:=c) (s:=s.re W₁.tape W₁.drawn) hP.toSame hi hk ⟨x,y,z⟩ ⟨es,hes⟩) hes;have hh:kH ρ (re s.V W₁.tape W₁.drawn) M none0:=λb d hb=>.inl (ho b d hb)
    have hlt:∀b d,σ b=some d->d<W2.heap.size:=λb d hb=>(hw2.lt hb).2
    have ho2:tY σ (grow M W₁ W2):=λb d hb=>(hh.step hk2 hlt b d hb).elim id λx=>x.1.elim
    have hlF:∀d,F d->d<W.heap.size:=λd hd=>hl.lt d (.inl (hF d hd).1)
    have same:∀d,F d->W2.heap[d]?=W₁.heap[d]?:=λd hd=>by
     rcases(hF d hd).2 with x|⟨b,x,y⟩
     .exact hk2.keep d (Nat.lt_of_lt_of_le (hlF d hd) k.size) x
     .exact(hk2.ro b d x y).2
    have kF:aw F W W2:=⟨λd hd=>(same d hd).trans (k.block d (.inl (hF d hd).1)),Nat.le_trans k.size hk2.size,hk2.os.trans k.os,hk2.out.trans k.out⟩;have hF2:∀d,F d->grow M W₁ W2 d/\((∀b,σ b≠some d)\/∃b,σ b=some d/\Ro (f W₁.tape W₁.drawn).V b):=λd hd=>⟨.inl (hF d hd).1,by
     rcases(hF d hd).2 with y|⟨b,x,y⟩
     .refine .inl λb hb=>?_
      rcases hk2.new b d hb with x|⟨_,x⟩
      .exact y b x
      .have:=hlF d hd;have:=k.size;omega
     .refine .inr ⟨b,hk2.le _ _ x,?_⟩;have h1:=(hk2.ro b d x y).1;obtain⟨c1,c2,c3⟩:=y;exact⟨c1,c2,h1.trans c3⟩⟩
    refine⟨g2,W2,es2,e,hh.priv hk2 hlt hev,λW₂ k₂ _=>⟨σ,W₁.tape,W₁.drawn,hk2.le,hg2,?_,ho2,kF.trans (k₂.mono λd hd=>.inl (hF2 d hd).1),hF2⟩⟩;have:aC ok true σ (re (f W₁.tape W₁.drawn).V W2.tape W2.drawn) W2:=⟨hw2.heap,rfl,rfl,hw2.gV,hw2.gW⟩;exact this.others ho2 k₂
   obtain⟨N,gs',M',a',w',sl',t',q',h1,_,h3,h4,_⟩:=fk (λ_=>trivial) _ _ gs M _ W sl t q (Nat.le_refl _) hl hPT;obtain⟨σ,τ,d,g1,g2,g3,g4,g5,g6⟩:=h3 w' (aw.refl _ _) trivial;obtain⟨N2,gs2,W2,sl2,t2,q2,Shun2,M2,σ2,s2,fr2,i1,i2,i3,i4,i5,i6,i7,i8,i9⟩:=ih τ d (sl:=sl') (hK.trans g5) g2 g3 g4 h4 g6;exact⟨N+N2,gs2,W2,sl2,t2,q2,Shun2,M2,σ2,s2,fr2,dc i1 _ _ _ h1,i2,g1.trans i3,i4,i5,i6,i7,g5.trans i8,i9⟩
  |door a1 a2=>
   have z1:=congrArg Goroutine.frame hz;simp only[G]at z1;rw[z1]at hi;simp only[Frame.enter]at hi;rw[hi]at a2;cases a2
 |@door f xs fr cs V R hf hp hch ih=>
  intro ρ a gs M W sl t q Shun hK hg hw ho hl hF;generalize hz:G (Frame.enter P₀ f xs .normal) (fr::cs++[c])=z at hg;cases hg with
  |@inside fr1 fr' cs1 cs' a1 a2 a3=>
   have z1:=congrArg Goroutine.frame hz;simp only[G]at z1;have:=a1.inn;rw[<-z1]at this;simp only[Frame.enter]at this;rw[hf]at this;cases this
  |@door f1 ys ys' cs1 cs1' a1 a2 a3 a4 a5 a6=>
   have z1:=congrArg Goroutine.frame hz;have z2:=congrArg Goroutine.callers hz;simp only[G]at z1 z2;replace z2:=List.append_cancel_right z2;subst z2;have z3:=congrArg Frame.fn z1;simp only[Frame.enter]at z3;subst z3;obtain⟨xs',hx,hE⟩:=nq (ok:=ok) (ρ:=ρ) (hN _ hf) z1 a3;cases a4 with
   |@cons _ r0 _ rest b1 b2=>
    simp only[List.append_nil]at hl;rw[<-hE]at hl;obtain⟨N,gs1,W1,sl1,t1,q1,Shun1,M1,v',σ,v,V',e1,e2,e3,e4,e5,e6,e7,e8,e9,e10,e11⟩:=hD (sl:=sl) (hInv M W (λd hd=>(hF d hd).1) hK) hp hx hw ho hl;have hlF:∀d,F d->d<W.heap.size:=λd hd=>hl.lt d (.inl (hF d hd).1)
    have hF2:∀d,F d->M1 d/\((∀b,σ b≠some d)\/∃b,σ b=some d/\Ro V' b):=λd hd=>⟨e9 d (hF d hd).1,by
     rcases(hF d hd).2 with y|⟨b,x,y⟩
     .refine .inl λb hb=>?_
      rcases e10 b d hb with x|x
      .exact y b x
      .have:=hlF d hd;omega
     .refine .inr ⟨b,e3 _ _ x,?_⟩;have h1:=e11 b y;obtain⟨c1,c2,c3⟩:=y;exact⟨c1,c2,h1.trans c3⟩⟩
    have hb:lU (fr.finish v) cs:=by
     have:lU fr cs:=λg hg=>a6 g hg
     exact this.swap (by cases fr with|mk fn tmps todo defers mode kind roundOf=>cases todo with
      |nil=>rfl
      |cons x l=>cases x<;>first|rfl|(rename_i ops l2;cases l2<;>rfl))
    have hG:jG P₀ P ok σ [c] [] (G (fr.finish v) (cs++[c])) (G (r0.finish v') (rest++[])):=.inside ((b1.mono e3).finish e4) (b2.mono e3) hb;rw[List.append_nil]at hG;obtain⟨N2,gs2,W2,sl2,t2,q2,Shun2,M2,σ2,s2,fr2,i1,i2,i3,i4,i5,i6,i7,i8,i9⟩:=ih v V' e7 (sl:=sl1) (hK.trans (e8.mono λd hd=>(hF d hd).1)) hG e5 e6 e2 hF2;exact⟨N+N2,gs2,W2,sl2,t2,q2,Shun2,M2,σ2,s2,fr2,dc i1 _ _ _ e1,i2,e3.trans i3,i4,i5,i6,i7,(e8.mono λd hd=>(hF d hd).1).trans i8,i9⟩
end
end
section
open Go Go.Conc
section
variable [Gl]{P₀:Program}{ok:Ctx}{c:Frame}{Dr:FuncId->Array Value->World->(Value->World->Prop)->Prop}{Q:Value->World->Prop}
def oQ (P₀:Program)(ok:Ctx):Prop:=∀f xs cs V,ok.fn f=true->ok.inn f=false->∃o w es,stepG P₀ true (G (Frame.enter P₀ f xs .normal) cs) V=.ended o w es
def xZ (P₀:Program)(ok:Ctx)(s:St):Prop:=∃ρ f xs,s.fr=Frame.enter P₀ f xs .normal/\ok.fn f=true/\ok.inn f=false/\an ok ρ xs xs/\eo P₀ ok ρ s.cs s.cs/\aC ok true ρ s.V s.V/\∀f,s.cs.getLast?=some f->f.roundOf=none
theorem jW (hP:bh P₀ P₀ ok){s:St}(hs:cH P₀ ok s)(he:¬oO s){g2:Goroutine}{V2:World}{es:Array Event}(h:stepG P₀ true (G s.fr (s.cs++[c])) s.V=.go g2 V2 es):
  ∃s':St,g2=G s'.fr (s'.cs++[c])/\V2=s'.V/\(cH P₀ ok s'\/xZ P₀ ok s'):=by
 obtain⟨ρ,h1,h2,h3,h4⟩:=hs;obtain⟨σ,g2',W2,es2,e,hg,hw,_,_⟩:=kC (lb:=[c]) (rb:=[c]) (m₁:=true) hP h1 h2 h3 h4 (λa b=>λd=>he ⟨a,b,d⟩) h;rw[h]at e;simp only[GStep.go.injEq]at e;obtain⟨rfl,rfl,_⟩:=e;generalize hg2:g2=g2' at hg;have hg':jG P₀ P₀ ok σ [c] [c] g2 g2':=by rw[hg2]at*;exact hg
 clear hg;cases hg' with
 |@inside fr fr' cs cs' a1 a2 a3=>
  have e1:=congrArg Goroutine.frame hg2;have e2:=congrArg Goroutine.callers hg2;simp only[G]at e1 e2;have e2:cs=cs':=List.append_cancel_right e2;subst e1 e2;exact⟨⟨fr,cs,V2⟩,rfl,rfl,.inl ⟨σ,a1,a2,a3,hw⟩⟩
 |@door f xs xs' cs cs' a1 a2 a3 a4 a5 a6=>
  have e1:=congrArg Goroutine.frame hg2;have e2:=congrArg Goroutine.callers hg2;simp only[G]at e1 e2;have e2:cs=cs':=List.append_cancel_right e2;subst e2;refine⟨⟨Frame.enter P₀ f xs .normal,cs,V2⟩,by rw[e1],rfl,.inr ⟨σ,f,xs,rfl,a1,a2,?_,a4,hw,a6⟩⟩;have et:=congrArg Frame.tmps e1;simp only[Frame.enter]at et;rw[<-a3.size]at et;have:xs=xs':=(Array.append_inj et (by first|exact a3.size|exact a3.size.symm)).1|>λh=>by first|exact h|exact h.symm
  rw[<-this]at a3;exact a3
section
variable {Tgt:St->Prop}
def mz (P₀:Program)(c:Frame)(Tgt:St->Prop):Nat->St->Prop
 |0,s=>Tgt s
 |n+1,s=>¬Tgt s/\∃s',cq P₀ c s s'/\mz P₀ c Tgt n s'
theorem mz.nodoor (hSh:oQ P₀ ok)(hI:∀s,Tgt s->ok.inn s.fr.fn=true){n:Nat}{s:St}(h:mz P₀ c Tgt n s)(hd:xZ P₀ ok s):False:=by
 obtain⟨ρ,f,xs,e,h1,h2,_⟩:=hd;cases n with
 |zero=>
  have:=hI s h;rw[e]at this;simp only[Frame.enter]at this;rw[h2]at this;cases this
 |succ n=>
  obtain⟨_,s',⟨es,hg⟩,_⟩:=h;obtain⟨o,w,es',hx⟩:=hSh f xs (s.cs++[c]) s.V h1 h2;rw[e,hx]at hg;cases hg
theorem cq.self2 (hP:bh P₀ P₀ ok)(hSh:oQ P₀ ok)(hI:∀s,Tgt s->ok.inn s.fr.fn=true){s s':St}(hs:cH P₀ ok s)(h:cq P₀ c s s'){n:Nat}(hf:∃τ d,mz P₀ c Tgt n (s'.re τ d)):cH P₀ ok s':=by
 have hi:=h.inside hP hs;obtain⟨es,h⟩:=h;obtain⟨s2,e1,e2,h2⟩:=jW hP hs hi h;obtain⟨fr,cs,V⟩:=s';obtain⟨fr2,cs2,V2⟩:=s2;have e3:=congrArg Goroutine.frame e1;have e4:=congrArg Goroutine.callers e1;simp only[G]at e3 e4 e2;have e4:cs=cs2:=List.append_cancel_right e4;subst e3 e4 e2;rcases h2 with h2|h2
 .exact h2
 .obtain⟨τ,d,hf⟩:=hf;exfalso;refine hf.nodoor hSh hI ?_;obtain⟨ρ,f,xs,a1,a2,a3,a4,a5,a6,a7⟩:=h2;exact⟨ρ,f,xs,a1,a2,a3,a4,a5,⟨a6.heap,rfl,rfl,a6.gV,a6.gW⟩,a7⟩
theorem mz.shift (hP:bh P₀ P₀ ok)(hSh:oQ P₀ ok)(hI:∀s,Tgt s->ok.inn s.fr.fn=true)(hT:∀s τ d,Tgt s->Tgt (s.re τ d)):∀(n:Nat) {s:St},cH P₀ ok s->mz P₀ c Tgt n s->∀τ d,(∀i q,s.V.tape (s.V.drawn+i) q=τ (d+i) q)->mz P₀ c Tgt n (s.re τ d):=by
 intro n;induction n with
 |zero=>intro s hs h τ d _;exact hT s τ d h
 |succ n ih=>
  intro s hs h τ d hA;obtain⟨h0,s',h1,h2⟩:=h;obtain⟨k1,k2,k3⟩:=h1.sh hP hs;refine⟨λh=>h0 (hT (s.re τ d) s.V.tape s.V.drawn h),_,k3 τ d (λi _ q=>hA i q),ih (h1.self2 hP hSh hI hs ⟨s'.V.tape,s'.V.drawn,h2⟩) h2 τ _ λi q=>?_⟩;rw[k2];have:=hA (s'.V.drawn-s.V.drawn+i) q;rw[show s.V.drawn+(s'.V.drawn-s.V.drawn+i)=s'.V.drawn+i by omega]at this;rw[this];congr 1;omega
def HT (P₀:Program)(c:Frame)(Tgt:St->Prop)(s:St):Prop:=∀τ d,∃n,mz P₀ c Tgt n (s.re τ d)
theorem HT.succ (hP:bh P₀ P₀ ok)(hSh:oQ P₀ ok)(hI:∀s,Tgt s->ok.inn s.fr.fn=true)(hT:∀s τ d,Tgt s->Tgt (s.re τ d)){s s':St}(hs:cH P₀ ok s)(hH:HT P₀ c Tgt s)(h0:¬Tgt s){τ:Nat->Question->Nat}{d:Nat}(h:cq P₀ c (s.re τ d) s'):HT P₀ c Tgt s'/\cH P₀ ok s':=by
 have hs1:=hs.re τ d;obtain⟨k1,k2,k3⟩:=h.sh hP hs1;have k1':d<=s'.V.drawn:=k1;have key:∀(τ':Nat->Question->Nat) (d':Nat),∃n t2,mz P₀ c Tgt n (s'.re t2 s'.V.drawn)/\∀i q,t2 (s'.V.drawn+i) q=τ' (d'+i) q:=by
  intro τ' d';let t2:Nat->Question->Nat:=λi q=>if i<s'.V.drawn then τ i q else τ' (d'+(i-s'.V.drawn)) q
  have hA:fB (s.re τ d).V.tape (s.re τ d).V.drawn t2 d (s'.V.drawn-(s.re τ d).V.drawn):=by
   intro i hi q;show τ (d+i) q=t2 (d+i) q;simp only[t2];have hi':i<s'.V.drawn-d:=hi;rw[if_pos (by omega)]
  have h2:=k3 t2 d hA;obtain⟨n,hn⟩:=hH t2 d;have e1:(s.re τ d).re t2 d=s.re t2 d:=rfl;rw[e1]at h2;cases n with
  |zero=>exact absurd (hT (s.re t2 d) s.V.tape s.V.drawn hn) h0
  |succ n=>
   obtain⟨_,s2,g1,g2⟩:=hn;have:=g1.det h2;subst this;have e2:d+(s'.V.drawn-(s.re τ d).V.drawn)=s'.V.drawn:=by show d+(s'.V.drawn-d)=_;omega
   rw[e2]at g2;refine⟨n,t2,g2,λi q=>?_⟩;simp only[t2];rw[if_neg (by omega)];congr 1;omega
 have hself:cH P₀ ok s':=by
  obtain⟨n,t2,h2,_⟩:=key τ d;exact h.self2 hP hSh hI hs1 ⟨_,_,h2⟩
 refine⟨λτ' d'=>?_,hself⟩;obtain⟨n,t2,h2,h3⟩:=key τ' d';exact⟨n,mz.shift hP hSh hI hT n (hself.re t2 s'.V.drawn) h2 τ' d' h3⟩
def Cr (P₀:Program)(c:Frame)(Tgt:St->Prop)(s' s:St):Prop:=¬Tgt s/\∃τ d,cq P₀ c (s.re τ d) s'
omit [Gl] in
theorem x9 {α:Type}{r:α->α->Prop}{s:α}(h:¬Acc r s):∃f:Nat->α,f 0=s/\∀n,r (f (n+1)) (f n):=by
 have step:∀s:{s:α //¬Acc r s},∃s':{s:α //¬Acc r s},r s'.1 s.1:=by
  intro ⟨s,hs⟩;apply Classical.byContradiction;intro hn;apply hs;refine⟨_,λy hy=>?_⟩;apply Classical.byContradiction;intro hy';exact hn ⟨⟨y,hy'⟩,hy⟩
 let g:Nat->{s:α //¬Acc r s}:=λn=>Nat.rec ⟨s,h⟩ (λ_ x=>(step x).choose) n
 exact⟨λn=>(g n).1,rfl,λn=>(step (g n)).choose_spec⟩
theorem vX (hP:bh P₀ P₀ ok)(hSh:oQ P₀ ok)(hI:∀s,Tgt s->ok.inn s.fr.fn=true)(hT:∀s τ d,Tgt s->Tgt (s.re τ d)){s:St}(hs:cH P₀ ok s)(hH:HT P₀ c Tgt s):Acc (Cr P₀ c Tgt) s:=by
 apply Classical.byContradiction;intro hn;obtain⟨f,f0,hf⟩:=x9 hn;have all:∀n,HT P₀ c Tgt (f n)/\cH P₀ ok (f n):=by
  intro n;induction n with
  |zero=>rw[f0];exact⟨hH,hs⟩
  |succ n ih=>obtain⟨h0,τ,d,h⟩:=hf n;exact HT.succ hP hSh hI hT ih.2 ih.1 h0 h
 let τ:Nat->Nat->Question->Nat:=λn=>(hf n).2.choose
 let d:Nat->Nat:=λn=>(hf n).2.choose_spec.choose
 have g:∀n,cq P₀ c ((f n).re (τ n) (d n)) (f (n+1)):=λn=>(hf n).2.choose_spec.choose_spec
 let D:Nat->Nat:=λn=>Nat.rec 0 (λn x=>x+((f (n+1)).V.drawn-d n)) n
 have hD:∀n,D (n+1)=D n+((f (n+1)).V.drawn-d n):=λn=>rfl
 obtain⟨T,hT'⟩:=rQ D (λn=>by rw[hD];omega) (λn j q=>τ n (d n+j) q);have go:∀n,cq P₀ c ((f n).re T (D n)) ((f (n+1)).re T (D (n+1))):=by
  intro n;obtain⟨_,_,k3⟩:=(g n).sh hP ((all n).2.re (τ n) (d n));have:=k3 T (D n) (λi hi q=>by
   show τ n (d n+i) q=T (D n+i) q;have hi':i<(f (n+1)).V.drawn-d n:=hi;rw[hT' n i q (by rw[hD];omega)])
  rw[hD];exact this
 have none_:∀N n,¬mz P₀ c Tgt N ((f n).re T (D n)):=by
  intro N;induction N with
  |zero=>intro n h;exact(hf n).1 (hT ((f n).re T (D n)) (f n).V.tape (f n).V.drawn h)
  |succ N ih=>
   intro n h;obtain⟨_,s',h1,h2⟩:=h;have:=h1.det (go n);subst this;exact ih (n+1) h2
 obtain⟨N,hN⟩:=hH T 0;rw[<-f0]at hN;exact none_ N 0 hN
theorem yd (hP:bh P₀ P₀ ok)(hSh:oQ P₀ ok)(hI:∀s,Tgt s->ok.inn s.fr.fn=true)(hT:∀s τ d,Tgt s->Tgt (s.re τ d))(hW:∀s,Tgt s->cH P₀ ok s->Wk P₀ ok c Dr Q s){s:St}(hs:cH P₀ ok s)(hH:HT P₀ c Tgt s):Wk P₀ ok c Dr Q s:=by
 have ha:=vX hP hSh hI hT hs hH;induction ha with
 |intro s _ ih=>
  by_cases h0:Tgt s
  .exact hW s h0 hs
  have key:∀τ d,∃s',cq P₀ c (s.re τ d) s':=by
   intro τ d;obtain⟨n,hn⟩:=hH τ d;cases n with
   |zero=>exact absurd (hT (s.re τ d) s.V.tape s.V.drawn hn) h0
   |succ n=>obtain⟨_,s',h1,_⟩:=hn;exact⟨s',h1⟩
  have hk:ok.inn s.fr.fn=true/\s.fr.kind=.normal:=by obtain⟨ρ,h1,_⟩:=hs;exact⟨h1.inn,h1.kind⟩
  refine .step (λτ d=>(key τ d).choose) hk.1 hk.2 (λτ d=>(key τ d).choose_spec) λτ d=>?_
  have:=HT.succ hP hSh hI hT hs hH h0 (key τ d).choose_spec;exact ih _ ⟨h0,τ,d,(key τ d).choose_spec⟩ this.2 this.1
theorem rV (hP:bh P₀ P₀ ok)(hSh:oQ P₀ ok)(hI:∀s,Tgt s->ok.inn s.fr.fn=true)(hF:eI P₀ c){s1:St}(ht:Tgt s1):
  ∀(n:Nat) {s:St},cH P₀ ok s->runN P₀ n (lone s.fr (s.cs++[c]) s.V)=.next (lone s1.fr (s1.cs++[c]) s1.V)->∃k,mz P₀ c Tgt k s:=by
 intro n;induction n with
 |zero=>
  intro s hs h;simp only[runN,Stepped.next.injEq]at h;obtain⟨e1,e2,e3⟩:=iI h;have e2:s.cs=s1.cs:=List.append_cancel_right e2;have:s=s1:=by
   obtain⟨a,b,d⟩:=s;obtain⟨a1,b1,d1⟩:=s1;simp only at e1 e2 e3;rw[e1,e2,e3]
  exact⟨0,this▸ht⟩
 |succ n ih=>
  intro s hs h;by_cases h0:Tgt s
  .exact⟨0,h0⟩
  obtain⟨ρ,h1,h2,h3,h4⟩:=hs;have hs:cH P₀ ok s:=⟨ρ,h1,h2,h3,h4⟩;have hk:(∃g2 V2 es,stepG P₀ true (G s.fr (s.cs++[c])) s.V=.go g2 V2 es)\/∃o w es,stepG P₀ true (G s.fr (s.cs++[c])) s.V=.ended o w es:=by
   cases hcs:s.cs++[c]with
   |nil=>simp at hcs
   |cons a l=>exact(qv (m:=true) (c:=a) (cs:=l) hP h1 h4).1
  simp only[runN]at h;rcases hk with⟨g2,V2,es,hg⟩|⟨o,w,es,hg⟩
  .by_cases he:oO s
   .exfalso;have fin:∀fr2,g2=G fr2 []->(∀w,∃o w' es,stepG P₀ true (G fr2 []) w=.ended o w' es)->False:=by
     intro fr2 e hend;subst e;rw[gY hg]at h;simp only at h;cases n with
     |zero=>
      simp only[runN,Stepped.next.injEq]at h;obtain⟨_,e2,_⟩:=iI h;simp at e2
     |succ n=>
      obtain⟨o,w',es',hh⟩:=hend V2;simp only[runN,dl hh]at h;cases h
    rcases lu hP hs he hg with⟨v,e⟩|⟨ch,e⟩
    .exact fin _ e (hF.ret v)
    .exact fin _ e (hF.pan ch)
   .obtain⟨s',e1,e2,h5⟩:=jW hP hs he hg;subst e1 e2;rw[gY hg]at h;rcases h5 with h5|h5
    .obtain⟨k,hk⟩:=ih h5 h;exact⟨k+1,h0,s',⟨es,hg⟩,hk⟩
    .exfalso;obtain⟨ρ',f,xs,x1,x2,x3,_⟩:=h5;simp only at h;cases n with
     |zero=>
      simp only[runN,Stepped.next.injEq]at h;obtain⟨y1,_,_⟩:=iI h;have:=hI s1 ht;rw[<-y1,x1]at this;simp only[Frame.enter]at this;rw[x3]at this;cases this
     |succ n=>
      obtain⟨o,w',es',hh⟩:=hSh f xs (s'.cs++[c]) s'.V x2 x3;rw[x1]at h;simp only[runN,dl hh]at h;cases h
  .rw[dl hg]at h;cases h
end
variable (P₀ ok c Dr Q)in
def ar (s:St):Prop:=∀τ d,cH P₀ ok (s.re τ d)->Wk P₀ ok c Dr Q (s.re τ d)
def iL (ok:Ctx)(Dr:FuncId->Array Value->World->(Value->World->Prop)->Prop):Prop:=∀{f:FuncId} {xs:Array Value} {V V':World} {v:Value} {ρ:Ren} {R:Value->World->Prop},Dr f xs V R->R v V'->an ok ρ xs xs->aC ok true ρ V V->∃σ,ρ.le σ/\ah ok σ v v/\aC ok true σ V' V'
theorem ar.of_steps (hP:bh P₀ P₀ ok)(hSh:oQ P₀ ok)(hF:eI P₀ c){s:St}(Good:St->Prop)(hI:∀s1,Good s1->ok.inn s1.fr.fn=true)
  (h:∀τ d,∃s1,Good s1/\Steps P₀ (lone s.fr (s.cs++[c]) (re s.V τ d)) (lone s1.fr (s1.cs++[c]) s1.V))(hW:∀s1,Good s1->ar P₀ ok c Dr Q s1):ar P₀ ok c Dr Q s:=by
 intro τ d hs;refine yd (Tgt:=λs1=>∃s0 τ d,Good s0/\s1=s0.re τ d) hP hSh ?_ ?_ ?_ hs ?_
 .rintro _ ⟨s0,τ,d,hg,rfl⟩;exact hI s0 hg
 .rintro _ τ' d' ⟨s0,τ,d,hg,rfl⟩;exact⟨s0,τ',d',hg,rfl⟩
 .rintro _ ⟨s0,τ,d,hg,rfl⟩ hs;exact hW s0 hg τ d hs
 .intro τ' d';obtain⟨s1,hg,n,hn⟩:=h τ' d';exact rV (s1:=s1) hP hSh (by rintro _ ⟨s0,τ,d,hg,rfl⟩;exact hI s0 hg) hF ⟨s1,s1.V.tape,s1.V.drawn,hg,rfl⟩ n (hs.re τ' d') hn
theorem ar.door (hP:bh P₀ P₀ ok)(hDS:iL ok Dr){s:St}{f:FuncId}{xs:Array Value}(hf:ok.inn f=false)(hgo:∀τ d,cq P₀ c (s.re τ d) ⟨Frame.enter P₀ f xs .normal,s.fr::s.cs,re s.V τ d⟩)
  {R:(Nat->Question->Nat)->Nat->Value->World->Prop}(hp:∀τ d,Dr f xs (re s.V τ d) (R τ d))(h:∀τ d v V',R τ d v V'->ar P₀ ok c Dr Q ⟨s.fr.finish v,s.cs,V'⟩):ar P₀ ok c Dr Q s:=by
 intro τ d hs;have hk:ok.inn s.fr.fn=true/\s.fr.kind=.normal:=by obtain⟨ρ,h1,_⟩:=hs;exact⟨h1.inn,h1.kind⟩
 refine .step (s:=s.re τ d) (λτ' d'=>⟨Frame.enter P₀ f xs .normal,s.fr::s.cs,re s.V τ' d'⟩) hk.1 hk.2 hgo λτ' d'=>.door hf (hp τ' d') λv V' hD=>?_
 have hs':=hs.re τ' d';obtain⟨es,hg⟩:=hgo τ' d';obtain⟨s2,e1,e2,h2⟩:=jW (s:=s.re τ' d') (c:=c) hP hs' (cq.inside hP hs' ⟨es,hg⟩) hg;obtain⟨fr2,cs2,V2⟩:=s2;have e3:=congrArg Goroutine.frame e1;have e4:=congrArg Goroutine.callers e1;simp only[G]at e3 e4 e2;have e4:s.fr::s.cs=cs2:=List.append_cancel_right e4;subst e3 e4 e2;refine h τ' d' v V' hD V'.tape V'.drawn ?_;rcases h2 with⟨ρ,x1,_⟩|⟨ρ,f',xs',x1,x2,x3,x4,x5,x6,x7⟩
 .exfalso;have:=x1.inn;simp only[Frame.enter]at this;rw[hf]at this;cases this
 .have x1:Frame.enter P₀ f xs .normal=Frame.enter P₀ f' xs' .normal:=x1;have hff:=congrArg Frame.fn x1;simp only[Frame.enter]at hff;subst hff;obtain⟨xs2,y1,y2⟩:=nq (ok:=ok) (ρ:=ρ) rfl x1 x4;have hxx:an ok ρ xs xs:=by
   have et:=congrArg Frame.tmps (y2.trans x1.symm);simp only[Frame.enter]at et;rw[<-y1.size]at et;have:xs2=xs:=(Array.append_inj et y1.size.symm).1;rw[this]at y1;exact y1
  obtain⟨σ,z1,z2,z3⟩:=hDS (hp τ' d') hD hxx x6;cases x5 with
  |cons b1 b2=>
   refine⟨σ,(b1.mono z1).finish z2,b2.mono z1,?_,z3⟩;have:lU s.fr s.cs:=λg hg=>x7 g hg
   exact this.swap (by
    show(s.fr.finish v).roundOf=s.fr.roundOf;cases s.fr with|mk fn tmps todo defers mode kind roundOf=>cases todo with
     |nil=>rfl
     |cons x l=>cases x<;>first|rfl|(rename_i ops l2;cases l2<;>rfl))
theorem ar.ends {s:St}(h:∀τ d,oN P₀ Q (s.re τ d))(hr:∃fn t,P₀.funcs[s.fr.fn]?=some fn/\fn.results=#[.tmp t]):ar P₀ ok c Dr Q s:=λ_ _ _=>.ends h hr
end
end
end Go.Proofs.YtlmcblcijndipabGreatDoor
