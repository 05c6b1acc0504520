import Derived.Test.YtlmcblcijndipabGreatDoorDr04
set_option linter.unusedSimpArgs false
set_option maxHeartbeats 8000000
set_option maxRecDepth 100000
namespace Go.Proofs.YtlmcblcijndipabGreatDoor
open Go Go.Conc Go.RowKit Go.Conc.Lib Go.ConcR.Gen
open Go.ConcN (WgLive)
open Go.ConcR (KK WgAt stA smA rd wr)
namespace Ph
variable {p:Ph}{M Ro:Nat->Prop}
theorem keep_set {S:Nat->Prop}{w:World}{a:Addr}{v:Value}(h:¬S a.block):aw S w (w.setCell a v):=
 ⟨λb hb=>Below.heap_setCell w a v b (λe=>h (e▸hb)),Nat.le_of_eq (aside_setCell w a v).size.symm,rfl,rfl⟩
variable {L:WgLink}{k:Nat}{Next:(Nat->Prop)->(Nat->Prop)->Goroutine->World->Prop}{b₀:Frame}{a₀:Act}{ops₀:Array Oper}{i₀:Nat}{rest₀:List Nat}{k₀:List Item}{cs:List Frame}{w₀:World}
theorem addPos (H:WgLib p.P L)(hW:¬(M p.Wg\/Ro p.Wg))
  (hT:∀w,aw (λb=>M b\/Ro b) w₀ w->ET p.P true p.I p.saidX Ro (p.AtGo Ro k Next) M (G (b₀.at (a₀.put ((ops₀[i₀]?).bind (·.dst)) (.tuple #[])) (.inRegion ops₀ rest₀::k₀)) cs) w):
  ET p.P true p.I p.saidX Ro (p.AtKdS Ro k Next) M
   (G ((base L.add).at ⟨#[.pointer (some ⟨p.Wg,0,none⟩),.int .i64 1,undef,undef,undef,undef,undef,undef,undef,undef,undef,undef,undef,undef,undef,undef,undef,undef,undef,undef,undef,undef,undef,undef,undef,undef,undef,undef,undef,undef,undef,undef,undef,undef,undef,undef,undef,undef,undef,undef,undef,undef,undef,undef,undef,undef,undef,undef,undef,undef,undef,undef,undef,undef,undef,undef,undef,undef,undef,undef,undef,undef,undef,undef,undef,undef,undef,undef,undef,undef,undef,undef,undef,undef,undef,undef,undef,undef,undef,undef,undef,undef,undef,undef,undef,undef,undef,undef,undef,undef,undef,undef,undef,undef,undef,undef,undef,undef,undef,undef,undef,undef,undef,undef,undef,undef,undef,undef,undef,undef,undef,undef,undef,undef,undef,undef,undef],[]⟩ [.code (body_add L)]) (b₀.at a₀ (.inRegion ops₀ (i₀::rest₀)::k₀)::cs)) w₀:=by
 lib_facts
 simp only[body_add,addFn,Option.getD_some];refine ET.c (λ_=>stepG_seq) ?_;refine ET.condT rfl ?_;refine ET.c (λ_=>stepG_seq) ?_;refine ET.c (λ_=>stepG_seq) ?_
 (refine ET.c (λ_=>stepG_region) ?_;simp only[List.size_toArray,List.length_cons,List.length_nil,Nat.reduceAdd,Nat.zero_add,List.range,List.range.loop])
 iterate 2 (refine ET.k rfl (λ_ _ _=>?_);refine goes_oper_k rfl rfl (by k_ne) (λK hK=>?_);go_simp;refine hK _ _ ⟨⟨rfl,λe he=>(by have hm:=mem_listed he;simp[go_sem, *]at hm)⟩,?_⟩;clear hK K;try w_num)
 refine ET.c (λ_=>stepG_region_end) ?_;refine ET.condF rfl ?_;refine ET.c (λ_=>stepG_skip) ?_;refine ET.c (λ_=>stepG_seq) ?_
 (refine ET.c (λ_=>stepG_region) ?_;simp only[List.size_toArray,List.length_cons,List.length_nil,Nat.reduceAdd,Nat.zero_add,List.range,List.range.loop])
 refine ET.stop λw₁ k₁ _=>?_
 refine⟨rfl,_,stepG_mark0 .disable (by simp) rfl rfl (by k_ne) rfl H.f_disable (x_disable_n L) (x_disable_b L) (x_disable_x L) (x_disable_f L),?_⟩;walk_nrm
 refine ET.c (λ_=>stepG_region_end) ?_
 (refine ET.c (λ_=>stepG_region) ?_;simp only[List.size_toArray,List.length_cons,List.length_nil,Nat.reduceAdd,Nat.zero_add,List.range,List.range.loop])
 (refine ET.c (λ_=>stepG_defer rfl rfl (by k_ne) rfl) ?_;walk_nrm)
 refine ET.c (λ_=>stepG_region_end) ?_;refine ET.c (λ_=>stepG_seq) ?_
 (refine ET.c (λ_=>stepG_region) ?_;simp only[List.size_toArray,List.length_cons,List.length_nil,Nat.reduceAdd,Nat.zero_add,List.range,List.range.loop])
 (refine ET.k rfl (λ_ _ _=>?_);refine goes_oper_k rfl rfl (by k_ne) (λK hK=>?_);go_simp;refine hK _ _ ⟨⟨rfl,λe he=>(by have hm:=mem_listed he;simp[go_sem, *]at hm)⟩,?_⟩;clear hK K;try w_num)
 refine ET.c (λ_=>stepG_region_end) ?_;refine ET.c (λ_=>stepG_seq) ?_;refine ET.c (λ_=>stepG_seq) ?_
 (refine ET.c (λ_=>stepG_region) ?_;simp only[List.size_toArray,List.length_cons,List.length_nil,Nat.reduceAdd,Nat.zero_add,List.range,List.range.loop])
 (refine ET.c (λ_=>stepG_entry_pure (.bool false) rfl rfl (by k_ne) rfl H.f_inBubble (x_inBubble_n L) (x_inBubble_b L) (x_inBubble_x L) (x_inBubble_f L)) ?_;walk_nrm)
 refine ET.c (λ_=>stepG_region_end) ?_;refine ET.condF rfl ?_;refine ET.c (λ_=>stepG_skip) ?_;refine ET.c (λ_=>stepG_seq) ?_
 (refine ET.c (λ_=>stepG_region) ?_;simp only[List.size_toArray,List.length_cons,List.length_nil,Nat.reduceAdd,Nat.zero_add,List.range,List.range.loop])
 iterate 6 (refine ET.k rfl (λ_ _ _=>?_);refine goes_oper_k rfl rfl (by k_ne) (λK hK=>?_);go_simp;refine hK _ _ ⟨⟨rfl,λe he=>(by have hm:=mem_listed he;simp[go_sem, *]at hm)⟩,?_⟩;clear hK K;try w_num)
 (refine ET.k rfl (λ_ _ _=>goes_call rfl rfl (by k_ne) rfl H.f_uAdd (nm_uAdd L) rfl ⟨⟨rfl,λe he=>(by simp at he)⟩,?_⟩);walk_nrmf uAddFn)
 refine ET.c (λ_=>stepG_seq) ?_
 (refine ET.c (λ_=>stepG_region) ?_;simp only[List.size_toArray,List.length_cons,List.length_nil,Nat.reduceAdd,Nat.zero_add,List.range,List.range.loop])
 (refine ET.k rfl (λ_ _ _=>?_);refine goes_oper_k rfl rfl (by k_ne) (λK hK=>?_);go_simp;refine hK _ _ ⟨⟨rfl,λe he=>(by have hm:=mem_listed he;simp[go_sem, *]at hm)⟩,?_⟩;clear hK K;try w_num)
 refine ET.c (λ_=>stepG_region_end) ?_;refine ET.c (λ_=>stepG_seq) ?_
 (refine ET.c (λ_=>stepG_region) ?_;simp only[List.size_toArray,List.length_cons,List.length_nil,Nat.reduceAdd,Nat.zero_add,List.range,List.range.loop])
 iterate 4 (refine ET.k rfl (λ_ _ _=>?_);refine goes_oper_k rfl rfl (by k_ne) (λK hK=>?_);go_simp;refine hK _ _ ⟨⟨rfl,λe he=>(by have hm:=mem_listed he;simp[go_sem, *]at hm)⟩,?_⟩;clear hK K;try w_num)
 refine ET.stop λw₂ k₂ _=>?_
 refine⟨rfl,λv hv hw=>?_⟩;rcases Nat.eq_zero_or_pos v with rfl|hvp
 ·
  replace hw:WgAt p.ty p.Wg w₂ 0 0:=by simpa using hw
  have z:(((0:Nat):Int)+1)*KK=KK:=by simp
  rw[z];have e0:IntKind.u64.wrap (0+4294967296)=KK:=by decide
  refine⟨_,(stepG_add_atomic rfl rfl (by k_ne) rfl H.f_addU64 (x_addU64_n L) (x_addU64_b L) (x_addU64_x L) .u64 (x_addU64_f L) rfl rfl hw.cellSt (hw.thaw 0)).trans (by rw[e0];rfl),?_⟩;have hK:aw (λb=>M b\/Ro b) w₀ (w₂.setCell (stA p.Wg) (.int .u64 KK)):=k₁.trans (k₂.trans (keep_set hW));clear hw z e0;simp only[KK]at hK⊢;walk_nrm
  (refine ET.k rfl (λ_ _ _=>?_);refine goes_oper_k rfl rfl (by k_ne) (λK hK=>?_);go_simp;refine hK _ _ ⟨⟨rfl,λe he=>(by have hm:=mem_listed he;simp[go_sem, *]at hm)⟩,?_⟩;clear hK K;try w_num)
  refine ET.c (λ_=>stepG_region_end) ?_;refine ET.c (λ_=>stepG_ret') ?_
  (refine ET.k rfl (λ_ _ _=>goes_leave1 rfl rfl H.f_uAdd rfl ⟨⟨rfl,λe he=>(by simp at he)⟩,?_⟩);walk_nrm)
  (refine ET.k rfl (λ_ _ _=>?_);refine goes_oper_k rfl rfl (by k_ne) (λK hK=>?_);go_simp;refine hK _ _ ⟨⟨rfl,λe he=>(by have hm:=mem_listed he;simp[go_sem, *]at hm)⟩,?_⟩;clear hK K;try w_num)
  refine ET.c (λ_=>stepG_region_end) ?_;refine ET.c (λ_=>stepG_seq) ?_;refine ET.c (λ_=>stepG_seq) ?_
  (refine ET.c (λ_=>stepG_region) ?_;simp only[List.size_toArray,List.length_cons,List.length_nil,Nat.reduceAdd,Nat.zero_add,List.range,List.range.loop])
  iterate 4 (refine ET.k rfl (λ_ _ _=>?_);refine goes_oper_k rfl rfl (by k_ne) (λK hK=>?_);go_simp;refine hK _ _ ⟨⟨rfl,λe he=>(by have hm:=mem_listed he;simp[go_sem, *]at hm)⟩,?_⟩;clear hK K;try w_num)
  iterate 2 (refine ET.c (λ_=>stepG_unwanted rfl rfl) ?_;walk_nrm)
  (refine ET.k rfl (λ_ _ _=>?_);refine goes_oper_k rfl rfl (by k_ne) (λK hK=>?_);go_simp;refine hK _ _ ⟨⟨rfl,λe he=>(by have hm:=mem_listed he;simp[go_sem, *]at hm)⟩,?_⟩;clear hK K;try w_num)
  refine ET.c (λ_=>stepG_region_end) ?_;refine ET.condF rfl ?_;refine ET.c (λ_=>stepG_skip) ?_;refine ET.c (λ_=>stepG_seq) ?_
  (refine ET.c (λ_=>stepG_region) ?_;simp only[List.size_toArray,List.length_cons,List.length_nil,Nat.reduceAdd,Nat.zero_add,List.range,List.range.loop])
  iterate 4 (refine ET.k rfl (λ_ _ _=>?_);refine goes_oper_k rfl rfl (by k_ne) (λK hK=>?_);go_simp;refine hK _ _ ⟨⟨rfl,λe he=>(by have hm:=mem_listed he;simp[go_sem, *]at hm)⟩,?_⟩;clear hK K;try w_num)
  refine ET.c (λ_=>stepG_region_end) ?_;refine ET.c (λ_=>stepG_seq) ?_
  (refine ET.c (λ_=>stepG_region) ?_;simp only[List.size_toArray,List.length_cons,List.length_nil,Nat.reduceAdd,Nat.zero_add,List.range,List.range.loop])
  iterate 4 (refine ET.k rfl (λ_ _ _=>?_);refine goes_oper_k rfl rfl (by k_ne) (λK hK=>?_);go_simp;refine hK _ _ ⟨⟨rfl,λe he=>(by have hm:=mem_listed he;simp[go_sem, *]at hm)⟩,?_⟩;clear hK K;try w_num)
  refine ET.c (λ_=>stepG_region_end) ?_;refine ET.c (λ_=>stepG_seq) ?_;refine ET.c (λ_=>stepG_seq) ?_
  (refine ET.c (λ_=>stepG_region) ?_;simp only[List.size_toArray,List.length_cons,List.length_nil,Nat.reduceAdd,Nat.zero_add,List.range,List.range.loop])
  iterate 10 (refine ET.k rfl (λ_ _ _=>?_);refine goes_oper_k rfl rfl (by k_ne) (λK hK=>?_);go_simp;refine hK _ _ ⟨⟨rfl,λe he=>(by have hm:=mem_listed he;simp[go_sem, *]at hm)⟩,?_⟩;clear hK K;try w_num)
  refine ET.c (λ_=>stepG_region_end) ?_;refine ET.condT rfl ?_
  (refine ET.c (λ_=>stepG_region) ?_;simp only[List.size_toArray,List.length_cons,List.length_nil,Nat.reduceAdd,Nat.zero_add,List.range,List.range.loop])
  iterate 3 (refine ET.k rfl (λ_ _ _=>?_);refine goes_oper_k rfl rfl (by k_ne) (λK hK=>?_);go_simp;refine hK _ _ ⟨⟨rfl,λe he=>(by have hm:=mem_listed he;simp[go_sem, *]at hm)⟩,?_⟩;clear hK K;try w_num)
  (refine ET.k rfl (λ_ _ iW=>?_);refine goes_oper_k rfl rfl (by k_ne) (λKx hKx=>?_);have hcv:=run_convert_to_unsafe (P:=p.P) H.underlying_tPU32 H.underlying_tUP H.room_tU32 (Go.ConcN.Gen.WgLive.cell1 iW.1).choose_spec;have hce:=λes=>events_convert_to_unsafe (P:=p.P) H.underlying_tPU32 H.underlying_tUP H.room_tU32 (Go.ConcN.Gen.WgLive.cell1 iW.1).choose_spec es;go_simp;refine hKx _ _ ⟨⟨rfl,λex hex=>(by have hmx:=mem_listed hex;simp[go_sem,hce]at hmx)⟩,?_⟩;clear hKx Kx hcv hce)
  refine ET.k rfl (λ_ _ _=>?_);rw[stepG_markAt .read (by simp) rfl rfl (by k_ne) rfl H.f_raceRead (x_raceRead_n L) (x_raceRead_b L) (x_raceRead_x L) (x_raceRead_f L) (ad:=⟨p.Wg,1,none⟩) (by simp[Act.eval])];simp only[goes_go];refine⟨⟨trivial,λe he=>?_⟩,?_⟩
  .rw[Array.mem_singleton]at he;subst he;exact⟨_,rfl,.inl rfl⟩
  walk_nrm
  refine ET.c (λ_=>stepG_region_end) ?_;refine ET.c (λ_=>stepG_seq) ?_;refine ET.c (λ_=>stepG_seq) ?_
  (refine ET.c (λ_=>stepG_region) ?_;simp only[List.size_toArray,List.length_cons,List.length_nil,Nat.reduceAdd,Nat.zero_add,List.range,List.range.loop])
  iterate 2 (refine ET.k rfl (λ_ _ _=>?_);refine goes_oper_k rfl rfl (by k_ne) (λK hK=>?_);go_simp;refine hK _ _ ⟨⟨rfl,λe he=>(by have hm:=mem_listed he;simp[go_sem, *]at hm)⟩,?_⟩;clear hK K;try w_num)
  refine ET.c (λ_=>stepG_region_end) ?_;refine ET.condF rfl ?_;refine ET.c (λ_=>stepG_skip) ?_;refine ET.c (λ_=>stepG_seq) ?_;refine ET.c (λ_=>stepG_seq) ?_
  (refine ET.c (λ_=>stepG_region) ?_;simp only[List.size_toArray,List.length_cons,List.length_nil,Nat.reduceAdd,Nat.zero_add,List.range,List.range.loop])
  iterate 3 (refine ET.k rfl (λ_ _ _=>?_);refine goes_oper_k rfl rfl (by k_ne) (λK hK=>?_);go_simp;refine hK _ _ ⟨⟨rfl,λe he=>(by have hm:=mem_listed he;simp[go_sem, *]at hm)⟩,?_⟩;clear hK K;try w_num)
  iterate 2 (refine ET.c (λ_=>stepG_unwanted rfl rfl) ?_;walk_nrm)
  iterate 2 (refine ET.k rfl (λ_ _ _=>?_);refine goes_oper_k rfl rfl (by k_ne) (λK hK=>?_);go_simp;refine hK _ _ ⟨⟨rfl,λe he=>(by have hm:=mem_listed he;simp[go_sem, *]at hm)⟩,?_⟩;clear hK K;try w_num)
  iterate 4 (refine ET.c (λ_=>stepG_unwanted rfl rfl) ?_;walk_nrm)
  (refine ET.k rfl (λ_ _ _=>?_);refine goes_oper_k rfl rfl (by k_ne) (λK hK=>?_);go_simp;refine hK _ _ ⟨⟨rfl,λe he=>(by have hm:=mem_listed he;simp[go_sem, *]at hm)⟩,?_⟩;clear hK K;try w_num)
  refine ET.c (λ_=>stepG_region_end) ?_;refine ET.condF rfl ?_;refine ET.c (λ_=>stepG_skip) ?_;refine ET.c (λ_=>stepG_seq) ?_;refine ET.c (λ_=>stepG_seq) ?_
  (refine ET.c (λ_=>stepG_region) ?_;simp only[List.size_toArray,List.length_cons,List.length_nil,Nat.reduceAdd,Nat.zero_add,List.range,List.range.loop])
  iterate 3 (refine ET.k rfl (λ_ _ _=>?_);refine goes_oper_k rfl rfl (by k_ne) (λK hK=>?_);go_simp;refine hK _ _ ⟨⟨rfl,λe he=>(by have hm:=mem_listed he;simp[go_sem, *]at hm)⟩,?_⟩;clear hK K;try w_num)
  iterate 2 (refine ET.c (λ_=>stepG_unwanted rfl rfl) ?_;walk_nrm)
  (refine ET.k rfl (λ_ _ _=>?_);refine goes_oper_k rfl rfl (by k_ne) (λK hK=>?_);go_simp;refine hK _ _ ⟨⟨rfl,λe he=>(by have hm:=mem_listed he;simp[go_sem, *]at hm)⟩,?_⟩;clear hK K;try w_num)
  refine ET.c (λ_=>stepG_region_end) ?_;refine ET.condT rfl ?_;refine ET.c (λ_=>stepG_ret') ?_;refine ET.stop λw₃ k₃ _=>?_
  exact⟨rfl,_,stepG_unwind_entry (v:=.tuple #[]) (evs:=#[Go.ConcR.mk .enable]) rfl H.f_enable (x_enable_n L) (x_enable_b L) (x_enable_x L) (x_enable_f L) (by simp[Extern.Race.none_]) (by simp[Go.ConcR.mk]) (by simp[Go.ConcR.mk]),ET.k rfl λw₄ _ _=>goes_leave0 rfl rfl H.f_add rfl ⟨⟨rfl,λe he=>by simp at he⟩,hT _ (hK.trans k₃)⟩⟩
 ·
  obtain⟨V,hV⟩:∃V:Int,V=(v:Int)+1:=⟨_,rfl⟩;obtain⟨S,hS⟩:∃S:Int,S=V*KK:=⟨_,rfl⟩;have eS:IntKind.u64.wrap ((v:Int)*KK+4294967296)=S:=by rw[IntKind.wrap_u64,hS,hV];simp only[KK];omega
  rw[<-hV,<-hS];have a1:S/4294967296=V:=by rw[hS];simp only[KK];omega
  have b1:bits .and .u64 S 2147483648=0:=by rw[hS,hV];have:=Go.ConcN.st_flag (v+1) 0 (by omega) (by omega);simpa[KK]using this
  have b2:bits .and .u64 S 2147483647=0:=by rw[hS,hV];have:=Go.ConcN.st_waiters (v+1) 0 (by omega) (by omega);simpa[KK]using this
  have c1:IntKind.i32.wrap V=V:=by rw[IntKind.wrap_i32];omega
  have hV1:1<V:=by omega
  have hV2:V<2147483648:=by omega
  have q1:(V==1)=false:=by simp;omega
  have q2:decide (V=1)=false:=decide_eq_false (by omega);have q3:decide (V<0)=false:=decide_eq_false (by omega);have q4:decide (0<V)=true:=decide_eq_true (by omega);have q5:(V==0)=false:=by simp;omega
  have q6:decide (V=0)=false:=decide_eq_false (by omega);refine⟨_,(stepG_add_atomic rfl rfl (by k_ne) rfl H.f_addU64 (x_addU64_n L) (x_addU64_b L) (x_addU64_x L) .u64 (x_addU64_f L) rfl rfl hw.cellSt (hw.thaw 0)).trans (by rw[eS];rfl),?_⟩;have hK:aw (λb=>M b\/Ro b) w₀ (w₂.setCell (stA p.Wg) (.int .u64 S)):=k₁.trans (k₂.trans (keep_set hW));clear hw hS hV eS;walk_nrm
  (refine ET.k rfl (λ_ _ _=>?_);refine goes_oper_k rfl rfl (by k_ne) (λK hK=>?_);go_simp;refine hK _ _ ⟨⟨rfl,λe he=>(by have hm:=mem_listed he;simp[go_sem, *]at hm)⟩,?_⟩;clear hK K;try w_num)
  refine ET.c (λ_=>stepG_region_end) ?_;refine ET.c (λ_=>stepG_ret') ?_
  (refine ET.k rfl (λ_ _ _=>goes_leave1 rfl rfl H.f_uAdd rfl ⟨⟨rfl,λe he=>(by simp at he)⟩,?_⟩);walk_nrm)
  (refine ET.k rfl (λ_ _ _=>?_);refine goes_oper_k rfl rfl (by k_ne) (λK hK=>?_);go_simp;refine hK _ _ ⟨⟨rfl,λe he=>(by have hm:=mem_listed he;simp[go_sem, *]at hm)⟩,?_⟩;clear hK K;try w_num)
  refine ET.c (λ_=>stepG_region_end) ?_;refine ET.c (λ_=>stepG_seq) ?_;refine ET.c (λ_=>stepG_seq) ?_
  (refine ET.c (λ_=>stepG_region) ?_;simp only[List.size_toArray,List.length_cons,List.length_nil,Nat.reduceAdd,Nat.zero_add,List.range,List.range.loop])
  iterate 4 (refine ET.k rfl (λ_ _ _=>?_);refine goes_oper_k rfl rfl (by k_ne) (λK hK=>?_);go_simp;refine hK _ _ ⟨⟨rfl,λe he=>(by have hm:=mem_listed he;simp[go_sem, *]at hm)⟩,?_⟩;clear hK K;try w_num)
  iterate 2 (refine ET.c (λ_=>stepG_unwanted rfl rfl) ?_;walk_nrm)
  (refine ET.k rfl (λ_ _ _=>?_);refine goes_oper_k rfl rfl (by k_ne) (λK hK=>?_);go_simp;refine hK _ _ ⟨⟨rfl,λe he=>(by have hm:=mem_listed he;simp[go_sem, *]at hm)⟩,?_⟩;clear hK K;try w_num)
  refine ET.c (λ_=>stepG_region_end) ?_;refine ET.condF rfl ?_;refine ET.c (λ_=>stepG_skip) ?_;refine ET.c (λ_=>stepG_seq) ?_
  (refine ET.c (λ_=>stepG_region) ?_;simp only[List.size_toArray,List.length_cons,List.length_nil,Nat.reduceAdd,Nat.zero_add,List.range,List.range.loop])
  iterate 4 (refine ET.k rfl (λ_ _ _=>?_);refine goes_oper_k rfl rfl (by k_ne) (λK hK=>?_);go_simp;refine hK _ _ ⟨⟨rfl,λe he=>(by have hm:=mem_listed he;simp[go_sem, *]at hm)⟩,?_⟩;clear hK K;try w_num)
  refine ET.c (λ_=>stepG_region_end) ?_;refine ET.c (λ_=>stepG_seq) ?_
  (refine ET.c (λ_=>stepG_region) ?_;simp only[List.size_toArray,List.length_cons,List.length_nil,Nat.reduceAdd,Nat.zero_add,List.range,List.range.loop])
  iterate 4 (refine ET.k rfl (λ_ _ _=>?_);refine goes_oper_k rfl rfl (by k_ne) (λK hK=>?_);go_simp;refine hK _ _ ⟨⟨rfl,λe he=>(by have hm:=mem_listed he;simp[go_sem, *]at hm)⟩,?_⟩;clear hK K;try w_num)
  refine ET.c (λ_=>stepG_region_end) ?_;refine ET.c (λ_=>stepG_seq) ?_;refine ET.c (λ_=>stepG_seq) ?_
  (refine ET.c (λ_=>stepG_region) ?_;simp only[List.size_toArray,List.length_cons,List.length_nil,Nat.reduceAdd,Nat.zero_add,List.range,List.range.loop])
  iterate 10 (refine ET.k rfl (λ_ _ _=>?_);refine goes_oper_k rfl rfl (by k_ne) (λK hK=>?_);go_simp;refine hK _ _ ⟨⟨rfl,λe he=>(by have hm:=mem_listed he;simp[go_sem, *]at hm)⟩,?_⟩;clear hK K;try w_num)
  refine ET.c (λ_=>stepG_region_end) ?_;refine ET.condF rfl ?_;refine ET.c (λ_=>stepG_skip) ?_;refine ET.c (λ_=>stepG_seq) ?_;refine ET.c (λ_=>stepG_seq) ?_
  (refine ET.c (λ_=>stepG_region) ?_;simp only[List.size_toArray,List.length_cons,List.length_nil,Nat.reduceAdd,Nat.zero_add,List.range,List.range.loop])
  iterate 2 (refine ET.k rfl (λ_ _ _=>?_);refine goes_oper_k rfl rfl (by k_ne) (λK hK=>?_);go_simp;refine hK _ _ ⟨⟨rfl,λe he=>(by have hm:=mem_listed he;simp[go_sem, *]at hm)⟩,?_⟩;clear hK K;try w_num)
  refine ET.c (λ_=>stepG_region_end) ?_;refine ET.condF rfl ?_;refine ET.c (λ_=>stepG_skip) ?_;refine ET.c (λ_=>stepG_seq) ?_;refine ET.c (λ_=>stepG_seq) ?_
  (refine ET.c (λ_=>stepG_region) ?_;simp only[List.size_toArray,List.length_cons,List.length_nil,Nat.reduceAdd,Nat.zero_add,List.range,List.range.loop])
  iterate 3 (refine ET.k rfl (λ_ _ _=>?_);refine goes_oper_k rfl rfl (by k_ne) (λK hK=>?_);go_simp;refine hK _ _ ⟨⟨rfl,λe he=>(by have hm:=mem_listed he;simp[go_sem, *]at hm)⟩,?_⟩;clear hK K;try w_num)
  iterate 2 (refine ET.c (λ_=>stepG_unwanted rfl rfl) ?_;walk_nrm)
  iterate 2 (refine ET.k rfl (λ_ _ _=>?_);refine goes_oper_k rfl rfl (by k_ne) (λK hK=>?_);go_simp;refine hK _ _ ⟨⟨rfl,λe he=>(by have hm:=mem_listed he;simp[go_sem, *]at hm)⟩,?_⟩;clear hK K;try w_num)
  iterate 4 (refine ET.c (λ_=>stepG_unwanted rfl rfl) ?_;walk_nrm)
  (refine ET.k rfl (λ_ _ _=>?_);refine goes_oper_k rfl rfl (by k_ne) (λK hK=>?_);go_simp;refine hK _ _ ⟨⟨rfl,λe he=>(by have hm:=mem_listed he;simp[go_sem, *]at hm)⟩,?_⟩;clear hK K;try w_num)
  refine ET.c (λ_=>stepG_region_end) ?_;refine ET.condF rfl ?_;refine ET.c (λ_=>stepG_skip) ?_;refine ET.c (λ_=>stepG_seq) ?_;refine ET.c (λ_=>stepG_seq) ?_
  (refine ET.c (λ_=>stepG_region) ?_;simp only[List.size_toArray,List.length_cons,List.length_nil,Nat.reduceAdd,Nat.zero_add,List.range,List.range.loop])
  iterate 3 (refine ET.k rfl (λ_ _ _=>?_);refine goes_oper_k rfl rfl (by k_ne) (λK hK=>?_);go_simp;refine hK _ _ ⟨⟨rfl,λe he=>(by have hm:=mem_listed he;simp[go_sem, *]at hm)⟩,?_⟩;clear hK K;try w_num)
  iterate 2 (refine ET.c (λ_=>stepG_unwanted rfl rfl) ?_;walk_nrm)
  (refine ET.k rfl (λ_ _ _=>?_);refine goes_oper_k rfl rfl (by k_ne) (λK hK=>?_);go_simp;refine hK _ _ ⟨⟨rfl,λe he=>(by have hm:=mem_listed he;simp[go_sem, *]at hm)⟩,?_⟩;clear hK K;try w_num)
  refine ET.c (λ_=>stepG_region_end) ?_;refine ET.condT rfl ?_;refine ET.c (λ_=>stepG_ret') ?_;refine ET.stop λw₃ k₃ _=>?_
  exact⟨rfl,_,stepG_unwind_entry (v:=.tuple #[]) (evs:=#[Go.ConcR.mk .enable]) rfl H.f_enable (x_enable_n L) (x_enable_b L) (x_enable_x L) (x_enable_f L) (by simp[Extern.Race.none_]) (by simp[Go.ConcR.mk]) (by simp[Go.ConcR.mk]),ET.k rfl λw₄ _ _=>goes_leave0 rfl rfl H.f_add rfl ⟨⟨rfl,λe he=>by simp at he⟩,hT _ (hK.trans k₃)⟩⟩
end Ph
end Go.Proofs.YtlmcblcijndipabGreatDoor
