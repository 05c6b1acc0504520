import Derived.Test.YtlmcblcijndipabGreatDoorDr04
set_option linter.unusedSimpArgs false
set_option maxHeartbeats 8000000
set_option maxRecDepth 100000
namespace Go.Proofs.YtlmcblcijndipabGreatDoor
section
open Go Go.Conc Go.RowKit Go.Conc.Lib Go.ConcR.Gen
open Go.ConcN (WgLive)
open Go.ConcR (KK WgAt stA smA rd wr)
namespace Ph
theorem keep_put {S:Nat->Prop}{w:World}{a:Addr}{v:Value}(h:¬S a.block):aw S w (w.setCell a v):=
 ⟨λb hb=>Below.heap_setCell w a v b (λe=>h (e▸hb)),Nat.le_of_eq (aside_setCell w a v).size.symm,rfl,rfl⟩
section
variable (p:Ph)(L:WgLink)(F:Act->(Nat->Prop)->(Nat->Prop)->World->Prop)(b₀:Frame)(ops₀:Array Oper)(i₀:Nat)(rest₀:List Nat)(k₀:List Item)(cs:List Frame)
def AnW (Ro M:Nat->Prop)(g:Goroutine)(W:World):Prop:=
 ∃(T:Array Value) (a₀:Act),g=G ((base L.wait).at ⟨T,[]⟩ [.code (L7 L),.inLoop (L7 L),.inBlock 0]) (b₀.at a₀ (.inRegion ops₀ (i₀::rest₀)::k₀)::cs)/\T.size=84/\T[0]?=some (.pointer (some ⟨p.Wg,0,none⟩))/\F a₀ Ro M W
def FinW (Ro M:Nat->Prop)(g:Goroutine)(W:World):Prop:=
 ∃a₀:Act,F a₀ Ro M W/\∀(I:World->Prop) (X:Event->Prop) (Ro':Nat->Prop) (Stop:(Nat->Prop)->Goroutine->World->Prop) (M':Nat->Prop),
  ET p.P true I X Ro' Stop M' (G (b₀.at (a₀.put ((ops₀[i₀]?).bind (·.dst)) (.tuple #[])) (.inRegion ops₀ rest₀::k₀)) cs) W->ET p.P true I X Ro' Stop M' g W
end
section
variable {p:Ph}{L:WgLink}{F:Act->(Nat->Prop)->(Nat->Prop)->World->Prop}{b₀:Frame}{ops₀:Array Oper}{i₀:Nat}{rest₀:List Nat}{k₀:List Item}{cs:List Frame}
theorem waitRound (H:WgLib p.P L)(hFk:∀a Ro M w w₁,F a Ro M w->aw (λb=>M b\/Ro b) w w₁->F a Ro M w₁)(hFw:∀a Ro M w,F a Ro M w->¬(M p.Wg\/Ro p.Wg))
  (Ro M:Nat->Prop)(g:Goroutine)(W:World)(h:p.AnW L F b₀ ops₀ i₀ rest₀ k₀ cs Ro M g W):
  ET p.P true p.I p.saidX Ro (p.AtW1 (p.FinW F b₀ ops₀ i₀ rest₀ k₀ cs) (p.AnW L F b₀ ops₀ i₀ rest₀ k₀ cs) Ro) M g W:=by
 lib_facts
 obtain⟨T,a₀,rfl,hT84,t0,hF⟩:=h;obtain⟨v0,v1,v2,v3,v4,v5,v6,v7,v8,v9,v10,v11,v12,v13,v14,v15,v16,v17,v18,v19,v20,v21,v22,v23,v24,v25,v26,v27,v28,v29,v30,v31,v32,v33,v34,v35,v36,v37,v38,v39,v40,v41,v42,v43,v44,v45,v46,v47,v48,v49,v50,v51,v52,v53,v54,v55,v56,v57,v58,v59,v60,v61,v62,v63,v64,v65,v66,v67,v68,v69,v70,v71,v72,v73,v74,v75,v76,v77,v78,v79,v80,v81,v82,v83,rfl⟩:=array84 T hT84;simp only[List.getElem?_toArray,List.getElem?_cons_zero,Option.some.injEq]at t0;subst t0;have hWn:=hFw _ _ _ _ hF;simp only[L7,body_wait,waitFn,Option.getD_some];refine ET.c (λ_=>stepG_block) ?_;refine ET.c (λ_=>stepG_seq) ?_
 (refine ET.c (λ_=>stepG_region) ?_;simp only[List.size_toArray,List.length_cons,List.length_nil,Nat.reduceAdd,Nat.zero_add,List.range,List.range.loop])
 iterate 3 (refine ET.k rfl (λ_ _ _=>?_);refine goes_oper_k rfl rfl (by k_ne) (λK hK=>?_);go_simp;refine hK _ _ ⟨⟨rfl,λe he=>(by have hm:=mem_listed he;simp[go_sem, *]at hm)⟩,?_⟩;clear hK K;try w_num)
 (refine ET.k rfl (λ_ _ _=>goes_call rfl rfl (by k_ne) rfl H.f_uLoad (nm_uLoad L) rfl ⟨⟨rfl,λe he=>(by simp at he)⟩,?_⟩);walk_nrmf uLoadFn)
 refine ET.c (λ_=>stepG_seq) ?_
 (refine ET.c (λ_=>stepG_region) ?_;simp only[List.size_toArray,List.length_cons,List.length_nil,Nat.reduceAdd,Nat.zero_add,List.range,List.range.loop])
 (refine ET.k rfl (λ_ _ _=>?_);refine goes_oper_k rfl rfl (by k_ne) (λK hK=>?_);go_simp;refine hK _ _ ⟨⟨rfl,λe he=>(by have hm:=mem_listed he;simp[go_sem, *]at hm)⟩,?_⟩;clear hK K;try w_num)
 refine ET.c (λ_=>stepG_region_end) ?_;refine ET.c (λ_=>stepG_seq) ?_
 (refine ET.c (λ_=>stepG_region) ?_;simp only[List.size_toArray,List.length_cons,List.length_nil,Nat.reduceAdd,Nat.zero_add,List.range,List.range.loop])
 iterate 3 (refine ET.k rfl (λ_ _ _=>?_);refine goes_oper_k rfl rfl (by k_ne) (λK hK=>?_);go_simp;refine hK _ _ ⟨⟨rfl,λe he=>(by have hm:=mem_listed he;simp[go_sem, *]at hm)⟩,?_⟩;clear hK K;try w_num)
 refine ET.stop λw₁ k₁ _=>?_
 replace hF:=hFk _ _ _ _ _ hF k₁;clear k₁;refine⟨rfl,λv hv hw=>?_⟩;rcases Nat.eq_zero_or_pos v with rfl|hvp
 ·
  replace hw:WgAt p.ty p.Wg w₁ 0 0:=by simpa using hw
  refine⟨_,stepG_load_atomic (v:=0) rfl rfl (by k_ne) rfl H.f_loadU64 (x_loadU64_n L) (x_loadU64_b L) (x_loadU64_x L) .u64 (x_loadU64_f L) rfl hw.cellSt,λ_=>?_,λh=>absurd rfl h⟩;clear hw;walk_nrm
  (refine ET.k rfl (λ_ _ _=>?_);refine goes_oper_k rfl rfl (by k_ne) (λK hK=>?_);go_simp;refine hK _ _ ⟨⟨rfl,λe he=>(by have hm:=mem_listed he;simp[go_sem, *]at hm)⟩,?_⟩;clear hK K;try w_num)
  refine ET.c (λ_=>stepG_region_end) ?_;refine ET.c (λ_=>stepG_ret') ?_
  (refine ET.k rfl (λ_ _ _=>goes_leave1 rfl rfl H.f_uLoad rfl ⟨⟨rfl,λe he=>(by simp at he)⟩,?_⟩);walk_nrm)
  (refine ET.k rfl (λ_ _ _=>?_);refine goes_oper_k rfl rfl (by k_ne) (λK hK=>?_);go_simp;refine hK _ _ ⟨⟨rfl,λe he=>(by have hm:=mem_listed he;simp[go_sem, *]at hm)⟩,?_⟩;clear hK K;try w_num)
  refine ET.c (λ_=>stepG_region_end) ?_;refine ET.c (λ_=>stepG_seq) ?_
  (refine ET.c (λ_=>stepG_region) ?_;simp only[List.size_toArray,List.length_cons,List.length_nil,Nat.reduceAdd,Nat.zero_add,List.range,List.range.loop])
  iterate 4 (refine ET.k rfl (λ_ _ _=>?_);refine goes_oper_k rfl rfl (by k_ne) (λK hK=>?_);go_simp;refine hK _ _ ⟨⟨rfl,λe he=>(by have hm:=mem_listed he;simp[go_sem, *]at hm)⟩,?_⟩;clear hK K;try w_num)
  refine ET.c (λ_=>stepG_region_end) ?_;refine ET.c (λ_=>stepG_seq) ?_
  (refine ET.c (λ_=>stepG_region) ?_;simp only[List.size_toArray,List.length_cons,List.length_nil,Nat.reduceAdd,Nat.zero_add,List.range,List.range.loop])
  iterate 4 (refine ET.k rfl (λ_ _ _=>?_);refine goes_oper_k rfl rfl (by k_ne) (λK hK=>?_);go_simp;refine hK _ _ ⟨⟨rfl,λe he=>(by have hm:=mem_listed he;simp[go_sem, *]at hm)⟩,?_⟩;clear hK K;try w_num)
  refine ET.c (λ_=>stepG_region_end) ?_;refine ET.c (λ_=>stepG_seq) ?_;refine ET.c (λ_=>stepG_seq) ?_
  (refine ET.c (λ_=>stepG_region) ?_;simp only[List.size_toArray,List.length_cons,List.length_nil,Nat.reduceAdd,Nat.zero_add,List.range,List.range.loop])
  iterate 2 (refine ET.k rfl (λ_ _ _=>?_);refine goes_oper_k rfl rfl (by k_ne) (λK hK=>?_);go_simp;refine hK _ _ ⟨⟨rfl,λe he=>(by have hm:=mem_listed he;simp[go_sem, *]at hm)⟩,?_⟩;clear hK K;try w_num)
  refine ET.c (λ_=>stepG_region_end) ?_;refine ET.condT rfl ?_;refine ET.c (λ_=>stepG_seq) ?_;refine ET.condT rfl ?_;refine ET.c (λ_=>stepG_seq) ?_
  (refine ET.c (λ_=>stepG_region) ?_;simp only[List.size_toArray,List.length_cons,List.length_nil,Nat.reduceAdd,Nat.zero_add,List.range,List.range.loop])
  refine ET.stop λw₅ k₅ _=>?_
  replace hF:=hFk _ _ _ _ _ hF k₅;clear k₅;refine⟨rfl,_,stepG_mark0 .enable (by simp) rfl rfl (by k_ne) rfl H.f_enable (x_enable_n L) (x_enable_b L) (x_enable_x L) (x_enable_f L),?_⟩;walk_nrm
  refine ET.c (λ_=>stepG_region_end) ?_
  (refine ET.c (λ_=>stepG_region) ?_;simp only[List.size_toArray,List.length_cons,List.length_nil,Nat.reduceAdd,Nat.zero_add,List.range,List.range.loop])
  (refine ET.k rfl (λ_ _ _=>?_);refine goes_oper_k rfl rfl (by k_ne) (λK hK=>?_);go_simp;refine hK _ _ ⟨⟨rfl,λe he=>(by have hm:=mem_listed he;simp[go_sem, *]at hm)⟩,?_⟩;clear hK K;try w_num)
  (refine ET.k rfl (λ_ _ iW=>?_);refine goes_oper_k rfl rfl (by k_ne) (λKx hKx=>?_);have hcv:=run_convert_to_unsafe (P:=p.P) H.underlying_tWgP H.underlying_tUP H.room_tWg (Go.ConcN.Gen.WgLive.cell0 iW.1).choose_spec;have hce:=λes=>events_convert_to_unsafe (P:=p.P) H.underlying_tWgP H.underlying_tUP H.room_tWg (Go.ConcN.Gen.WgLive.cell0 iW.1).choose_spec es;go_simp;refine hKx _ _ ⟨⟨rfl,λex hex=>(by have hmx:=mem_listed hex;simp[go_sem,hce]at hmx)⟩,?_⟩;clear hKx Kx hcv hce)
  refine ET.stop λw₆ k₆ _=>?_
  replace hF:=hFk _ _ _ _ _ hF k₆;clear k₆;refine⟨rfl,_,stepG_markAt .acquire (by simp) rfl rfl (by k_ne) rfl H.f_acquire (x_acquire_n L) (x_acquire_b L) (x_acquire_x L) (x_acquire_f L) (by simp[Act.eval,stA]),⟨_,hF,λI X Ro' Stop M' hT=>?_⟩⟩;walk_nrm
  refine ET.c (λ_=>stepG_region_end) ?_;refine ET.c (λ_=>stepG_seq) ?_;refine ET.c (λ_=>stepG_seq) ?_
  (refine ET.c (λ_=>stepG_region) ?_;simp only[List.size_toArray,List.length_cons,List.length_nil,Nat.reduceAdd,Nat.zero_add,List.range,List.range.loop])
  iterate 8 (refine ET.k rfl (λ_ _ _=>?_);refine goes_oper_k rfl rfl (by k_ne) (λK hK=>?_);go_simp;refine hK _ _ ⟨⟨rfl,λe he=>(by have hm:=mem_listed he;simp[go_sem, *]at hm)⟩,?_⟩;clear hK K;try w_num)
  iterate 2 (refine ET.c (λ_=>stepG_unwanted rfl rfl) ?_;walk_nrm)
  (refine ET.k rfl (λ_ _ _=>?_);refine goes_oper_k rfl rfl (by k_ne) (λK hK=>?_);go_simp;refine hK _ _ ⟨⟨rfl,λe he=>(by have hm:=mem_listed he;simp[go_sem, *]at hm)⟩,?_⟩;clear hK K;try w_num)
  refine ET.c (λ_=>stepG_region_end) ?_;refine ET.condF rfl ?_;refine ET.c (λ_=>stepG_skip) ?_;refine ET.c (λ_=>stepG_ret') ?_
  (refine ET.k rfl (λ_ _ _=>goes_leave0 rfl rfl H.f_wait rfl ⟨⟨rfl,λe he=>(by simp at he)⟩,?_⟩);walk_nrm)
  exact hT
 ·
  obtain⟨S,hS⟩:∃S:Int,(v:Int)*KK=S:=⟨_,rfl⟩;have a1:S/4294967296=(v:Int):=by rw[<-hS];simp only[KK];omega
  have b1:bits .and .u64 S 2147483648=0:=by rw[<-hS];have:=Go.ConcN.st_flag v 0 (by omega) (by omega);simpa[KK]using this
  have b2:bits .and .u64 S 2147483647=0:=by rw[<-hS];have:=Go.ConcN.st_waiters v 0 (by omega) (by omega);simpa[KK]using this
  have c1:IntKind.i32.wrap (v:Int)=(v:Int):=by rw[IntKind.wrap_i32];omega
  have w1:IntKind.u64.wrap (S+1)=S+1:=by rw[IntKind.wrap_u64,<-hS];simp only[KK];omega
  have q3:decide ((v:Int)<0)=false:=decide_eq_false (by omega);have q4:decide (0<(v:Int))=true:=decide_eq_true (by omega);have q5:((v:Int)==0)=false:=by simp;omega
  have q6:decide ((v:Int)=0)=false:=decide_eq_false (by omega);rw[hS]at hw;refine⟨_,stepG_load_atomic (v:=S) rfl rfl (by k_ne) rfl H.f_loadU64 (x_loadU64_n L) (x_loadU64_b L) (x_loadU64_x L) .u64 (x_loadU64_f L) rfl hw.cellSt,λh0=>absurd h0 (by omega),λ_=>?_⟩;clear hw;walk_nrm
  (refine ET.k rfl (λ_ _ _=>?_);refine goes_oper_k rfl rfl (by k_ne) (λK hK=>?_);go_simp;refine hK _ _ ⟨⟨rfl,λe he=>(by have hm:=mem_listed he;simp[go_sem, *]at hm)⟩,?_⟩;clear hK K;try w_num)
  refine ET.c (λ_=>stepG_region_end) ?_;refine ET.c (λ_=>stepG_ret') ?_
  (refine ET.k rfl (λ_ _ _=>goes_leave1 rfl rfl H.f_uLoad rfl ⟨⟨rfl,λe he=>(by simp at he)⟩,?_⟩);walk_nrm)
  (refine ET.k rfl (λ_ _ _=>?_);refine goes_oper_k rfl rfl (by k_ne) (λK hK=>?_);go_simp;refine hK _ _ ⟨⟨rfl,λe he=>(by have hm:=mem_listed he;simp[go_sem, *]at hm)⟩,?_⟩;clear hK K;try w_num)
  refine ET.c (λ_=>stepG_region_end) ?_;refine ET.c (λ_=>stepG_seq) ?_
  (refine ET.c (λ_=>stepG_region) ?_;simp only[List.size_toArray,List.length_cons,List.length_nil,Nat.reduceAdd,Nat.zero_add,List.range,List.range.loop])
  iterate 4 (refine ET.k rfl (λ_ _ _=>?_);refine goes_oper_k rfl rfl (by k_ne) (λK hK=>?_);go_simp;refine hK _ _ ⟨⟨rfl,λe he=>(by have hm:=mem_listed he;simp[go_sem, *]at hm)⟩,?_⟩;clear hK K;try w_num)
  refine ET.c (λ_=>stepG_region_end) ?_;refine ET.c (λ_=>stepG_seq) ?_
  (refine ET.c (λ_=>stepG_region) ?_;simp only[List.size_toArray,List.length_cons,List.length_nil,Nat.reduceAdd,Nat.zero_add,List.range,List.range.loop])
  iterate 4 (refine ET.k rfl (λ_ _ _=>?_);refine goes_oper_k rfl rfl (by k_ne) (λK hK=>?_);go_simp;refine hK _ _ ⟨⟨rfl,λe he=>(by have hm:=mem_listed he;simp[go_sem, *]at hm)⟩,?_⟩;clear hK K;try w_num)
  refine ET.c (λ_=>stepG_region_end) ?_;refine ET.c (λ_=>stepG_seq) ?_;refine ET.c (λ_=>stepG_seq) ?_
  (refine ET.c (λ_=>stepG_region) ?_;simp only[List.size_toArray,List.length_cons,List.length_nil,Nat.reduceAdd,Nat.zero_add,List.range,List.range.loop])
  iterate 2 (refine ET.k rfl (λ_ _ _=>?_);refine goes_oper_k rfl rfl (by k_ne) (λK hK=>?_);go_simp;refine hK _ _ ⟨⟨rfl,λe he=>(by have hm:=mem_listed he;simp[go_sem, *]at hm)⟩,?_⟩;clear hK K;try w_num)
  refine ET.c (λ_=>stepG_region_end) ?_;refine ET.condF rfl ?_;refine ET.c (λ_=>stepG_skip) ?_;refine ET.c (λ_=>stepG_seq) ?_
  (refine ET.c (λ_=>stepG_region) ?_;simp only[List.size_toArray,List.length_cons,List.length_nil,Nat.reduceAdd,Nat.zero_add,List.range,List.range.loop])
  iterate 6 (refine ET.k rfl (λ_ _ _=>?_);refine goes_oper_k rfl rfl (by k_ne) (λK hK=>?_);go_simp;refine hK _ _ ⟨⟨rfl,λe he=>(by have hm:=mem_listed he;simp[go_sem, *]at hm)⟩,?_⟩;clear hK K;try w_num)
  (refine ET.k rfl (λ_ _ _=>goes_call rfl rfl (by k_ne) rfl H.f_uCas (nm_uCas L) rfl ⟨⟨rfl,λe he=>(by simp at he)⟩,?_⟩);walk_nrmf uCasFn)
  refine ET.c (λ_=>stepG_seq) ?_
  (refine ET.c (λ_=>stepG_region) ?_;simp only[List.size_toArray,List.length_cons,List.length_nil,Nat.reduceAdd,Nat.zero_add,List.range,List.range.loop])
  (refine ET.k rfl (λ_ _ _=>?_);refine goes_oper_k rfl rfl (by k_ne) (λK hK=>?_);go_simp;refine hK _ _ ⟨⟨rfl,λe he=>(by have hm:=mem_listed he;simp[go_sem, *]at hm)⟩,?_⟩;clear hK K;try w_num)
  refine ET.c (λ_=>stepG_region_end) ?_;refine ET.c (λ_=>stepG_seq) ?_
  (refine ET.c (λ_=>stepG_region) ?_;simp only[List.size_toArray,List.length_cons,List.length_nil,Nat.reduceAdd,Nat.zero_add,List.range,List.range.loop])
  iterate 5 (refine ET.k rfl (λ_ _ _=>?_);refine goes_oper_k rfl rfl (by k_ne) (λK hK=>?_);go_simp;refine hK _ _ ⟨⟨rfl,λe he=>(by have hm:=mem_listed he;simp[go_sem, *]at hm)⟩,?_⟩;clear hK K;try w_num)
  refine ET.stop λw₂ k₂ _=>?_
  replace hF:=hFk _ _ _ _ _ hF k₂;clear k₂;refine⟨rfl,λv' hv' hw=>⟨λe=>?_,λe=>?_⟩⟩
  ·
   subst e;rw[hS]at hw⊢;refine⟨_,(stepG_cas_hit (v:=S) (n:=S+1) rfl rfl (by k_ne) rfl H.f_casU64 (x_casU64_n L) (x_casU64_b L) (x_casU64_x L) .u64 (x_casU64_f L) rfl rfl rfl hw.cellSt (hw.thaw 0)).trans (by rfl),?_⟩;replace hF:=hFk _ _ _ _ (w₂.setCell (stA p.Wg) (.int .u64 (S+1))) hF (keep_put hWn);clear hw;walk_nrm
   (refine ET.k rfl (λ_ _ _=>?_);refine goes_oper_k rfl rfl (by k_ne) (λK hK=>?_);go_simp;refine hK _ _ ⟨⟨rfl,λe he=>(by have hm:=mem_listed he;simp[go_sem, *]at hm)⟩,?_⟩;clear hK K;try w_num)
   refine ET.c (λ_=>stepG_region_end) ?_;refine ET.c (λ_=>stepG_ret') ?_
   (refine ET.k rfl (λ_ _ _=>goes_leave1 rfl rfl H.f_uCas rfl ⟨⟨rfl,λe he=>(by simp at he)⟩,?_⟩);walk_nrm)
   refine ET.c (λ_=>stepG_region_end) ?_;refine ET.condT rfl ?_;refine ET.c (λ_=>stepG_seq) ?_;refine ET.c (λ_=>stepG_seq) ?_
   (refine ET.c (λ_=>stepG_region) ?_;simp only[List.size_toArray,List.length_cons,List.length_nil,Nat.reduceAdd,Nat.zero_add,List.range,List.range.loop])
   iterate 4 (refine ET.k rfl (λ_ _ _=>?_);refine goes_oper_k rfl rfl (by k_ne) (λK hK=>?_);go_simp;refine hK _ _ ⟨⟨rfl,λe he=>(by have hm:=mem_listed he;simp[go_sem, *]at hm)⟩,?_⟩;clear hK K;try w_num)
   refine ET.c (λ_=>stepG_region_end) ?_;refine ET.condT rfl ?_
   (refine ET.c (λ_=>stepG_region) ?_;simp only[List.size_toArray,List.length_cons,List.length_nil,Nat.reduceAdd,Nat.zero_add,List.range,List.range.loop])
   iterate 3 (refine ET.k rfl (λ_ _ _=>?_);refine goes_oper_k rfl rfl (by k_ne) (λK hK=>?_);go_simp;refine hK _ _ ⟨⟨rfl,λe he=>(by have hm:=mem_listed he;simp[go_sem, *]at hm)⟩,?_⟩;clear hK K;try w_num)
   (refine ET.k rfl (λ_ _ iW=>?_);refine goes_oper_k rfl rfl (by k_ne) (λKx hKx=>?_);have hcv:=run_convert_to_unsafe (P:=p.P) H.underlying_tPU32 H.underlying_tUP H.room_tU32 (Go.ConcN.Gen.WgLive.cell1 iW.1).choose_spec;have hce:=λes=>events_convert_to_unsafe (P:=p.P) H.underlying_tPU32 H.underlying_tUP H.room_tU32 (Go.ConcN.Gen.WgLive.cell1 iW.1).choose_spec es;go_simp;refine hKx _ _ ⟨⟨rfl,λex hex=>(by have hmx:=mem_listed hex;simp[go_sem,hce]at hmx)⟩,?_⟩;clear hKx Kx hcv hce)
   refine ET.k rfl (λ_ _ _=>?_);rw[stepG_markAt .write (by simp) rfl rfl (by k_ne) rfl H.f_raceWrite (x_raceWrite_n L) (x_raceWrite_b L) (x_raceWrite_x L) (x_raceWrite_f L) (ad:=⟨_,1,none⟩) (by simp[Act.eval]<;>rfl)];simp only[goes_go];refine⟨⟨trivial,λex hex=>?_⟩,?_⟩
   .rw[Array.mem_singleton]at hex;subst hex;exact⟨_,rfl,.inr rfl⟩
   walk_nrm
   refine ET.c (λ_=>stepG_region_end) ?_;refine ET.c (λ_=>stepG_seq) ?_
   (refine ET.c (λ_=>stepG_region) ?_;simp only[List.size_toArray,List.length_cons,List.length_nil,Nat.reduceAdd,Nat.zero_add,List.range,List.range.loop])
   (refine ET.k rfl (λ_ _ _=>?_);refine goes_oper_k rfl rfl (by k_ne) (λK hK=>?_);go_simp;refine hK _ _ ⟨⟨rfl,λe he=>(by have hm:=mem_listed he;simp[go_sem, *]at hm)⟩,?_⟩;clear hK K;try w_num)
   refine ET.c (λ_=>stepG_region_end) ?_;refine ET.c (λ_=>stepG_seq) ?_;refine ET.c (λ_=>stepG_seq) ?_
   (refine ET.c (λ_=>stepG_region) ?_;simp only[List.size_toArray,List.length_cons,List.length_nil,Nat.reduceAdd,Nat.zero_add,List.range,List.range.loop])
   iterate 4 (refine ET.k rfl (λ_ _ _=>?_);refine goes_oper_k rfl rfl (by k_ne) (λK hK=>?_);go_simp;refine hK _ _ ⟨⟨rfl,λe he=>(by have hm:=mem_listed he;simp[go_sem, *]at hm)⟩,?_⟩;clear hK K;try w_num)
   (refine ET.c (λ_=>stepG_unwanted rfl rfl) ?_;walk_nrm)
   (refine ET.k rfl (λ_ _ _=>?_);refine goes_oper_k rfl rfl (by k_ne) (λK hK=>?_);go_simp;refine hK _ _ ⟨⟨rfl,λe he=>(by have hm:=mem_listed he;simp[go_sem, *]at hm)⟩,?_⟩;clear hK K;try w_num)
   refine ET.c (λ_=>stepG_region_end) ?_;refine ET.condF rfl ?_;refine ET.c (λ_=>stepG_skip) ?_;refine ET.c (λ_=>stepG_seq) ?_
   (refine ET.c (λ_=>stepG_region) ?_;simp only[List.size_toArray,List.length_cons,List.length_nil,Nat.reduceAdd,Nat.zero_add,List.range,List.range.loop])
   iterate 4 (refine ET.k rfl (λ_ _ _=>?_);refine goes_oper_k rfl rfl (by k_ne) (λK hK=>?_);go_simp;refine hK _ _ ⟨⟨rfl,λe he=>(by have hm:=mem_listed he;simp[go_sem, *]at hm)⟩,?_⟩;clear hK K;try w_num)
   refine ET.stop λw₃ k₃ _=>?_
   replace hF:=hFk _ _ _ _ _ hF k₃;clear k₃;refine⟨rfl,rfl,λ⟨st,hw⟩=>stepG_semacquire_wait rfl rfl rfl H.f_semacquire (x_semacquire_n L) (x_semacquire_b L) (x_semacquire_x L) (x_semacquire_f L) (by simp[Act.eval,smA]) hw.cellSm,λhf=>?_⟩;refine⟨_,(stepG_semacquire (n:=1) rfl rfl (by k_ne) rfl H.f_semacquire (x_semacquire_n L) (x_semacquire_b L) (x_semacquire_x L) (x_semacquire_f L) (by simp[Act.eval,smA]) hf.cellSm (by k_ne) (hf.thaw 1)).trans (by rfl),?_⟩;replace hF:=hFk _ _ _ _ (w₃.setCell (smA p.Wg) (.int .u32 0)) hF (keep_put hWn);clear hf;walk_nrm
   refine ET.c (λ_=>stepG_region_end) ?_;refine ET.c (λ_=>stepG_seq) ?_
   (refine ET.c (λ_=>stepG_region) ?_;simp only[List.size_toArray,List.length_cons,List.length_nil,Nat.reduceAdd,Nat.zero_add,List.range,List.range.loop])
   iterate 3 (refine ET.k rfl (λ_ _ _=>?_);refine goes_oper_k rfl rfl (by k_ne) (λK hK=>?_);go_simp;refine hK _ _ ⟨⟨rfl,λe he=>(by have hm:=mem_listed he;simp[go_sem, *]at hm)⟩,?_⟩;clear hK K;try w_num)
   (refine ET.k rfl (λ_ _ _=>goes_call rfl rfl (by k_ne) rfl H.f_uLoad (nm_uLoad L) rfl ⟨⟨rfl,λe he=>(by simp at he)⟩,?_⟩);walk_nrmf uLoadFn)
   refine ET.c (λ_=>stepG_seq) ?_
   (refine ET.c (λ_=>stepG_region) ?_;simp only[List.size_toArray,List.length_cons,List.length_nil,Nat.reduceAdd,Nat.zero_add,List.range,List.range.loop])
   (refine ET.k rfl (λ_ _ _=>?_);refine goes_oper_k rfl rfl (by k_ne) (λK hK=>?_);go_simp;refine hK _ _ ⟨⟨rfl,λe he=>(by have hm:=mem_listed he;simp[go_sem, *]at hm)⟩,?_⟩;clear hK K;try w_num)
   refine ET.c (λ_=>stepG_region_end) ?_;refine ET.c (λ_=>stepG_seq) ?_
   (refine ET.c (λ_=>stepG_region) ?_;simp only[List.size_toArray,List.length_cons,List.length_nil,Nat.reduceAdd,Nat.zero_add,List.range,List.range.loop])
   iterate 3 (refine ET.k rfl (λ_ _ _=>?_);refine goes_oper_k rfl rfl (by k_ne) (λK hK=>?_);go_simp;refine hK _ _ ⟨⟨rfl,λe he=>(by have hm:=mem_listed he;simp[go_sem, *]at hm)⟩,?_⟩;clear hK K;try w_num)
   refine ET.stop λw₄ k₄ _=>?_
   replace hF:=hFk _ _ _ _ _ hF k₄;clear k₄;refine⟨rfl,λhw=>⟨_,stepG_load_atomic (v:=0) rfl rfl (by k_ne) rfl H.f_loadU64 (x_loadU64_n L) (x_loadU64_b L) (x_loadU64_x L) .u64 (x_loadU64_f L) rfl hw.cellSt,?_⟩⟩;clear hw;walk_nrm
   (refine ET.k rfl (λ_ _ _=>?_);refine goes_oper_k rfl rfl (by k_ne) (λK hK=>?_);go_simp;refine hK _ _ ⟨⟨rfl,λe he=>(by have hm:=mem_listed he;simp[go_sem, *]at hm)⟩,?_⟩;clear hK K;try w_num)
   refine ET.c (λ_=>stepG_region_end) ?_;refine ET.c (λ_=>stepG_ret') ?_
   (refine ET.k rfl (λ_ _ _=>goes_leave1 rfl rfl H.f_uLoad rfl ⟨⟨rfl,λe he=>(by simp at he)⟩,?_⟩);walk_nrm)
   iterate 2 (refine ET.k rfl (λ_ _ _=>?_);refine goes_oper_k rfl rfl (by k_ne) (λK hK=>?_);go_simp;refine hK _ _ ⟨⟨rfl,λe he=>(by have hm:=mem_listed he;simp[go_sem, *]at hm)⟩,?_⟩;clear hK K;try w_num)
   refine ET.c (λ_=>stepG_region_end) ?_;refine ET.c (λ_=>stepG_seq) ?_;refine ET.condT rfl ?_;refine ET.c (λ_=>stepG_seq) ?_
   (refine ET.c (λ_=>stepG_region) ?_;simp only[List.size_toArray,List.length_cons,List.length_nil,Nat.reduceAdd,Nat.zero_add,List.range,List.range.loop])
   refine ET.stop λw₅ k₅ _=>?_
   replace hF:=hFk _ _ _ _ _ hF k₅;clear k₅;refine⟨rfl,_,stepG_mark0 .enable (by simp) rfl rfl (by k_ne) rfl H.f_enable (x_enable_n L) (x_enable_b L) (x_enable_x L) (x_enable_f L),?_⟩;walk_nrm
   refine ET.c (λ_=>stepG_region_end) ?_
   (refine ET.c (λ_=>stepG_region) ?_;simp only[List.size_toArray,List.length_cons,List.length_nil,Nat.reduceAdd,Nat.zero_add,List.range,List.range.loop])
   (refine ET.k rfl (λ_ _ _=>?_);refine goes_oper_k rfl rfl (by k_ne) (λK hK=>?_);go_simp;refine hK _ _ ⟨⟨rfl,λe he=>(by have hm:=mem_listed he;simp[go_sem, *]at hm)⟩,?_⟩;clear hK K;try w_num)
   (refine ET.k rfl (λ_ _ iW=>?_);refine goes_oper_k rfl rfl (by k_ne) (λKx hKx=>?_);have hcv:=run_convert_to_unsafe (P:=p.P) H.underlying_tWgP H.underlying_tUP H.room_tWg (Go.ConcN.Gen.WgLive.cell0 iW.1).choose_spec;have hce:=λes=>events_convert_to_unsafe (P:=p.P) H.underlying_tWgP H.underlying_tUP H.room_tWg (Go.ConcN.Gen.WgLive.cell0 iW.1).choose_spec es;go_simp;refine hKx _ _ ⟨⟨rfl,λex hex=>(by have hmx:=mem_listed hex;simp[go_sem,hce]at hmx)⟩,?_⟩;clear hKx Kx hcv hce)
   refine ET.stop λw₆ k₆ _=>?_
   replace hF:=hFk _ _ _ _ _ hF k₆;clear k₆;refine⟨rfl,_,stepG_markAt .acquire (by simp) rfl rfl (by k_ne) rfl H.f_acquire (x_acquire_n L) (x_acquire_b L) (x_acquire_x L) (x_acquire_f L) (by simp[Act.eval,stA]),⟨_,hF,λI X Ro' Stop M' hT=>?_⟩⟩;walk_nrm
   refine ET.c (λ_=>stepG_region_end) ?_;refine ET.c (λ_=>stepG_seq) ?_;refine ET.c (λ_=>stepG_seq) ?_
   (refine ET.c (λ_=>stepG_region) ?_;simp only[List.size_toArray,List.length_cons,List.length_nil,Nat.reduceAdd,Nat.zero_add,List.range,List.range.loop])
   (refine ET.k rfl (λ_ _ _=>?_);refine goes_oper_k rfl rfl (by k_ne) (λK hK=>?_);go_simp;refine hK _ _ ⟨⟨rfl,λe he=>(by have hm:=mem_listed he;simp[go_sem, *]at hm)⟩,?_⟩;clear hK K;try w_num)
   refine ET.c (λ_=>stepG_region_end) ?_;refine ET.condF rfl ?_;refine ET.c (λ_=>stepG_skip) ?_;refine ET.c (λ_=>stepG_ret') ?_
   (refine ET.k rfl (λ_ _ _=>goes_leave0 rfl rfl H.f_wait rfl ⟨⟨rfl,λe he=>(by simp at he)⟩,?_⟩);walk_nrm)
   exact hT
  ·
   refine⟨_,stepG_cas_miss (v:=(v':Int)*KK) (old:=S) (n:=S+1) rfl rfl (by k_ne) rfl H.f_casU64 (x_casU64_n L) (x_casU64_b L) (x_casU64_x L) .u64 (x_casU64_f L) rfl rfl rfl hw.cellSt (hw.thaw 0) (by rw[<-hS];simp only[KK];omega),?_⟩;clear hw;walk_nrm
   (refine ET.k rfl (λ_ _ _=>?_);refine goes_oper_k rfl rfl (by k_ne) (λK hK=>?_);go_simp;refine hK _ _ ⟨⟨rfl,λe he=>(by have hm:=mem_listed he;simp[go_sem, *]at hm)⟩,?_⟩;clear hK K;try w_num)
   refine ET.c (λ_=>stepG_region_end) ?_;refine ET.c (λ_=>stepG_ret') ?_
   (refine ET.k rfl (λ_ _ _=>goes_leave1 rfl rfl H.f_uCas rfl ⟨⟨rfl,λe he=>(by simp at he)⟩,?_⟩);walk_nrm)
   refine ET.c (λ_=>stepG_region_end) ?_;refine ET.condF rfl ?_;refine ET.c (λ_=>stepG_skip) ?_;refine ET.c (λ_=>stepG_inBlock) ?_;refine ET.c (λ_=>stepG_inLoop) ?_;refine ET.stop λw₃ k₃ _=>?_
   replace hF:=hFk _ _ _ _ _ hF k₃;exact⟨_,a₀,rfl,rfl,rfl,hF⟩
end
end Ph
end
section
open Go Go.Conc Go.RowKit Go.Conc.Lib Go.ConcR.Gen
namespace Ph
section
variable {p:Ph}{L:WgLink}{F:Act->(Nat->Prop)->(Nat->Prop)->World->Prop}{b₀:Frame}{ops₀:Array Oper}{i₀:Nat}{rest₀:List Nat}{k₀:List Item}{cs:List Frame}
theorem waitStart (H:WgLib p.P L){Ro M:Nat->Prop}{a₀:Act}{w₀:World}(hF:∀w,aw (λb=>M b\/Ro b) w₀ w->F a₀ Ro M w):
  ET p.P true p.I p.saidX Ro (p.AtKd (p.AnW L F b₀ ops₀ i₀ rest₀ k₀ cs) Ro) M (G ((base L.wait).at ⟨#[.pointer (some ⟨p.Wg,0,none⟩),undef,undef,undef,undef,undef,undef,undef,undef,undef,undef,undef,undef,undef,undef,undef,undef,undef,undef,undef,undef,undef,undef,undef,undef,undef,undef,undef,undef,undef,undef,undef,undef,undef,undef,undef,undef,undef,undef,undef,undef,undef,undef,undef,undef,undef,undef,undef,undef,undef,undef,undef,undef,undef,undef,undef,undef,undef,undef,undef,undef,undef,undef,undef,undef,undef,undef,undef,undef,undef,undef,undef,undef,undef,undef,undef,undef,undef,undef,undef,undef,undef,undef,undef],[]⟩ [.code (body_wait L)]) (b₀.at a₀ (.inRegion ops₀ (i₀::rest₀)::k₀)::cs)) w₀:=by
 lib_facts
 simp only[body_wait,waitFn,Option.getD_some];refine ET.c (λ_=>stepG_seq) ?_;refine ET.condT rfl ?_
 (refine ET.c (λ_=>stepG_region) ?_;simp only[List.size_toArray,List.length_cons,List.length_nil,Nat.reduceAdd,Nat.zero_add,List.range,List.range.loop])
 refine ET.stop λw₁ k₁ _=>?_
 refine⟨rfl,_,stepG_mark0 .disable (by simp) rfl rfl (by k_ne) rfl H.f_disable (x_disable_n L) (x_disable_b L) (x_disable_x L) (x_disable_f L),?_⟩;walk_nrm
 refine ET.c (λ_=>stepG_region_end) ?_;refine ET.c (λ_=>stepG_block) ?_;refine ET.c (λ_=>stepG_loop) ?_;refine ET.stop λw₂ k₂ _=>?_
 exact⟨_,a₀,rfl,rfl,rfl,hF _ (k₁.trans k₂)⟩
end
end Ph
end
end Go.Proofs.YtlmcblcijndipabGreatDoor
