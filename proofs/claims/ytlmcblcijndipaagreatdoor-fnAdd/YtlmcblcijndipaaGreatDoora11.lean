import Derived.Test.YtlmcblcijndipaaGreatDoora04
set_option maxHeartbeats 8000000
set_option maxRecDepth 100000
namespace Go.Proofs.YtlmcblcijndipaaGreatDoor
open Conc Conc.Lib ConcR.Gen RowKit
variable {acI:Act}{F:Act->(Nat->Prop)->(Nat->Prop)->World->Prop}{a:Addr}{ops0:Array Oper}{acK:Frame}{cs:List Frame}{acO:List Item}{rest0:List Nat}{acN:Nat}{M S:Nat->Prop}{p:Ph}{v:Value}{L:WgLink}{acU w:World}
section
open ConcN (WgLive)
open ConcR (KK WgAt stA smA rd wr)
namespace Ph
variable {p:Ph}{M Ro:Nat->Prop}
theorem D9 (h:¬S a.block):aK S w (w.setCell a v):=
 ⟨λb hb=>Below.heap_setCell w a v b λe=>h<|e▸hb,Nat.le_of_eq (aside_setCell w a v).size.symm,rfl,rfl⟩
variable {L:WgLink}{k:Nat}{Next:(Nat->Prop)->(Nat->Prop)->Goroutine->World->Prop}{acK:Frame}{acI:Act}{ops0:Array Oper}{acN:Nat}{rest0:List Nat}{acO:List Item}{cs:List Frame}{acU:World}
theorem addPos (H:WgLib p.P L)(hW:¬(M p.Wg\/Ro p.Wg))
  (hT:∀w,aK (λb=>M b\/Ro b) acU w->ET p.P true p.I p.dE Ro (p.AtGo Ro k Next) M (G (acK.at (acI.put ((ops0[acN]?).bind (·.dst))<|.tuple #[])<|.inRegion ops0 rest0::acO) cs) w):
  ET p.P true p.I p.dE Ro (p.AtKdS Ro k Next) M
   (G ((base L.add).at ⟨#[.pointer p.Wg,(1:Int),ud,ud,ud,ud,ud,ud,ud,ud,ud,ud,ud,ud,ud,ud,ud,ud,ud,ud,ud,ud,ud,ud,ud,ud,ud,ud,ud,ud,ud,ud,ud,ud,ud,ud,ud,ud,ud,ud,ud,ud,ud,ud,ud,ud,ud,ud,ud,ud,ud,ud,ud,ud,ud,ud,ud,ud,ud,ud,ud,ud,ud,ud,ud,ud,ud,ud,ud,ud,ud,ud,ud,ud,ud,ud,ud,ud,ud,ud,ud,ud,ud,ud,ud,ud,ud,ud,ud,ud,ud,ud,ud,ud,ud,ud,ud,ud,ud,ud,ud,ud,ud,ud,ud,ud,ud,ud,ud,ud,ud,ud,ud,ud,ud,ud,ud],[]⟩ [.code (body_add L)]) (acK.at acI (.inRegion ops0 (acN::rest0)::acO)::cs)) acU:=by
 lib_facts
 simp only[body_add,addFn,Option.getD_some];apply ET.sq;refine ET.kX rfl ?_;apply ET.sq;apply ET.sr;refine ET.z ?_;refine ET.z ?_;apply ET.rn;refine ET.gJ rfl ?_;apply ET.sk;apply ET.sr;refine ET.stop λacV acP _=>?_
 refine⟨rfl,_,stepG_mark0 .disable aF rfl rfl (by k_ne) rfl H.f_disable (x_disable_n L) (x_disable_b L) (x_disable_x L)<|x_disable_f L,?_⟩;walk_nrm
 apply ET.rn;apply ET.rg
 (refine ET.c (λ_=>stepG_defer rfl rfl (by k_ne) rfl) ?_;walk_nrm)
 apply ET.ns;refine ET.z ?_;apply ET.rn;apply ET.sq;apply ET.sr
 (refine ET.c (λ_=>stepG_entry_pure (.bool false) rfl rfl (by k_ne) rfl H.f_inBubble (x_inBubble_n L) (x_inBubble_b L) (x_inBubble_x L)<|x_inBubble_f L) ?_;walk_nrm)
 apply ET.rn;refine ET.gJ rfl ?_;apply ET.sk;apply ET.sr;refine ET.z ?_;refine ET.z ?_;refine ET.z ?_;refine ET.z ?_;refine ET.z ?_;refine ET.z ?_
 (refine ET.k rfl λ_ _ _=>goes_call rfl rfl (by k_ne) rfl H.f_uAdd (nm_uAdd L) rfl ⟨⟨rfl,λe he=>ia⟩,?_⟩;walk_nrmf uAddFn)
 apply ET.sr;refine ET.z ?_;apply ET.ns;refine ET.z ?_;refine ET.z ?_;refine ET.z ?_;refine ET.z ?_;refine ET.stop λFm acQ _=>?_
 refine⟨rfl,λv hv hw=>?_⟩;rcases adj v with rfl|hvp
 ·
  replace hw:WgAt p.ty p.Wg Fm 0 0:=by simpa using hw
  have z:(((0:Nat):Int)+1)*KK=KK:=aF;rw[z];have e0:IntKind.u64.wrap (0+4294967296)=KK:=bF;refine⟨_,(stepG_add_atomic rfl rfl (by k_ne) rfl H.f_addU64 (x_addU64_n L) (x_addU64_b L) (x_addU64_x L) .u64 (x_addU64_f L) rfl rfl hw.cellSt<|hw.thaw 0).trans (by rw[e0];rfl),?_⟩;have hK:aK (λb=>M b\/Ro b) acU (Fm.setCell (stA p.Wg)<|.int .u64 KK):=acP.trans<|acQ.trans<|D9 hW;clear hw z e0;simp only[KK]at hK⊢;walk_nrm
  refine ET.z ?_;apply ET.rn;apply ET.rt
  (refine ET.k rfl λ_ _ _=>goes_leave1 rfl rfl H.f_uAdd rfl ⟨⟨rfl,λe he=>ia⟩,?_⟩;walk_nrm)
  refine ET.z ?_;apply ET.rn;apply ET.sq;apply ET.sr;refine ET.z ?_;refine ET.z ?_;refine ET.z ?_;refine ET.z ?_
  iterate 2 (refine ET.c (λ_=>stepG_unwanted rfl rfl) ?_;walk_nrm)
  refine ET.z ?_;apply ET.rn;refine ET.gJ rfl ?_;apply ET.sk;apply ET.sr;refine ET.z ?_;refine ET.z ?_;refine ET.z ?_;refine ET.z ?_;apply ET.ns;refine ET.z ?_;refine ET.z ?_;refine ET.z ?_;refine ET.z ?_;apply ET.rn;apply ET.sq;apply ET.sr;refine ET.z ?_;refine ET.z ?_;refine ET.z ?_;refine ET.z ?_;refine ET.z ?_;refine ET.z ?_;refine ET.z ?_;refine ET.z ?_;refine ET.z ?_;refine ET.z ?_;apply ET.rn;refine ET.kX rfl ?_;apply ET.rg;refine ET.z ?_;refine ET.z ?_;refine ET.z ?_
  (refine ET.k rfl λ_ _ iW=>?_;refine goes_oper_k rfl rfl (by k_ne) λKx hKx=>?_;have hcv:=run_convert_to_unsafe (P:=p.P) H.underlying_tPU32 H.underlying_tUP H.room_tU32 (Go.ConcN.Gen.WgLive.cell1 iW.1).choose_spec;have hce:=λes=>events_convert_to_unsafe (P:=p.P) H.underlying_tPU32 H.underlying_tUP H.room_tU32 (Go.ConcN.Gen.WgLive.cell1 iW.1).choose_spec es;go_simp;refine hKx _ _ ⟨⟨rfl,λex hex=>(by have hmx:=mem_listed hex;simp[go_sem,hce]at hmx)⟩,?_⟩;clear hKx Kx hcv hce)
  refine ET.k rfl λ_ _ _=>?_;rw[stepG_markAt .read aF rfl rfl (by k_ne) rfl H.f_raceRead (x_raceRead_n L) (x_raceRead_b L) (x_raceRead_x L) (x_raceRead_f L) (ad:=⟨p.Wg,1,none⟩) (by simp[Act.eval])];simp only[goes_go];refine⟨⟨trivial,λe he=>?_⟩,?_⟩
  .rw[Array.mem_singleton]at he;subst he;exact⟨_,rfl,.inl rfl⟩
  walk_nrm
  apply ET.rn;apply ET.sq;apply ET.sr;refine ET.z ?_;refine ET.z ?_;apply ET.rn;refine ET.gJ rfl ?_;apply ET.sk;apply ET.sq;apply ET.sr;refine ET.z ?_;refine ET.z ?_;refine ET.z ?_
  iterate 2 (refine ET.c (λ_=>stepG_unwanted rfl rfl) ?_;walk_nrm)
  refine ET.z ?_;refine ET.z ?_
  iterate 4 (refine ET.c (λ_=>stepG_unwanted rfl rfl) ?_;walk_nrm)
  refine ET.z ?_;apply ET.rn;refine ET.gJ rfl ?_;apply ET.sk;apply ET.sq;apply ET.sr;refine ET.z ?_;refine ET.z ?_;refine ET.z ?_
  iterate 2 (refine ET.c (λ_=>stepG_unwanted rfl rfl) ?_;walk_nrm)
  refine ET.z ?_;apply ET.rn;refine ET.kX rfl ?_;apply ET.rt;refine ET.stop λFo dB _=>?_
  exact⟨rfl,_,stepG_unwind_entry (v:=.tuple #[]) (evs:=#[Go.ConcR.mk .enable]) rfl H.f_enable (x_enable_n L) (x_enable_b L) (x_enable_x L) (x_enable_f L) (by simp[Extern.Race.none_]) (by simp[Go.ConcR.mk])<|by simp[Go.ConcR.mk],ET.k rfl λl_ _ _=>goes_leave0 rfl rfl H.f_add rfl ⟨⟨rfl,λe he=>ia⟩,hT _<|hK.trans dB⟩⟩
 ·
  obtain⟨V,hV⟩:∃V:Int,V=(v:Int)+1:=⟨_,rfl⟩;obtain⟨S,hS⟩:∃S:Int,S=V*KK:=⟨_,rfl⟩;have eS:IntKind.u64.wrap ((v:Int)*KK+4294967296)=S:=by rw[IntKind.wrap_u64,hS,hV];simp only[KK];omega
  rw[<-hV,<-hS];have a1:S/4294967296=V:=by rw[hS];simp only[KK];omega
  have b1:bits .and .u64 S 2147483648=0:=by rw[hS,hV];have:=Go.ConcN.st_flag (v+1) 0 aa aa;simpa[KK]using this
  have b2:bits .and .u64 S 2147483647=0:=by rw[hS,hV];have:=Go.ConcN.st_waiters (v+1) 0 aa aa;simpa[KK]using this
  have c1:IntKind.i32.wrap V=V:=by rw[IntKind.wrap_i32];omega
  have X8:1<V:=aa;have V_:V<2147483648:=aa;have q1:(V==1)=false:=cU;have q2:decide (V=1)=false:=decide_eq_false aa;have q3:decide (V<0)=false:=decide_eq_false aa;have q4:decide (0<V)=true:=decide_eq_true aa;have q5:(V==0)=false:=cU;have q6:decide (V=0)=false:=decide_eq_false aa;refine⟨_,(stepG_add_atomic rfl rfl (by k_ne) rfl H.f_addU64 (x_addU64_n L) (x_addU64_b L) (x_addU64_x L) .u64 (x_addU64_f L) rfl rfl hw.cellSt<|hw.thaw 0).trans (by rw[eS];rfl),?_⟩;have hK:aK (λb=>M b\/Ro b) acU (Fm.setCell (stA p.Wg)<|.int .u64 S):=acP.trans<|acQ.trans<|D9 hW;clear hw hS hV eS;walk_nrm
  refine ET.z ?_;apply ET.rn;apply ET.rt
  (refine ET.k rfl λ_ _ _=>goes_leave1 rfl rfl H.f_uAdd rfl ⟨⟨rfl,λe he=>ia⟩,?_⟩;walk_nrm)
  refine ET.z ?_;apply ET.rn;apply ET.sq;apply ET.sr;refine ET.z ?_;refine ET.z ?_;refine ET.z ?_;refine ET.z ?_
  iterate 2 (refine ET.c (λ_=>stepG_unwanted rfl rfl) ?_;walk_nrm)
  refine ET.z ?_;apply ET.rn;refine ET.gJ rfl ?_;apply ET.sk;apply ET.sr;refine ET.z ?_;refine ET.z ?_;refine ET.z ?_;refine ET.z ?_;apply ET.ns;refine ET.z ?_;refine ET.z ?_;refine ET.z ?_;refine ET.z ?_;apply ET.rn;apply ET.sq;apply ET.sr;refine ET.z ?_;refine ET.z ?_;refine ET.z ?_;refine ET.z ?_;refine ET.z ?_;refine ET.z ?_;refine ET.z ?_;refine ET.z ?_;refine ET.z ?_;refine ET.z ?_;apply ET.rn;refine ET.gJ rfl ?_;apply ET.sk;apply ET.sq;apply ET.sr;refine ET.z ?_;refine ET.z ?_;apply ET.rn;refine ET.gJ rfl ?_;apply ET.sk;apply ET.sq;apply ET.sr;refine ET.z ?_;refine ET.z ?_;refine ET.z ?_
  iterate 2 (refine ET.c (λ_=>stepG_unwanted rfl rfl) ?_;walk_nrm)
  refine ET.z ?_;refine ET.z ?_
  iterate 4 (refine ET.c (λ_=>stepG_unwanted rfl rfl) ?_;walk_nrm)
  refine ET.z ?_;apply ET.rn;refine ET.gJ rfl ?_;apply ET.sk;apply ET.sq;apply ET.sr;refine ET.z ?_;refine ET.z ?_;refine ET.z ?_
  iterate 2 (refine ET.c (λ_=>stepG_unwanted rfl rfl) ?_;walk_nrm)
  refine ET.z ?_;apply ET.rn;refine ET.kX rfl ?_;apply ET.rt;refine ET.stop λFo dB _=>?_
  exact⟨rfl,_,stepG_unwind_entry (v:=.tuple #[]) (evs:=#[Go.ConcR.mk .enable]) rfl H.f_enable (x_enable_n L) (x_enable_b L) (x_enable_x L) (x_enable_f L) (by simp[Extern.Race.none_]) (by simp[Go.ConcR.mk])<|by simp[Go.ConcR.mk],ET.k rfl λl_ _ _=>goes_leave0 rfl rfl H.f_add rfl ⟨⟨rfl,λe he=>ia⟩,hT _<|hK.trans dB⟩⟩
end Ph
namespace Ph
theorem D8 (h:¬S a.block):aK S w (w.setCell a v):=
 ⟨λb hb=>Below.heap_setCell w a v b λe=>h<|e▸hb,Nat.le_of_eq (aside_setCell w a v).size.symm,rfl,rfl⟩
section
variable (p:Ph)(L:WgLink)(F:Act->(Nat->Prop)->(Nat->Prop)->World->Prop)(acK:Frame)(ops0:Array Oper)(acN:Nat)(rest0:List Nat)(acO:List Item)(cs:List Frame)
def Xe (Ro M:Nat->Prop)(g:Goroutine)(W:World):Prop:=
 ∃(T:Array Value) (acI:Act),g=G ((base L.wait).at ⟨T,[]⟩ [.code (L7 L),.inLoop (L7 L),.inBlock 0]) (acK.at acI (.inRegion ops0 (acN::rest0)::acO)::cs)/\T.size=84/\T[0]?=some (.pointer p.Wg)/\F acI Ro M W
def Tj (Ro M:Nat->Prop)(g:Goroutine)(W:World):Prop:=
 ∃acI:Act,F acI Ro M W/\∀(I:World->Prop) (X:Event->Prop) (qH:Nat->Prop) (Stop:(Nat->Prop)->Goroutine->World->Prop) (M':Nat->Prop),
  ET p.P true I X qH Stop M' (G (acK.at (acI.put ((ops0[acN]?).bind (·.dst))<|.tuple #[])<|.inRegion ops0 rest0::acO) cs) W->ET p.P true I X qH Stop M' g W
end
theorem waitRound (H:WgLib p.P L)(MC:∀a Ro M w acV,F a Ro M w->aK (λb=>M b\/Ro b) w acV->F a Ro M acV)(hFw:∀a Ro M w,F a Ro M w->¬(M p.Wg\/Ro p.Wg))
  (Ro M:Nat->Prop)(g:Goroutine)(W:World)(h:p.Xe L F acK ops0 acN rest0 acO cs Ro M g W):
  ET p.P true p.I p.dE Ro (p.AtW1 (p.Tj F acK ops0 acN rest0 acO cs) (p.Xe L F acK ops0 acN rest0 acO cs) Ro) M g W:=by
 lib_facts
 obtain⟨T,acI,rfl,aaE,t0,hF⟩:=h;obtain⟨v0,v1,v2,v3,v4,v5,v6,v7,v8,v9,v10,v11,v12,v13,v14,v15,v16,v17,v18,v19,v20,v21,v22,v23,v24,v25,v26,v27,v28,v29,v30,v31,v32,v33,v34,v35,v36,v37,v38,v39,v40,v41,v42,v43,v44,v45,v46,v47,v48,v49,v50,v51,v52,v53,v54,v55,v56,v57,v58,v59,v60,v61,v62,v63,v64,v65,v66,v67,v68,v69,v70,v71,v72,v73,v74,v75,v76,v77,v78,v79,v80,v81,v82,v83,rfl⟩:=array84 T aaE;simp only[List.getElem?_toArray,List.getElem?_cons_zero,Option.some.injEq]at t0;subst t0;have hWn:=hFw _ _ _ _ hF;simp only[L7,body_wait,waitFn,Option.getD_some];refine ET.c (λ_=>stepG_block) ?_;apply ET.sr;refine ET.z ?_;refine ET.z ?_;refine ET.z ?_
 (refine ET.k rfl λ_ _ _=>goes_call rfl rfl (by k_ne) rfl H.f_uLoad (nm_uLoad L) rfl ⟨⟨rfl,λe he=>ia⟩,?_⟩;walk_nrmf uLoadFn)
 apply ET.sr;refine ET.z ?_;apply ET.ns;refine ET.z ?_;refine ET.z ?_;refine ET.z ?_;refine ET.stop λacV acP _=>?_
 replace hF:=MC _ _ _ _ _ hF acP;clear acP;refine⟨rfl,λv hv hw=>?_⟩;rcases adj v with rfl|hvp
 ·
  replace hw:WgAt p.ty p.Wg acV 0 0:=by simpa using hw
  refine⟨_,stepG_load_atomic (v:=0) rfl rfl (by k_ne) rfl H.f_loadU64 (x_loadU64_n L) (x_loadU64_b L) (x_loadU64_x L) .u64 (x_loadU64_f L) rfl hw.cellSt,λ_=>?_,λh=>absurd rfl h⟩;clear hw;walk_nrm
  refine ET.z ?_;apply ET.rn;apply ET.rt
  (refine ET.k rfl λ_ _ _=>goes_leave1 rfl rfl H.f_uLoad rfl ⟨⟨rfl,λe he=>ia⟩,?_⟩;walk_nrm)
  refine ET.z ?_;apply ET.ns;refine ET.z ?_;refine ET.z ?_;refine ET.z ?_;refine ET.z ?_;apply ET.ns;refine ET.z ?_;refine ET.z ?_;refine ET.z ?_;refine ET.z ?_;apply ET.rn;apply ET.sq;apply ET.sr;refine ET.z ?_;refine ET.z ?_;apply ET.rn;refine ET.kX rfl ?_;apply ET.sq;refine ET.kX rfl ?_;apply ET.sr;refine ET.stop λOW Cs _=>?_
  replace hF:=MC _ _ _ _ _ hF Cs;clear Cs;refine⟨rfl,_,stepG_mark0 .enable aF rfl rfl (by k_ne) rfl H.f_enable (x_enable_n L) (x_enable_b L) (x_enable_x L)<|x_enable_f L,?_⟩;walk_nrm
  apply ET.rn;apply ET.rg;refine ET.z ?_
  (refine ET.k rfl λ_ _ iW=>?_;refine goes_oper_k rfl rfl (by k_ne) λKx hKx=>?_;have hcv:=run_convert_to_unsafe (P:=p.P) H.underlying_tWgP H.underlying_tUP H.room_tWg (Go.ConcN.Gen.WgLive.cell0 iW.1).choose_spec;have hce:=λes=>events_convert_to_unsafe (P:=p.P) H.underlying_tWgP H.underlying_tUP H.room_tWg (Go.ConcN.Gen.WgLive.cell0 iW.1).choose_spec es;go_simp;refine hKx _ _ ⟨⟨rfl,λex hex=>(by have hmx:=mem_listed hex;simp[go_sem,hce]at hmx)⟩,?_⟩;clear hKx Kx hcv hce)
  refine ET.stop λabF zn _=>?_
  replace hF:=MC _ _ _ _ _ hF zn;clear zn;refine⟨rfl,_,stepG_markAt .acquire aF rfl rfl (by k_ne) rfl H.f_acquire (x_acquire_n L) (x_acquire_b L) (x_acquire_x L) (x_acquire_f L)<|by simp[Act.eval,stA],⟨_,hF,λI X qH Stop M' hT=>?_⟩⟩;walk_nrm
  apply ET.rn;apply ET.sq;apply ET.sr;refine ET.z ?_;refine ET.z ?_;refine ET.z ?_;refine ET.z ?_;refine ET.z ?_;refine ET.z ?_;refine ET.z ?_;refine ET.z ?_
  iterate 2 (refine ET.c (λ_=>stepG_unwanted rfl rfl) ?_;walk_nrm)
  refine ET.z ?_;apply ET.rn;refine ET.gJ rfl ?_;apply ET.sk;apply ET.rt
  (refine ET.k rfl λ_ _ _=>goes_leave0 rfl rfl H.f_wait rfl ⟨⟨rfl,λe he=>ia⟩,?_⟩;walk_nrm)
  exact hT
 ·
  obtain⟨S,hS⟩:∃S:Int,(v:Int)*KK=S:=⟨_,rfl⟩;have a1:S/4294967296=(v:Int):=by rw[<-hS];simp only[KK];omega
  have b1:bits .and .u64 S 2147483648=0:=by rw[<-hS];have:=Go.ConcN.st_flag v 0 aa aa;simpa[KK]using this
  have b2:bits .and .u64 S 2147483647=0:=by rw[<-hS];have:=Go.ConcN.st_waiters v 0 aa aa;simpa[KK]using this
  have c1:IntKind.i32.wrap (v:Int)=(v:Int):=by rw[IntKind.wrap_i32];omega
  have w1:IntKind.u64.wrap (S+1)=S+1:=by rw[IntKind.wrap_u64,<-hS];simp only[KK];omega
  have q3:decide ((v:Int)<0)=false:=decide_eq_false aa;have q4:decide (0<(v:Int))=true:=decide_eq_true aa;have q5:((v:Int)==0)=false:=cU;have q6:decide ((v:Int)=0)=false:=decide_eq_false aa;rw[hS]at hw;refine⟨_,stepG_load_atomic (v:=S) rfl rfl (by k_ne) rfl H.f_loadU64 (x_loadU64_n L) (x_loadU64_b L) (x_loadU64_x L) .u64 (x_loadU64_f L) rfl hw.cellSt,λh0=>absurd h0 aa,λ_=>?_⟩;clear hw;walk_nrm
  refine ET.z ?_;apply ET.rn;apply ET.rt
  (refine ET.k rfl λ_ _ _=>goes_leave1 rfl rfl H.f_uLoad rfl ⟨⟨rfl,λe he=>ia⟩,?_⟩;walk_nrm)
  refine ET.z ?_;apply ET.ns;refine ET.z ?_;refine ET.z ?_;refine ET.z ?_;refine ET.z ?_;apply ET.ns;refine ET.z ?_;refine ET.z ?_;refine ET.z ?_;refine ET.z ?_;apply ET.rn;apply ET.sq;apply ET.sr;refine ET.z ?_;refine ET.z ?_;apply ET.rn;refine ET.gJ rfl ?_;apply ET.sk;apply ET.sr;refine ET.z ?_;refine ET.z ?_;refine ET.z ?_;refine ET.z ?_;refine ET.z ?_;refine ET.z ?_
  (refine ET.k rfl λ_ _ _=>goes_call rfl rfl (by k_ne) rfl H.f_uCas (nm_uCas L) rfl ⟨⟨rfl,λe he=>ia⟩,?_⟩;walk_nrmf uCasFn)
  apply ET.sr;refine ET.z ?_;apply ET.ns;refine ET.z ?_;refine ET.z ?_;refine ET.z ?_;refine ET.z ?_;refine ET.z ?_;refine ET.stop λFm acQ _=>?_
  replace hF:=MC _ _ _ _ _ hF acQ;clear acQ;refine⟨rfl,λv' Ay hw=>⟨λe=>?_,λe=>?_⟩⟩
  ·
   subst e;rw[hS]at hw⊢;refine⟨_,(stepG_cas_hit (v:=S) (n:=S+1) rfl rfl (by k_ne) rfl H.f_casU64 (x_casU64_n L) (x_casU64_b L) (x_casU64_x L) .u64 (x_casU64_f L) rfl rfl rfl hw.cellSt<|hw.thaw 0).trans cj,?_⟩;replace hF:=MC _ _ _ _ (Fm.setCell (stA p.Wg)<|.int .u64<|S+1) hF<|D8 hWn;clear hw;walk_nrm
   refine ET.z ?_;apply ET.rn;apply ET.rt
   (refine ET.k rfl λ_ _ _=>goes_leave1 rfl rfl H.f_uCas rfl ⟨⟨rfl,λe he=>ia⟩,?_⟩;walk_nrm)
   apply ET.rn;refine ET.kX rfl ?_;apply ET.sq;apply ET.sr;refine ET.z ?_;refine ET.z ?_;refine ET.z ?_;refine ET.z ?_;apply ET.rn;refine ET.kX rfl ?_;apply ET.rg;refine ET.z ?_;refine ET.z ?_;refine ET.z ?_
   (refine ET.k rfl λ_ _ iW=>?_;refine goes_oper_k rfl rfl (by k_ne) λKx hKx=>?_;have hcv:=run_convert_to_unsafe (P:=p.P) H.underlying_tPU32 H.underlying_tUP H.room_tU32 (Go.ConcN.Gen.WgLive.cell1 iW.1).choose_spec;have hce:=λes=>events_convert_to_unsafe (P:=p.P) H.underlying_tPU32 H.underlying_tUP H.room_tU32 (Go.ConcN.Gen.WgLive.cell1 iW.1).choose_spec es;go_simp;refine hKx _ _ ⟨⟨rfl,λex hex=>(by have hmx:=mem_listed hex;simp[go_sem,hce]at hmx)⟩,?_⟩;clear hKx Kx hcv hce)
   refine ET.k rfl λ_ _ _=>?_;rw[stepG_markAt .write aF rfl rfl (by k_ne) rfl H.f_raceWrite (x_raceWrite_n L) (x_raceWrite_b L) (x_raceWrite_x L) (x_raceWrite_f L) (ad:=⟨_,1,none⟩) (by simp[Act.eval]<;>rfl)];simp only[goes_go];refine⟨⟨trivial,λex hex=>?_⟩,?_⟩
   .rw[Array.mem_singleton]at hex;subst hex;exact⟨_,rfl,.inr rfl⟩
   walk_nrm
   apply ET.ns;refine ET.z ?_;apply ET.rn;apply ET.sq;apply ET.sr;refine ET.z ?_;refine ET.z ?_;refine ET.z ?_;refine ET.z ?_
   (refine ET.c (λ_=>stepG_unwanted rfl rfl) ?_;walk_nrm)
   refine ET.z ?_;apply ET.rn;refine ET.gJ rfl ?_;apply ET.sk;apply ET.sr;refine ET.z ?_;refine ET.z ?_;refine ET.z ?_;refine ET.z ?_;refine ET.stop λFo dB _=>?_
   replace hF:=MC _ _ _ _ _ hF dB;clear dB;refine⟨rfl,rfl,λ⟨st,hw⟩=>stepG_semacquire_wait rfl rfl rfl H.f_semacquire (x_semacquire_n L) (x_semacquire_b L) (x_semacquire_x L) (x_semacquire_f L) (by simp[Act.eval,smA]) hw.cellSm,λhf=>?_⟩;refine⟨_,(stepG_semacquire (n:=1) rfl rfl (by k_ne) rfl H.f_semacquire (x_semacquire_n L) (x_semacquire_b L) (x_semacquire_x L) (x_semacquire_f L) (by simp[Act.eval,smA]) hf.cellSm (by k_ne)<|hf.thaw 1).trans cj,?_⟩;replace hF:=MC _ _ _ _ (Fo.setCell (smA p.Wg)<|.int .u32 0) hF<|D8 hWn;clear hf;walk_nrm
   apply ET.ns;refine ET.z ?_;refine ET.z ?_;refine ET.z ?_
   (refine ET.k rfl λ_ _ _=>goes_call rfl rfl (by k_ne) rfl H.f_uLoad (nm_uLoad L) rfl ⟨⟨rfl,λe he=>ia⟩,?_⟩;walk_nrmf uLoadFn)
   apply ET.sr;refine ET.z ?_;apply ET.ns;refine ET.z ?_;refine ET.z ?_;refine ET.z ?_;refine ET.stop λl_ kv _=>?_
   replace hF:=MC _ _ _ _ _ hF kv;clear kv;refine⟨rfl,λhw=>⟨_,stepG_load_atomic (v:=0) rfl rfl (by k_ne) rfl H.f_loadU64 (x_loadU64_n L) (x_loadU64_b L) (x_loadU64_x L) .u64 (x_loadU64_f L) rfl hw.cellSt,?_⟩⟩;clear hw;walk_nrm
   refine ET.z ?_;apply ET.rn;apply ET.rt
   (refine ET.k rfl λ_ _ _=>goes_leave1 rfl rfl H.f_uLoad rfl ⟨⟨rfl,λe he=>ia⟩,?_⟩;walk_nrm)
   refine ET.z ?_;refine ET.z ?_;apply ET.rn;apply ET.sq;refine ET.kX rfl ?_;apply ET.sr;refine ET.stop λOW Cs _=>?_
   replace hF:=MC _ _ _ _ _ hF Cs;clear Cs;refine⟨rfl,_,stepG_mark0 .enable aF rfl rfl (by k_ne) rfl H.f_enable (x_enable_n L) (x_enable_b L) (x_enable_x L)<|x_enable_f L,?_⟩;walk_nrm
   apply ET.rn;apply ET.rg;refine ET.z ?_
   (refine ET.k rfl λ_ _ iW=>?_;refine goes_oper_k rfl rfl (by k_ne) λKx hKx=>?_;have hcv:=run_convert_to_unsafe (P:=p.P) H.underlying_tWgP H.underlying_tUP H.room_tWg (Go.ConcN.Gen.WgLive.cell0 iW.1).choose_spec;have hce:=λes=>events_convert_to_unsafe (P:=p.P) H.underlying_tWgP H.underlying_tUP H.room_tWg (Go.ConcN.Gen.WgLive.cell0 iW.1).choose_spec es;go_simp;refine hKx _ _ ⟨⟨rfl,λex hex=>(by have hmx:=mem_listed hex;simp[go_sem,hce]at hmx)⟩,?_⟩;clear hKx Kx hcv hce)
   refine ET.stop λabF zn _=>?_
   replace hF:=MC _ _ _ _ _ hF zn;clear zn;refine⟨rfl,_,stepG_markAt .acquire aF rfl rfl (by k_ne) rfl H.f_acquire (x_acquire_n L) (x_acquire_b L) (x_acquire_x L) (x_acquire_f L)<|by simp[Act.eval,stA],⟨_,hF,λI X qH Stop M' hT=>?_⟩⟩;walk_nrm
   apply ET.rn;apply ET.sq;apply ET.sr;refine ET.z ?_;apply ET.rn;refine ET.gJ rfl ?_;apply ET.sk;apply ET.rt
   (refine ET.k rfl λ_ _ _=>goes_leave0 rfl rfl H.f_wait rfl ⟨⟨rfl,λe he=>ia⟩,?_⟩;walk_nrm)
   exact hT
  ·
   refine⟨_,stepG_cas_miss (v:=(v':Int)*KK) (old:=S) (n:=S+1) rfl rfl (by k_ne) rfl H.f_casU64 (x_casU64_n L) (x_casU64_b L) (x_casU64_x L) .u64 (x_casU64_f L) rfl rfl rfl hw.cellSt (hw.thaw 0) (by rw[<-hS];simp only[KK];omega),?_⟩;clear hw;walk_nrm
   refine ET.z ?_;apply ET.rn;apply ET.rt
   (refine ET.k rfl λ_ _ _=>goes_leave1 rfl rfl H.f_uCas rfl ⟨⟨rfl,λe he=>ia⟩,?_⟩;walk_nrm)
   apply ET.rn;refine ET.gJ rfl ?_;apply ET.sk;refine ET.c (λ_=>stepG_inBlock) ?_;refine ET.c (λ_=>stepG_inLoop) ?_;refine ET.stop λFo dB _=>?_
   replace hF:=MC _ _ _ _ _ hF dB;exact⟨_,acI,rfl,rfl,rfl,hF⟩
end Ph
end
namespace Ph
theorem waitStart (H:WgLib p.P L){Ro:Nat->Prop}(hF:∀w,aK (λb=>M b\/Ro b) acU w->F acI Ro M w):
  ET p.P true p.I p.dE Ro (p.AtKd (p.Xe L F acK ops0 acN rest0 acO cs) Ro) M (G ((base L.wait).at ⟨#[.pointer p.Wg,ud,ud,ud,ud,ud,ud,ud,ud,ud,ud,ud,ud,ud,ud,ud,ud,ud,ud,ud,ud,ud,ud,ud,ud,ud,ud,ud,ud,ud,ud,ud,ud,ud,ud,ud,ud,ud,ud,ud,ud,ud,ud,ud,ud,ud,ud,ud,ud,ud,ud,ud,ud,ud,ud,ud,ud,ud,ud,ud,ud,ud,ud,ud,ud,ud,ud,ud,ud,ud,ud,ud,ud,ud,ud,ud,ud,ud,ud,ud,ud,ud,ud,ud],[]⟩ [.code (body_wait L)])<|acK.at acI (.inRegion ops0 (acN::rest0)::acO)::cs) acU:=by
 lib_facts
 simp only[body_wait,waitFn,Option.getD_some];apply ET.sq;refine ET.kX rfl ?_;apply ET.rg;refine ET.stop λacV acP _=>?_
 refine⟨rfl,_,stepG_mark0 .disable aF rfl rfl (by k_ne) rfl H.f_disable (x_disable_n L) (x_disable_b L) (x_disable_x L)<|x_disable_f L,?_⟩;walk_nrm
 apply ET.rn;refine ET.c (λ_=>stepG_block) ?_;refine ET.c (λ_=>stepG_loop) ?_;refine ET.stop λFm acQ _=>?_
 exact⟨_,acI,rfl,rfl,rfl,hF _<|acP.trans acQ⟩
end Ph
