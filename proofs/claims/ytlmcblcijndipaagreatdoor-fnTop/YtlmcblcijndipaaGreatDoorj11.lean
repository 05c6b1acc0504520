import Derived.Test.YtlmcblcijndipaaGreatDoorj04
set_option maxHeartbeats 8000000
set_option maxRecDepth 100000
namespace Go.Proofs.YtlmcblcijndipaaGreatDoor
open Conc Conc.Lib ConcR.Gen RowKit
variable {acG:Act}{F:Act->(Nat->Prop)->(Nat->Prop)->World->Prop}{a:Addr}{ops0:Array Oper}{acI:Frame}{cs:List Frame}{acM:List Item}{rest0:List Nat}{acL:Nat}{M S:Nat->Prop}{p:Ph}{v:Value}{L:WgLink}{acS w:World}
section
open ConcN (WgLive)
open ConcR (KK WgAt stA smA rd wr)
namespace Ph
variable {p:Ph}{M Ro:Nat->Prop}
theorem Ex (h:¬S a.block):aO S w (w.setCell a v):=
 ⟨λb hb=>Below.heap_setCell w a v b λe=>h<|e▸hb,Nat.le_of_eq (aside_setCell w a v).size.symm,rfl,rfl⟩
variable {L:WgLink}{k:Nat}{Next:(Nat->Prop)->(Nat->Prop)->Goroutine->World->Prop}{acI:Frame}{acG:Act}{ops0:Array Oper}{acL:Nat}{rest0:List Nat}{acM:List Item}{cs:List Frame}{acS:World}
theorem addPos (H:WgLib p.P L)(hW:¬(M p.Wg\/Ro p.Wg))
  (hT:∀w,aO (λb=>M b\/Ro b) acS w->ET p.P true p.I p.dE Ro (p.AtGo Ro k Next) M (G (acI.at (acG.put ((ops0[acL]?).bind (·.dst))<|.tuple #[])<|.inRegion ops0 rest0::acM) cs) w):
  ET p.P true p.I p.dE Ro (p.AtKdS Ro k Next) M
   (G ((base L.add).at ⟨#[.pointer p.Wg,(1:Int),ud,ud,ud,ud,ud,ud,ud,ud,ud,ud,ud,ud,ud,ud,ud,ud,ud,ud,ud,ud,ud,ud,ud,ud,ud,ud,ud,ud,ud,ud,ud,ud,ud,ud,ud,ud,ud,ud,ud,ud,ud,ud,ud,ud,ud,ud,ud,ud,ud,ud,ud,ud,ud,ud,ud,ud,ud,ud,ud,ud,ud,ud,ud,ud,ud,ud,ud,ud,ud,ud,ud,ud,ud,ud,ud,ud,ud,ud,ud,ud,ud,ud,ud,ud,ud,ud,ud,ud,ud,ud,ud,ud,ud,ud,ud,ud,ud,ud,ud,ud,ud,ud,ud,ud,ud,ud,ud,ud,ud,ud,ud,ud,ud,ud,ud],[]⟩ [.code (body_add L)]) (acI.at acG (.inRegion ops0 (acL::rest0)::acM)::cs)) acS:=by
 lib_facts
 simp only[body_add,addFn,Option.getD_some];apply ET.sq;refine ET.kV rfl ?_;apply ET.sq;apply ET.sr;refine ET.z ?_;refine ET.z ?_;apply ET.rn;refine ET.gP rfl ?_;apply ET.sk;apply ET.sr;refine ET.stop λacT acN _=>?_
 refine⟨rfl,_,stepG_mark0 .disable aG rfl rfl (by k_ne) rfl H.f_disable (x_disable_n L) (x_disable_b L) (x_disable_x L)<|x_disable_f L,?_⟩;walk_nrm
 apply ET.rn;apply ET.rg
 (refine ET.c (λ_=>stepG_defer rfl rfl (by k_ne) rfl) ?_;walk_nrm)
 apply ET.ns;refine ET.z ?_;apply ET.rn;apply ET.sq;apply ET.sr
 (refine ET.c (λ_=>stepG_entry_pure (.bool false) rfl rfl (by k_ne) rfl H.f_inBubble (x_inBubble_n L) (x_inBubble_b L) (x_inBubble_x L)<|x_inBubble_f L) ?_;walk_nrm)
 apply ET.rn;refine ET.gP rfl ?_;apply ET.sk;apply ET.sr;refine ET.z ?_;refine ET.z ?_;refine ET.z ?_;refine ET.z ?_;refine ET.z ?_;refine ET.z ?_
 (refine ET.k rfl λ_ _ _=>goes_call rfl rfl (by k_ne) rfl H.f_uAdd (nm_uAdd L) rfl ⟨⟨rfl,λe he=>ic⟩,?_⟩;walk_nrmf uAddFn)
 apply ET.sr;refine ET.z ?_;apply ET.ns;refine ET.z ?_;refine ET.z ?_;refine ET.z ?_;refine ET.z ?_;refine ET.stop λFR acO _=>?_
 refine⟨rfl,λv hv hw=>?_⟩;rcases adh v with rfl|hvp
 ·
  replace hw:WgAt p.ty p.Wg FR 0 0:=by simpa using hw
  have z:(((0:Nat):Int)+1)*KK=KK:=aG;rw[z];have e0:IntKind.u64.wrap (0+4294967296)=KK:=bd;refine⟨_,(stepG_add_atomic rfl rfl (by k_ne) rfl H.f_addU64 (x_addU64_n L) (x_addU64_b L) (x_addU64_x L) .u64 (x_addU64_f L) rfl rfl hw.cellSt<|hw.thaw 0).trans (by rw[e0];rfl),?_⟩;have hK:aO (λb=>M b\/Ro b) acS (FR.setCell (stA p.Wg)<|.int .u64 KK):=acN.trans<|acO.trans<|Ex hW;clear hw z e0;simp only[KK]at hK⊢;walk_nrm
  refine ET.z ?_;apply ET.rn;apply ET.rt
  (refine ET.k rfl λ_ _ _=>goes_leave1 rfl rfl H.f_uAdd rfl ⟨⟨rfl,λe he=>ic⟩,?_⟩;walk_nrm)
  refine ET.z ?_;apply ET.rn;apply ET.sq;apply ET.sr;refine ET.z ?_;refine ET.z ?_;refine ET.z ?_;refine ET.z ?_
  iterate 2 (refine ET.c (λ_=>stepG_unwanted rfl rfl) ?_;walk_nrm)
  refine ET.z ?_;apply ET.rn;refine ET.gP rfl ?_;apply ET.sk;apply ET.sr;refine ET.z ?_;refine ET.z ?_;refine ET.z ?_;refine ET.z ?_;apply ET.ns;refine ET.z ?_;refine ET.z ?_;refine ET.z ?_;refine ET.z ?_;apply ET.rn;apply ET.sq;apply ET.sr;refine ET.z ?_;refine ET.z ?_;refine ET.z ?_;refine ET.z ?_;refine ET.z ?_;refine ET.z ?_;refine ET.z ?_;refine ET.z ?_;refine ET.z ?_;refine ET.z ?_;apply ET.rn;refine ET.kV rfl ?_;apply ET.rg;refine ET.z ?_;refine ET.z ?_;refine ET.z ?_
  (refine ET.k rfl λ_ _ iW=>?_;refine goes_oper_k rfl rfl (by k_ne) λKx hKx=>?_;have hcv:=run_convert_to_unsafe (P:=p.P) H.underlying_tPU32 H.underlying_tUP H.room_tU32 (Go.ConcN.Gen.WgLive.cell1 iW.1).choose_spec;have hce:=λes=>events_convert_to_unsafe (P:=p.P) H.underlying_tPU32 H.underlying_tUP H.room_tU32 (Go.ConcN.Gen.WgLive.cell1 iW.1).choose_spec es;go_simp;refine hKx _ _ ⟨⟨rfl,λex hex=>(by have hmx:=mem_listed hex;simp[go_sem,hce]at hmx)⟩,?_⟩;clear hKx Kx hcv hce)
  refine ET.k rfl λ_ _ _=>?_;rw[stepG_markAt .read aG rfl rfl (by k_ne) rfl H.f_raceRead (x_raceRead_n L) (x_raceRead_b L) (x_raceRead_x L) (x_raceRead_f L) (ad:=⟨p.Wg,1,none⟩) (by simp[Act.eval])];simp only[goes_go];refine⟨⟨trivial,λe he=>?_⟩,?_⟩
  .rw[Array.mem_singleton]at he;subst he;exact⟨_,rfl,.inl rfl⟩
  walk_nrm
  apply ET.rn;apply ET.sq;apply ET.sr;refine ET.z ?_;refine ET.z ?_;apply ET.rn;refine ET.gP rfl ?_;apply ET.sk;apply ET.sq;apply ET.sr;refine ET.z ?_;refine ET.z ?_;refine ET.z ?_
  iterate 2 (refine ET.c (λ_=>stepG_unwanted rfl rfl) ?_;walk_nrm)
  refine ET.z ?_;refine ET.z ?_
  iterate 4 (refine ET.c (λ_=>stepG_unwanted rfl rfl) ?_;walk_nrm)
  refine ET.z ?_;apply ET.rn;refine ET.gP rfl ?_;apply ET.sk;apply ET.sq;apply ET.sr;refine ET.z ?_;refine ET.z ?_;refine ET.z ?_
  iterate 2 (refine ET.c (λ_=>stepG_unwanted rfl rfl) ?_;walk_nrm)
  refine ET.z ?_;apply ET.rn;refine ET.kV rfl ?_;apply ET.rt;refine ET.stop λFT dz _=>?_
  exact⟨rfl,_,stepG_unwind_entry (v:=.tuple #[]) (evs:=#[Go.ConcR.mk .enable]) rfl H.f_enable (x_enable_n L) (x_enable_b L) (x_enable_x L) (x_enable_f L) (by simp[Extern.Race.none_]) (by simp[Go.ConcR.mk])<|by simp[Go.ConcR.mk],ET.k rfl λaai _ _=>goes_leave0 rfl rfl H.f_add rfl ⟨⟨rfl,λe he=>ic⟩,hT _<|hK.trans dz⟩⟩
 ·
  obtain⟨V,hV⟩:∃V:Int,V=(v:Int)+1:=⟨_,rfl⟩;obtain⟨S,hS⟩:∃S:Int,S=V*KK:=⟨_,rfl⟩;have eS:IntKind.u64.wrap ((v:Int)*KK+4294967296)=S:=by rw[IntKind.wrap_u64,hS,hV];simp only[KK];omega
  rw[<-hV,<-hS];have a1:S/4294967296=V:=by rw[hS];simp only[KK];omega
  have b1:bits .and .u64 S 2147483648=0:=by rw[hS,hV];have:=Go.ConcN.st_flag (v+1) 0 ab ab;simpa[KK]using this
  have b2:bits .and .u64 S 2147483647=0:=by rw[hS,hV];have:=Go.ConcN.st_waiters (v+1) 0 ab ab;simpa[KK]using this
  have c1:IntKind.i32.wrap V=V:=by rw[IntKind.wrap_i32];omega
  have YW:1<V:=ab;have hV2:V<2147483648:=ab;have q1:(V==1)=false:=cH;have q2:decide (V=1)=false:=decide_eq_false ab;have q3:decide (V<0)=false:=decide_eq_false ab;have q4:decide (0<V)=true:=decide_eq_true ab;have q5:(V==0)=false:=cH;have q6:decide (V=0)=false:=decide_eq_false ab;refine⟨_,(stepG_add_atomic rfl rfl (by k_ne) rfl H.f_addU64 (x_addU64_n L) (x_addU64_b L) (x_addU64_x L) .u64 (x_addU64_f L) rfl rfl hw.cellSt<|hw.thaw 0).trans (by rw[eS];rfl),?_⟩;have hK:aO (λb=>M b\/Ro b) acS (FR.setCell (stA p.Wg)<|.int .u64 S):=acN.trans<|acO.trans<|Ex hW;clear hw hS hV eS;walk_nrm
  refine ET.z ?_;apply ET.rn;apply ET.rt
  (refine ET.k rfl λ_ _ _=>goes_leave1 rfl rfl H.f_uAdd rfl ⟨⟨rfl,λe he=>ic⟩,?_⟩;walk_nrm)
  refine ET.z ?_;apply ET.rn;apply ET.sq;apply ET.sr;refine ET.z ?_;refine ET.z ?_;refine ET.z ?_;refine ET.z ?_
  iterate 2 (refine ET.c (λ_=>stepG_unwanted rfl rfl) ?_;walk_nrm)
  refine ET.z ?_;apply ET.rn;refine ET.gP rfl ?_;apply ET.sk;apply ET.sr;refine ET.z ?_;refine ET.z ?_;refine ET.z ?_;refine ET.z ?_;apply ET.ns;refine ET.z ?_;refine ET.z ?_;refine ET.z ?_;refine ET.z ?_;apply ET.rn;apply ET.sq;apply ET.sr;refine ET.z ?_;refine ET.z ?_;refine ET.z ?_;refine ET.z ?_;refine ET.z ?_;refine ET.z ?_;refine ET.z ?_;refine ET.z ?_;refine ET.z ?_;refine ET.z ?_;apply ET.rn;refine ET.gP rfl ?_;apply ET.sk;apply ET.sq;apply ET.sr;refine ET.z ?_;refine ET.z ?_;apply ET.rn;refine ET.gP rfl ?_;apply ET.sk;apply ET.sq;apply ET.sr;refine ET.z ?_;refine ET.z ?_;refine ET.z ?_
  iterate 2 (refine ET.c (λ_=>stepG_unwanted rfl rfl) ?_;walk_nrm)
  refine ET.z ?_;refine ET.z ?_
  iterate 4 (refine ET.c (λ_=>stepG_unwanted rfl rfl) ?_;walk_nrm)
  refine ET.z ?_;apply ET.rn;refine ET.gP rfl ?_;apply ET.sk;apply ET.sq;apply ET.sr;refine ET.z ?_;refine ET.z ?_;refine ET.z ?_
  iterate 2 (refine ET.c (λ_=>stepG_unwanted rfl rfl) ?_;walk_nrm)
  refine ET.z ?_;apply ET.rn;refine ET.kV rfl ?_;apply ET.rt;refine ET.stop λFT dz _=>?_
  exact⟨rfl,_,stepG_unwind_entry (v:=.tuple #[]) (evs:=#[Go.ConcR.mk .enable]) rfl H.f_enable (x_enable_n L) (x_enable_b L) (x_enable_x L) (x_enable_f L) (by simp[Extern.Race.none_]) (by simp[Go.ConcR.mk])<|by simp[Go.ConcR.mk],ET.k rfl λaai _ _=>goes_leave0 rfl rfl H.f_add rfl ⟨⟨rfl,λe he=>ic⟩,hT _<|hK.trans dz⟩⟩
end Ph
namespace Ph
theorem Ew (h:¬S a.block):aO S w (w.setCell a v):=
 ⟨λb hb=>Below.heap_setCell w a v b λe=>h<|e▸hb,Nat.le_of_eq (aside_setCell w a v).size.symm,rfl,rfl⟩
section
variable (p:Ph)(L:WgLink)(F:Act->(Nat->Prop)->(Nat->Prop)->World->Prop)(acI:Frame)(ops0:Array Oper)(acL:Nat)(rest0:List Nat)(acM:List Item)(cs:List Frame)
def X6 (Ro M:Nat->Prop)(g:Goroutine)(W:World):Prop:=
 ∃(T:Array Value) (acG:Act),g=G ((base L.wait).at ⟨T,[]⟩ [.code (L7 L),.inLoop (L7 L),.inBlock 0]) (acI.at acG (.inRegion ops0 (acL::rest0)::acM)::cs)/\T.size=84/\T[0]?=some (.pointer p.Wg)/\F acG Ro M W
def Um (Ro M:Nat->Prop)(g:Goroutine)(W:World):Prop:=
 ∃acG:Act,F acG Ro M W/\∀(I:World->Prop) (X:Event->Prop) (qO:Nat->Prop) (Stop:(Nat->Prop)->Goroutine->World->Prop) (M':Nat->Prop),
  ET p.P true I X qO Stop M' (G (acI.at (acG.put ((ops0[acL]?).bind (·.dst))<|.tuple #[])<|.inRegion ops0 rest0::acM) cs) W->ET p.P true I X qO Stop M' g W
end
theorem waitRound (H:WgLib p.P L)(Nt:∀a Ro M w acT,F a Ro M w->aO (λb=>M b\/Ro b) w acT->F a Ro M acT)(hFw:∀a Ro M w,F a Ro M w->¬(M p.Wg\/Ro p.Wg))
  (Ro M:Nat->Prop)(g:Goroutine)(W:World)(h:p.X6 L F acI ops0 acL rest0 acM cs Ro M g W):
  ET p.P true p.I p.dE Ro (p.AtW1 (p.Um F acI ops0 acL rest0 acM cs) (p.X6 L F acI ops0 acL rest0 acM cs) Ro) M g W:=by
 lib_facts
 obtain⟨T,acG,rfl,aaP,t0,hF⟩:=h;obtain⟨v0,v1,v2,v3,v4,v5,v6,v7,v8,v9,v10,v11,v12,v13,v14,v15,v16,v17,v18,v19,v20,v21,v22,v23,v24,v25,v26,v27,v28,v29,v30,v31,v32,v33,v34,v35,v36,v37,v38,v39,v40,v41,v42,v43,v44,v45,v46,v47,v48,v49,v50,v51,v52,v53,v54,v55,v56,v57,v58,v59,v60,v61,v62,v63,v64,v65,v66,v67,v68,v69,v70,v71,v72,v73,v74,v75,v76,v77,v78,v79,v80,v81,v82,v83,rfl⟩:=array84 T aaP;simp only[List.getElem?_toArray,List.getElem?_cons_zero,Option.some.injEq]at t0;subst t0;have hWn:=hFw _ _ _ _ hF;simp only[L7,body_wait,waitFn,Option.getD_some];refine ET.c (λ_=>stepG_block) ?_;apply ET.sr;refine ET.z ?_;refine ET.z ?_;refine ET.z ?_
 (refine ET.k rfl λ_ _ _=>goes_call rfl rfl (by k_ne) rfl H.f_uLoad (nm_uLoad L) rfl ⟨⟨rfl,λe he=>ic⟩,?_⟩;walk_nrmf uLoadFn)
 apply ET.sr;refine ET.z ?_;apply ET.ns;refine ET.z ?_;refine ET.z ?_;refine ET.z ?_;refine ET.stop λacT acN _=>?_
 replace hF:=Nt _ _ _ _ _ hF acN;clear acN;refine⟨rfl,λv hv hw=>?_⟩;rcases adh v with rfl|hvp
 ·
  replace hw:WgAt p.ty p.Wg acT 0 0:=by simpa using hw
  refine⟨_,stepG_load_atomic (v:=0) rfl rfl (by k_ne) rfl H.f_loadU64 (x_loadU64_n L) (x_loadU64_b L) (x_loadU64_x L) .u64 (x_loadU64_f L) rfl hw.cellSt,λ_=>?_,λh=>absurd rfl h⟩;clear hw;walk_nrm
  refine ET.z ?_;apply ET.rn;apply ET.rt
  (refine ET.k rfl λ_ _ _=>goes_leave1 rfl rfl H.f_uLoad rfl ⟨⟨rfl,λe he=>ic⟩,?_⟩;walk_nrm)
  refine ET.z ?_;apply ET.ns;refine ET.z ?_;refine ET.z ?_;refine ET.z ?_;refine ET.z ?_;apply ET.ns;refine ET.z ?_;refine ET.z ?_;refine ET.z ?_;refine ET.z ?_;apply ET.rn;apply ET.sq;apply ET.sr;refine ET.z ?_;refine ET.z ?_;apply ET.rn;refine ET.kV rfl ?_;apply ET.sq;refine ET.kV rfl ?_;apply ET.sr;refine ET.stop λPL CE _=>?_
  replace hF:=Nt _ _ _ _ _ hF CE;clear CE;refine⟨rfl,_,stepG_mark0 .enable aG rfl rfl (by k_ne) rfl H.f_enable (x_enable_n L) (x_enable_b L) (x_enable_x L)<|x_enable_f L,?_⟩;walk_nrm
  apply ET.rn;apply ET.rg;refine ET.z ?_
  (refine ET.k rfl λ_ _ iW=>?_;refine goes_oper_k rfl rfl (by k_ne) λKx hKx=>?_;have hcv:=run_convert_to_unsafe (P:=p.P) H.underlying_tWgP H.underlying_tUP H.room_tWg (Go.ConcN.Gen.WgLive.cell0 iW.1).choose_spec;have hce:=λes=>events_convert_to_unsafe (P:=p.P) H.underlying_tWgP H.underlying_tUP H.room_tWg (Go.ConcN.Gen.WgLive.cell0 iW.1).choose_spec es;go_simp;refine hKx _ _ ⟨⟨rfl,λex hex=>(by have hmx:=mem_listed hex;simp[go_sem,hce]at hmx)⟩,?_⟩;clear hKx Kx hcv hce)
  refine ET.stop λabM zy _=>?_
  replace hF:=Nt _ _ _ _ _ hF zy;clear zy;refine⟨rfl,_,stepG_markAt .acquire aG rfl rfl (by k_ne) rfl H.f_acquire (x_acquire_n L) (x_acquire_b L) (x_acquire_x L) (x_acquire_f L)<|by simp[Act.eval,stA],⟨_,hF,λI X qO Stop M' hT=>?_⟩⟩;walk_nrm
  apply ET.rn;apply ET.sq;apply ET.sr;refine ET.z ?_;refine ET.z ?_;refine ET.z ?_;refine ET.z ?_;refine ET.z ?_;refine ET.z ?_;refine ET.z ?_;refine ET.z ?_
  iterate 2 (refine ET.c (λ_=>stepG_unwanted rfl rfl) ?_;walk_nrm)
  refine ET.z ?_;apply ET.rn;refine ET.gP rfl ?_;apply ET.sk;apply ET.rt
  (refine ET.k rfl λ_ _ _=>goes_leave0 rfl rfl H.f_wait rfl ⟨⟨rfl,λe he=>ic⟩,?_⟩;walk_nrm)
  exact hT
 ·
  obtain⟨S,hS⟩:∃S:Int,(v:Int)*KK=S:=⟨_,rfl⟩;have a1:S/4294967296=(v:Int):=by rw[<-hS];simp only[KK];omega
  have b1:bits .and .u64 S 2147483648=0:=by rw[<-hS];have:=Go.ConcN.st_flag v 0 ab ab;simpa[KK]using this
  have b2:bits .and .u64 S 2147483647=0:=by rw[<-hS];have:=Go.ConcN.st_waiters v 0 ab ab;simpa[KK]using this
  have c1:IntKind.i32.wrap (v:Int)=(v:Int):=by rw[IntKind.wrap_i32];omega
  have w1:IntKind.u64.wrap (S+1)=S+1:=by rw[IntKind.wrap_u64,<-hS];simp only[KK];omega
  have q3:decide ((v:Int)<0)=false:=decide_eq_false ab;have q4:decide (0<(v:Int))=true:=decide_eq_true ab;have q5:((v:Int)==0)=false:=cH;have q6:decide ((v:Int)=0)=false:=decide_eq_false ab;rw[hS]at hw;refine⟨_,stepG_load_atomic (v:=S) rfl rfl (by k_ne) rfl H.f_loadU64 (x_loadU64_n L) (x_loadU64_b L) (x_loadU64_x L) .u64 (x_loadU64_f L) rfl hw.cellSt,λh0=>absurd h0 ab,λ_=>?_⟩;clear hw;walk_nrm
  refine ET.z ?_;apply ET.rn;apply ET.rt
  (refine ET.k rfl λ_ _ _=>goes_leave1 rfl rfl H.f_uLoad rfl ⟨⟨rfl,λe he=>ic⟩,?_⟩;walk_nrm)
  refine ET.z ?_;apply ET.ns;refine ET.z ?_;refine ET.z ?_;refine ET.z ?_;refine ET.z ?_;apply ET.ns;refine ET.z ?_;refine ET.z ?_;refine ET.z ?_;refine ET.z ?_;apply ET.rn;apply ET.sq;apply ET.sr;refine ET.z ?_;refine ET.z ?_;apply ET.rn;refine ET.gP rfl ?_;apply ET.sk;apply ET.sr;refine ET.z ?_;refine ET.z ?_;refine ET.z ?_;refine ET.z ?_;refine ET.z ?_;refine ET.z ?_
  (refine ET.k rfl λ_ _ _=>goes_call rfl rfl (by k_ne) rfl H.f_uCas (nm_uCas L) rfl ⟨⟨rfl,λe he=>ic⟩,?_⟩;walk_nrmf uCasFn)
  apply ET.sr;refine ET.z ?_;apply ET.ns;refine ET.z ?_;refine ET.z ?_;refine ET.z ?_;refine ET.z ?_;refine ET.z ?_;refine ET.stop λFR acO _=>?_
  replace hF:=Nt _ _ _ _ _ hF acO;clear acO;refine⟨rfl,λv' AE hw=>⟨λe=>?_,λe=>?_⟩⟩
  ·
   subst e;rw[hS]at hw⊢;refine⟨_,(stepG_cas_hit (v:=S) (n:=S+1) rfl rfl (by k_ne) rfl H.f_casU64 (x_casU64_n L) (x_casU64_b L) (x_casU64_x L) .u64 (x_casU64_f L) rfl rfl rfl hw.cellSt<|hw.thaw 0).trans bD,?_⟩;replace hF:=Nt _ _ _ _ (FR.setCell (stA p.Wg)<|.int .u64<|S+1) hF<|Ew hWn;clear hw;walk_nrm
   refine ET.z ?_;apply ET.rn;apply ET.rt
   (refine ET.k rfl λ_ _ _=>goes_leave1 rfl rfl H.f_uCas rfl ⟨⟨rfl,λe he=>ic⟩,?_⟩;walk_nrm)
   apply ET.rn;refine ET.kV rfl ?_;apply ET.sq;apply ET.sr;refine ET.z ?_;refine ET.z ?_;refine ET.z ?_;refine ET.z ?_;apply ET.rn;refine ET.kV rfl ?_;apply ET.rg;refine ET.z ?_;refine ET.z ?_;refine ET.z ?_
   (refine ET.k rfl λ_ _ iW=>?_;refine goes_oper_k rfl rfl (by k_ne) λKx hKx=>?_;have hcv:=run_convert_to_unsafe (P:=p.P) H.underlying_tPU32 H.underlying_tUP H.room_tU32 (Go.ConcN.Gen.WgLive.cell1 iW.1).choose_spec;have hce:=λes=>events_convert_to_unsafe (P:=p.P) H.underlying_tPU32 H.underlying_tUP H.room_tU32 (Go.ConcN.Gen.WgLive.cell1 iW.1).choose_spec es;go_simp;refine hKx _ _ ⟨⟨rfl,λex hex=>(by have hmx:=mem_listed hex;simp[go_sem,hce]at hmx)⟩,?_⟩;clear hKx Kx hcv hce)
   refine ET.k rfl λ_ _ _=>?_;rw[stepG_markAt .write aG rfl rfl (by k_ne) rfl H.f_raceWrite (x_raceWrite_n L) (x_raceWrite_b L) (x_raceWrite_x L) (x_raceWrite_f L) (ad:=⟨_,1,none⟩) (by simp[Act.eval]<;>rfl)];simp only[goes_go];refine⟨⟨trivial,λex hex=>?_⟩,?_⟩
   .rw[Array.mem_singleton]at hex;subst hex;exact⟨_,rfl,.inr rfl⟩
   walk_nrm
   apply ET.ns;refine ET.z ?_;apply ET.rn;apply ET.sq;apply ET.sr;refine ET.z ?_;refine ET.z ?_;refine ET.z ?_;refine ET.z ?_
   (refine ET.c (λ_=>stepG_unwanted rfl rfl) ?_;walk_nrm)
   refine ET.z ?_;apply ET.rn;refine ET.gP rfl ?_;apply ET.sk;apply ET.sr;refine ET.z ?_;refine ET.z ?_;refine ET.z ?_;refine ET.z ?_;refine ET.stop λFT dz _=>?_
   replace hF:=Nt _ _ _ _ _ hF dz;clear dz;refine⟨rfl,rfl,λ⟨st,hw⟩=>stepG_semacquire_wait rfl rfl rfl H.f_semacquire (x_semacquire_n L) (x_semacquire_b L) (x_semacquire_x L) (x_semacquire_f L) (by simp[Act.eval,smA]) hw.cellSm,λhf=>?_⟩;refine⟨_,(stepG_semacquire (n:=1) rfl rfl (by k_ne) rfl H.f_semacquire (x_semacquire_n L) (x_semacquire_b L) (x_semacquire_x L) (x_semacquire_f L) (by simp[Act.eval,smA]) hf.cellSm (by k_ne)<|hf.thaw 1).trans bD,?_⟩;replace hF:=Nt _ _ _ _ (FT.setCell (smA p.Wg)<|.int .u32 0) hF<|Ew hWn;clear hf;walk_nrm
   apply ET.ns;refine ET.z ?_;refine ET.z ?_;refine ET.z ?_
   (refine ET.k rfl λ_ _ _=>goes_call rfl rfl (by k_ne) rfl H.f_uLoad (nm_uLoad L) rfl ⟨⟨rfl,λe he=>ic⟩,?_⟩;walk_nrmf uLoadFn)
   apply ET.sr;refine ET.z ?_;apply ET.ns;refine ET.z ?_;refine ET.z ?_;refine ET.z ?_;refine ET.stop λaai ku _=>?_
   replace hF:=Nt _ _ _ _ _ hF ku;clear ku;refine⟨rfl,λhw=>⟨_,stepG_load_atomic (v:=0) rfl rfl (by k_ne) rfl H.f_loadU64 (x_loadU64_n L) (x_loadU64_b L) (x_loadU64_x L) .u64 (x_loadU64_f L) rfl hw.cellSt,?_⟩⟩;clear hw;walk_nrm
   refine ET.z ?_;apply ET.rn;apply ET.rt
   (refine ET.k rfl λ_ _ _=>goes_leave1 rfl rfl H.f_uLoad rfl ⟨⟨rfl,λe he=>ic⟩,?_⟩;walk_nrm)
   refine ET.z ?_;refine ET.z ?_;apply ET.rn;apply ET.sq;refine ET.kV rfl ?_;apply ET.sr;refine ET.stop λPL CE _=>?_
   replace hF:=Nt _ _ _ _ _ hF CE;clear CE;refine⟨rfl,_,stepG_mark0 .enable aG rfl rfl (by k_ne) rfl H.f_enable (x_enable_n L) (x_enable_b L) (x_enable_x L)<|x_enable_f L,?_⟩;walk_nrm
   apply ET.rn;apply ET.rg;refine ET.z ?_
   (refine ET.k rfl λ_ _ iW=>?_;refine goes_oper_k rfl rfl (by k_ne) λKx hKx=>?_;have hcv:=run_convert_to_unsafe (P:=p.P) H.underlying_tWgP H.underlying_tUP H.room_tWg (Go.ConcN.Gen.WgLive.cell0 iW.1).choose_spec;have hce:=λes=>events_convert_to_unsafe (P:=p.P) H.underlying_tWgP H.underlying_tUP H.room_tWg (Go.ConcN.Gen.WgLive.cell0 iW.1).choose_spec es;go_simp;refine hKx _ _ ⟨⟨rfl,λex hex=>(by have hmx:=mem_listed hex;simp[go_sem,hce]at hmx)⟩,?_⟩;clear hKx Kx hcv hce)
   refine ET.stop λabM zy _=>?_
   replace hF:=Nt _ _ _ _ _ hF zy;clear zy;refine⟨rfl,_,stepG_markAt .acquire aG rfl rfl (by k_ne) rfl H.f_acquire (x_acquire_n L) (x_acquire_b L) (x_acquire_x L) (x_acquire_f L)<|by simp[Act.eval,stA],⟨_,hF,λI X qO Stop M' hT=>?_⟩⟩;walk_nrm
   apply ET.rn;apply ET.sq;apply ET.sr;refine ET.z ?_;apply ET.rn;refine ET.gP rfl ?_;apply ET.sk;apply ET.rt
   (refine ET.k rfl λ_ _ _=>goes_leave0 rfl rfl H.f_wait rfl ⟨⟨rfl,λe he=>ic⟩,?_⟩;walk_nrm)
   exact hT
  ·
   refine⟨_,stepG_cas_miss (v:=(v':Int)*KK) (old:=S) (n:=S+1) rfl rfl (by k_ne) rfl H.f_casU64 (x_casU64_n L) (x_casU64_b L) (x_casU64_x L) .u64 (x_casU64_f L) rfl rfl rfl hw.cellSt (hw.thaw 0) (by rw[<-hS];simp only[KK];omega),?_⟩;clear hw;walk_nrm
   refine ET.z ?_;apply ET.rn;apply ET.rt
   (refine ET.k rfl λ_ _ _=>goes_leave1 rfl rfl H.f_uCas rfl ⟨⟨rfl,λe he=>ic⟩,?_⟩;walk_nrm)
   apply ET.rn;refine ET.gP rfl ?_;apply ET.sk;refine ET.c (λ_=>stepG_inBlock) ?_;refine ET.c (λ_=>stepG_inLoop) ?_;refine ET.stop λFT dz _=>?_
   replace hF:=Nt _ _ _ _ _ hF dz;exact⟨_,acG,rfl,rfl,rfl,hF⟩
end Ph
end
namespace Ph
theorem waitStart (H:WgLib p.P L){Ro:Nat->Prop}(hF:∀w,aO (λb=>M b\/Ro b) acS w->F acG Ro M w):
  ET p.P true p.I p.dE Ro (p.AtKd (p.X6 L F acI ops0 acL rest0 acM cs) Ro) M (G ((base L.wait).at ⟨#[.pointer p.Wg,ud,ud,ud,ud,ud,ud,ud,ud,ud,ud,ud,ud,ud,ud,ud,ud,ud,ud,ud,ud,ud,ud,ud,ud,ud,ud,ud,ud,ud,ud,ud,ud,ud,ud,ud,ud,ud,ud,ud,ud,ud,ud,ud,ud,ud,ud,ud,ud,ud,ud,ud,ud,ud,ud,ud,ud,ud,ud,ud,ud,ud,ud,ud,ud,ud,ud,ud,ud,ud,ud,ud,ud,ud,ud,ud,ud,ud,ud,ud,ud,ud,ud,ud],[]⟩ [.code (body_wait L)])<|acI.at acG (.inRegion ops0 (acL::rest0)::acM)::cs) acS:=by
 lib_facts
 simp only[body_wait,waitFn,Option.getD_some];apply ET.sq;refine ET.kV rfl ?_;apply ET.rg;refine ET.stop λacT acN _=>?_
 refine⟨rfl,_,stepG_mark0 .disable aG rfl rfl (by k_ne) rfl H.f_disable (x_disable_n L) (x_disable_b L) (x_disable_x L)<|x_disable_f L,?_⟩;walk_nrm
 apply ET.rn;refine ET.c (λ_=>stepG_block) ?_;refine ET.c (λ_=>stepG_loop) ?_;refine ET.stop λFR acO _=>?_
 exact⟨_,acG,rfl,rfl,rfl,hF _<|acN.trans acO⟩
end Ph
