import Derived.Test.YthppgbjejomdiaaGreatDoorj04
import Derived.Test.YthppgbjejomdiaaGreatDoorChecked
set_option linter.all false
set_option maxHeartbeats 8000000
set_option maxRecDepth 100000
open Go renaming World->aa,Frame->aj,Oper->av,Goroutine->ax,run_convert_to_unsafe->aG
open Go.Act renaming eval->au
open Go.Conc renaming stepG_unwanted->ac,goes_leave1->ao,events_convert_to_unsafe->aE,stepG_markAt->aI,stepG_mark0->aL,goes_oper_k->aV,mem_listed->a0,goes_call->a2,stepG_load_atomic->a3,stepG_add_atomic->bi,aside_setCell->bo,stepG_block->bp,goes_leave0->br
open Go.ConcN renaming st_waiters->a8,st_flag->a9
open Go.ConcN.Gen.WgLive renaming cell1->ay,cell0->az
open Go.ConcR.Gen renaming x_loadU64_n->a4,x_loadU64_b->a5,x_loadU64_x->a6,x_loadU64_f->a7,x_semacquire_n->bj,x_semacquire_b->bk,x_semacquire_x->bm,x_semacquire_f->bn,x_disable_n->bs,x_disable_b->bt,x_disable_x->bv,x_acquire_n->bz,x_acquire_b->bA,x_acquire_x->bB,x_acquire_f->bE,x_addU64_n->bH,x_addU64_b->bJ,x_addU64_x->bK,x_addU64_f->bM,x_enable_n->bN,x_enable_b->bO,x_enable_x->bR,x_casU64_n->bS,x_casU64_b->bV,x_casU64_x->bW,x_casU64_f->bX
open Go.IntKind renaming wrap_u64->bb,wrap_i32->be
namespace Go.Proofs.YthppgbjejomdiaaGreatDoor
open Conc Conc.Lib ConcR.Gen RowKit
variable {af9:Act}{F:Act->(Nat->Prop)->(Nat->Prop)->aa->Prop}{a:Addr}{ops0:Array av}{agb:aj}{cs:List aj}{age:List Item}{rest0:List Nat}{agd:Nat}{M S:Nat->Prop}{y:Operand}{p:Ph}{v:Value}{L:WgLink}{agl w:aa}
abbrev link:WgLink:={add:=184,done:=186,wait:=188,relMerge:=194,disable:=195,enable:=196,inBubble:=197,associate:=198,fatal:=199,uOr:=200,uAdd:=201,raceRead:=202,uLoad:=203,uStore:=204,disassociate:=205,semrelease:=206,acquire:=209,isAssociated:=210,uCas:=211,raceWrite:=212,semacquire:=213,orU64:=221,addU64:=222,loadU64:=223,storeU64:=224,casU64:=227,tWgP:=262,tUP:=87,tAssoc:=264,tWg:=249,tAU:=247,tU64:=164,tUint:=130,tU32:=178,tPU32:=268,tPAU:=282,tPU64:=284,tNoCopy:=245,tANoCopy:=241,tAlign64:=242}
def DO:WgLib Tryz.prog link:=
 ⟨Tryz.func184,Tryz.func186,Tryz.func188,Tryz.func194,Tryz.func195,Tryz.func196,Tryz.func197,Tryz.func198,Tryz.func199,Tryz.func200,Tryz.func201,Tryz.func202,Tryz.func203,Tryz.func204,Tryz.func205,Tryz.func206,Tryz.func209,Tryz.func210,Tryz.func211,Tryz.func212,Tryz.func213,Tryz.func221,Tryz.func222,Tryz.func223,Tryz.func224,Tryz.func227,Tryz.underlying262,Tryz.runUnderlying262,Tryz.sizeOf262,Tryz.isAgg262,Tryz.zeroValue262,Tryz.underlying87,Tryz.runUnderlying87,Tryz.sizeOf87,Tryz.isAgg87,Tryz.zeroValue87,Tryz.underlying264,Tryz.runUnderlying264,Tryz.sizeOf264,Tryz.isAgg264,Tryz.zeroValue264,Tryz.underlying249,Tryz.runUnderlying249,Tryz.sizeOf249,Tryz.isAgg249,Tryz.zeroValue249,Tryz.underlying247,Tryz.runUnderlying247,Tryz.sizeOf247,Tryz.isAgg247,Tryz.zeroValue247,Tryz.underlying164,Tryz.runUnderlying164,Tryz.sizeOf164,Tryz.isAgg164,Tryz.zeroValue164,Tryz.underlying130,Tryz.runUnderlying130,Tryz.sizeOf130,Tryz.isAgg130,Tryz.zeroValue130,Tryz.underlying178,Tryz.runUnderlying178,Tryz.sizeOf178,Tryz.isAgg178,Tryz.zeroValue178,Tryz.underlying268,Tryz.runUnderlying268,Tryz.sizeOf268,Tryz.isAgg268,Tryz.zeroValue268,Tryz.underlying282,Tryz.runUnderlying282,Tryz.sizeOf282,Tryz.isAgg282,Tryz.zeroValue282,Tryz.underlying284,Tryz.runUnderlying284,Tryz.sizeOf284,Tryz.isAgg284,Tryz.zeroValue284,Tryz.underlying0,Tryz.runUnderlying0,Tryz.sizeOf0,Tryz.isAgg0,Tryz.zeroValue0,Tryz.underlying3,Tryz.runUnderlying3,Tryz.sizeOf3,Tryz.isAgg3,Tryz.zeroValue3,Tryz.underlying4,Tryz.runUnderlying4,Tryz.sizeOf4,Tryz.isAgg4,Tryz.zeroValue4,Tryz.underlying9,Tryz.runUnderlying9,Tryz.sizeOf9,Tryz.isAgg9,Tryz.zeroValue9,Tryz.underlying20,Tryz.runUnderlying20,Tryz.sizeOf20,Tryz.isAgg20,Tryz.zeroValue20,Tryz.underlying21,Tryz.runUnderlying21,Tryz.sizeOf21,Tryz.isAgg21,Tryz.zeroValue21,aO,aO⟩
section
open ConcN (WgLive)
open ConcR (KK WgAt stA smA rd wr)
namespace Ph
variable {p:Ph}{M Ro:Nat->Prop}
def Gu (h:¬S a.block):aU S w (w.setCell a v):=
 ⟨λb c=>Below.heap_setCell w a v b λe=>h<|e▸c,Nat.le_of_eq (bo w a v).size.symm,rfl,rfl⟩
variable {L:WgLink}{k:Nat}{Next:(Nat->Prop)->(Nat->Prop)->ax->aa->Prop}{agb:aj}{af9:Act}{ops0:Array av}{agd:Nat}{rest0:List Nat}{age:List Item}{cs:List aj}{agl:aa}
def acX {p:Prop}(x9:p:=by refine ET.stop λKT eb _=>?_;exact⟨rfl,_,stepG_unwind_entry (v:=.tuple #[]) (evs:=#[Go.ConcR.mk .enable]) rfl H.f_enable (x_enable_n L) (x_enable_b L) (x_enable_x L) (x_enable_f L) (by simp[Extern.Race.none_]) (by simp[Go.ConcR.mk])<|by simp[Go.ConcR.mk],ET.k rfl λae3 _ _=>goes_leave0 rfl rfl H.f_add rfl ⟨⟨rfl,λe he=>ji⟩,hT _<|hK.trans eb⟩⟩):p:=x9
def addPos (H:WgLib p.P L)(N:¬(M p.Wg\/Ro p.Wg)) (hT:∀w,aU (λb=>M b\/Ro b) agl w->ET p.P true p.I p.dO Ro (p.AtGo Ro k Next) M (G (agb.at (af9.put ((ops0[agd]?).bind (·.dst))<|.tuple #[])<|.inRegion ops0 rest0::age) cs) w): ET p.P true p.I p.dO Ro (p.AtKdS Ro k Next) M (G ((base L.add).at ⟨#[.pointer p.Wg,(1:Int),ud,ud,ud,ud,ud,ud,ud,ud,ud,ud,ud,ud,ud,ud,ud,ud,ud,ud,ud,ud,ud,ud,ud,ud,ud,ud,ud,ud,ud,ud,ud,ud,ud,ud,ud,ud,ud,ud,ud,ud,ud,ud,ud,ud,ud,ud,ud,ud,ud,ud,ud,ud,ud,ud,ud,ud,ud,ud,ud,ud,ud,ud,ud,ud,ud,ud,ud,ud,ud,ud,ud,ud,ud,ud,ud,ud,ud,ud,ud,ud,ud,ud,ud,ud,ud,ud,ud,ud,ud,ud,ud,ud,ud,ud,ud,ud,ud,ud,ud,ud,ud,ud,ud,ud,ud,ud,ud,ud,ud,ud,ud,ud,ud,ud,ud],[]⟩ [.code (body_add L)])<|agb.at af9 (.inRegion ops0 (agd::rest0)::age)::cs) agl:=by
 lib_facts
 simp only[body_add,addFn,Option.getD_some];apply ET.sq;refine ET.mc rfl ?_;apply ET.sq;apply ET.sr;refine ET.z ?_;refine ET.z ?_;apply ET.rn;refine ET.iu rfl ?_;apply ET.sk;apply ET.sr;refine ET.stop λU f _=>?_;refine⟨rfl,_,aL .disable aN rfl rfl (by k_ne) rfl H.f_disable (bs L) (bt L) (bv L)<|x_disable_f L,?_⟩;walk_nrm;apply ET.rn;apply ET.rg;(refine ET.c (λ_=>stepG_defer rfl rfl (by k_ne) rfl) ?_;walk_nrm);apply ET.ns;refine ET.z ?_;apply ET.rn;apply ET.sq;apply ET.sr;(refine ET.c (λ_=>stepG_entry_pure (.bool false) rfl rfl (by k_ne) rfl H.f_inBubble (x_inBubble_n L) (x_inBubble_b L) (x_inBubble_x L)<|x_inBubble_f L) ?_;walk_nrm);apply ET.rn;refine ET.iu rfl ?_;apply ET.sk;apply ET.sr;refine ET.z ?_;refine ET.z ?_;refine ET.z ?_;refine ET.z ?_;refine ET.z ?_;refine ET.z ?_;(refine ET.k rfl λ_ _ _=>a2 rfl rfl (by k_ne) rfl H.f_uAdd (nm_uAdd L) rfl ⟨⟨rfl,λe he=>ji⟩,?_⟩;walk_nrmf uAddFn);apply ET.sr;refine ET.z ?_;apply ET.ns;refine ET.z ?_;refine ET.z ?_;refine ET.z ?_;refine ET.z ?_;refine ET.stop λB r _=>?_;refine⟨rfl,λv hv hw=>?_⟩;rcases agJ v with rfl|Y
 ·
  replace hw:WgAt p.ty p.Wg B 0 0:=by simpa using hw
  have z:(((0:Nat):Int)+1)*KK=KK:=aN;rw[z];have O:IntKind.u64.wrap (0+4294967296)=KK:=bc;refine⟨_,(bi rfl rfl (by k_ne) rfl H.f_addU64 (bH L) (bJ L) (bK L) .u64 (bM L) rfl rfl hw.cellSt<|hw.thaw 0).trans (by rw[O];rfl),?_⟩;have hK:aU (λb=>M b\/Ro b) agl (B.setCell (stA p.Wg)<|.int .u64 KK):=f.trans<|r.trans<|Gu N;clear hw z O;simp only[KK]at hK⊢;walk_nrm
  refine ET.z ?_;apply ET.rn;apply ET.rt
  (refine ET.k rfl λ_ _ _=>ao rfl rfl H.f_uAdd rfl ⟨⟨rfl,λe he=>ji⟩,?_⟩;walk_nrm)
  refine ET.z ?_;apply ET.rn;apply ET.sq;apply ET.sr;refine ET.z ?_;refine ET.z ?_;refine ET.z ?_;refine ET.z ?_
  iterate 2 (refine ET.c (λ_=>ac rfl rfl) ?_;walk_nrm)
  refine ET.z ?_;apply ET.rn;refine ET.iu rfl ?_;apply ET.sk;apply ET.sr;refine ET.z ?_;refine ET.z ?_;refine ET.z ?_;refine ET.z ?_;apply ET.ns;refine ET.z ?_;refine ET.z ?_;refine ET.z ?_;refine ET.z ?_;apply ET.rn;apply ET.sq;apply ET.sr;refine ET.z ?_;refine ET.z ?_;refine ET.z ?_;refine ET.z ?_;refine ET.z ?_;refine ET.z ?_;refine ET.z ?_;refine ET.z ?_;refine ET.z ?_;refine ET.z ?_;apply ET.rn;refine ET.mc rfl ?_;apply ET.rg;refine ET.z ?_;refine ET.z ?_;refine ET.z ?_
  (refine ET.k rfl λ_ _ R=>?_;refine aV rfl rfl (by k_ne) λZ t=>?_;have C:=aG (P:=p.P) H.underlying_tPU32 H.underlying_tUP H.room_tU32 (ay R.1).choose_spec;have x:=λes=>aE (P:=p.P) H.underlying_tPU32 H.underlying_tUP H.room_tU32 (ay R.1).choose_spec es;go_simp;refine t _ _ ⟨⟨rfl,λex D=>(by have J:=a0 D;simp[go_sem,x]at J)⟩,?_⟩;clear t Z C x)
  refine ET.k rfl λ_ _ _=>?_;rw[aI .read aN rfl rfl (by k_ne) rfl H.f_raceRead (x_raceRead_n L) (x_raceRead_b L) (x_raceRead_x L) (x_raceRead_f L) (ad:=⟨p.Wg,1,none⟩) (by simp[au])];simp only[goes_go];refine⟨⟨trivial,λe he=>?_⟩,?_⟩
  .rw[Array.mem_singleton]at he;subst he;exact⟨_,rfl,.inl rfl⟩
  walk_nrm
  apply ET.rn;apply ET.sq;apply ET.sr;refine ET.z ?_;refine ET.z ?_;apply ET.rn;refine ET.iu rfl ?_;apply ET.sk;apply ET.sq;apply ET.sr;refine ET.z ?_;refine ET.z ?_;refine ET.z ?_
  iterate 2 (refine ET.c (λ_=>ac rfl rfl) ?_;walk_nrm)
  refine ET.z ?_;refine ET.z ?_
  iterate 4 (refine ET.c (λ_=>ac rfl rfl) ?_;walk_nrm)
  refine ET.z ?_;apply ET.rn;refine ET.iu rfl ?_;apply ET.sk;apply ET.sq;apply ET.sr;refine ET.z ?_;refine ET.z ?_;refine ET.z ?_
  iterate 2 (refine ET.c (λ_=>ac rfl rfl) ?_;walk_nrm)
  refine ET.z ?_;apply ET.rn;refine ET.mc rfl ?_;apply ET.rt;exact acX
 ·
  obtain⟨V,A⟩:∃V:Int,V=(v:Int)+1:=⟨_,rfl⟩;obtain⟨S,hS⟩:∃S:Int,S=V*KK:=⟨_,rfl⟩;have T:IntKind.u64.wrap ((v:Int)*KK+4294967296)=S:=by rw[bb,hS,A];simp only[KK];omega
  rw[<-A,<-hS];have a1:S/4294967296=V:=by rw[hS];simp only[KK];omega
  have b1:bits .and .u64 S 2147483648=0:=by rw[hS,A];have:=a9 (v+1) 0 ab ab;simpa[KK]using this
  have b2:bits .and .u64 S 2147483647=0:=by rw[hS,A];have:=a8 (v+1) 0 ab ab;simpa[KK]using this
  have c1:IntKind.i32.wrap V=V:=by rw[be];omega
  have aZ:1<V:=ab;have bl:V<2147483648:=ab;have q1:(V==1)=false:=cY;have q2:decide (V=1)=false:=decide_eq_false ab;have q3:decide (V<0)=false:=decide_eq_false ab;have q4:decide (0<V)=true:=decide_eq_true ab;have q5:(V==0)=false:=cY;have q6:decide (V=0)=false:=decide_eq_false ab;refine⟨_,(bi rfl rfl (by k_ne) rfl H.f_addU64 (bH L) (bJ L) (bK L) .u64 (bM L) rfl rfl hw.cellSt<|hw.thaw 0).trans (by rw[T];rfl),?_⟩;have hK:aU (λb=>M b\/Ro b) agl (B.setCell (stA p.Wg)<|.int .u64 S):=f.trans<|r.trans<|Gu N;clear hw hS A T;walk_nrm
  refine ET.z ?_;apply ET.rn;apply ET.rt
  (refine ET.k rfl λ_ _ _=>ao rfl rfl H.f_uAdd rfl ⟨⟨rfl,λe he=>ji⟩,?_⟩;walk_nrm)
  refine ET.z ?_;apply ET.rn;apply ET.sq;apply ET.sr;refine ET.z ?_;refine ET.z ?_;refine ET.z ?_;refine ET.z ?_
  iterate 2 (refine ET.c (λ_=>ac rfl rfl) ?_;walk_nrm)
  refine ET.z ?_;apply ET.rn;refine ET.iu rfl ?_;apply ET.sk;apply ET.sr;refine ET.z ?_;refine ET.z ?_;refine ET.z ?_;refine ET.z ?_;apply ET.ns;refine ET.z ?_;refine ET.z ?_;refine ET.z ?_;refine ET.z ?_;apply ET.rn;apply ET.sq;apply ET.sr;refine ET.z ?_;refine ET.z ?_;refine ET.z ?_;refine ET.z ?_;refine ET.z ?_;refine ET.z ?_;refine ET.z ?_;refine ET.z ?_;refine ET.z ?_;refine ET.z ?_;apply ET.rn;refine ET.iu rfl ?_;apply ET.sk;apply ET.sq;apply ET.sr;refine ET.z ?_;refine ET.z ?_;apply ET.rn;refine ET.iu rfl ?_;apply ET.sk;apply ET.sq;apply ET.sr;refine ET.z ?_;refine ET.z ?_;refine ET.z ?_
  iterate 2 (refine ET.c (λ_=>ac rfl rfl) ?_;walk_nrm)
  refine ET.z ?_;refine ET.z ?_
  iterate 4 (refine ET.c (λ_=>ac rfl rfl) ?_;walk_nrm)
  refine ET.z ?_;apply ET.rn;refine ET.iu rfl ?_;apply ET.sk;apply ET.sq;apply ET.sr;refine ET.z ?_;refine ET.z ?_;refine ET.z ?_
  iterate 2 (refine ET.c (λ_=>ac rfl rfl) ?_;walk_nrm)
  refine ET.z ?_;apply ET.rn;refine ET.mc rfl ?_;apply ET.rt;exact acX
end Ph
namespace Ph
def Gt (h:¬S a.block):aU S w (w.setCell a v):=
 ⟨λb c=>Below.heap_setCell w a v b λe=>h<|e▸c,Nat.le_of_eq (bo w a v).size.symm,rfl,rfl⟩
section
variable (p:Ph)(L:WgLink)(F:Act->(Nat->Prop)->(Nat->Prop)->aa->Prop)(agb:aj)(ops0:Array av)(agd:Nat)(rest0:List Nat)(age:List Item)(cs:List aj)
def AnW (Ro M:Nat->Prop)(g:ax)(W:aa):Prop:=
 ∃(T:Array Value) (af9:Act),g=G ((base L.wait).at ⟨T,[]⟩ [.code (L7 L),.inLoop (L7 L),.inBlock 0]) (agb.at af9 (.inRegion ops0 (agd::rest0)::age)::cs)/\T.size=84/\T[0]?=some (.pointer p.Wg)/\F af9 Ro M W
def Za (Ro M:Nat->Prop)(g:ax)(W:aa):Prop:=
 ∃af9,F af9 Ro M W/\∀I (X:Event->Prop) (b:Nat->Prop) (Stop:(Nat->Prop)->ax->aa->Prop) (c:Nat->Prop),
  ET p.P true I X b Stop c (G (agb.at (af9.put ((ops0[agd]?).bind (·.dst))<|.tuple #[])<|.inRegion ops0 rest0::age) cs) W->ET p.P true I X b Stop c g W
end
def waitRound (H:WgLib p.P L)(x:∀a Ro M w C,F a Ro M w->aU (λb=>M b\/Ro b) w C->F a Ro M C)(aZ:∀a Ro M w,F a Ro M w->¬(M p.Wg\/Ro p.Wg)) (Ro M g W)(h:p.AnW L F agb ops0 agd rest0 age cs Ro M g W): ET p.P true p.I p.dO Ro (p.AtW1 (p.Za F agb ops0 agd rest0 age cs) (p.AnW L F agb ops0 agd rest0 age cs) Ro) M g W:=by
 lib_facts
 obtain⟨T,af9,rfl,bl,t0,hF⟩:=h;obtain⟨v0,v1,v2,v3,v4,v5,v6,v7,v8,v9,bx,bF,b0,b3,b4,b5,b6,b7,b8,b9,ca,cb,cc,cd,ce,cf,ch,ci,cj,ck,cl,cn,co,cp,cq,ct,cu,cv,cw,cx,cy,cz,cA,cB,cC,cF,cJ,cL,cM,cN,cO,cP,cS,cT,cW,cZ,c0,c2,c3,c4,c5,c6,c7,c8,c9,da,db,dc,dd,df,dh,dj,dk,dn,dp,dq,dr,ds,dt,dv,dw,dy,dz,dB,rfl⟩:=array84 T bl;simp only[List.getElem?_toArray,List.getElem?_cons_zero,Option.some.injEq]at t0;subst t0;have J:=aZ _ _ _ _ hF;simp only[L7,body_wait,waitFn,Option.getD_some];refine ET.c (λ_=>bp) ?_;apply ET.sr;refine ET.z ?_;refine ET.z ?_;refine ET.z ?_;(refine ET.k rfl λ_ _ _=>a2 rfl rfl (by k_ne) rfl H.f_uLoad (nm_uLoad L) rfl ⟨⟨rfl,λe he=>ji⟩,?_⟩;walk_nrmf uLoadFn);apply ET.sr;refine ET.z ?_;apply ET.ns;refine ET.z ?_;refine ET.z ?_;refine ET.z ?_;refine ET.stop λC N _=>?_;replace hF:=x _ _ _ _ _ hF N;clear N;refine⟨rfl,λv hv hw=>?_⟩;rcases agJ v with rfl|dD
 ·
  replace hw:WgAt p.ty p.Wg C 0 0:=by simpa using hw
  refine⟨_,a3 (v:=0) rfl rfl (by k_ne) rfl H.f_loadU64 (a4 L) (a5 L) (a6 L) .u64 (a7 L) rfl hw.cellSt,λ_=>?_,λh=>absurd rfl h⟩;clear hw;walk_nrm
  refine ET.z ?_;apply ET.rn;apply ET.rt
  (refine ET.k rfl λ_ _ _=>ao rfl rfl H.f_uLoad rfl ⟨⟨rfl,λe he=>ji⟩,?_⟩;walk_nrm)
  refine ET.z ?_;apply ET.ns;refine ET.z ?_;refine ET.z ?_;refine ET.z ?_;refine ET.z ?_;apply ET.ns;refine ET.z ?_;refine ET.z ?_;refine ET.z ?_;refine ET.z ?_;apply ET.rn;apply ET.sq;apply ET.sr;refine ET.z ?_;refine ET.z ?_;apply ET.rn;refine ET.mc rfl ?_;apply ET.sq;refine ET.mc rfl ?_;apply ET.sr;refine ET.stop λSM O _=>?_
  replace hF:=x _ _ _ _ _ hF O;clear O;refine⟨rfl,_,aL .enable aN rfl rfl (by k_ne) rfl H.f_enable (bN L) (bO L) (bR L)<|x_enable_f L,?_⟩;walk_nrm
  apply ET.rn;apply ET.rg;refine ET.z ?_
  (refine ET.k rfl λ_ _ D=>?_;refine aV rfl rfl (by k_ne) λR f=>?_;have A:=aG (P:=p.P) H.underlying_tWgP H.underlying_tUP H.room_tWg (az D.1).choose_spec;have r:=λU=>aE (P:=p.P) H.underlying_tWgP H.underlying_tUP H.room_tWg (az D.1).choose_spec U;go_simp;refine f _ _ ⟨⟨rfl,λex t=>(by have B:=a0 t;simp[go_sem,r]at B)⟩,?_⟩;clear f R A r)
  refine ET.stop λbq Y _=>?_
  replace hF:=x _ _ _ _ _ hF Y;clear Y;refine⟨rfl,_,aI .acquire aN rfl rfl (by k_ne) rfl H.f_acquire (bz L) (bA L) (bB L) (bE L)<|by simp[au,stA],⟨_,hF,λI X sv Stop M' hT=>?_⟩⟩;walk_nrm
  apply ET.rn;apply ET.sq;apply ET.sr;refine ET.z ?_;refine ET.z ?_;refine ET.z ?_;refine ET.z ?_;refine ET.z ?_;refine ET.z ?_;refine ET.z ?_;refine ET.z ?_
  iterate 2 (refine ET.c (λ_=>ac rfl rfl) ?_;walk_nrm)
  refine ET.z ?_;apply ET.rn;refine ET.iu rfl ?_;apply ET.sk;apply ET.rt
  (refine ET.k rfl λ_ _ _=>br rfl rfl H.f_wait rfl ⟨⟨rfl,λe he=>ji⟩,?_⟩;walk_nrm)
  exact hT
 obtain⟨S,hS⟩:∃S:Int,(v:Int)*KK=S:=⟨_,rfl⟩;have a1:S/4294967296=(v:Int):=by rw[<-hS];simp only[KK];omega
 have b1:bits .and .u64 S 2147483648=0:=by rw[<-hS];have:=a9 v 0 ab ab;simpa[KK]using this
 have b2:bits .and .u64 S 2147483647=0:=by rw[<-hS];have:=a8 v 0 ab ab;simpa[KK]using this
 have c1:IntKind.i32.wrap (v:Int)=(v:Int):=by rw[be];omega
 have w1:IntKind.u64.wrap (S+1)=S+1:=by rw[bb,<-hS];simp only[KK];omega
 have q3:decide ((v:Int)<0)=false:=decide_eq_false ab;have q4:decide (0<(v:Int))=true:=decide_eq_true ab;have q5:((v:Int)==0)=false:=cY;have q6:decide ((v:Int)=0)=false:=decide_eq_false ab;rw[hS]at hw;refine⟨_,a3 (v:=S) rfl rfl (by k_ne) rfl H.f_loadU64 (a4 L) (a5 L) (a6 L) .u64 (a7 L) rfl hw.cellSt,λh0=>absurd h0 ab,λ_=>?_⟩;clear hw;walk_nrm;refine ET.z ?_;apply ET.rn;apply ET.rt;(refine ET.k rfl λ_ _ _=>ao rfl rfl H.f_uLoad rfl ⟨⟨rfl,λe he=>ji⟩,?_⟩;walk_nrm);refine ET.z ?_;apply ET.ns;refine ET.z ?_;refine ET.z ?_;refine ET.z ?_;refine ET.z ?_;apply ET.ns;refine ET.z ?_;refine ET.z ?_;refine ET.z ?_;refine ET.z ?_;apply ET.rn;apply ET.sq;apply ET.sr;refine ET.z ?_;refine ET.z ?_;apply ET.rn;refine ET.iu rfl ?_;apply ET.sk;apply ET.sr;refine ET.z ?_;refine ET.z ?_;refine ET.z ?_;refine ET.z ?_;refine ET.z ?_;refine ET.z ?_;(refine ET.k rfl λ_ _ _=>a2 rfl rfl (by k_ne) rfl H.f_uCas (nm_uCas L) rfl ⟨⟨rfl,λe he=>ji⟩,?_⟩;walk_nrmf uCasFn);apply ET.sr;refine ET.z ?_;apply ET.ns;refine ET.z ?_;refine ET.z ?_;refine ET.z ?_;refine ET.z ?_;refine ET.z ?_;refine ET.stop λIt Z _=>?_;replace hF:=x _ _ _ _ _ hF Z;clear Z;refine⟨rfl,λv' Gg hw=>⟨λe=>?_,λe=>?_⟩⟩
 ·
  subst e;rw[hS]at hw⊢;refine⟨_,(stepG_cas_hit (v:=S) (n:=S+1) rfl rfl (by k_ne) rfl H.f_casU64 (bS L) (bV L) (bW L) .u64 (bX L) rfl rfl rfl hw.cellSt<|hw.thaw 0).trans bQ,?_⟩;replace hF:=x _ _ _ _ (It.setCell (stA p.Wg)<|.int .u64<|S+1) hF<|Gt J;clear hw;walk_nrm
  refine ET.z ?_;apply ET.rn;apply ET.rt
  (refine ET.k rfl λ_ _ _=>ao rfl rfl H.f_uCas rfl ⟨⟨rfl,λe he=>ji⟩,?_⟩;walk_nrm)
  apply ET.rn;refine ET.mc rfl ?_;apply ET.sq;apply ET.sr;refine ET.z ?_;refine ET.z ?_;refine ET.z ?_;refine ET.z ?_;apply ET.rn;refine ET.mc rfl ?_;apply ET.rg;refine ET.z ?_;refine ET.z ?_;refine ET.z ?_
  (refine ET.k rfl λ_ _ D=>?_;refine aV rfl rfl (by k_ne) λR f=>?_;have A:=aG (P:=p.P) H.underlying_tPU32 H.underlying_tUP H.room_tU32 (ay D.1).choose_spec;have r:=λU=>aE (P:=p.P) H.underlying_tPU32 H.underlying_tUP H.room_tU32 (ay D.1).choose_spec U;go_simp;refine f _ _ ⟨⟨rfl,λex t=>(by have B:=a0 t;simp[go_sem,r]at B)⟩,?_⟩;clear f R A r)
  refine ET.k rfl λ_ _ _=>?_;rw[aI .write aN rfl rfl (by k_ne) rfl H.f_raceWrite (x_raceWrite_n L) (x_raceWrite_b L) (x_raceWrite_x L) (x_raceWrite_f L) (ad:=⟨_,1,none⟩) (by simp[au]<;>rfl)];simp only[goes_go];refine⟨⟨trivial,λex t=>?_⟩,?_⟩
  .rw[Array.mem_singleton]at t;subst t;exact⟨_,rfl,.inr rfl⟩
  walk_nrm
  apply ET.ns;refine ET.z ?_;apply ET.rn;apply ET.sq;apply ET.sr;refine ET.z ?_;refine ET.z ?_;refine ET.z ?_;refine ET.z ?_
  (refine ET.c (λ_=>ac rfl rfl) ?_;walk_nrm)
  refine ET.z ?_;apply ET.rn;refine ET.iu rfl ?_;apply ET.sk;apply ET.sr;refine ET.z ?_;refine ET.z ?_;refine ET.z ?_;refine ET.z ?_;refine ET.stop λKT eb _=>?_
  replace hF:=x _ _ _ _ _ hF eb;clear eb;refine⟨rfl,rfl,λ⟨st,hw⟩=>stepG_semacquire_wait rfl rfl rfl H.f_semacquire (bj L) (bk L) (bm L) (bn L) (by simp[au,smA]) hw.cellSm,λhf=>?_⟩;refine⟨_,(stepG_semacquire (n:=1) rfl rfl (by k_ne) rfl H.f_semacquire (bj L) (bk L) (bm L) (bn L) (by simp[au,smA]) hf.cellSm (by k_ne)<|hf.thaw 1).trans bQ,?_⟩;replace hF:=x _ _ _ _ (KT.setCell (smA p.Wg)<|.int .u32 0) hF<|Gt J;clear hf;walk_nrm
  apply ET.ns;refine ET.z ?_;refine ET.z ?_;refine ET.z ?_
  (refine ET.k rfl λ_ _ _=>a2 rfl rfl (by k_ne) rfl H.f_uLoad (nm_uLoad L) rfl ⟨⟨rfl,λe he=>ji⟩,?_⟩;walk_nrmf uLoadFn)
  apply ET.sr;refine ET.z ?_;apply ET.ns;refine ET.z ?_;refine ET.z ?_;refine ET.z ?_;refine ET.stop λdE mj _=>?_
  replace hF:=x _ _ _ _ _ hF mj;clear mj;refine⟨rfl,λhw=>⟨_,a3 (v:=0) rfl rfl (by k_ne) rfl H.f_loadU64 (a4 L) (a5 L) (a6 L) .u64 (a7 L) rfl hw.cellSt,?_⟩⟩;clear hw;walk_nrm
  refine ET.z ?_;apply ET.rn;apply ET.rt
  (refine ET.k rfl λ_ _ _=>ao rfl rfl H.f_uLoad rfl ⟨⟨rfl,λe he=>ji⟩,?_⟩;walk_nrm)
  refine ET.z ?_;refine ET.z ?_;apply ET.rn;apply ET.sq;refine ET.mc rfl ?_;apply ET.sr;refine ET.stop λSM O _=>?_
  replace hF:=x _ _ _ _ _ hF O;clear O;refine⟨rfl,_,aL .enable aN rfl rfl (by k_ne) rfl H.f_enable (bN L) (bO L) (bR L)<|x_enable_f L,?_⟩;walk_nrm
  apply ET.rn;apply ET.rg;refine ET.z ?_
  (refine ET.k rfl λ_ _ D=>?_;refine aV rfl rfl (by k_ne) λR f=>?_;have A:=aG (P:=p.P) H.underlying_tWgP H.underlying_tUP H.room_tWg (az D.1).choose_spec;have r:=λU=>aE (P:=p.P) H.underlying_tWgP H.underlying_tUP H.room_tWg (az D.1).choose_spec U;go_simp;refine f _ _ ⟨⟨rfl,λex t=>(by have B:=a0 t;simp[go_sem,r]at B)⟩,?_⟩;clear f R A r)
  refine ET.stop λbq Y _=>?_
  replace hF:=x _ _ _ _ _ hF Y;clear Y;refine⟨rfl,_,aI .acquire aN rfl rfl (by k_ne) rfl H.f_acquire (bz L) (bA L) (bB L) (bE L)<|by simp[au,stA],⟨_,hF,λI X sv Stop M' hT=>?_⟩⟩;walk_nrm
  apply ET.rn;apply ET.sq;apply ET.sr;refine ET.z ?_;apply ET.rn;refine ET.iu rfl ?_;apply ET.sk;apply ET.rt
  (refine ET.k rfl λ_ _ _=>br rfl rfl H.f_wait rfl ⟨⟨rfl,λe he=>ji⟩,?_⟩;walk_nrm)
  exact hT
 ·
  refine⟨_,stepG_cas_miss (v:=(v':Int)*KK) (old:=S) (n:=S+1) rfl rfl (by k_ne) rfl H.f_casU64 (bS L) (bV L) (bW L) .u64 (bX L) rfl rfl rfl hw.cellSt (hw.thaw 0) (by rw[<-hS];simp only[KK];omega),?_⟩;clear hw;walk_nrm
  refine ET.z ?_;apply ET.rn;apply ET.rt
  (refine ET.k rfl λ_ _ _=>ao rfl rfl H.f_uCas rfl ⟨⟨rfl,λe he=>ji⟩,?_⟩;walk_nrm)
  apply ET.rn;refine ET.iu rfl ?_;apply ET.sk;refine ET.c (λ_=>stepG_inBlock) ?_;refine ET.c (λ_=>stepG_inLoop) ?_;refine ET.stop λKT eb _=>?_
  replace hF:=x _ _ _ _ _ hF eb;exact⟨_,af9,rfl,rfl,rfl,hF⟩
end Ph
end
namespace Ph
def waitStart (H:WgLib p.P L){Ro}(hF:∀w,aU (λb=>M b\/Ro b) agl w->F af9 Ro M w): ET p.P true p.I p.dO Ro (p.AtKd (p.AnW L F agb ops0 agd rest0 age cs) Ro) M (G ((base L.wait).at ⟨#[.pointer p.Wg,ud,ud,ud,ud,ud,ud,ud,ud,ud,ud,ud,ud,ud,ud,ud,ud,ud,ud,ud,ud,ud,ud,ud,ud,ud,ud,ud,ud,ud,ud,ud,ud,ud,ud,ud,ud,ud,ud,ud,ud,ud,ud,ud,ud,ud,ud,ud,ud,ud,ud,ud,ud,ud,ud,ud,ud,ud,ud,ud,ud,ud,ud,ud,ud,ud,ud,ud,ud,ud,ud,ud,ud,ud,ud,ud,ud,ud,ud,ud,ud,ud,ud,ud],[]⟩ [.code (body_wait L)])<|agb.at af9 (.inRegion ops0 (agd::rest0)::age)::cs) agl:=by (lib_facts);apply ET.sq;refine ET.mc rfl ?_;apply ET.rg;refine ET.stop λq e _=>⟨rfl,_,aL .disable aN rfl rfl (by k_ne) rfl H.f_disable (bs L) (bt L) (bv L)<|x_disable_f L,?_⟩;walk_nrm;apply ET.rn;refine ET.c (λ_=>bp) ?_;refine ET.c (λ_=>stepG_loop) ?_;exact ET.stop λr f _=>⟨_,af9,rfl,rfl,rfl,hF _<|e.trans f⟩
end Ph
section
def YF {p:Prop}(x9:p:=by simp only[stepG.oper,abO,aer,hd,stepG.apply,if_true,hr,GStep.after,Fv];simp[seen,G]):p:=x9
variable [Gl]
def L6:Op->Bool
 |.convert ..|.binOp ..=>true
 |_=>false
def yK (ok:Ctx)(fr:aj)(V:aa)(u:aj):Prop:=∃(ops:Array av) (i:Nat) (r:List Nat) (k:List Item) (o:av) (y:Operand),
 fr.mode=.run/\fr.roundOf=none/\fr.todo=.inRegion ops (i::r)::k/\ops[i]?=some o/\Region.wanted o (yielded ops fr.tmps)/\du ok.fn y/\
 ((dead o.op=some (.panic y)/\∃t v,fr.eval y=.iface t v/\u=fr.raise [{v:=.iface t v,recovered:=false}])\/
  (dead o.op=some (.defer {callee:=.value y,args:=#[],argTypes:=#[]})/\∃f B C,fr.eval y=.func (.func f) B C/\ok.aP f/\u=Frame.finish {fr with defers:=⟨.fn (.func f) C,B++#[]⟩::fr.defers} undef)\/
  (∃x,dead o.op=some x/\L6 x/\u=fr.finish (fr.eval y)/\∀P,Gl.top P->∀ρ A W (D:av),D.op=x->lR ok ρ fr.eval A->(∀v,A (.const v)=v)->bw ok true ρ V W->(execOp A D).runT P W #[]=(.ok (.value<|A y) W,#[])))
section
variable {P:Program}{ok:Ctx}{ρ:Ren}{fr s u:aj}{V W:aa}
def GC (d:∀g,ok.fn (2000000+g)->ρ g=some g)(b:cV P ok ρ fr s)(f:du ok.fn y){t}(e:fr.eval y=.iface t v):∃c,s.eval y=.iface t c/\cV P ok ρ (fr.raise [{v:=.iface t v,recovered:=false}]) (s.raise [{v:=.iface t c,recovered:=false}]):=by have h:=b.eval d y f;rw[e]at h;generalize s.eval y=x at h;cases h with|iface _ h=>exact⟨_,rfl,b.raise<|.cons _ _ (.iface _ h) .nil⟩
def GA (D:∀g,ok.fn (2000000+g)->ρ g=some g)(r:cV P ok ρ fr s)(J:du ok.fn y){f}(N:ok.aP f){xs B}(e:fr.eval y=.func (.func f) xs B): ∃t C,s.eval y=.func (.func f) t C/\cV P ok ρ (Frame.finish {fr with defers:=⟨.fn (.func f) B,xs++#[]⟩::fr.defers} undef) (Frame.finish {s with defers:=⟨.fn (.func f) C,t++#[]⟩::s.defers} undef):=by have h:=r.eval D y J;rw[e]at h;generalize s.eval y=x at h;cases h with|func A O R T U=>cases A with|func A=>refine⟨_,_,rfl,cV.finish ?_ jY⟩;exact⟨r.fn,r.aP,r.tmps,r.todo,.cons (.call A N ⟨T,U⟩<|aB.append ⟨O,R⟩ aB.nil) r.defers,r.mode,r.kind,r.eC,r.round⟩
def LM (h:yK ok fr V u):Ei u=Ei fr:=by obtain⟨ops,i,r,k,o,y,A,B,C,D,J,N,⟨_,t,v,x,rfl⟩|⟨_,f,O,R,x,T,rfl⟩|⟨_,_,_,rfl,_⟩⟩:=h;exact qS _ _;exact eF _ _;exact eF _ _
def Nw (A:∀g,ok.fn (2000000+g)->ρ g=some g)(x:cV P ok ρ fr fr)(h:yK ok fr V u):cV P ok ρ u u:=by obtain⟨ops,i,r,k,o,y,O,R,T,U,Y,B,⟨_,t,v,C,rfl⟩|⟨_,f,Z,ys,C,D,rfl⟩|⟨_,_,_,rfl,_⟩⟩:=h;let⟨v',J,h⟩:=GC A x B C;grind;let⟨N,vy,J,h⟩:=GA A x B D C;grind;exact x.finish<|x.eval A y B
def QU (hs:¬Gl.Yr P/\Gl.top P)(hw:bw ok true ρ V W)(B:cV P ok ρ fr s)(h:yK ok fr V u):∃Jo,cV P ok ρ u Jo/\∀m cs,stepG P m (G s cs) W=.go (G Jo cs) W:=by let⟨ops,i,r,k,o,y,e1,e2,e3,T,e5,U,hd⟩:=h;have J:=B.todo;have Y:=B.mode;have D:=B.round;have Fv:=B.early.2;have O:=hw.gl;rw[e3]at J;rw[e1]at Y;rw[e2]at D;(have Z:∃x,dead o.op=some x:=by rcases hd with⟨h,_⟩|⟨h,_⟩|⟨_,h,_⟩<;>exact⟨_,h⟩);rcases R:s.todo with _|⟨x,l⟩;rw[R]at J;cases J;rw[R]at J;cases J with|cons hx hl=>cases hx with|@inRegion _ N _ ho=>have A:N[i]?=some (N[i]'(by rw[<-ho.1];exact((agy.1 T).1))):=agD _;generalize N[i]'f7=C at A;(have bF:dead o.op=some C.op:=by rcases(ho.2 i o C T A).2.2 with h|h|⟨h,_⟩|h;let⟨x,hx⟩:=Z;rw[h.dead.1]at hx;grind;omega;grind;rw[h]at hd;rcases hd with⟨h,_⟩|⟨h,_⟩|⟨_,h,h',_⟩;cases h;cases h;obtain rfl:=agC h;cases h');(have xh:Region.wanted C (yielded N s.tmps)=true:=by have:=ho.wanted i<|yielded N s.tmps;rw[T,A]at this;simp at this;rw[this,tU B.tmps ho];exact e5);(have qy:s.mode=.run:=by generalize s.mode=m at Y;cases Y;rfl);(have aer:s.roundOf=none:=by generalize s.roundOf=m at D;cases D;rfl);(have st:∀m cs W,stepG P m (G s cs) W=stepG.oper P true s cs none W:=by intro m cs W;rw[rO qy];simp only[stepG.exec,R,A,Option.map_some,Option.getD_some,xh,if_true]);(have abO:s.oper?=some C:=by simp[Frame.oper?,R,A]);rcases hd with⟨hd,t,v,ev,rfl⟩|⟨hd,f,xs,ys,ev,hi,rfl⟩|⟨x,hd,nd,rfl,hl⟩;rw[bF]at hd;have hd:=agC hd;let⟨v',e',h⟩:=GC O B U ev;refine⟨_,h,λm cs=>?_⟩;rw[st];(have hr:(execOp s.eval C).runT P W #[]=(.halt (.panic<|.iface t v') W,#[]):=by simp only[execOp,hd,e'];rfl);exact YF;rw[bF]at hd;have hd:=agC hd;let⟨ad,vy,e',h⟩:=GA O B U hi ev;refine⟨_,h,λm cs=>?_⟩;rw[st];(have hr:(execOp s.eval C).runT P W #[]=(.ok (.defer ⟨.fn (.func f) vy,ad++#[]⟩) W,#[]):=by simp only[execOp,hd,resolve,e',Array.map_empty];rfl);exact YF;rw[bF]at hd;have hd:=agC hd;refine⟨_,B.finish<|B.eval O y U,λm cs=>?_⟩;rw[st];(have e:stepG.oper P true s cs none W=stepG.apply P true s cs none (execOp s.eval C) W:=by simp[stepG.oper,abO];split;rename_i e;rw[<-hd,e]at nd;cases nd;rfl);rw[e];simp only[stepG.apply,if_true,(hl P hs.2 ρ s.eval W C hd (B.eval O) (λ_=>rfl) hw),GStep.after,Fv];simp[seen,G]
end
