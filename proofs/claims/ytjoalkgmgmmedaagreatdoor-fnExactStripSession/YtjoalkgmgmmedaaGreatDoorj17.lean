import Derived.Test.YtjoalkgmgmmedaaGreatDoorj04
import Derived.Test.YtjoalkgmgmmedaaGreatDoorChecked
set_option linter.unusedVariables false
set_option linter.defProp false
set_option maxHeartbeats 8000000
set_option maxRecDepth 100000
open Go renaming run_convert_to_unsafe->au,World->aF,Goroutine->aI,Frame->a3,execOp->a8,Oper->br
open Go.Act renaming eval->ay
open Go.Conc renaming stepG_unwanted->aa,events_convert_to_unsafe->ao,goes_leave1->av,stepG_markAt->aB,stepG_load_atomic->aE,stepG_mark0->aL,goes_oper_k->aV,mem_listed->a2,goes_call->a7,stepG_add_atomic->bj,aside_setCell->bp,stepG_block->bs,goes_leave0->bt
open Go.ConcN renaming st_waiters->a0,st_flag->a4
open Go.ConcN.Gen.WgLive renaming cell1->ac,cell0->ai
open Go.ConcR.Gen renaming x_loadU64_n->a9,x_loadU64_b->bb,x_loadU64_x->be,x_loadU64_f->bi,x_semacquire_n->bk,x_semacquire_b->bm,x_semacquire_x->bn,x_semacquire_f->bo,x_disable_n->bv,x_disable_b->bz,x_disable_x->bA,x_acquire_n->bB,x_acquire_b->bE,x_acquire_x->bH,x_acquire_f->bI,x_addU64_n->bL,x_addU64_b->bM,x_addU64_x->bN,x_addU64_f->bO,x_enable_n->bR,x_enable_b->bS,x_enable_x->bV,x_casU64_n->bW,x_casU64_b->b0,x_casU64_x->b3,x_casU64_f->b4
open Go.IntKind renaming wrap_u64->a5,wrap_i32->a6
open Option renaming getD_some->ax
namespace Go.Proofs.YtjoalkgmgmmedaaGreatDoor
open Conc Conc.Lib ConcR.Gen RowKit
variable {afo:Act}{F:Act->(Nat->Prop)->(Nat->Prop)->aF->Prop}{a:Addr}{ops0:Array br}{afq:a3}{cs:List a3}{aft:List Item}{rest0:List Nat}{afs:Nat}{M S:Nat->Prop}{y:Operand}{p:Ph}{v:Value}{L:WgLink}{afz w:aF}
abbrev link:WgLink:={add:=177,done:=179,wait:=181,relMerge:=187,disable:=188,enable:=189,inBubble:=190,associate:=191,fatal:=192,uOr:=193,uAdd:=194,raceRead:=195,uLoad:=196,uStore:=197,disassociate:=198,semrelease:=199,acquire:=202,isAssociated:=203,uCas:=204,raceWrite:=205,semacquire:=206,orU64:=214,addU64:=215,loadU64:=216,storeU64:=217,casU64:=220,tWgP:=253,tUP:=87,tAssoc:=255,tWg:=240,tAU:=238,tU64:=158,tUint:=130,tU32:=172,tPU32:=259,tPAU:=273,tPU64:=275,tNoCopy:=236,tANoCopy:=232,tAlign64:=233}
def Dq:WgLib Tryz.prog link:=
 ⟨Tryz.func177,Tryz.func179,Tryz.func181,Tryz.func187,Tryz.func188,Tryz.func189,Tryz.func190,Tryz.func191,Tryz.func192,Tryz.func193,Tryz.func194,Tryz.func195,Tryz.func196,Tryz.func197,Tryz.func198,Tryz.func199,Tryz.func202,Tryz.func203,Tryz.func204,Tryz.func205,Tryz.func206,Tryz.func214,Tryz.func215,Tryz.func216,Tryz.func217,Tryz.func220,Tryz.underlying253,Tryz.runUnderlying253,Tryz.sizeOf253,Tryz.isAgg253,Tryz.zeroValue253,Tryz.underlying87,Tryz.runUnderlying87,Tryz.sizeOf87,Tryz.isAgg87,Tryz.zeroValue87,Tryz.underlying255,Tryz.runUnderlying255,Tryz.sizeOf255,Tryz.isAgg255,Tryz.zeroValue255,Tryz.underlying240,Tryz.runUnderlying240,Tryz.sizeOf240,Tryz.isAgg240,Tryz.zeroValue240,Tryz.underlying238,Tryz.runUnderlying238,Tryz.sizeOf238,Tryz.isAgg238,Tryz.zeroValue238,Tryz.underlying158,Tryz.runUnderlying158,Tryz.sizeOf158,Tryz.isAgg158,Tryz.zeroValue158,Tryz.underlying130,Tryz.runUnderlying130,Tryz.sizeOf130,Tryz.isAgg130,Tryz.zeroValue130,Tryz.underlying172,Tryz.runUnderlying172,Tryz.sizeOf172,Tryz.isAgg172,Tryz.zeroValue172,Tryz.underlying259,Tryz.runUnderlying259,Tryz.sizeOf259,Tryz.isAgg259,Tryz.zeroValue259,Tryz.underlying273,Tryz.runUnderlying273,Tryz.sizeOf273,Tryz.isAgg273,Tryz.zeroValue273,Tryz.underlying275,Tryz.runUnderlying275,Tryz.sizeOf275,Tryz.isAgg275,Tryz.zeroValue275,Tryz.underlying0,Tryz.runUnderlying0,Tryz.sizeOf0,Tryz.isAgg0,Tryz.zeroValue0,Tryz.underlying3,Tryz.runUnderlying3,Tryz.sizeOf3,Tryz.isAgg3,Tryz.zeroValue3,Tryz.underlying4,Tryz.runUnderlying4,Tryz.sizeOf4,Tryz.isAgg4,Tryz.zeroValue4,Tryz.underlying9,Tryz.runUnderlying9,Tryz.sizeOf9,Tryz.isAgg9,Tryz.zeroValue9,Tryz.underlying20,Tryz.runUnderlying20,Tryz.sizeOf20,Tryz.isAgg20,Tryz.zeroValue20,Tryz.underlying21,Tryz.runUnderlying21,Tryz.sizeOf21,Tryz.isAgg21,Tryz.zeroValue21,aO,aO⟩
section
open ConcN (WgLive)
open ConcR (KK WgAt stA smA rd wr)
namespace Ph
variable {p:Ph}{M Ro:Nat->Prop}
def FZ (h:¬S a.block):aU S w (w.setCell a v):=
 ⟨λb c=>Below.heap_setCell w a v b λe=>h<|e▸c,Nat.le_of_eq (bp w a v).size.symm,rfl,rfl⟩
variable {L:WgLink}{k:Nat}{Next:(Nat->Prop)->(Nat->Prop)->aI->aF->Prop}{afq:a3}{afo:Act}{ops0:Array br}{afs:Nat}{rest0:List Nat}{aft:List Item}{cs:List a3}{afz:aF}
def ab6 {p:Prop}(x9:p:=by
  refine ET.stop λKj d8 _=>?_
  exact⟨rfl,_,stepG_unwind_entry (v:=.tuple #[]) (evs:=#[Go.ConcR.mk .enable]) rfl H.f_enable (x_enable_n L) (x_enable_b L) (x_enable_x L) (x_enable_f L) (by simp[Extern.Race.none_]) (by simp[Go.ConcR.mk])<|by simp[Go.ConcR.mk],ET.k rfl λaeh _ _=>goes_leave0 rfl rfl H.f_add rfl ⟨⟨rfl,λe he=>jc⟩,hT _<|hK.trans d8⟩⟩):p:=x9
def addPos (H:WgLib p.P L)(N:¬(M p.Wg\/Ro p.Wg))
  (hT:∀w,aU (λb=>M b\/Ro b) afz w->ET p.P true p.I p.dM Ro (p.AtGo Ro k Next) M (G (afq.at (afo.put ((ops0[afs]?).bind (·.dst))<|.tuple #[])<|.inRegion ops0 rest0::aft) cs) w):
  ET p.P true p.I p.dM Ro (p.AtKdS Ro k Next) M
   (G ((base L.add).at ⟨#[.pointer p.Wg,(1:Int),ud,ud,ud,ud,ud,ud,ud,ud,ud,ud,ud,ud,ud,ud,ud,ud,ud,ud,ud,ud,ud,ud,ud,ud,ud,ud,ud,ud,ud,ud,ud,ud,ud,ud,ud,ud,ud,ud,ud,ud,ud,ud,ud,ud,ud,ud,ud,ud,ud,ud,ud,ud,ud,ud,ud,ud,ud,ud,ud,ud,ud,ud,ud,ud,ud,ud,ud,ud,ud,ud,ud,ud,ud,ud,ud,ud,ud,ud,ud,ud,ud,ud,ud,ud,ud,ud,ud,ud,ud,ud,ud,ud,ud,ud,ud,ud,ud,ud,ud,ud,ud,ud,ud,ud,ud,ud,ud,ud,ud,ud,ud,ud,ud,ud,ud],[]⟩ [.code (body_add L)]) (afq.at afo (.inRegion ops0 (afs::rest0)::aft)::cs)) afz:=by
 lib_facts
 simp only[body_add,addFn,ax];apply ET.sq;refine ET.lR rfl ?_;apply ET.sq;apply ET.sr;refine ET.z ?_;refine ET.z ?_;apply ET.rn;refine ET.ip rfl ?_;apply ET.sk;apply ET.sr;refine ET.stop λU f _=>?_
 refine⟨rfl,_,aL .disable aP rfl rfl (by k_ne) rfl H.f_disable (bv L) (bz L) (bA L)<|x_disable_f L,?_⟩;walk_nrm
 apply ET.rn;apply ET.rg
 (refine ET.c (λ_=>stepG_defer rfl rfl (by k_ne) rfl) ?_;walk_nrm)
 apply ET.ns;refine ET.z ?_;apply ET.rn;apply ET.sq;apply ET.sr
 (refine ET.c (λ_=>stepG_entry_pure (.bool false) rfl rfl (by k_ne) rfl H.f_inBubble (x_inBubble_n L) (x_inBubble_b L) (x_inBubble_x L)<|x_inBubble_f L) ?_;walk_nrm)
 apply ET.rn;refine ET.ip rfl ?_;apply ET.sk;apply ET.sr;refine ET.z ?_;refine ET.z ?_;refine ET.z ?_;refine ET.z ?_;refine ET.z ?_;refine ET.z ?_
 (refine ET.k rfl λ_ _ _=>a7 rfl rfl (by k_ne) rfl H.f_uAdd (nm_uAdd L) rfl ⟨⟨rfl,λe he=>jc⟩,?_⟩;walk_nrmf uAddFn)
 apply ET.sr;refine ET.z ?_;apply ET.ns;refine ET.z ?_;refine ET.z ?_;refine ET.z ?_;refine ET.z ?_;refine ET.stop λB r _=>?_
 refine⟨rfl,λv hv hw=>?_⟩;rcases afX v with rfl|Y
 ·
  replace hw:WgAt p.ty p.Wg B 0 0:=by simpa using hw
  have z:(((0:Nat):Int)+1)*KK=KK:=aP;rw[z];have O:IntKind.u64.wrap (0+4294967296)=KK:=bh;refine⟨_,(bj rfl rfl (by k_ne) rfl H.f_addU64 (bL L) (bM L) (bN L) .u64 (bO L) rfl rfl hw.cellSt<|hw.thaw 0).trans (by rw[O];rfl),?_⟩;have hK:aU (λb=>M b\/Ro b) afz (B.setCell (stA p.Wg)<|.int .u64 KK):=f.trans<|r.trans<|FZ N;clear hw z O;simp only[KK]at hK⊢;walk_nrm
  refine ET.z ?_;apply ET.rn;apply ET.rt
  (refine ET.k rfl λ_ _ _=>av rfl rfl H.f_uAdd rfl ⟨⟨rfl,λe he=>jc⟩,?_⟩;walk_nrm)
  refine ET.z ?_;apply ET.rn;apply ET.sq;apply ET.sr;refine ET.z ?_;refine ET.z ?_;refine ET.z ?_;refine ET.z ?_
  iterate 2 (refine ET.c (λ_=>aa rfl rfl) ?_;walk_nrm)
  refine ET.z ?_;apply ET.rn;refine ET.ip rfl ?_;apply ET.sk;apply ET.sr;refine ET.z ?_;refine ET.z ?_;refine ET.z ?_;refine ET.z ?_;apply ET.ns;refine ET.z ?_;refine ET.z ?_;refine ET.z ?_;refine ET.z ?_;apply ET.rn;apply ET.sq;apply ET.sr;refine ET.z ?_;refine ET.z ?_;refine ET.z ?_;refine ET.z ?_;refine ET.z ?_;refine ET.z ?_;refine ET.z ?_;refine ET.z ?_;refine ET.z ?_;refine ET.z ?_;apply ET.rn;refine ET.lR rfl ?_;apply ET.rg;refine ET.z ?_;refine ET.z ?_;refine ET.z ?_
  (refine ET.k rfl λ_ _ R=>?_;refine aV rfl rfl (by k_ne) λZ t=>?_;have C:=au (P:=p.P) H.underlying_tPU32 H.underlying_tUP H.room_tU32 (ac R.1).choose_spec;have x:=λes=>ao (P:=p.P) H.underlying_tPU32 H.underlying_tUP H.room_tU32 (ac R.1).choose_spec es;go_simp;refine t _ _ ⟨⟨rfl,λex D=>(by have J:=a2 D;simp[go_sem,x]at J)⟩,?_⟩;clear t Z C x)
  refine ET.k rfl λ_ _ _=>?_;rw[aB .read aP rfl rfl (by k_ne) rfl H.f_raceRead (x_raceRead_n L) (x_raceRead_b L) (x_raceRead_x L) (x_raceRead_f L) (ad:=⟨p.Wg,1,none⟩) (by simp[ay])];simp only[goes_go];refine⟨⟨trivial,λe he=>?_⟩,?_⟩
  .rw[Array.mem_singleton]at he;subst he;exact⟨_,rfl,.inl rfl⟩
  walk_nrm
  apply ET.rn;apply ET.sq;apply ET.sr;refine ET.z ?_;refine ET.z ?_;apply ET.rn;refine ET.ip rfl ?_;apply ET.sk;apply ET.sq;apply ET.sr;refine ET.z ?_;refine ET.z ?_;refine ET.z ?_
  iterate 2 (refine ET.c (λ_=>aa rfl rfl) ?_;walk_nrm)
  refine ET.z ?_;refine ET.z ?_
  iterate 4 (refine ET.c (λ_=>aa rfl rfl) ?_;walk_nrm)
  refine ET.z ?_;apply ET.rn;refine ET.ip rfl ?_;apply ET.sk;apply ET.sq;apply ET.sr;refine ET.z ?_;refine ET.z ?_;refine ET.z ?_
  iterate 2 (refine ET.c (λ_=>aa rfl rfl) ?_;walk_nrm)
  refine ET.z ?_;apply ET.rn;refine ET.lR rfl ?_;apply ET.rt;exact ab6
 ·
  obtain⟨V,A⟩:∃V:Int,V=(v:Int)+1:=⟨_,rfl⟩;obtain⟨S,hS⟩:∃S:Int,S=V*KK:=⟨_,rfl⟩;have T:IntKind.u64.wrap ((v:Int)*KK+4294967296)=S:=by rw[a5,hS,A];simp only[KK];omega
  rw[<-A,<-hS];have a1:S/4294967296=V:=by rw[hS];simp only[KK];omega
  have b1:bits .and .u64 S 2147483648=0:=by rw[hS,A];have:=a4 (v+1) 0 ab ab;simpa[KK]using this
  have b2:bits .and .u64 S 2147483647=0:=by rw[hS,A];have:=a0 (v+1) 0 ab ab;simpa[KK]using this
  have c1:IntKind.i32.wrap V=V:=by rw[a6];omega
  have aZ:1<V:=ab;have bl:V<2147483648:=ab;have q1:(V==1)=false:=dj;have q2:decide (V=1)=false:=decide_eq_false ab;have q3:decide (V<0)=false:=decide_eq_false ab;have q4:decide (0<V)=true:=decide_eq_true ab;have q5:(V==0)=false:=dj;have q6:decide (V=0)=false:=decide_eq_false ab;refine⟨_,(bj rfl rfl (by k_ne) rfl H.f_addU64 (bL L) (bM L) (bN L) .u64 (bO L) rfl rfl hw.cellSt<|hw.thaw 0).trans (by rw[T];rfl),?_⟩;have hK:aU (λb=>M b\/Ro b) afz (B.setCell (stA p.Wg)<|.int .u64 S):=f.trans<|r.trans<|FZ N;clear hw hS A T;walk_nrm
  refine ET.z ?_;apply ET.rn;apply ET.rt
  (refine ET.k rfl λ_ _ _=>av rfl rfl H.f_uAdd rfl ⟨⟨rfl,λe he=>jc⟩,?_⟩;walk_nrm)
  refine ET.z ?_;apply ET.rn;apply ET.sq;apply ET.sr;refine ET.z ?_;refine ET.z ?_;refine ET.z ?_;refine ET.z ?_
  iterate 2 (refine ET.c (λ_=>aa rfl rfl) ?_;walk_nrm)
  refine ET.z ?_;apply ET.rn;refine ET.ip rfl ?_;apply ET.sk;apply ET.sr;refine ET.z ?_;refine ET.z ?_;refine ET.z ?_;refine ET.z ?_;apply ET.ns;refine ET.z ?_;refine ET.z ?_;refine ET.z ?_;refine ET.z ?_;apply ET.rn;apply ET.sq;apply ET.sr;refine ET.z ?_;refine ET.z ?_;refine ET.z ?_;refine ET.z ?_;refine ET.z ?_;refine ET.z ?_;refine ET.z ?_;refine ET.z ?_;refine ET.z ?_;refine ET.z ?_;apply ET.rn;refine ET.ip rfl ?_;apply ET.sk;apply ET.sq;apply ET.sr;refine ET.z ?_;refine ET.z ?_;apply ET.rn;refine ET.ip rfl ?_;apply ET.sk;apply ET.sq;apply ET.sr;refine ET.z ?_;refine ET.z ?_;refine ET.z ?_
  iterate 2 (refine ET.c (λ_=>aa rfl rfl) ?_;walk_nrm)
  refine ET.z ?_;refine ET.z ?_
  iterate 4 (refine ET.c (λ_=>aa rfl rfl) ?_;walk_nrm)
  refine ET.z ?_;apply ET.rn;refine ET.ip rfl ?_;apply ET.sk;apply ET.sq;apply ET.sr;refine ET.z ?_;refine ET.z ?_;refine ET.z ?_
  iterate 2 (refine ET.c (λ_=>aa rfl rfl) ?_;walk_nrm)
  refine ET.z ?_;apply ET.rn;refine ET.lR rfl ?_;apply ET.rt;exact ab6
end Ph
namespace Ph
def FY (h:¬S a.block):aU S w (w.setCell a v):=
 ⟨λb c=>Below.heap_setCell w a v b λe=>h<|e▸c,Nat.le_of_eq (bp w a v).size.symm,rfl,rfl⟩
section
variable (p:Ph)(L:WgLink)(F:Act->(Nat->Prop)->(Nat->Prop)->aF->Prop)(afq:a3)(ops0:Array br)(afs:Nat)(rest0:List Nat)(aft:List Item)(cs:List a3)
def AnW (Ro M:Nat->Prop)(g:aI)(W:aF):Prop:=
 ∃(T:Array Value) (afo:Act),g=G ((base L.wait).at ⟨T,[]⟩ [.code (L7 L),.inLoop (L7 L),.inBlock 0]) (afq.at afo (.inRegion ops0 (afs::rest0)::aft)::cs)/\T.size=84/\T[0]?=some (.pointer p.Wg)/\F afo Ro M W
def Yh (Ro M:Nat->Prop)(g:aI)(W:aF):Prop:=
 ∃afo,F afo Ro M W/\∀I (X:Event->Prop) (b:Nat->Prop) (Stop:(Nat->Prop)->aI->aF->Prop) (c:Nat->Prop),
  ET p.P true I X b Stop c (G (afq.at (afo.put ((ops0[afs]?).bind (·.dst))<|.tuple #[])<|.inRegion ops0 rest0::aft) cs) W->ET p.P true I X b Stop c g W
end
def waitRound (H:WgLib p.P L)(x:∀a Ro M w C,F a Ro M w->aU (λb=>M b\/Ro b) w C->F a Ro M C)(aZ:∀a Ro M w,F a Ro M w->¬(M p.Wg\/Ro p.Wg))
  (Ro M g W)(h:p.AnW L F afq ops0 afs rest0 aft cs Ro M g W):
  ET p.P true p.I p.dM Ro (p.AtW1 (p.Yh F afq ops0 afs rest0 aft cs) (p.AnW L F afq ops0 afs rest0 aft cs) Ro) M g W:=by
 lib_facts
 obtain⟨T,afo,rfl,bl,t0,hF⟩:=h;obtain⟨v0,v1,v2,v3,v4,v5,v6,v7,v8,v9,bx,bF,b5,b6,b7,b8,b9,ca,cb,cc,cd,ce,cf,ch,ci,ck,cl,cn,co,cp,cq,ct,cu,cv,cw,cx,cy,cz,cA,cB,cC,cE,cF,cI,cK,cL,cM,cN,cP,cS,cT,cV,cX,c0,c2,c3,c4,c5,c6,c7,c8,c9,da,db,dc,dd,df,dg,dk,dl,dm,dn,dp,dr,ds,dt,dv,dw,dx,dz,dA,dC,dF,dN,rfl⟩:=array84 T bl;simp only[List.getElem?_toArray,List.getElem?_cons_zero,Option.some.injEq]at t0;subst t0;have J:=aZ _ _ _ _ hF;simp only[L7,body_wait,waitFn,ax];refine ET.c (λ_=>bs) ?_;apply ET.sr;refine ET.z ?_;refine ET.z ?_;refine ET.z ?_
 (refine ET.k rfl λ_ _ _=>a7 rfl rfl (by k_ne) rfl H.f_uLoad (nm_uLoad L) rfl ⟨⟨rfl,λe he=>jc⟩,?_⟩;walk_nrmf uLoadFn)
 apply ET.sr;refine ET.z ?_;apply ET.ns;refine ET.z ?_;refine ET.z ?_;refine ET.z ?_;refine ET.stop λC N _=>?_
 replace hF:=x _ _ _ _ _ hF N;clear N;refine⟨rfl,λv hv hw=>?_⟩;rcases afX v with rfl|dO
 ·
  replace hw:WgAt p.ty p.Wg C 0 0:=by simpa using hw
  refine⟨_,aE (v:=0) rfl rfl (by k_ne) rfl H.f_loadU64 (a9 L) (bb L) (be L) .u64 (bi L) rfl hw.cellSt,λ_=>?_,λh=>absurd rfl h⟩;clear hw;walk_nrm
  refine ET.z ?_;apply ET.rn;apply ET.rt
  (refine ET.k rfl λ_ _ _=>av rfl rfl H.f_uLoad rfl ⟨⟨rfl,λe he=>jc⟩,?_⟩;walk_nrm)
  refine ET.z ?_;apply ET.ns;refine ET.z ?_;refine ET.z ?_;refine ET.z ?_;refine ET.z ?_;apply ET.ns;refine ET.z ?_;refine ET.z ?_;refine ET.z ?_;refine ET.z ?_;apply ET.rn;apply ET.sq;apply ET.sr;refine ET.z ?_;refine ET.z ?_;apply ET.rn;refine ET.lR rfl ?_;apply ET.sq;refine ET.lR rfl ?_;apply ET.sr;refine ET.stop λR6 O _=>?_
  replace hF:=x _ _ _ _ _ hF O;clear O;refine⟨rfl,_,aL .enable aP rfl rfl (by k_ne) rfl H.f_enable (bR L) (bS L) (bV L)<|x_enable_f L,?_⟩;walk_nrm
  apply ET.rn;apply ET.rg;refine ET.z ?_
  (refine ET.k rfl λ_ _ D=>?_;refine aV rfl rfl (by k_ne) λR f=>?_;have A:=au (P:=p.P) H.underlying_tWgP H.underlying_tUP H.room_tWg (ai D.1).choose_spec;have r:=λU=>ao (P:=p.P) H.underlying_tWgP H.underlying_tUP H.room_tWg (ai D.1).choose_spec U;go_simp;refine f _ _ ⟨⟨rfl,λex t=>(by have B:=a2 t;simp[go_sem,r]at B)⟩,?_⟩;clear f R A r)
  refine ET.stop λbq Y _=>?_
  replace hF:=x _ _ _ _ _ hF Y;clear Y;refine⟨rfl,_,aB .acquire aP rfl rfl (by k_ne) rfl H.f_acquire (bB L) (bE L) (bH L) (bI L)<|by simp[ay,stA],⟨_,hF,λI X rV Stop M' hT=>?_⟩⟩;walk_nrm
  apply ET.rn;apply ET.sq;apply ET.sr;refine ET.z ?_;refine ET.z ?_;refine ET.z ?_;refine ET.z ?_;refine ET.z ?_;refine ET.z ?_;refine ET.z ?_;refine ET.z ?_
  iterate 2 (refine ET.c (λ_=>aa rfl rfl) ?_;walk_nrm)
  refine ET.z ?_;apply ET.rn;refine ET.ip rfl ?_;apply ET.sk;apply ET.rt
  (refine ET.k rfl λ_ _ _=>bt rfl rfl H.f_wait rfl ⟨⟨rfl,λe he=>jc⟩,?_⟩;walk_nrm)
  exact hT
 obtain⟨S,hS⟩:∃S:Int,(v:Int)*KK=S:=⟨_,rfl⟩;have a1:S/4294967296=(v:Int):=by rw[<-hS];simp only[KK];omega
 have b1:bits .and .u64 S 2147483648=0:=by rw[<-hS];have:=a4 v 0 ab ab;simpa[KK]using this
 have b2:bits .and .u64 S 2147483647=0:=by rw[<-hS];have:=a0 v 0 ab ab;simpa[KK]using this
 have c1:IntKind.i32.wrap (v:Int)=(v:Int):=by rw[a6];omega
 have w1:IntKind.u64.wrap (S+1)=S+1:=by rw[a5,<-hS];simp only[KK];omega
 have q3:decide ((v:Int)<0)=false:=decide_eq_false ab;have q4:decide (0<(v:Int))=true:=decide_eq_true ab;have q5:((v:Int)==0)=false:=dj;have q6:decide ((v:Int)=0)=false:=decide_eq_false ab;rw[hS]at hw;refine⟨_,aE (v:=S) rfl rfl (by k_ne) rfl H.f_loadU64 (a9 L) (bb L) (be L) .u64 (bi L) rfl hw.cellSt,λh0=>absurd h0 ab,λ_=>?_⟩;clear hw;walk_nrm
 refine ET.z ?_;apply ET.rn;apply ET.rt
 (refine ET.k rfl λ_ _ _=>av rfl rfl H.f_uLoad rfl ⟨⟨rfl,λe he=>jc⟩,?_⟩;walk_nrm)
 refine ET.z ?_;apply ET.ns;refine ET.z ?_;refine ET.z ?_;refine ET.z ?_;refine ET.z ?_;apply ET.ns;refine ET.z ?_;refine ET.z ?_;refine ET.z ?_;refine ET.z ?_;apply ET.rn;apply ET.sq;apply ET.sr;refine ET.z ?_;refine ET.z ?_;apply ET.rn;refine ET.ip rfl ?_;apply ET.sk;apply ET.sr;refine ET.z ?_;refine ET.z ?_;refine ET.z ?_;refine ET.z ?_;refine ET.z ?_;refine ET.z ?_
 (refine ET.k rfl λ_ _ _=>a7 rfl rfl (by k_ne) rfl H.f_uCas (nm_uCas L) rfl ⟨⟨rfl,λe he=>jc⟩,?_⟩;walk_nrmf uCasFn)
 apply ET.sr;refine ET.z ?_;apply ET.ns;refine ET.z ?_;refine ET.z ?_;refine ET.z ?_;refine ET.z ?_;refine ET.z ?_;refine ET.stop λHw Z _=>?_
 replace hF:=x _ _ _ _ _ hF Z;clear Z;refine⟨rfl,λv' FN hw=>⟨λe=>?_,λe=>?_⟩⟩
 ·
  subst e;rw[hS]at hw⊢;refine⟨_,(stepG_cas_hit (v:=S) (n:=S+1) rfl rfl (by k_ne) rfl H.f_casU64 (bW L) (b0 L) (b3 L) .u64 (b4 L) rfl rfl rfl hw.cellSt<|hw.thaw 0).trans bQ,?_⟩;replace hF:=x _ _ _ _ (Hw.setCell (stA p.Wg)<|.int .u64<|S+1) hF<|FY J;clear hw;walk_nrm
  refine ET.z ?_;apply ET.rn;apply ET.rt
  (refine ET.k rfl λ_ _ _=>av rfl rfl H.f_uCas rfl ⟨⟨rfl,λe he=>jc⟩,?_⟩;walk_nrm)
  apply ET.rn;refine ET.lR rfl ?_;apply ET.sq;apply ET.sr;refine ET.z ?_;refine ET.z ?_;refine ET.z ?_;refine ET.z ?_;apply ET.rn;refine ET.lR rfl ?_;apply ET.rg;refine ET.z ?_;refine ET.z ?_;refine ET.z ?_
  (refine ET.k rfl λ_ _ D=>?_;refine aV rfl rfl (by k_ne) λR f=>?_;have A:=au (P:=p.P) H.underlying_tPU32 H.underlying_tUP H.room_tU32 (ac D.1).choose_spec;have r:=λU=>ao (P:=p.P) H.underlying_tPU32 H.underlying_tUP H.room_tU32 (ac D.1).choose_spec U;go_simp;refine f _ _ ⟨⟨rfl,λex t=>(by have B:=a2 t;simp[go_sem,r]at B)⟩,?_⟩;clear f R A r)
  refine ET.k rfl λ_ _ _=>?_;rw[aB .write aP rfl rfl (by k_ne) rfl H.f_raceWrite (x_raceWrite_n L) (x_raceWrite_b L) (x_raceWrite_x L) (x_raceWrite_f L) (ad:=⟨_,1,none⟩) (by simp[ay]<;>rfl)];simp only[goes_go];refine⟨⟨trivial,λex t=>?_⟩,?_⟩
  .rw[Array.mem_singleton]at t;subst t;exact⟨_,rfl,.inr rfl⟩
  walk_nrm
  apply ET.ns;refine ET.z ?_;apply ET.rn;apply ET.sq;apply ET.sr;refine ET.z ?_;refine ET.z ?_;refine ET.z ?_;refine ET.z ?_
  (refine ET.c (λ_=>aa rfl rfl) ?_;walk_nrm)
  refine ET.z ?_;apply ET.rn;refine ET.ip rfl ?_;apply ET.sk;apply ET.sr;refine ET.z ?_;refine ET.z ?_;refine ET.z ?_;refine ET.z ?_;refine ET.stop λKj d8 _=>?_
  replace hF:=x _ _ _ _ _ hF d8;clear d8;refine⟨rfl,rfl,λ⟨st,hw⟩=>stepG_semacquire_wait rfl rfl rfl H.f_semacquire (bk L) (bm L) (bn L) (bo L) (by simp[ay,smA]) hw.cellSm,λhf=>?_⟩;refine⟨_,(stepG_semacquire (n:=1) rfl rfl (by k_ne) rfl H.f_semacquire (bk L) (bm L) (bn L) (bo L) (by simp[ay,smA]) hf.cellSm (by k_ne)<|hf.thaw 1).trans bQ,?_⟩;replace hF:=x _ _ _ _ (Kj.setCell (smA p.Wg)<|.int .u32 0) hF<|FY J;clear hf;walk_nrm
  apply ET.ns;refine ET.z ?_;refine ET.z ?_;refine ET.z ?_
  (refine ET.k rfl λ_ _ _=>a7 rfl rfl (by k_ne) rfl H.f_uLoad (nm_uLoad L) rfl ⟨⟨rfl,λe he=>jc⟩,?_⟩;walk_nrmf uLoadFn)
  apply ET.sr;refine ET.z ?_;apply ET.ns;refine ET.z ?_;refine ET.z ?_;refine ET.z ?_;refine ET.stop λdS ma _=>?_
  replace hF:=x _ _ _ _ _ hF ma;clear ma;refine⟨rfl,λhw=>⟨_,aE (v:=0) rfl rfl (by k_ne) rfl H.f_loadU64 (a9 L) (bb L) (be L) .u64 (bi L) rfl hw.cellSt,?_⟩⟩;clear hw;walk_nrm
  refine ET.z ?_;apply ET.rn;apply ET.rt
  (refine ET.k rfl λ_ _ _=>av rfl rfl H.f_uLoad rfl ⟨⟨rfl,λe he=>jc⟩,?_⟩;walk_nrm)
  refine ET.z ?_;refine ET.z ?_;apply ET.rn;apply ET.sq;refine ET.lR rfl ?_;apply ET.sr;refine ET.stop λR6 O _=>?_
  replace hF:=x _ _ _ _ _ hF O;clear O;refine⟨rfl,_,aL .enable aP rfl rfl (by k_ne) rfl H.f_enable (bR L) (bS L) (bV L)<|x_enable_f L,?_⟩;walk_nrm
  apply ET.rn;apply ET.rg;refine ET.z ?_
  (refine ET.k rfl λ_ _ D=>?_;refine aV rfl rfl (by k_ne) λR f=>?_;have A:=au (P:=p.P) H.underlying_tWgP H.underlying_tUP H.room_tWg (ai D.1).choose_spec;have r:=λU=>ao (P:=p.P) H.underlying_tWgP H.underlying_tUP H.room_tWg (ai D.1).choose_spec U;go_simp;refine f _ _ ⟨⟨rfl,λex t=>(by have B:=a2 t;simp[go_sem,r]at B)⟩,?_⟩;clear f R A r)
  refine ET.stop λbq Y _=>?_
  replace hF:=x _ _ _ _ _ hF Y;clear Y;refine⟨rfl,_,aB .acquire aP rfl rfl (by k_ne) rfl H.f_acquire (bB L) (bE L) (bH L) (bI L)<|by simp[ay,stA],⟨_,hF,λI X rV Stop M' hT=>?_⟩⟩;walk_nrm
  apply ET.rn;apply ET.sq;apply ET.sr;refine ET.z ?_;apply ET.rn;refine ET.ip rfl ?_;apply ET.sk;apply ET.rt
  (refine ET.k rfl λ_ _ _=>bt rfl rfl H.f_wait rfl ⟨⟨rfl,λe he=>jc⟩,?_⟩;walk_nrm)
  exact hT
 ·
  refine⟨_,stepG_cas_miss (v:=(v':Int)*KK) (old:=S) (n:=S+1) rfl rfl (by k_ne) rfl H.f_casU64 (bW L) (b0 L) (b3 L) .u64 (b4 L) rfl rfl rfl hw.cellSt (hw.thaw 0) (by rw[<-hS];simp only[KK];omega),?_⟩;clear hw;walk_nrm
  refine ET.z ?_;apply ET.rn;apply ET.rt
  (refine ET.k rfl λ_ _ _=>av rfl rfl H.f_uCas rfl ⟨⟨rfl,λe he=>jc⟩,?_⟩;walk_nrm)
  apply ET.rn;refine ET.ip rfl ?_;apply ET.sk;refine ET.c (λ_=>stepG_inBlock) ?_;refine ET.c (λ_=>stepG_inLoop) ?_;refine ET.stop λKj d8 _=>?_
  replace hF:=x _ _ _ _ _ hF d8;exact⟨_,afo,rfl,rfl,rfl,hF⟩
end Ph
end
namespace Ph
def waitStart (H:WgLib p.P L){Ro}(hF:∀w,aU (λb=>M b\/Ro b) afz w->F afo Ro M w):
  ET p.P true p.I p.dM Ro (p.AtKd (p.AnW L F afq ops0 afs rest0 aft cs) Ro) M (G ((base L.wait).at ⟨#[.pointer p.Wg,ud,ud,ud,ud,ud,ud,ud,ud,ud,ud,ud,ud,ud,ud,ud,ud,ud,ud,ud,ud,ud,ud,ud,ud,ud,ud,ud,ud,ud,ud,ud,ud,ud,ud,ud,ud,ud,ud,ud,ud,ud,ud,ud,ud,ud,ud,ud,ud,ud,ud,ud,ud,ud,ud,ud,ud,ud,ud,ud,ud,ud,ud,ud,ud,ud,ud,ud,ud,ud,ud,ud,ud,ud,ud,ud,ud,ud,ud,ud,ud,ud,ud,ud],[]⟩ [.code (body_wait L)])<|afq.at afo (.inRegion ops0 (afs::rest0)::aft)::cs) afz:=by
 lib_facts
 apply ET.sq;refine ET.lR rfl ?_;apply ET.rg;refine ET.stop λq e _=>⟨rfl,_,aL .disable aP rfl rfl (by k_ne) rfl H.f_disable (bv L) (bz L) (bA L)<|x_disable_f L,?_⟩
 walk_nrm
 apply ET.rn;refine ET.c (λ_=>bs) ?_;refine ET.c (λ_=>stepG_loop) ?_;exact ET.stop λr f _=>⟨_,afo,rfl,rfl,rfl,hF _<|e.trans f⟩
end Ph
section
variable [Gl]
def Lq:Op->Bool
 |.convert ..|.binOp ..=>true
 |_=>false
def yv (ok:Ctx)(fr:a3)(V:aF)(u:a3):Prop:=∃(ops:Array br) (i:Nat) (r:List Nat) (k:List Item) (o:br) (y:Operand),
 fr.mode=.run/\fr.roundOf=none/\fr.todo=.inRegion ops (i::r)::k/\ops[i]?=some o/\Region.wanted o (yielded ops fr.tmps)/\dq ok.fn y/\
 ((dead o.op=some (.panic y)/\∃t v,fr.eval y=.iface t v/\u=fr.raise [{v:=.iface t v,recovered:=false}])\/
  (dead o.op=some (.defer {callee:=.value y,args:=#[],argTypes:=#[]})/\∃f B C,fr.eval y=.func (.func f) B C/\ok.aN f/\u=Frame.finish {fr with defers:=⟨.fn (.func f) C,B++#[]⟩::fr.defers} undef)\/
  (∃x,dead o.op=some x/\Lq x/\u=fr.finish (fr.eval y)/\∀P,Gl.top P->∀ρ A W (D:br),D.op=x->lH ok ρ fr.eval A->(∀v,A (.const v)=v)->bw ok true ρ V W->(a8 A D).runT P W #[]=(.ok (.value<|A y) W,#[])))
section
variable {P:Program}{ok:Ctx}{ρ:Ren}{fr s u:a3}{V W:aF}
def F8 (d:∀g,ok.fn (2000000+g)->ρ g=some g)(b:cU P ok ρ fr s)(f:dq ok.fn y){t}(e:fr.eval y=.iface t v):∃c,s.eval y=.iface t c/\cU P ok ρ (fr.raise [{v:=.iface t v,recovered:=false}]) (s.raise [{v:=.iface t c,recovered:=false}]):=by
 have h:=b.eval d y f;rw[e]at h;generalize s.eval y=x at h;cases h with
 |iface _ h=>exact⟨_,rfl,b.raise<|.cons _ _ (.iface _ h) .nil⟩
def F6 (D:∀g,ok.fn (2000000+g)->ρ g=some g)(r:cU P ok ρ fr s)(J:dq ok.fn y){f}(N:ok.aN f){xs B}(e:fr.eval y=.func (.func f) xs B):
  ∃t C,s.eval y=.func (.func f) t C/\cU P ok ρ (Frame.finish {fr with defers:=⟨.fn (.func f) B,xs++#[]⟩::fr.defers} undef) (Frame.finish {s with defers:=⟨.fn (.func f) C,t++#[]⟩::s.defers} undef):=by
 have h:=r.eval D y J;rw[e]at h;generalize s.eval y=x at h;cases h with
 |func A O R T U=>
  cases A with
  |func A=>
   refine⟨_,_,rfl,cU.finish ?_ jT⟩;exact⟨r.fn,r.aN,r.tmps,r.todo,.cons (.call A N ⟨T,U⟩<|aA.append ⟨O,R⟩ aA.nil) r.defers,r.mode,r.kind,r.eu,r.round⟩
def K7 (h:yv ok fr V u):DQ u=DQ fr:=by
 obtain⟨ops,i,r,k,o,y,A,B,C,D,J,N,⟨_,t,v,x,rfl⟩|⟨_,f,O,R,x,T,rfl⟩|⟨_,_,_,rfl,_⟩⟩:=h
 .exact qL _ _
 .exact ey _ _
 exact ey _ _
def MO (A:∀g,ok.fn (2000000+g)->ρ g=some g)(x:cU P ok ρ fr fr)(h:yv ok fr V u):cU P ok ρ u u:=by
 obtain⟨ops,i,r,k,o,y,O,R,T,U,Y,B,⟨_,t,v,C,rfl⟩|⟨_,f,Z,ys,C,D,rfl⟩|⟨_,_,_,rfl,_⟩⟩:=h
 .let⟨v',J,h⟩:=F8 A x B C;grind
 .let⟨N,vc,J,h⟩:=F6 A x B D C;grind
 exact x.finish<|x.eval A y B
def XN {p:Prop}(x9:p:=by
  simp only[stepG.oper,aa2,adE,hd,stepG.apply,if_true,hr,GStep.after,E5];simp[seen,G]):p:=x9
def Qk (hs:¬Gl.XA P/\Gl.top P)(hw:bw ok true ρ V W)(B:cU P ok ρ fr s)(h:yv ok fr V u):∃IN,cU P ok ρ u IN/\∀m cs,stepG P m (G s cs) W=.go (G IN cs) W:=by
 let⟨ops,i,r,k,o,y,e1,e2,e3,T,e5,U,hd⟩:=h;have J:=B.todo;have Y:=B.mode;have D:=B.round;have E5:=B.early.2;have O:=hw.gl;rw[e3]at J;rw[e1]at Y;rw[e2]at D;have Z:∃x,dead o.op=some x:=by rcases hd with⟨h,_⟩|⟨h,_⟩|⟨_,h,_⟩<;>exact⟨_,h⟩
 cases R:s.todo with
 |nil=>rw[R]at J;cases J
 |cons x l=>
  rw[R]at J;cases J with
  |cons hx hl=>
   cases hx with
   |@inRegion _ N _ ho=>
    have A:N[i]?=some (N[i]'(by rw[<-ho.1];exact((afM.1 T).1))):=afR _
    generalize N[i]'gC=C at A
    have bF:dead o.op=some C.op:=by
     rcases(ho.2 i o C T A).2.2 with h|h|⟨h,_⟩|h
     .let⟨x,hx⟩:=Z;rw[h.dead.1]at hx;grind
     .omega
     .grind
     rw[h]at hd;rcases hd with⟨h,_⟩|⟨h,_⟩|⟨_,h,h',_⟩
     .cases h
     .cases h
     .obtain rfl:=afQ h;cases h'
    have wI:Region.wanted C (yielded N s.tmps)=true:=by
     have:=ho.wanted i<|yielded N s.tmps;rw[T,A]at this;simp at this;rw[this,tI B.tmps ho];exact e5
    have qr:s.mode=.run:=by generalize s.mode=m at Y;cases Y;rfl
    have adE:s.roundOf=none:=by generalize s.roundOf=m at D;cases D;rfl
    have st:∀m cs W,stepG P m (G s cs) W=stepG.oper P true s cs none W:=by
     intro m cs W;rw[rE qr];simp only[stepG.exec,R,A,Option.map_some,ax,wI,if_true]
    have aa2:s.oper?=some C:=by simp[Frame.oper?,R,A]
    rcases hd with⟨hd,t,v,ev,rfl⟩|⟨hd,f,xs,ys,ev,hi,rfl⟩|⟨x,hd,nd,rfl,hl⟩
    .rw[bF]at hd;have hd:=afQ hd;let⟨v',e',h⟩:=F8 O B U ev;refine⟨_,h,λm cs=>?_⟩;rw[st];have hr:(a8 s.eval C).runT P W #[]=(.halt (.panic<|.iface t v') W,#[]):=by
      simp only[a8,hd,e'];rfl
     exact XN
    .rw[bF]at hd;have hd:=afQ hd;let⟨ad,vc,e',h⟩:=F6 O B U hi ev;refine⟨_,h,λm cs=>?_⟩;rw[st];have hr:(a8 s.eval C).runT P W #[]=(.ok (.defer ⟨.fn (.func f) vc,ad++#[]⟩) W,#[]):=by
      simp only[a8,hd,resolve,e',Array.map_empty];rfl
     exact XN
    rw[bF]at hd;have hd:=afQ hd;refine⟨_,B.finish<|B.eval O y U,λm cs=>?_⟩;rw[st];have e:stepG.oper P true s cs none W=stepG.apply P true s cs none (a8 s.eval C) W:=by
     simp[stepG.oper,aa2];split
     .rename_i e;rw[<-hd,e]at nd;cases nd
     .rfl
    rw[e];simp only[stepG.apply,if_true,(hl P hs.2 ρ s.eval W C hd (B.eval O) (λ_=>rfl) hw),GStep.after,E5];simp[seen,G]
end
end
