import Derived.Test.YtlmcblcijndipaaGreatDoorj14
import Derived.Test.YtlmcblcijndipaaGreatDoorj11
set_option linter.defProp false
set_option linter.unusedSimpArgs false
set_option linter.unusedVariables false
set_option maxHeartbeats 4000000
set_option maxRecDepth 100000
namespace Go.Proofs.YtlmcblcijndipaaGreatDoor
open Conc Conc.Lib ConcR.Gen RowKit
variable {xs:Array Value}{ok:Ctx}{c:Frame}{f:FuncId}{rb:List Frame}{bl bn lc ln n nc nn r4 tb wg:Nat}{M:Nat->Prop}{la na:Option Addr}{P P0:Program}{s s':St}{u v:Value}{W acF ah w:World}
def I1 {b:Nat}{e:TypeId}(h:w.heap[b]?=some (.cells #[v] e (0,0))):(w.setCell b u).heap[b]?=some (.cells #[u] e (0,0)):=by
 rw[setCell_eq_setRow w b 0 _ _ _ u h,setRow_heap _ _ _ _ _ _ h];rfl
noncomputable def dQ:Code:=Tryz.f139.body.getD .skip
noncomputable def ll:Code:=(jW dQ).getD .skip
def fC:Code->Code
 |.seq _ b=>b
 |c=>c
noncomputable def iV:Code:=fC<|fC<|fC<|fC<|fC dQ
noncomputable def vk:Array Oper:=(nl 10 dQ).getD #[]
noncomputable def acE:Array Oper:=(nl 8 dQ).getD #[]
section
variable [Gl]{J:Jb}{p:Ph}{M' Ro0:Nat->Prop}{Wst:World}{cs:List Frame}{t0 t1:Value}
structure BT (J:Jb)(P0:Program)(p:Ph)(ok:Ctx)(M' Ro0:Nat->Prop)(Wst:World)(Ro M:Nat->Prop)(W:World):Prop where
 k_:mQ J P0 p ok Ro W
 sub:∀b,M' b\/Ro0 b->M b\/Ro b
 keep:aO (λb=>M' b\/Ro0 b) Wst W
 sp:∀b,p.Sp b->¬M b/\¬Ro b/\b<W
 lt:∀b,M b\/Ro b->b<W
 mr:∀b,M b->¬Ro b
 gl:Gl.n<=W
 wb:p.Wg≠p.Bs
section
variable {Ro:Nat->Prop}
def BT.rely (h:BT J P0 p ok M' Ro0 Wst Ro M W)(k:aO (λb=>M b\/Ro b) W ah):BT J P0 p ok M' Ro0 Wst Ro M ah:=
 ⟨h.k_.mono (λ_ h=>h)<|k.mono λ_ x=>.inr x,h.sub,h.keep.trans<|k.mono h.sub,λb hb=>⟨(h.sp b hb).1,(h.sp b hb).2.1,ac4 (h.sp b hb).2.2 k.size⟩,λb hb=>ac4 (h.lt b hb) k.size,h.mr,ac6 h.gl k.size,h.wb⟩
def BT.alloc (h:BT J P0 p ok M' Ro0 Wst Ro M W)(o:Obj):BT J P0 p ok M' Ro0 Wst Ro (grow M W<|W.alloc o) (W.alloc o):=by
 have z:(W.alloc o).heap.size=W.heap.size+1:=by show(W.heap.push o).size=_;simp
 have hb:∀b,b<W.heap.size->(W.alloc o).heap[b]?=W.heap[b]?:=λb hb=>Below.heap_alloc _ _ _ hb
 have hk:aO (λb=>M b\/Ro b) W (W.alloc o):=⟨λb x=>hb b<|h.lt b x,by rw[z];omega,rfl,rfl⟩;refine⟨h.k_.mono (λ_ h=>h)<|hk.mono λ_ x=>.inr x,λb x=>(h.sub b x).imp .inl id,h.keep.trans<|hk.mono h.sub,λb x=>?_,λb x=>?_,λb x=>?_,by rw[z];have:=h.gl;omega,h.wb⟩
 .let⟨h1,h2,h3⟩:=h.sp b x;exact⟨λy=>y.elim h1 λy=>ab,h2,by rw[z];omega⟩
 .rw[z];rcases x with(x|⟨_,x⟩)|x
  .have:=h.lt b<|.inl x;omega
  .rw[z]at x;exact x
  .have:=h.lt b<|.inr x;omega
 .rcases x with x|⟨x,_⟩
  .exact h.mr b x
  .exact λy=>by have:=h.lt b<|.inr y;omega
def BT.set (h:BT J P0 p ok M' Ro0 Wst Ro M W){a:Addr}(v:Value)(ha:¬(M' a.block\/Ro0 a.block))(hr:¬Ro a.block):BT J P0 p ok M' Ro0 Wst Ro M (W.setCell a v):=by
 have z:(W.setCell a v).heap.size=W.heap.size:=(aside_setCell W a v).size;have hb:∀b,b≠a.block->(W.setCell a v).heap[b]?=W.heap[b]?:=λb hb=>Below.heap_setCell _ _ _ _ hb
 have hkr:aO Ro W (W.setCell a v):=⟨λb x=>hb b λe=>hr<|e▸x,by rw[z];omega,rfl,rfl⟩;exact⟨h.k_.mono (λ_ h=>h) hkr,h.sub,h.keep.trans ⟨λb x=>hb b λe=>ha<|e▸x,by rw[z];omega,rfl,rfl⟩,λb x=>by rw[z];exact h.sp b x,λb x=>by rw[z];exact h.lt b x,h.mr,by rw[z];exact h.gl,h.wb⟩
def BT.go (h:BT J P0 p ok M' Ro0 Wst Ro M W){bi:Nat}(hM:M bi):BT J P0 p ok M' Ro0 Wst (λb=>Ro b\/b=bi) (λb=>M b/\¬(Ro b\/b=bi)) W:=by
 refine⟨h.k_.mono (λ_ h=>.inl h)<|aO.refl _ _,λb x=>?_,h.keep,λb x=>?_,λb x=>?_,λb x=>x.2,h.gl,h.wb⟩
 .rcases h.sub b x with y|y
  .by_cases e:b=bi
   .exact .inr (.inr e)
   .exact .inl ⟨y,λz=>z.elim (h.mr b y) e⟩
  .exact .inr (.inl y)
 .let⟨h1,h2,h3⟩:=h.sp b x;exact⟨λy=>h1 y.1,λy=>y.elim h2 λe=>h1<|e▸hM,h3⟩
 .rcases x with x|x|rfl
  .exact h.lt b (.inl x.1)
  .exact h.lt b (.inr x)
  .exact h.lt _ (.inl hM)
end
def X7 (J:Jb)(P0:Program)(p:Ph)(ok:Ctx)(M' Ro0:Nat->Prop)(Wst:World)(r4:Nat)(t0 t1:Value)(a:Act)(Ro M:Nat->Prop)(W:World):Prop:=
 (∃v8 v9 v10 v12 v13 v14 v15 v16 v17 v18 v19 v20:Value,a=⟨#[t0,t1,.pointer J.bl,.pointer J.bn,.pointer r4,.pointer J.tb,.pointer p.Wg,.pointer J.bb,v8,v9,v10,(4:Int),v12,v13,v14,v15,v16,v17,v18,v19,v20],[]⟩)/\BT J P0 p ok M' Ro0 Wst Ro M W
omit [Gl] in
def Ls (Anch:(Nat->Prop)->(Nat->Prop)->Goroutine->World->Prop)(r:Nat)(Ro:Nat->Prop):∃Stop,∀M g W,p.Spawns Anch r Ro M g W=ET p.P true p.I p.dE Ro Stop M g W:=by
 cases r<;>exact⟨_,λ_ _ _=>rfl⟩
def O6 (eL:dL P0 P0 ok)(hP:dL P0 Tryz.prog ok)(iA:∀f,ok.fn f=true->ok.aX f=true)(zp:jA P0 c)(hL:p.L<4611686018427387904)(s9:p.P=Tryz.prog)(hn4:p.n=4)(r:Nat):
  ∀(j:Nat) (v8 v9 v10 v13 v14 v15 v16 v17 v18 v19 v20:Value) (Ro M:Nat->Prop) (W:World),j+r=4->BT J P0 p ok M' Ro0 Wst Ro M W->
   p.Spawns (p.X6 link (X7 J P0 p ok M' Ro0 Wst r4 t0 t1) (base 139) vk 0 [] [.code (fC iV)] cs) r Ro M (G ((base 139).at ⟨#[t0,t1,.pointer<|some ⟨J.bl,0,none⟩,.pointer<|some ⟨J.bn,0,none⟩,.pointer<|some ⟨r4,0,none⟩,.pointer<|some ⟨J.tb,0,none⟩,.pointer<|some ⟨p.Wg,0,none⟩,.pointer<|some ⟨J.bb,0,none⟩,v8,v9,v10,.int .i64 4,.int .i64 j,v13,v14,v15,v16,v17,v18,v19,v20],[]⟩ [.code ll,.inLoop ll,.inBlock 0,.code iV]) cs) W:=by
 have H:WgLib p.P link:=s9▸Bu;obtain⟨An,SZ⟩:∃An,An=p.X6 link (X7 J P0 p ok M' Ro0 Wst r4 t0 t1) (base 139) vk 0 [] [.code (fC iV)] cs:=⟨_,rfl⟩;rw[<-SZ];induction r with
 |zero=>
  intro j v8 v9 v10 v13 v14 v15 v16 v17 v18 v19 v20 Ro M W hj hb;obtain rfl:j=4:=ab;show ET p.P true p.I p.dE Ro (p.AtKd An Ro) M _ W;simp only[ll,iV,dQ,Tryz.f139,Option.getD_some,jW,fC,Option.or_some,Option.or_none,Option.none_or];rw[s9];apply ET.sr;refine ET.z ?_;apply ET.rn;apply ET.sq;refine ET.gP rfl ?_;refine ET.c (λ_=>stepG_exit rfl) ?_;apply ET.sr;refine ET.k rfl λ_ _ _=>goes_call rfl rfl (by k_ne) rfl Bu.f_wait (nm_wait link) rfl ⟨⟨rfl,λe he=>ic⟩,?_⟩;walk_nrmf waitFn
  have hA:=Ph.waitStart (p:=p) (L:=link) (F:=X7 J P0 p ok M' Ro0 Wst r4 t0 t1) (acI:=base 139) (ops0:=vk) (acL:=0) (rest0:=[]) (acM:=[.code (fC iV)]) (cs:=cs) (Ro:=Ro) (M:=M) (acS:=W) (acG:=⟨#[t0,t1,.pointer J.bl,.pointer J.bn,.pointer r4,.pointer J.tb,.pointer p.Wg,.pointer J.bb,v8,v9,v10,(4:Int),(4:Int),false,v14,v15,v16,v17,v18,v19,v20],[]⟩) H λw k=>⟨⟨v8,v9,v10,_,_,v14,v15,v16,v17,v18,v19,v20,rfl⟩,hb.rely k⟩;rw[<-SZ,s9]at hA;simp only[body_wait,waitFn,Option.getD_some]at hA;exact hA
 |succ r ih=>
  intro j v8 v9 v10 v13 v14 v15 v16 v17 v18 v19 v20 Ro M W hj hb;show ET p.P true p.I p.dE Ro (p.AtKdS Ro (p.n-(r+1))<|p.Spawns An r) M _ W;have ej:p.n-(r+1)=j:=ab;rw[ej];have ay:(j:Int)<4:=ab;have hd:decide ((j:Int)<4)=true:=decide_eq_true ay;simp only[ll,iV,dQ,Tryz.f139,Option.getD_some,jW,fC,Option.or_some,Option.or_none,Option.none_or];rw[s9];apply ET.sr;refine ET.z ?_;apply ET.rn;apply ET.sq;refine ET.kV rfl ?_;apply ET.sk;apply ET.sq;refine ET.c (λ_=>stepG_block) ?_;apply ET.sr;refine ET.z ?_;refine ET.oper rfl rfl (by k_ne) λah acN _=>⟨.pointer<|some ⟨ah.heap.size,0,none⟩,ah.alloc<|.cells #[(0:Int)] 3,?_,?_,?_⟩
  .go_simp
  .refine eU.alloc _ λe he=>?_
   have hm:=mem_listed he;simp[go_sem]at hm
  walk_nrm
  have I7:=hb.rely acN;have z0:(ah.alloc<|.cells #[(0:Int)] 3).heap.size=ah.heap.size+1:=by show(ah.heap.push _).size=_;simp
  have uk:grow M ah (ah.alloc<|.cells #[(0:Int)] 3) ah.heap.size:=.inr ⟨ac3 _,by rw[z0];omega⟩;have Ee:=I7.alloc<|.cells #[(0:Int)] 3;have F5:¬(M' ah.heap.size\/Ro0 ah.heap.size):=λe=>by have:=I7.lt _<|I7.sub _ e;omega
  have Tf:(ah.alloc<|.cells #[(0:Int)] 3).heap[ah.heap.size]?=some (.cells #[(0:Int)] 3 (0,0)):=heap_alloc_new _ _;generalize ah.alloc (.cells #[(0:Int)] 3)=dx at Ee uk Tf z0⊢;generalize grow M ah dx=px at Ee uk⊢;generalize ah.heap.size=bi at uk F5 Tf z0⊢;clear I7 hb;refine ET.none rfl rfl (by k_ne) λdv dz _=>⟨dv.setCell ⟨bi,0,none⟩<|.int .i64 j,?_,?_,?_⟩
  .have hc:=fx<|(dz.block _<|.inl uk).trans Tf;have hz:dv.frozen? bi=false:=by simp[World.frozen?,(dz.block _<|.inl uk).trans Tf]
   go_simp
  .have hc:=fx<|(dz.block _<|.inl uk).trans Tf;have hz:dv.frozen? bi=false:=by simp[World.frozen?,(dz.block _<|.inl uk).trans Tf]
   refine eU.set _ uk λe he=>?_
   have hm:=mem_listed he;simp[go_sem,hc,hz]at hm;subst hm;exact gM uk
  rw[cK (aside_setCell dv ⟨bi,0,none⟩<|.int .i64 j).size];have sY:=(Ee.rely dz).set (a:=⟨bi,0,none⟩) (.int .i64 j) F5<|Ee.mr _ uk;have AC:(dv.setCell ⟨bi,0,none⟩<|.int .i64 j).heap[bi]?=some (.cells #[.int .i64 j] 3 (0,0)):=I1<|(dz.block _<|.inl uk).trans Tf;generalize dv.setCell ⟨bi,0,none⟩ (.int .i64 j)=qI at sY AC⊢;clear Ee dz Tf;walk_nrm
  apply ET.ns;refine ET.k rfl λ_ _ _=>goes_call rfl rfl (by k_ne) rfl Bu.f_add (nm_add link) rfl ⟨⟨rfl,λe he=>ic⟩,?_⟩;walk_nrmf addFn
  have hA:=@Ph.addPos p px Ro link j<|p.Spawns An r;simp only[body_add,addFn,Option.getD_some,s9]at hA;refine hA Bu (λe=>e.elim (sY.sp _<|.inl rfl).1 (sY.sp _<|.inl rfl).2.1) λw k=>?_;clear hA;replace sY:=sY.rely k;replace AC:=(k.block _<|.inl uk).trans AC;clear k;walk_nrm
  apply ET.rn;apply ET.rg;refine ET.val (.func (.func 156) #[] #[.pointer p.Wg,.pointer J.bl,.pointer J.bn,.pointer J.tb,.pointer J.bb,.pointer bi]) rfl rfl (by k_ne) (λPL _ _=>⟨?_,λe he=>?_⟩) ?_
  .go_simp
   rfl
  .simp[go_sem]at he;change e∈#[]at he;simp at he
  walk_nrm
  refine ET.stop λPL CE acC=>?_
  replace sY:=sY.rely CE;replace AC:=(CE.block _<|.inl uk).trans AC;clear CE;refine⟨rfl,?gx,born Tryz.prog<|call47 J p.Wg bi,λb=>Ro b\/b=bi,?_,rfl,λb hb=>.inl hb,λb hb=>hb.elim .inl λe=>.inr<|e▸uk,?_,?_⟩;rotate_left 1
  .rw[s9,stepG_spawn (d:=call47 J p.Wg bi) (w':=PL) (f:=.func 156) (c:=#[.pointer p.Wg,.pointer J.bl,.pointer J.bn,.pointer J.tb,.pointer J.bb,.pointer bi]) rfl rfl (by k_ne) (by simp[go_sem,call47,Deferred.ofValue]) rfl];generalize hL:listed _ _ _ _ _=Lx;have hLx:Lx=#[]:=by
    rw[<-hL];simp[listed,go_sem,seen,Deferred.ofValue];rfl
   subst hLx;rfl
  .have dt:=sY.go uk;exact Uf dt.k_ eL hP iA zp hL ab (.inr rfl) AC dt.wb (λb hb=>(dt.sp b hb).2.1) (λb hb=>hb.elim (λx=>(dt.sp b x).2.2) λx=>dt.lt b<|.inr x) dt.gl
  .have dt:=sY.go uk;let⟨Stop,hS⟩:=Ls (p:=p) An r λb=>Ro b\/b=bi;have xP:IntKind.i64.wrap ((j:Int)+1)=((j+1:Nat):Int):=ia;rw[hS,s9];walk_nrm
   apply ET.rn;refine ET.c (λ_=>stepG_inBlock) ?_;apply ET.rg;refine ET.z ?_;refine ET.z ?_;apply ET.rn;refine ET.c (λ_=>stepG_inLoop) ?_;have hI:=ih (j+1) (.pointer<|some ⟨bi,0,none⟩) v9 v10 (.bool true) (.int .i64 j) (.tuple #[]) (.func (.func 156) #[] #[.pointer<|some ⟨p.Wg,0,none⟩,.pointer<|some ⟨J.bl,0,none⟩,.pointer<|some ⟨J.bn,0,none⟩,.pointer<|some ⟨J.tb,0,none⟩,.pointer<|some ⟨J.bb,0,none⟩,.pointer<|some ⟨bi,0,none⟩]) (.int .i64 ((j+1:Nat):Int)) v18 v19 v20 _ _ PL ab dt;rw[hS,s9]at hI;exact hI
end
noncomputable def AP:Array Oper:=(nl 1 dQ).getD #[]
noncomputable def AQ:Array Oper:=(nl 2 dQ).getD #[]
structure EN (fq:Nat->Prop)(acF:World)(M:Nat->Prop)(W:World):Prop where
 own:∀b,fq b->M b
 keep:aO fq acF W
 lt:∀b,M b->b<W
 new:∀b,M b->fq b\/acF.heap.size<=b
section
variable {fq:Nat->Prop}
def EN.rely (h:EN fq acF M W)(k:aO (λb=>M b\/False) W ah):EN fq acF M ah:=⟨h.own,h.keep.trans<|k.mono λb hb=>.inl<|h.own b hb,λb hb=>ac4 (h.lt b hb) k.size,h.new⟩
def EN.alloc (h:EN fq acF M W)(o:Obj):EN fq acF (grow M W<|W.alloc o) (W.alloc o):=by
 have z:(W.alloc o).heap.size=W.heap.size+1:=by show(W.heap.push o).size=_;simp
 refine⟨λb hb=>.inl<|h.own b hb,h.keep.trans ⟨λb hb=>Below.heap_alloc _ _ _<|h.lt b<|h.own b hb,by rw[z];omega,rfl,rfl⟩,λb hb=>hb.elim (λx=>by rw[z];have:=h.lt b x;omega) And.right,λb hb=>hb.elim (h.new b) λx=>.inr<|ac6 h.keep.size x.1⟩
end
def UU (hM:∀b,M b->b<W):
  ET Tryz.prog true (λ_=>True) Ph.nO (λ_=>False) (λM' g W'=>∃bl bn r4,g=G ((base 139).at ⟨#[.slice la ln lc,.slice na nn nc,.pointer<|some ⟨bl,0,none⟩,.pointer<|some ⟨bn,0,none⟩,.pointer<|some ⟨r4,0,none⟩,ud,ud,ud,ud,ud,ud,ud,ud,ud,ud,ud,ud,ud,ud,ud,ud],[]⟩ [.inRegion AP [0],.code (fC<|fC dQ)]) rb/\EN M W M' W'/\(W.heap.size<=bl/\bl<bn/\bn<r4)/\M' bl/\M' bn/\M' r4/\
    W'.heap[bl]?=some (.cells #[.slice la ln lc] 23 (0,0))/\W'.heap[bn]?=some (.cells #[.slice na nn nc] 179 (0,0))/\W'.heap[r4]?=some (.cells ep.cells.toArray 177 (0,0)))
   M (G ((base 139).at ⟨#[.slice la ln lc,.slice na nn nc,ud,ud,ud,ud,ud,ud,ud,ud,ud,ud,ud,ud,ud,ud,ud,ud,ud,ud,ud],[]⟩ [.code dQ]) rb) W:=by
 have z0:∀(w:World) (o:Obj),(w.alloc o).heap.size=w.heap.size+1:=λw o=>by show(w.heap.push o).size=_;simp
 have hE:EN M W M W:=⟨λ_ h=>h,aO.refl _ _,hM,λ_ h=>.inl h⟩;simp only[dQ,Tryz.f139,Option.getD_some];apply ET.sr;refine ET.oper rfl rfl (by k_ne) λah acN _=>⟨.pointer<|some ⟨ah.heap.size,0,none⟩,ah.alloc<|.cells #[.slice la ln lc] 23,?_,?_,?_⟩
 .go_simp
 .refine eU.alloc _ λe he=>?_
  have hm:=mem_listed he;simp[go_sem]at hm
 walk_nrm
 have h1:=(hE.rely acN).alloc<|.cells #[.slice la ln lc] 23;have m1:grow M ah (ah.alloc<|.cells #[.slice la ln lc] 23) ah.heap.size:=.inr ⟨ac3 _,by rw[z0];omega⟩;have c1:(ah.alloc<|.cells #[.slice la ln lc] 23).heap[ah.heap.size]?=some (.cells #[.slice la ln lc] 23 (0,0)):=heap_alloc_new _ _;have s1:=acN.size;have y1:=z0 ah<|.cells #[.slice la ln lc] 23;generalize ah.alloc (.cells #[.slice la ln lc] 23)=My at h1 m1 c1 y1⊢;generalize grow M ah My=gi at h1 m1⊢;generalize ah.heap.size=bl at m1 c1 s1 y1⊢;refine ET.oper rfl rfl (by k_ne) λdx acO _=>⟨.pointer<|some ⟨dx.heap.size,0,none⟩,dx.alloc<|.cells #[.slice na nn nc] 179,?_,?_,?_⟩
 .go_simp
 .refine eU.alloc _ λe he=>?_
  have hm:=mem_listed he;simp[go_sem]at hm
 walk_nrm
 have h2:=(h1.rely acO).alloc<|.cells #[.slice na nn nc] 179;have m2:grow gi dx (dx.alloc<|.cells #[.slice na nn nc] 179) dx.heap.size:=.inr ⟨ac3 _,by rw[z0];omega⟩;have s2:=acO.size;have y2:=z0 dx<|.cells #[.slice na nn nc] 179;have c2:(dx.alloc<|.cells #[.slice na nn nc] 179).heap[dx.heap.size]?=some (.cells #[.slice na nn nc] 179 (0,0)):=heap_alloc_new _ _;have PP:(dx.alloc<|.cells #[.slice na nn nc] 179).heap[bl]?=some (.cells #[.slice la ln lc] 23 (0,0)):=(Below.heap_alloc _ _ _ ab).trans<|(acO.block _<|.inl m1).trans c1;have P8:grow gi dx (dx.alloc<|.cells #[.slice na nn nc] 179) bl:=.inl m1;generalize dx.alloc (.cells #[.slice na nn nc] 179)=Qv at h2 m2 c2 PP P8 y2⊢;generalize grow gi dx Qv=px at h2 m2 P8⊢;generalize dx.heap.size=bn at m2 c2 s2 y2⊢;refine ET.oper rfl rfl (by k_ne) λdv dz _=>⟨.pointer<|some ⟨dv.heap.size,0,none⟩,dv.alloc<|.cells #[false,(0:Int),(0:Int),()] 177,?_,?_,?_⟩
 .go_simp
 .refine eU.alloc _ λe he=>?_
  have hm:=mem_listed he;simp[go_sem]at hm
 walk_nrm
 have h3:=(h2.rely dz).alloc<|.cells #[false,(0:Int),(0:Int),()] 177;have m3:grow px dv (dv.alloc<|.cells #[false,(0:Int),(0:Int),()] 177) dv.heap.size:=.inr ⟨ac3 _,by rw[z0];omega⟩;have s3:=dz.size;have c3:(dv.alloc<|.cells #[false,(0:Int),(0:Int),()] 177).heap[dv.heap.size]?=some (.cells ep.cells.toArray 177 (0,0)):=heap_alloc_new _ _;have QH:(dv.alloc<|.cells #[false,(0:Int),(0:Int),()] 177).heap[bn]?=some (.cells #[.slice na nn nc] 179 (0,0)):=(Below.heap_alloc _ _ _ ab).trans<|(dz.block _<|.inl m2).trans c2;have MR:(dv.alloc<|.cells #[false,(0:Int),(0:Int),()] 177).heap[bl]?=some (.cells #[.slice la ln lc] 23 (0,0)):=(Below.heap_alloc _ _ _ ab).trans<|(dz.block _<|.inl P8).trans PP;have RI:grow px dv (dv.alloc<|.cells #[false,(0:Int),(0:Int),()] 177) bl:=.inl P8;have m2':grow px dv (dv.alloc<|.cells #[false,(0:Int),(0:Int),()] 177) bn:=.inl m2;generalize dv.alloc (.cells #[.bool false,(0:Int),(0:Int),.slice none 0 0] 177)=Ut at h3 m3 c3 QH MR RI m2'⊢;generalize grow px dv Ut=aas at h3 m3 RI m2'⊢;generalize dv.heap.size=r4 at m3 c3 s3⊢;apply ET.ns;refine ET.stop λqI ku _=>⟨bl,bn,r4,rfl,h3.rely ku,⟨ab,ab,ab⟩,RI,m2',m3,(ku.block _<|.inl RI).trans MR,(ku.block _<|.inl m2').trans QH,(ku.block _<|.inl m3).trans c3⟩
def Sq (w:World):stepG Tryz.prog true (G ((base 139).at ⟨#[.slice la ln lc,.slice na nn nc,.pointer bl,.pointer bn,.pointer r4,ud,ud,ud,ud,ud,ud,ud,ud,ud,ud,ud,ud,ud,ud,ud,ud],[]⟩ [.inRegion AP [0],.code (fC<|fC dQ)]) rb) w=
  .go (G ((base 139).at ⟨#[.slice la ln lc,.slice na nn nc,.pointer bl,.pointer bn,.pointer r4,.pointer w.heap.size,ud,ud,ud,ud,ud,ud,ud,ud,ud,ud,ud,ud,ud,ud,ud],[]⟩ [.inRegion AP [],.code (fC<|fC dQ)]) rb) (w.alloc<|.cells #[(0:Int)] 203) #[]:=by
 obtain⟨o,ho,bp,hd,hg⟩:∃o,AP[0]?=some o/\o.op=.alloc 203/\o.dst=some 5/\o.guard=none:=⟨_,rfl,rfl,rfl,rfl⟩;have hr:∀f,(execOp f o).run Tryz.prog w=.ok (.value<|.pointer w.heap.size) (w.alloc<|.cells #[(0:Int)] 203):=λf=>by
  unfold execOp;simp only[bp];go_simp
 have he:∀f,(execOp f o).events Tryz.prog w #[]=#[]:=λf=>by
  unfold execOp;simp only[bp];simp[go_sem]
 rw[pq ho kU (by k_ne) (hr _)];unfold listed;rw[he,seen_none,hd];walk_nrm
def Sr (w:World):stepG Tryz.prog true (G ((base 139).at ⟨#[.slice la ln lc,.slice na nn nc,.pointer bl,.pointer bn,.pointer r4,.pointer tb,ud,ud,ud,ud,ud,ud,ud,ud,ud,ud,ud,ud,ud,ud,ud],[]⟩ [.inRegion AQ [0],.code (fC<|fC<|fC dQ)]) rb) w=
  .go (G ((base 139).at ⟨#[.slice la ln lc,.slice na nn nc,.pointer bl,.pointer bn,.pointer r4,.pointer tb,.pointer w.heap.size,ud,ud,ud,ud,ud,ud,ud,ud,ud,ud,ud,ud,ud,ud],[]⟩ [.inRegion AQ [],.code (fC<|fC<|fC dQ)]) rb) (w.alloc<|.cells #[.int .u64 0,.int .u32 0] 210) #[]:=by
 obtain⟨o,ho,bp,hd,hg⟩:∃o,AQ[0]?=some o/\o.op=.alloc 210/\o.dst=some 6/\o.guard=none:=⟨_,rfl,rfl,rfl,rfl⟩;have hr:∀f,(execOp f o).run Tryz.prog w=.ok (.value<|.pointer w.heap.size) (w.alloc<|.cells #[.int .u64 0,.int .u32 0] 210):=λf=>by
  unfold execOp;simp only[bp];go_simp
 have he:∀f,(execOp f o).events Tryz.prog w #[]=#[]:=λf=>by
  unfold execOp;simp only[bp];simp[go_sem]
 rw[pq ho kU (by k_ne) (hr _)];unfold listed;rw[he,seen_none,hd];walk_nrm
def UV:ET Tryz.prog true (λ_=>True) Ph.nO (λ_=>False) (λM' g W'=>M'=M/\aO M W W'/\g=G ((base 139).at ⟨#[.slice la ln lc,.slice na nn nc,.pointer bl,.pointer bn,.pointer r4,.pointer tb,ud,ud,ud,ud,ud,ud,ud,ud,ud,ud,ud,ud,ud,ud,ud],[]⟩ [.inRegion AQ [0],.code (fC<|fC<|fC dQ)]) rb)
  M (G ((base 139).at ⟨#[.slice la ln lc,.slice na nn nc,.pointer bl,.pointer bn,.pointer r4,.pointer tb,ud,ud,ud,ud,ud,ud,ud,ud,ud,ud,ud,ud,ud,ud,ud],[]⟩ [.inRegion AP [],.code (fC<|fC dQ)]) rb) W:=by
 simp only[dQ,Tryz.f139,Option.getD_some,fC];apply ET.ns;exact ET.stop λah acN _=>⟨rfl,acN.mono λb hb=>.inl hb,rfl⟩
def Ug (w:World):(Instr.makeSlice 211 (.int .i64 4)<|.int .i64 4).run Tryz.prog w=.ok (.slice w.heap.size 4 4) (w.alloc<|.cells #[false,(0:Int),(0:Int),(),false,(0:Int),(0:Int),(),false,(0:Int),(0:Int),(),false,(0:Int),(0:Int),()] 177):=bj
def YB (w:World)(es:Array Event):(Instr.makeSlice 211 (.int .i64 4)<|.int .i64 4).events Tryz.prog w es=es:=bj
def UW (hM:∀b,M b->b<W):
  ET Tryz.prog true (λ_=>True) Ph.nO (λ_=>False) (λM' g W'=>∃(Bs bb:Nat) (v9 v10:Value),g=G ((base 139).at ⟨#[.slice la ln lc,.slice na nn nc,.pointer bl,.pointer bn,.pointer r4,.pointer tb,.pointer wg,.pointer bb,undef,v9,v10,(4:Int),(0:Int),ud,ud,ud,ud,ud,ud,ud,ud],[]⟩ [.code ll,.inLoop ll,.inBlock 0,.code iV]) rb/\EN M W M' W'/\(W.heap.size<=Bs/\Bs<bb)/\M' Bs/\M' bb/\
    W'.heap[bb]?=some (.cells #[.slice Bs 4 4] 211 (0,0))/\∃cs,W'.heap[Bs]?=some (.cells cs 177 (0,0))/\cs.size=16)
   M (G ((base 139).at ⟨#[.slice la ln lc,.slice na nn nc,.pointer bl,.pointer bn,.pointer r4,.pointer tb,.pointer wg,ud,ud,ud,ud,ud,ud,ud,ud,ud,ud,ud,ud,ud,ud],[]⟩ [.inRegion AQ [],.code (fC<|fC<|fC dQ)]) rb) W:=by
 have z0:∀(w:World) (o:Obj),(w.alloc o).heap.size=w.heap.size+1:=λw o=>by show(w.heap.push o).size=_;simp
 have hE:EN M W M W:=⟨λ_ h=>h,aO.refl _ _,hM,λ_ h=>.inl h⟩;simp only[ll,iV,dQ,Tryz.f139,Option.getD_some,jW,fC,Option.or_some,Option.or_none,Option.none_or];apply ET.ns;refine ET.oper rfl rfl (by k_ne) λah acN _=>⟨.slice (some ⟨ah.heap.size,0,none⟩) 4 4,ah.alloc<|.cells #[false,(0:Int),(0:Int),(),false,(0:Int),(0:Int),(),false,(0:Int),(0:Int),(),false,(0:Int),(0:Int),()] 177,?_,?_,?_⟩
 .go_simp
  rw[Ug];rfl
 .refine eU.alloc _ λe he=>?_
  have hm:=mem_listed he;simp[go_sem]at hm;rw[YB]at hm;simp at hm
 walk_nrm
 have h1:=(hE.rely acN).alloc<|.cells #[false,(0:Int),(0:Int),(),false,(0:Int),(0:Int),(),false,(0:Int),(0:Int),(),false,(0:Int),(0:Int),()] 177;have m1:grow M ah (ah.alloc<|.cells #[false,(0:Int),(0:Int),(),false,(0:Int),(0:Int),(),false,(0:Int),(0:Int),(),false,(0:Int),(0:Int),()] 177) ah.heap.size:=.inr ⟨ac3 _,by rw[z0];omega⟩;have c1:∃cs:Array Value,(ah.alloc<|.cells #[false,(0:Int),(0:Int),(),false,(0:Int),(0:Int),(),false,(0:Int),(0:Int),(),false,(0:Int),(0:Int),()] 177).heap[ah.heap.size]?=some (.cells cs 177 (0,0))/\cs.size=16:=⟨_,heap_alloc_new _ _,rfl⟩;have s1:=acN.size;have y1:=z0 ah<|.cells #[false,(0:Int),(0:Int),(),false,(0:Int),(0:Int),(),false,(0:Int),(0:Int),(),false,(0:Int),(0:Int),()] 177;generalize ah.alloc (.cells #[.bool false,(0:Int),(0:Int),.slice none 0 0,.bool false,(0:Int),(0:Int),.slice none 0 0,.bool false,(0:Int),(0:Int),.slice none 0 0,.bool false,(0:Int),(0:Int),.slice none 0 0] 177)=My at h1 m1 c1 y1⊢;generalize grow M ah My=gi at h1 m1⊢;generalize ah.heap.size=Bs at m1 c1 s1 y1⊢;refine ET.oper rfl rfl (by k_ne) λdx acO _=>⟨.pointer<|some ⟨dx.heap.size,0,none⟩,dx.alloc<|.cells #[()] 211,?_,?_,?_⟩
 .go_simp
 .refine eU.alloc _ λe he=>?_
  have hm:=mem_listed he;simp[go_sem]at hm
 walk_nrm
 have h2:=(h1.rely acO).alloc<|.cells #[()] 211;have m2:grow gi dx (dx.alloc<|.cells #[()] 211) dx.heap.size:=.inr ⟨ac3 _,by rw[z0];omega⟩;have s2:=acO.size;have y2:=z0 dx<|.cells #[()] 211;have c2:(dx.alloc<|.cells #[()] 211).heap[dx.heap.size]?=some (.cells #[()] 211 (0,0)):=heap_alloc_new _ _;have PP:∃cs:Array Value,(dx.alloc<|.cells #[()] 211).heap[Bs]?=some (.cells cs 177 (0,0))/\cs.size=16:=by
  let⟨cs,g1,g2⟩:=c1;exact⟨cs,(Below.heap_alloc _ _ _ ab).trans<|(acO.block _<|.inl m1).trans g1,g2⟩
 have P8:grow gi dx (dx.alloc<|.cells #[()] 211) Bs:=.inl m1;have hbM:¬M dx.heap.size:=λe=>by have:=(h1.rely acO).lt _<|(h1.rely acO).own _ e;omega
 generalize dx.alloc (.cells #[.slice none 0 0] 211)=Qv at h2 m2 c2 PP P8 y2⊢;generalize grow gi dx Qv=px at h2 m2 P8⊢;generalize dx.heap.size=bb at m2 c2 s2 y2 hbM⊢;refine ET.none rfl rfl (by k_ne) λdv dz _=>⟨dv.setCell bb<|.slice Bs 4 4,?_,?_,?_⟩
 .have hc:=fx<|(dz.block _<|.inl m2).trans c2;have hz:dv.frozen? bb=false:=by simp[World.frozen?,(dz.block _<|.inl m2).trans c2]
  go_simp
 .have hc:=fx<|(dz.block _<|.inl m2).trans c2;have hz:dv.frozen? bb=false:=by simp[World.frozen?,(dz.block _<|.inl m2).trans c2]
  refine eU.set _ m2 λe he=>?_
  have hm:=mem_listed he;simp[go_sem,hc,hz]at hm;rw[events_store _ _ _ _ _ _ rfl,hc]at hm;simp[hz]at hm;subst hm;exact gM m2
 rw[cK (aside_setCell dv bb<|.slice Bs 4 4).size];have c3:(dv.setCell bb<|.slice Bs 4 4).heap[bb]?=some (.cells #[.slice Bs 4 4] 211 (0,0)):=I1<|(dz.block _<|.inl m2).trans c2;have MR:∃cs:Array Value,(dv.setCell bb<|.slice Bs 4 4).heap[Bs]?=some (.cells cs 177 (0,0))/\cs.size=16:=by
  let⟨cs,g1,g2⟩:=PP;exact⟨cs,(Below.heap_setCell _ _ _ _ (by show Bs≠bb;omega)).trans<|(dz.block _<|.inl P8).trans g1,g2⟩
 have h3:EN M W px (dv.setCell bb<|.slice Bs 4 4):=by
  have h:=h2.rely dz;have z:=(aside_setCell dv bb<|.slice Bs 4 4).size;exact⟨h.own,h.keep.trans ⟨λb hb=>Below.heap_setCell _ _ _ _ λe=>hbM (by have e':b=bb:=e;exact e'▸hb),by rw[z];omega,rfl,rfl⟩,λb hb=>by rw[z];exact h.lt b hb,h.new⟩
 generalize dv.setCell ⟨bb,0,none⟩ (.slice (some ⟨Bs,0,none⟩) 4 4)=Ut at h3 c3 MR⊢;walk_nrm
 apply ET.rn;apply ET.sq;apply ET.sr;refine ET.val (.slice Bs 4 4) rfl rfl (by k_ne) (λqI ku _=>?_) ?_
 .have hc:=fx<|(ku.block _<|.inl m2).trans c3;refine⟨?_,λe he=>?_⟩
  .go_simp
  .simp[go_sem,hc]at he;subst he;exact gM m2
 walk_nrm
 refine ET.z ?_;refine ET.z ?_;apply ET.rn;refine ET.c (λ_=>stepG_block) ?_;refine ET.c (λ_=>stepG_loop) ?_;refine ET.stop λqI ku _=>⟨Bs,bb,_,_,rfl,h3.rely ku,⟨ab,ab⟩,P8,m2,(ku.block _<|.inl m2).trans c3,?_⟩
 let⟨cs,g1,g2⟩:=MR;exact⟨cs,(ku.block _<|.inl P8).trans g1,g2⟩
def fU {N':Nat}{acP:Machine}{Py:Trace}{r:Stepped×Trace}(h':runNT P N' acP Py=r):∀(N:Nat) (m:Machine) (t:Trace),runNT P N m t=(.next acP,Py)->runNT P (N+N') m t=r:=by
 intro N;induction N with
 |zero=>intro m t h;simp only[runNT,Prod.mk.injEq,Stepped.next.injEq]at h;obtain⟨rfl,rfl⟩:=h;rw[Nat.zero_add];exact h'
 |succ N ih=>
  intro m t h;rw[show N+1+N'=(N+N')+1 by omega];simp only[runNT]at h⊢;generalize stepT P m=s at h⊢;let⟨s,ops⟩:=s;cases s with
  |next m'=>exact ih _ _ h
  |_=>simp at h
section
variable {an:Loc->Prop}{gs:Array Goroutine}{sl:Option (Nat×Nat)}{t:Trace}{q:Nat->Nat}
def dJ.RG {V:Nat->Prop}{a:Goroutine}(h:dJ P an V (λ_=>False) M gs a w t q):∀b,M b->b<w:=λb hb=>h.lt b<|.inl hb
def R7 (h:dJ Tryz.prog an (λ_=>False) (λ_=>False) M gs (G ((base 139).at ⟨#[.slice la ln lc,.slice na nn nc,ud,ud,ud,ud,ud,ud,ud,ud,ud,ud,ud,ud,ud,ud,ud,ud,ud,ud,ud],[]⟩ [.code dQ]) rb) w t q):
  ∃N Np gi acT V_ Py abD bl bn r4 tb wg Bs bb v9 v10,runNT Tryz.prog N (crowd gs w sl) t=(.next<|crowd Np acT V_,Py)/\Np.size=gs.size/\
   dJ Tryz.prog an (λb=>(False\/b=tb)\/b=wg) (λ_=>False) gi Np (G ((base 139).at ⟨#[.slice la ln lc,.slice na nn nc,.pointer<|some ⟨bl,0,none⟩,.pointer<|some ⟨bn,0,none⟩,.pointer<|some ⟨r4,0,none⟩,.pointer<|some ⟨tb,0,none⟩,.pointer<|some ⟨wg,0,none⟩,.pointer<|some ⟨bb,0,none⟩,undef,v9,v10,.int .i64 4,.int .i64 0,ud,ud,ud,ud,ud,ud,ud,ud],[]⟩ [.code ll,.inLoop ll,.inBlock 0,.code iV]) rb) acT Py abD/\
   EN M w gi acT/\(w.heap.size<=bl/\bl<bn/\bn<r4/\r4<tb/\tb<wg/\wg<Bs/\Bs<bb)/\(gi bl/\gi bn/\gi r4/\gi Bs/\gi bb)/\
   acT.heap[bl]?=some (.cells #[.slice la ln lc] 23 (0,0))/\acT.heap[bn]?=some (.cells #[.slice na nn nc] 179 (0,0))/\acT.heap[r4]?=some (.cells ep.cells.toArray 177 (0,0))/\
   acT.heap[tb]?=some (.cells #[(0:Int)] 203 (0,0))/\acT.heap[wg]?=some (.cells #[.int .u64 0,.int .u32 0] 210 (0,0))/\
   acT.heap[bb]?=some (.cells #[.slice (some ⟨Bs,0,none⟩) 4 4] 211 (0,0))/\∃cs,acT.heap[Bs]?=some (.cells cs 177 (0,0))/\cs.size=16:=by
 have z0:∀(w:World) (o:Obj),(w.alloc o).heap.size=w.heap.size+1:=λw o=>by show(w.heap.push o).size=_;simp
 let⟨r,hr⟩:=UU (rb:=rb) (la:=la) (ln:=ln) (lc:=lc) (na:=na) (nn:=nn) (nc:=nc) h.RG;let⟨N1,gs1,M1,a1,w1,U_,t1,q1,e1,e2,e3,e4,e5,e6,e7,e8⟩:=jt (λ_=>trivial) r _ gs M _ w sl t q (ac3 _) h hr;obtain⟨bl,bn,r4,rfl,hE,⟨o1,o2,o3⟩,m1,m2,m3,c1,c2,c3⟩:=e3 w1 (aO.refl _ _) trivial;have abE:=hE.lt _ m3;let⟨N2,Q8,a2,w2,Se,t2,q2,f1,f2,f3,f4,f5,f6⟩:=dJ.alloc (w:=w1) (sl:=U_) (t:=t1) (q:=q1) (gs:=gs1) (d:=w1.drawn) (Q:=λa' w'=>a'=G ((base 139).at ⟨#[.slice la ln lc,.slice na nn nc,.pointer<|some ⟨bl,0,none⟩,.pointer<|some ⟨bn,0,none⟩,.pointer<|some ⟨r4,0,none⟩,.pointer<|some ⟨w1.heap.size,0,none⟩,ud,ud,ud,ud,ud,ud,ud,ud,ud,ud,ud,ud,ud,ud,ud],[]⟩ [.inRegion AP [],.code (fC<|fC dQ)]) rb/\w'.heap[w1.heap.size]?=some (.cells #[(0:Int)] 203 (0,0))/\w'.os=w1.os/\w'.output=w1.output)
  (λd=>⟨_,_,Sq<|w1.at d,z0 _ _,λb hb=>Below.heap_alloc _ _ _ hb,rfl,heap_alloc_new _ _,rfl,rfl⟩) rfl _ (ac3 _) e4
 obtain⟨rfl,ctk,os2,ou2⟩:=f3;let⟨r',fH⟩:=UV (rb:=rb) (M:=M1) (W:=w2) (la:=la) (ln:=ln) (lc:=lc) (na:=na) (nn:=nn) (nc:=nc) (bl:=bl) (bn:=bn) (r4:=r4) (tb:=w1.heap.size);let⟨N3,gs3,M3,a3,w3,sl3,t3,q3,g1,g2,g3,g4,g5,g6,g7,g8⟩:=jt (λ_=>trivial) r' _ Q8 M1 _ w2 Se t2 q2 (ac3 _) f4 fH;obtain⟨rfl,k3,rfl⟩:=g3 w3 (aO.refl _ _) trivial;let⟨N4,gs4,a4,w4,sl4,t4,q4,i1,i2,i3,i4,i5,i6⟩:=dJ.alloc (w:=w3) (sl:=sl3) (t:=t3) (q:=q3) (gs:=gs3) (d:=w3.drawn) (Q:=λa' w'=>a'=G ((base 139).at ⟨#[.slice la ln lc,.slice na nn nc,.pointer<|some ⟨bl,0,none⟩,.pointer<|some ⟨bn,0,none⟩,.pointer<|some ⟨r4,0,none⟩,.pointer<|some ⟨w1.heap.size,0,none⟩,.pointer<|some ⟨w3.heap.size,0,none⟩,ud,ud,ud,ud,ud,ud,ud,ud,ud,ud,ud,ud,ud,ud],[]⟩ [.inRegion AQ [],.code (fC<|fC<|fC dQ)]) rb/\w'.heap[w3.heap.size]?=some (.cells #[.int .u64 0,.int .u32 0] 210 (0,0))/\w'.os=w3.os/\w'.output=w3.output)
  (λd=>⟨_,_,Sr<|w3.at d,z0 _ _,λb hb=>Below.heap_alloc _ _ _ hb,rfl,heap_alloc_new _ _,rfl,rfl⟩) rfl _ (ac3 _) g4
 obtain⟨rfl,cwg,os4,ou4⟩:=i3;let⟨r'',abh⟩:=UW (rb:=rb) (la:=la) (ln:=ln) (lc:=lc) (na:=na) (nn:=nn) (nc:=nc) (bl:=bl) (bn:=bn) (r4:=r4) (tb:=w1.heap.size) (wg:=w3.heap.size) i4.RG;let⟨N5,gs5,M5,a5,w5,sl5,t5,q5,j1,j2,j3,j4,j5,j6,j7,j8⟩:=jt (λ_=>trivial) r'' _ gs4 M3 _ w4 sl4 t4 q4 (ac3 _) i4 abh;obtain⟨Bs,bb,v9,v10,rfl,Va,⟨p1,p2⟩,n1,n2,cbb,cBs⟩:=j3 w5 (aO.refl _ _) trivial;have hE':aO M3 w1 w4:=(show aO M3 w1 w2 from⟨λb hb=>f6 b<|hE.lt b hb,ab,os2,ou2⟩).trans<|k3.trans ⟨λb hb=>i6 b (by have:=hE.lt b hb;omega),ab,os4,ou4⟩;have hk5:=hE'.trans Va.keep;have tn:¬M3 w1.heap.size:=λx=>by have:=hE.lt _ x;omega
 have wn:¬M3 w3.heap.size:=λx=>by have:=hE.lt _ x;omega
 refine⟨N1+(N2+(N3+(N4+N5))),gs5,M5,w5,sl5,t5,q5,bl,bn,r4,w1.heap.size,w3.heap.size,Bs,bb,v9,v10,fU (fU (fU (fU j1 _ _ _ i1) _ _ _ g1) _ _ _ f1) _ _ _ e1,ab,j4,⟨λb hb=>Va.own b<|hE.own b hb,hE.keep.trans<|hk5.mono hE.own,Va.lt,λb hb=>?_⟩,⟨o1,o2,o3,abE,ab,ab,p2⟩,⟨Va.own _ m1,Va.own _ m2,Va.own _ m3,n1,n2⟩,(hk5.block _ m1).trans c1,(hk5.block _ m2).trans c2,(hk5.block _ m3).trans c3,?_,?_,cbb,cBs⟩
 .rcases Va.new b hb with x|x
  .exact hE.new b x
  .exact .inr (by have:=hE.keep.size;omega)
 .rw[j8 _ ab tn,i6 _ ab,g8 _ ab tn];exact ctk
 .rw[j8 _ ab wn];exact cwg
end
section
open ConcN (sumTo)
def Uj [Gl](fr:Frame)(V:World):Prop:=∃(b:Frame) (a:Act) (ops:Array Oper) (i:Nat) (r:List Nat) (k:List Item) (o:Oper) (x y:Nat) (ts:Array TypeId) (p q:Addr) (la ca lb cb:Nat) (c1 c2:Array Value) (t1 t2:TypeId),
 Gl.ov<1000000000/\fr=b.at a (.inRegion ops (i::r)::k)/\ops[i]?=some o/\Region.wanted o (yielded ops a.tmps)=true/\o.op=.call {callee:=.value<|.func Gl.ov,args:=#[.tmp x,.tmp y],argTypes:=ts}/\
 a.tmps[x]?=some (.slice (some p) la ca)/\a.tmps[y]?=some (.slice (some q) lb cb)/\p.block≠q.block/\V.heap[p.block]?=some (.cells c1 t1 (0,0))/\c1.size≠0/\V.heap[q.block]?=some (.cells c2 t2 (0,0))/\c2.size≠0
def BF [Gl](P:Program):Prop:=∀(p q:Addr) (la ca lb cb:Nat) (c1 c2:Array Value) (t1 t2:TypeId) (W:World),p.block≠q.block->W.heap[p.block]?=some (.cells c1 t1 (0,0))->c1.size≠0->W.heap[q.block]?=some (.cells c2 t2 (0,0))->c2.size≠0->
 (callFunc Gl.ov #[.slice (some p) la ca,.slice (some q) lb cb]).run P W=.ok (.value false) W/\∀e∈(callFunc Gl.ov #[.slice (some p) la ca,.slice (some q) lb cb]).events P W #[],∃f,e=⟨.mark<|.extern f,false,true⟩
def Kq [Gl]{a:Act}{o:Oper}{x y:Nat}{ts:Array TypeId}(bp:o.op=.call {callee:=.value<|.func Gl.ov,args:=#[.tmp x,.tmp y],argTypes:=ts})(hx:a.tmps[x]?=some u)(hy:a.tmps[y]?=some v):execOp a.eval o=callFunc Gl.ov #[u,v]:=by
 have e1:a.eval (.tmp x)=u:=by simp[Act.eval,hx]
 have e2:a.eval (.tmp y)=v:=by simp[Act.eval,hy]
 have e3:a.eval (.func Gl.ov)=.func (.func Gl.ov) #[] #[]:=rfl;unfold execOp;rw[bp];simp[resolve,invoke,e1,e2,e3,Deferred.ofValue]
section
variable [Gl](P:Program)(ok:Ctx)(c:Frame)(Dr:FuncId->Array Value->World->(Value->World->Prop)->Prop)(Q:Value->World->Prop)
inductive Wk:St->Prop
 |ends {s:St}:(∀τ d,zf P Q<|s.re τ d)->(∃fn t,P.funcs[s.fr.fn]?=some fn/\fn.results=#[.tmp t])->Wk s
 |step {s:St} (f:(Nat->Question->Nat)->Nat->St):ok.aX s.fr.fn=true->s.fr.kind=.normal->(∀τ d,fw P c (s.re τ d)<|f τ d)->(∀τ d,Wk<|f τ d)->Wk s
 |door {f:FuncId} {xs:Array Value} {fr:Frame} {cs:List Frame} {V:World} {R:Value->World->Prop}:ok.aX f=false->Dr f xs V R->(∀v V',R v V'->Wk ⟨fr.finish v,cs,V'⟩)->Wk ⟨Frame.enter P f xs .normal,fr::cs,V⟩
 |ext {fr:Frame} {cs:List Frame} {V:World}:ok.aX fr.fn=true->fr.kind=.normal->Uj fr V->Wk ⟨fr.finish<|.bool false,cs,V⟩->Wk ⟨fr,cs,V⟩
end
section
variable [Gl]{P0 P:Program}{ok:Ctx}{c:Frame}{Dr:FuncId->Array Value->World->(Value->World->Prop)->Prop}{Q:Value->World->Prop}
set_option linter.unusedSectionVars false in
def QT (hP:Same P0 P ok)(hi:ok.aX s.fr.fn=true)(hk:s.fr.kind=.normal)(he:zg s)(h:fw P0 c s s'):False:=by
 let⟨fr,cs,V⟩:=s;let⟨e1,e2,e3⟩:=he;let⟨es,h⟩:=h;simp only at e1 e2 e3 h hi hk;subst e1;rw[ju e2]at h;let⟨F,cd,f1,_⟩:=hP.same _ hi;let⟨fn,tmps,todo,defers,mode,kind,roundOf⟩:=fr;simp only at e2 e3 hk f1;subst e3 hk;cases mode with
 |run=>exact absurd rfl e2
 |panicking ch=>
  have c1:Frame.catches P0 ⟨fn,tmps,todo,[],.panicking ch,.normal,roundOf⟩=false:=by simp[Frame.catches,f1]
  simp only[unwind,c1,List.nil_append,Bool.false_eq_true,if_false,GStep.go.injEq]at h;have:=congrArg Goroutine.callers h.1;simp[G]at this
 |returning=>
  simp only[unwind,f1,List.nil_append]at h;let⟨QV,h3⟩:=kQ h;generalize (results F tmps).runT P0 V #[]=x at h3;let⟨r,e⟩:=x;cases r with
  |ok v w=>
   simp only[doReturn,GStep.go.injEq]at h3;have:=congrArg Goroutine.callers h3.1;simp[G]at this
  |halt hh w=>cases hh<;>cases h3
def Gk (ρ:Ren)(M:Nat->Prop):Prop:=∀b d,ρ b=some d->M d
def jh:Nat->Prop:=λ_=>False
def bN.others {ρ:Ren}{V:World}(hw:bN ok true ρ (re V W.tape W.drawn) W)(ho:Gk ρ M)(k:aO (λb=>M b\/jh b) W ah):bN ok true ρ (re V ah.tape ah.drawn) ah:=by
 refine⟨λb d hb=>?_,rfl,rfl,hw.gV,ac6 hw.gW k.size⟩;let⟨o,o',h1,h2,h3⟩:=hw.heap b d hb;exact⟨o,o',h1,(k.block d<|.inl<|ho b d hb).trans h2,h3⟩
def pt (P:Program)(ok:Ctx)(Inv:(Nat->Prop)->World->Prop)(Dr:FuncId->Array Value->World->(Value->World->Prop)->Prop):Prop:=
 ∀{f:FuncId} {xs:Array Value} {V:World} {ρ:Ren} {xs':Array Value} {W:World} {M:Nat->Prop} {an:Loc->Prop} {gs:Array Goroutine} {r0:Frame} {rest:List Frame} {t:Trace} {q:Nat->Nat} {sl:Option (Nat×Nat)} {R:Value->World->Prop},
  Inv M W->Dr f xs V R->ax ok ρ xs xs'->bN ok true ρ (re V W.tape W.drawn) W->Gk ρ M->dJ P an jh jh M gs (G (Frame.enter P f xs' .normal)<|r0::rest) W t q->
  ∃N jK W' kx t' q' sP M' v' σ v V',runNT P N (crowd gs W sl) t=(.next<|crowd jK W' kx,t')/\dJ P sP jh jh M' jK (G (r0.finish v') rest) W' t' q'/\
   ρ.le σ/\aw ok σ v v'/\bN ok true σ (re V' W'.tape W'.drawn) W'/\Gk σ M'/\R v V'/\aO M W W'/\(∀d,M d->M' d)/\(∀b d,σ b=some d->ρ b=some d\/W.heap.size<=d)/\∀b,Ro V b->V'.heap[b]?=V.heap[b]?
omit [Gl] in
def Pz [Gl]{ρ:Ren}(h:aw ok ρ undef v):v=undef:=by
 unfold undef at h;generalize hu:Value.tuple #[]=u at h;cases h with
 |@tuple xs xs' e h=>
  simp only[Value.tuple.injEq]at hu;subst hu;have:xs'=#[]:=by
   have:=e.symm;simpa using this
  rw[this];rfl
 |_=>cases hu
def xe {ρ:Ren}{ys Dt:Array Value}(hn:((P0.funcs[f]?).map (·.ntmps)).getD 0=((P.funcs[f]?).map (·.ntmps)).getD 0)(e:Frame.enter P0 f xs .normal=Frame.enter P0 f ys .normal)(h:ax ok ρ ys Dt):∃xs',ax ok ρ xs xs'/\Frame.enter P f xs' .normal=Frame.enter P f Dt .normal:=by
 have et:=congrArg Frame.tmps e;simp only[Frame.enter]at et;rw[hn]at et;have hz:=h.size;have hT:ax ok ρ (ys++Array.replicate (((P.funcs[f]?).map (·.ntmps)).getD 0-ys.size) undef) (Dt++Array.replicate (((P.funcs[f]?).map (·.ntmps)).getD 0-ys.size) undef):=h.append<|ax.replicate lL _;rw[<-et]at hT;generalize hm:((P.funcs[f]?).map (·.ntmps)).getD 0=n at et hT;generalize Ri:Dt++Array.replicate (n-ys.size) undef=T' at hT;have hs:=hT.size;simp only[Array.size_append,Array.size_replicate]at hs;have hx:ax ok ρ xs (T'.extract 0 xs.size):=by
  have:=hT.extract 0 xs.size;rw[Array.extract_append_left]at this;simpa using this
 refine⟨T'.extract 0 xs.size,hx,?_⟩;simp only[Frame.enter,hm,Frame.mk.injEq,true_and,and_true];rw[<-hz,Ri,<-hx.size];refine Array.ext cH λi h1 h2=>?_
 by_cases hi:i<xs.size
 .rw[Array.getElem_append_left (by rw[<-hx.size];exact hi)];simp
 .rw[Array.getElem_append_right (by rw[<-hx.size];omega)];simp only[Array.getElem_replicate];have:=hT.at_ i undef T'[i] (by rw[Array.getElem?_append_right ab,Array.getElem?_replicate,if_pos ab])<|ada h2;exact(Pz this).symm
def Wk.beside (hP:dL P0 P ok)(hN:∀f,ok.aX f=false->((P0.funcs[f]?).map (·.ntmps)).getD 0=((P.funcs[f]?).map (·.ntmps)).getD 0){Inv:(Nat->Prop)->World->Prop}(hOv:Gl.ov<1000000000->BF P)(hD:pt P ok Inv Dr){F:Nat->Prop}(Vb:∀M W,(∀d,F d->M d)->aO F acF W->Inv M W)(h:Wk P0 ok c Dr Q s):∀{ρ:Ren} {a:Goroutine} {gs:Array Goroutine} {M:Nat->Prop} {W:World} {sl:Option (Nat×Nat)} {t:Trace} {q:Nat->Nat} {an:Loc->Prop},
  aO F acF W->pv P0 P ok ρ [c] [] (G s.fr<|s.cs++[c]) a->bN ok true ρ (re s.V W.tape W.drawn) W->Gk ρ M->dJ P an jh jh M gs a W t q->(∀d,F d->M d/\((∀b,ρ b≠some d)\/∃b,ρ b=some d/\Ro s.V b))->
  ∃N jK W' kx t' q' sP M' σ,∃(s':St) (eV:Frame),runNT P N (crowd gs W sl) t=(.next<|crowd jK W' kx,t')/\dJ P sP jh jh M' jK (G eV []) W' t' q'/\
   ρ.le σ/\eK P ok σ s'.fr eV/\bN ok true σ (re s'.V W'.tape W'.drawn) W'/\Gk σ M'/\(∀τ d,zf P0 Q<|s'.re τ d)/\aO F W W'/\∃fn t,P0.funcs[s'.fr.fn]?=some fn/\fn.results=#[.tmp t]:=by
 induction h with
 |@ends s he vQ=>
  intro ρ a gs M W sl t q an hK hg hw ho hl hF;generalize hz:G s.fr (s.cs++[c])=z at hg;cases hg with
  |@inside fr eV cs cs' a1 a2 a3=>
   have z1:=congrArg Goroutine.frame hz;have z2:=congrArg Goroutine.callers hz;simp only[G]at z1 z2;replace z2:=adq z2;subst z1 z2;have hc0:s.cs=[]:=(he (λ_ _=>0) 0).1;rw[hc0]at a2;cases a2;exact⟨0,gs,W,sl,t,q,an,M,ρ,s,eV,rfl,hl,Ren.le_refl _,a1,hw,ho,he,aO.refl _ _,vQ⟩
  |door a1 a2=>
   have z1:=congrArg Goroutine.frame hz;simp only[G]at z1;let⟨_,v,hl,_⟩:=he (λ_ _=>0) 0;have:=hl.1;have h2:s.fr.mode=.returning:=this;rw[z1]at h2;simp[Frame.enter]at h2
 |@step s f hi hk hgo DA ih=>
  intro ρ a gs M W sl t q an hK hg hw ho hl hF;generalize hz:G s.fr (s.cs++[c])=z at hg;cases hg with
  |@inside fr eV cs cs' a1 a2 a3=>
   have z1:=congrArg Goroutine.frame hz;have z2:=congrArg Goroutine.callers hz;simp only[G]at z1 z2;replace z2:=adq z2;subst z1 z2;let Stop:(Nat->Prop)->Goroutine->World->Prop:=λM' a' ah=>∃σ τ d,ρ.le σ/\pv P0 P ok σ [c] [] (G (f τ d).fr<|(f τ d).cs++[c]) a'/\bN ok true σ (re (f τ d).V ah.tape ah.drawn) ah/\Gk σ M'/\aO F W ah/\∀d',F d'->M' d'/\((∀b,σ b≠some d')\/∃b,σ b=some d'/\Ro (f τ d).V b)
   have hPT:PT P true (λ_=>True) Ph.nO jh Stop (.node λ_=>.leaf) M (G eV<|cs'++[]) W:=by
    refine .inr ⟨rfl,λah k _=>?_⟩;have uY:=hw.others ho k;let⟨es,XD⟩:=hgo ah.tape ah.drawn;let⟨σ,g2,W2,zn,e,jT,KO,od,mK⟩:=tN (lb:=[c]) (rb:=[]) (acP:=true) hP a1 a2 a3 uY (λx y z=>QT (c:=c) (s:=s.re ah.tape ah.drawn) hP.toSame hi hk ⟨x,y,z⟩ ⟨es,XD⟩) XD;have hh:sM ρ (re s.V ah.tape ah.drawn) M jh:=λb d hb=>.inl<|ho b d hb
    have ay:∀b d,σ b=some d->d<W2:=λb d hb=>(KO.lt hb).2
    have qN:Gk σ (grow M ah W2):=λb d hb=>(hh.step od ay b d hb).elim id λx=>x.1.elim
    have hlF:∀d,F d->d<W:=λd hd=>hl.lt d<|.inl (hF d hd).1
    have same:∀d,F d->W2.heap[d]?=ah.heap[d]?:=λd hd=>by
     rcases(hF d hd).2 with x|⟨b,x,y⟩
     .exact od.keep d (ac4 (hlF d hd) k.size) x
     .exact(od.ro b d x y).2
    have kF:aO F W W2:=⟨λd hd=>(same d hd).trans<|k.block d<|.inl (hF d hd).1,ac6 k.size od.size,od.os.trans k.os,od.out.trans k.out⟩;have hF2:∀d,F d->grow M ah W2 d/\((∀b,σ b≠some d)\/∃b,σ b=some d/\Ro (f ah.tape ah.drawn).V b):=λd hd=>⟨.inl (hF d hd).1,by
     rcases(hF d hd).2 with y|⟨b,x,y⟩
     .refine .inl λb hb=>?_
      rcases od.new b d hb with x|⟨_,x⟩
      .exact y b x
      .have:=hlF d hd;have:=k.size;omega
     .refine .inr ⟨b,od.le _ _ x,?_⟩;have h1:=(od.ro b d x y).1;let⟨c1,c2,c3⟩:=y;exact⟨c1,c2,h1.trans c3⟩⟩
    refine⟨g2,W2,zn,e,hh.WC od ay mK,λdx acO _=>⟨σ,ah.tape,ah.drawn,od.le,jT,?_,qN,kF.trans<|acO.mono λd hd=>.inl (hF2 d hd).1,hF2⟩⟩;have:bN ok true σ (re (f ah.tape ah.drawn).V W2.tape W2.drawn) W2:=⟨KO.heap,rfl,rfl,KO.gV,KO.gW⟩;exact this.others qN acO
   let⟨N,jK,M',a',w',kx,t',q',h1,_,h3,h4,_⟩:=jt (λ_=>trivial) _ _ gs M _ W sl t q (ac3 _) hl hPT;let⟨σ,τ,d,g1,g2,g3,g4,g5,g6⟩:=h3 w' (aO.refl _ _) trivial;let⟨N2,Q8,W2,Se,t2,q2,DN,M2,PN,s2,fr2,i1,i2,i3,i4,i5,i6,i7,i8,i9⟩:=ih τ d (sl:=kx) (hK.trans g5) g2 g3 g4 h4 g6;exact⟨N+N2,Q8,W2,Se,t2,q2,DN,M2,PN,s2,fr2,fU i1 _ _ _ h1,i2,g1.trans i3,i4,i5,i6,i7,g5.trans i8,i9⟩
  |door a1 a2=>
   have z1:=congrArg Goroutine.frame hz;simp only[G]at z1;rw[z1]at hi;simp only[Frame.enter]at hi;rw[hi]at a2;cases a2
 |@door f xs fr cs V R hf hp DA ih=>
  intro ρ a gs M W sl t q an hK hg hw ho hl hF;generalize hz:G (Frame.enter P0 f xs .normal) (fr::cs++[c])=z at hg;cases hg with
  |@inside fr1 eV cs1 cs' a1 a2 a3=>
   have z1:=congrArg Goroutine.frame hz;simp only[G]at z1;have:=a1.aX;rw[<-z1]at this;simp only[Frame.enter]at this;rw[hf]at this;cases this
  |@door f1 ys Dt cs1 ab4 a1 a2 a3 a4 a5 a6=>
   have z1:=congrArg Goroutine.frame hz;have z2:=congrArg Goroutine.callers hz;simp only[G]at z1 z2;replace z2:=adq z2;subst z2;have z3:=congrArg Frame.fn z1;simp only[Frame.enter]at z3;subst z3;let⟨xs',hx,hE⟩:=xe (ok:=ok) (ρ:=ρ) (hN _ hf) z1 a3;cases a4 with
   |@cons _ r0 _ rest b1 b2=>
    simp only[List.append_nil]at hl;rw[<-hE]at hl;let⟨N,gs1,W1,U_,t1,q1,abP,M1,v',σ,v,V',e1,e2,e3,e4,e5,e6,e7,e8,e9,UT,Xn⟩:=hD (sl:=sl) (Vb M W (λd hd=>(hF d hd).1) hK) hp hx hw ho hl;have hlF:∀d,F d->d<W:=λd hd=>hl.lt d<|.inl (hF d hd).1
    have hF2:∀d,F d->M1 d/\((∀b,σ b≠some d)\/∃b,σ b=some d/\Ro V' b):=λd hd=>⟨e9 d (hF d hd).1,by
     rcases(hF d hd).2 with y|⟨b,x,y⟩
     .refine .inl λb hb=>?_
      rcases UT b d hb with x|x
      .exact y b x
      .have:=hlF d hd;omega
     .refine .inr ⟨b,e3 _ _ x,?_⟩;have h1:=Xn b y;let⟨c1,c2,c3⟩:=y;exact⟨c1,c2,h1.trans c3⟩⟩
    have hb:tU (fr.finish v) cs:=by
     have:tU fr cs:=λg hg=>a6 g hg
     exact this.swap (by cases fr with|mk fn tmps todo defers mode kind roundOf=>cases todo with
      |nil=>rfl
      |cons x l=>cases x<;>first|rfl|(rename_i ops l2;cases l2<;>rfl))
    have hG:pv P0 P ok σ [c] [] (G (fr.finish v)<|cs++[c]) (G (r0.finish v')<|rest++[]):=.inside ((b1.mono e3).finish e4) (b2.mono e3) hb;rw[List.append_nil]at hG;let⟨N2,Q8,W2,Se,t2,q2,DN,M2,PN,s2,fr2,i1,i2,i3,i4,i5,i6,i7,i8,i9⟩:=ih v V' e7 (sl:=U_) (hK.trans<|e8.mono λd hd=>(hF d hd).1) hG e5 e6 e2 hF2;exact⟨N+N2,Q8,W2,Se,t2,q2,DN,M2,PN,s2,fr2,fU i1 _ _ _ e1,i2,e3.trans i3,i4,i5,i6,i7,(e8.mono λd hd=>(hF d hd).1).trans i8,i9⟩
 |@ext fr cs V hi hk hA DA ih=>
  intro ρ a gs M W sl t q an hK hg hw ho hl hF;generalize hz:G fr (cs++[c])=z at hg;cases hg with
  |@inside fr0 eV cs0 cs' a1 a2 a3=>
   have z1:=congrArg Goroutine.frame hz;have z2:=congrArg Goroutine.callers hz;simp only[G]at z1 z2;replace z2:=adq z2;subst z1 z2;let⟨b,ac,ops,i,r,k,o,x,y,ts,p,q',la,ca,lb,cb,c1,c2,t1,t2,e00,e0,NN,hw',bp,hx,hy,hne,g1,n1,g2,n2⟩:=hA;obtain⟨ac',k',e',ht⟩:∃ac' k',eV=eV.at ac' (.inRegion ops (i::r)::k')/\ax ok ρ ac.tmps ac'.tmps:=by
    have h1:=a1.todo;have h2:=a1.tmps;have h3:=a1.mode;have h4:=a1.round;rw[e0]at h1 h2 h3 h4;let⟨dC,dj,jY,cU,pU,fo,bg⟩:=eV;simp only[Frame.at]at h1 h2 h3 h4;cases h3;cases h4;cases h1 with
    |cons h5 h6=>
     cases h5;exact⟨⟨dj,cU⟩,_,rfl,h2⟩
   let⟨x',dK,rx⟩:=ht.get hx;let⟨y',G7,ry⟩:=ht.get hy;obtain⟨p',rfl,rp⟩:∃p',x'=.slice (some p') la ca/\dI ρ p p':=by cases rx with|slice _ _ r=>exact⟨_,rfl,r⟩
   obtain⟨r',rfl,rq⟩:∃r',y'=.slice (some r') lb cb/\dI ρ q' r':=by cases ry with|slice _ _ r=>exact⟨_,rfl,r⟩
   have plain:∀{ah:World} {d d':Nat} {cc:Array Value} {tt:TypeId},bN ok true ρ (re V ah.tape ah.drawn) ah->ρ d=some d'->V.heap[d]?=some (.cells cc tt (0,0))->cc.size≠0->∃cc',ah.heap[d']?=some (.cells cc' tt (0,0))/\cc'.size≠0:=by
    intro ah d d' cc tt uY hd hg hn;let⟨o1,o2,i1,i2,i3⟩:=uY.heap d d' hd;replace i1:V.heap[d]?=some o1:=i1;rw[hg]at i1;obtain rfl:=ac9 i1;cases i3 with
    |@cells _ c' _ _ z' NC hz=>
     have Ma:z'=(0,0):=by
      rcases hz with h|⟨_,h,h'⟩
      .simpa using h
      .simp at h;omega
     subst Ma;exact⟨c',i2,by rw[<-NC.size];exact hn⟩
   have Rw:p'.block≠r'.block:=λe=>hne (ρ.inj _ _ _ rp.blk<|by rw[e];exact rq.blk)
   have hE:ET P true (λ_=>True) Ph.nO jh (λM' g W'=>g=G (eV.finish false) (cs'++[])/\M'=M/\aO (λb=>M b\/jh b) W W') M (G eV<|cs'++[]) W:=by
    rw[e'];refine ET.val false NN (by rw[yY ht];exact hw') (by rw[a1.fo];simp) (λah acN _=>?_)<|ET.stop λah acN _=>⟨?_,rfl,acN⟩
    .have uY:=hw.others ho acN;let⟨PP,j1,j2⟩:=plain uY rp.blk g1 n1;let⟨QH,j3,j4⟩:=plain uY rq.blk g2 n2;have eb:=hOv e00 p' r' la ca lb cb PP QH t1 t2 ah Rw j1 j2 j3 j4;rw[Kq bp dK G7];refine⟨eb.1,λe he=>?_⟩;obtain⟨f,rfl⟩:=eb.2 e he;exact .inr<|.inr<|.inl ⟨_,rfl,rfl⟩
    .rw[<-e'];conv=>rhs;rw[e']
     rw[Frame.finish_at,NN];rfl
   let⟨r,hr⟩:=hE;let⟨N,jK,M',a',w',kx,t',q2,h1,_,h3,h4,_⟩:=jt (λ_=>trivial) r _ gs M _ W sl t q (ac3 _) hl hr;obtain⟨rfl,rfl,h5⟩:=h3 w' (aO.refl _ _) trivial;have hb:tU (fr.finish false) cs:=a3.swap (by cases fr with|mk fn tmps todo defers mode kind roundOf=>cases todo with
    |nil=>rfl
    |cons x l=>cases x<;>first|rfl|(rename_i ops l2;cases l2<;>rfl))
   have hG:pv P0 P ok ρ [c] [] (G (fr.finish<|.bool false)<|cs++[c]) (G (eV.finish<|.bool false)<|cs'++[]):=.inside (a1.finish<|.bool _) a2 hb;let⟨N2,Q8,W2,Se,t2,q2,DN,M2,PN,s2,fr2,i1,i2,i3,i4,i5,i6,i7,i8,i9⟩:=ih (sl:=kx) (hK.trans<|h5.mono λd hd=>.inl (hF d hd).1) hG (hw.others ho h5) ho h4 hF;exact⟨N+N2,Q8,W2,Se,t2,q2,DN,M2,PN,s2,fr2,fU i1 _ _ _ h1,i2,i3,i4,i5,i6,i7,(h5.mono λd hd=>.inl (hF d hd).1).trans i8,i9⟩
  |door a1 a2=>
   have z1:=congrArg Goroutine.frame hz;simp only[G]at z1;rw[z1]at hi;simp only[Frame.enter]at hi;rw[hi]at a2;cases a2
end
end
section
variable [Gl]{P0:Program}{ok:Ctx}{c:Frame}{Dr:FuncId->Array Value->World->(Value->World->Prop)->Prop}{Q:Value->World->Prop}
def Shut (P0:Program)(ok:Ctx):Prop:=∀f xs cs V,ok.fn f=true->ok.aX f=false->∃o w es,stepG P0 true (G (Frame.enter P0 f xs .normal) cs) V=.ended o w es
def Mn (P0:Program)(ok:Ctx)(s:St):Prop:=∃ρ f xs,s.fr=Frame.enter P0 f xs .normal/\ok.fn f=true/\ok.aX f=false/\ax ok ρ xs xs/\jb P0 ok ρ s.cs s.cs/\bN ok true ρ s.V s.V/\∀f,s.cs.getLast?=some f->f.roundOf=none
def sA (hP:dL P0 P0 ok)(hs:fK P0 ok s)(he:¬zg s){g2:Goroutine}{V2:World}{es:Array Event}(h:stepG P0 true (G s.fr<|s.cs++[c]) s.V=.go g2 V2 es):
  ∃s':St,g2=G s'.fr (s'.cs++[c])/\V2=s'.V/\(fK P0 ok s'\/Mn P0 ok s'):=by
 let⟨ρ,h1,h2,h3,h4⟩:=hs;let⟨σ,YG,W2,zn,e,hg,hw,_,_⟩:=tN (lb:=[c]) (rb:=[c]) (acP:=true) hP h1 h2 h3 h4 (λa b=>λd=>he ⟨a,b,d⟩) h;rw[h]at e;simp only[GStep.go.injEq]at e;obtain⟨rfl,rfl,_⟩:=e;generalize jT:g2=YG at hg;have qM:pv P0 P0 ok σ [c] [c] g2 YG:=by rw[jT]at*;exact hg
 clear hg;cases qM with
 |@inside fr eV cs cs' a1 a2 a3=>
  have e1:=congrArg Goroutine.frame jT;have e2:=congrArg Goroutine.callers jT;simp only[G]at e1 e2;have e2:cs=cs':=adq e2;subst e1 e2;exact⟨⟨fr,cs,V2⟩,rfl,rfl,.inl ⟨σ,a1,a2,a3,hw⟩⟩
 |@door f xs xs' cs cs' a1 a2 a3 a4 a5 a6=>
  have e1:=congrArg Goroutine.frame jT;have e2:=congrArg Goroutine.callers jT;simp only[G]at e1 e2;have e2:cs=cs':=adq e2;subst e2;refine⟨⟨Frame.enter P0 f xs .normal,cs,V2⟩,by rw[e1],rfl,.inr ⟨σ,f,xs,rfl,a1,a2,?_,a4,hw,a6⟩⟩;have et:=congrArg Frame.tmps e1;simp only[Frame.enter]at et;rw[<-a3.size]at et;have:xs=xs':=(Array.append_inj et<|by first|exact a3.size|exact a3.size.symm).1|>λh=>by first|exact h|exact h.symm
  rw[<-this]at a3;exact a3
section
variable {Tgt:St->Prop}
def vF (P0:Program)(c:Frame)(Tgt:St->Prop):Nat->St->Prop
 |0,s=>Tgt s
 |n+1,s=>¬Tgt s/\∃s',fw P0 c s s'/\vF P0 c Tgt n s'
def vF.Wl (Dy:Shut P0 ok)(hI:∀s,Tgt s->ok.aX s.fr.fn=true)(h:vF P0 c Tgt n s)(hd:Mn P0 ok s):False:=by
 let⟨ρ,f,xs,e,h1,h2,_⟩:=hd;cases n with
 |zero=>
  have:=hI s h;rw[e]at this;simp only[Frame.enter]at this;rw[h2]at this;cases this
 |succ n=>
  let⟨_,s',⟨es,hg⟩,_⟩:=h;let⟨o,w,jI,hx⟩:=Dy f xs (s.cs++[c]) s.V h1 h2;rw[e,hx]at hg;cases hg
def fw.T4 (hP:dL P0 P0 ok)(Dy:Shut P0 ok)(hI:∀s,Tgt s->ok.aX s.fr.fn=true)(hs:fK P0 ok s)(h:fw P0 c s s')(hf:∃τ d,vF P0 c Tgt n<|s'.re τ d):fK P0 ok s':=by
 have hi:=h.inside hP hs;let⟨es,h⟩:=h;let⟨s2,e1,e2,h2⟩:=sA hP hs hi h;let⟨fr,cs,V⟩:=s';let⟨fr2,Dw,V2⟩:=s2;have e3:=congrArg Goroutine.frame e1;have e4:=congrArg Goroutine.callers e1;simp only[G]at e3 e4 e2;have e4:cs=Dw:=adq e4;subst e3 e4 e2;rcases h2 with h2|h2
 .exact h2
 .let⟨τ,d,hf⟩:=hf;exfalso;refine hf.Wl Dy hI ?_;let⟨ρ,f,xs,a1,a2,a3,a4,a5,a6,a7⟩:=h2;exact⟨ρ,f,xs,a1,a2,a3,a4,a5,⟨a6.heap,rfl,rfl,a6.gV,a6.gW⟩,a7⟩
def vF.shift (hP:dL P0 P0 ok)(Dy:Shut P0 ok)(hI:∀s,Tgt s->ok.aX s.fr.fn=true)(hT:∀s τ d,Tgt s->Tgt (s.re τ d)):∀(n:Nat) {s:St},fK P0 ok s->vF P0 c Tgt n s->∀τ d,(∀i q,s.V.tape (s.V.drawn+i) q=τ (d+i) q)->vF P0 c Tgt n (s.re τ d):=by
 intro n;induction n with
 |zero=>intro s hs h τ d _;exact hT s τ d h
 |succ n ih=>
  intro s hs h τ d hA;let⟨h0,s',h1,h2⟩:=h;let⟨k1,k2,k3⟩:=h1.sh hP hs;refine⟨λh=>h0<|hT (s.re τ d) s.V.tape s.V.drawn h,_,k3 τ d λi _ q=>hA i q,ih (h1.T4 hP Dy hI hs ⟨s'.V.tape,s'.V.drawn,h2⟩) h2 τ _ λi q=>?_⟩;rw[k2];have:=hA (s'.V.drawn-s.V.drawn+i) q;rw[show s.V.drawn+(s'.V.drawn-s.V.drawn+i)=s'.V.drawn+i by omega]at this;rw[this];congr 1;omega
def HT (P0:Program)(c:Frame)(Tgt:St->Prop)(s:St):Prop:=∀τ d,∃n,vF P0 c Tgt n (s.re τ d)
def HT.succ (hP:dL P0 P0 ok)(Dy:Shut P0 ok)(hI:∀s,Tgt s->ok.aX s.fr.fn=true)(hT:∀s τ d,Tgt s->Tgt (s.re τ d))(hs:fK P0 ok s)(hH:HT P0 c Tgt s)(h0:¬Tgt s){τ:Nat->Question->Nat}{d:Nat}(h:fw P0 c (s.re τ d) s'):HT P0 c Tgt s'/\fK P0 ok s':=by
 have vR:=hs.re τ d;let⟨k1,k2,k3⟩:=h.sh hP vR;have l_:d<=s'.V.drawn:=k1;have key:∀(τ':Nat->Question->Nat) (d':Nat),∃n t2,vF P0 c Tgt n (s'.re t2 s'.V.drawn)/\∀i q,t2 (s'.V.drawn+i) q=τ' (d'+i) q:=by
  intro τ' d';let t2:Nat->Question->Nat:=λi q=>if i<s'.V.drawn then τ i q else τ' (d'+(i-s'.V.drawn)) q
  have hA:kM (s.re τ d).V.tape (s.re τ d).V.drawn t2 d (s'.V.drawn-(s.re τ d).V.drawn):=by
   intro i hi q;show τ (d+i) q=t2 (d+i) q;simp only[t2];have nJ:i<s'.V.drawn-d:=hi;rw[if_pos ab]
  have h2:=k3 t2 d hA;let⟨n,hn⟩:=hH t2 d;have e1:(s.re τ d).re t2 d=s.re t2 d:=rfl;rw[e1]at h2;cases n with
  |zero=>exact absurd (hT (s.re t2 d) s.V.tape s.V.drawn hn) h0
  |succ n=>
   let⟨_,s2,g1,g2⟩:=hn;have:=g1.det h2;subst this;have e2:d+(s'.V.drawn-(s.re τ d).V.drawn)=s'.V.drawn:=by show d+(s'.V.drawn-d)=_;omega
   rw[e2]at g2;refine⟨n,t2,g2,λi q=>?_⟩;simp only[t2];rw[if_neg ab];congr 1;omega
 have nh:fK P0 ok s':=by
  let⟨n,t2,h2,_⟩:=key τ d;exact h.T4 hP Dy hI vR ⟨_,_,h2⟩
 refine⟨λτ' d'=>?_,nh⟩;let⟨n,t2,h2,h3⟩:=key τ' d';exact⟨n,vF.shift hP Dy hI hT n (nh.re t2 s'.V.drawn) h2 τ' d' h3⟩
def Yi (P0:Program)(c:Frame)(Tgt:St->Prop)(s' s:St):Prop:=¬Tgt s/\∃τ d,fw P0 c (s.re τ d) s'
omit [Gl] in
def MU {α:Type}{r:α->α->Prop}{s:α}(h:¬Acc r s):∃f:Nat->α,f 0=s/\∀n,r (f<|n+1) (f n):=by
 have step:∀s:{s:α //¬Acc r s},∃s':{s:α //¬Acc r s},r s'.1 s.1:=by
  intro ⟨s,hs⟩;apply ads;intro hn;apply hs;refine⟨_,λy hy=>?_⟩;apply ads;intro G7;exact hn ⟨⟨y,G7⟩,hy⟩
 let g:Nat->{s:α //¬Acc r s}:=λn=>Nat.rec ⟨s,h⟩ (λ_ x=>(step x).choose) n
 exact⟨λn=>(g n).1,rfl,λn=>(step<|g n).choose_spec⟩
def J9 (hP:dL P0 P0 ok)(Dy:Shut P0 ok)(hI:∀s,Tgt s->ok.aX s.fr.fn=true)(hT:∀s τ d,Tgt s->Tgt (s.re τ d))(hs:fK P0 ok s)(hH:HT P0 c Tgt s):Acc (Yi P0 c Tgt) s:=by
 apply ads;intro hn;let⟨f,f0,hf⟩:=MU hn;have all:∀n,HT P0 c Tgt (f n)/\fK P0 ok (f n):=by
  intro n;induction n with
  |zero=>rw[f0];exact⟨hH,hs⟩
  |succ n ih=>let⟨h0,τ,d,h⟩:=hf n;exact HT.succ hP Dy hI hT ih.2 ih.1 h0 h
 let τ:Nat->Nat->Question->Nat:=λn=>(hf n).2.choose
 let d:Nat->Nat:=λn=>(hf n).2.choose_spec.choose
 have g:∀n,fw P0 c ((f n).re (τ n)<|d n) (f<|n+1):=λn=>(hf n).2.choose_spec.choose_spec
 let D:Nat->Nat:=λn=>Nat.rec 0 (λn x=>x+((f<|n+1).V.drawn-d n)) n
 have hD:∀n,D (n+1)=D n+((f<|n+1).V.drawn-d n):=λn=>rfl
 let⟨T,Ri⟩:=EV D (λn=>by rw[hD];omega) λn j q=>τ n (d n+j) q;have go:∀n,fw P0 c ((f n).re T<|D n) ((f<|n+1).re T<|D<|n+1):=by
  intro n;let⟨_,_,k3⟩:=(g n).sh hP<|(all n).2.re (τ n)<|d n;have:=k3 T (D n) (λi hi q=>by
   show τ n (d n+i) q=T (D n+i) q;have nJ:i<(f<|n+1).V.drawn-d n:=hi;rw[Ri n i q (by rw[hD];omega)])
  rw[hD];exact this
 have none_:∀N n,¬vF P0 c Tgt N ((f n).re T<|D n):=by
  intro N;induction N with
  |zero=>intro n h;exact(hf n).1 (hT ((f n).re T<|D n) (f n).V.tape (f n).V.drawn h)
  |succ N ih=>
   intro n h;let⟨_,s',h1,h2⟩:=h;have:=h1.det<|go n;subst this;exact ih (n+1) h2
 let⟨N,hN⟩:=hH T 0;rw[<-f0]at hN;exact none_ N 0 hN
def PH (hP:dL P0 P0 ok)(Dy:Shut P0 ok)(hI:∀s,Tgt s->ok.aX s.fr.fn=true)(hT:∀s τ d,Tgt s->Tgt (s.re τ d))(hW:∀s,Tgt s->fK P0 ok s->Wk P0 ok c Dr Q s)(hs:fK P0 ok s)(hH:HT P0 c Tgt s):Wk P0 ok c Dr Q s:=by
 have ha:=J9 hP Dy hI hT hs hH;induction ha with
 |intro s _ ih=>
  by_cases h0:Tgt s
  .exact hW s h0 hs
  have key:∀τ d,∃s',fw P0 c (s.re τ d) s':=by
   intro τ d;let⟨n,hn⟩:=hH τ d;cases n with
   |zero=>exact absurd (hT (s.re τ d) s.V.tape s.V.drawn hn) h0
   |succ n=>let⟨_,s',h1,_⟩:=hn;exact⟨s',h1⟩
  have hk:ok.aX s.fr.fn=true/\s.fr.kind=.normal:=by let⟨ρ,h1,_⟩:=hs;exact⟨h1.aX,h1.kind⟩
  refine .step (λτ d=>(key τ d).choose) hk.1 hk.2 (λτ d=>(key τ d).choose_spec) λτ d=>?_
  have:=HT.succ hP Dy hI hT hs hH h0 (key τ d).choose_spec;exact ih _ ⟨h0,τ,d,(key τ d).choose_spec⟩ this.2 this.1
def D5 (hP:dL P0 P0 ok)(Dy:Shut P0 ok)(hI:∀s,Tgt s->ok.aX s.fr.fn=true)(hF:jA P0 c){s1:St}(ht:Tgt s1):
  ∀(n:Nat) {s:St},fK P0 ok s->runN P0 n (lone s.fr (s.cs++[c]) s.V)=.next (lone s1.fr (s1.cs++[c]) s1.V)->∃k,vF P0 c Tgt k s:=by
 intro n;induction n with
 |zero=>
  intro s hs h;simp only[runN,Stepped.next.injEq]at h;let⟨e1,e2,e3⟩:=pT h;have e2:s.cs=s1.cs:=adq e2;have:s=s1:=by
   let⟨a,b,d⟩:=s;let⟨a1,b1,d1⟩:=s1;simp only at e1 e2 e3;rw[e1,e2,e3]
  exact⟨0,this▸ht⟩
 |succ n ih=>
  intro s hs h;by_cases h0:Tgt s
  .exact⟨0,h0⟩
  let⟨ρ,h1,h2,h3,h4⟩:=hs;have hs:fK P0 ok s:=⟨ρ,h1,h2,h3,h4⟩;have hk:(∃g2 V2 es,stepG P0 true (G s.fr<|s.cs++[c]) s.V=.go g2 V2 es)\/∃o w es,stepG P0 true (G s.fr<|s.cs++[c]) s.V=.ended o w es:=by
   cases hcs:s.cs++[c]with
   |nil=>simp at hcs
   |cons a l=>exact(De (m:=true) (c:=a) (cs:=l) hP h1 h4).1
  simp only[runN]at h;rcases hk with⟨g2,V2,es,hg⟩|⟨o,w,es,hg⟩
  .by_cases he:zg s
   .exfalso;have fin:∀fr2,g2=G fr2 []->(∀w,∃o w' es,stepG P0 true (G fr2 []) w=.ended o w' es)->False:=by
     intro fr2 e kh;subst e;rw[oR hg]at h;simp only at h;cases n with
     |zero=>
      simp only[runN,Stepped.next.injEq]at h;let⟨_,e2,_⟩:=pT h;simp at e2
     |succ n=>
      let⟨o,w',jI,hh⟩:=kh V2;simp only[runN,gU hh]at h;cases h
    rcases uh hP hs he hg with⟨v,e⟩|⟨ch,e⟩
    .exact fin _ e (hF.ret v)
    .exact fin _ e (hF.pan ch)
   .let⟨s',e1,e2,h5⟩:=sA hP hs he hg;subst e1 e2;rw[oR hg]at h;rcases h5 with h5|h5
    .let⟨k,hk⟩:=ih h5 h;exact⟨k+1,h0,s',⟨es,hg⟩,hk⟩
    .exfalso;let⟨ρ',f,xs,x1,x2,x3,_⟩:=h5;simp only at h;cases n with
     |zero=>
      simp only[runN,Stepped.next.injEq]at h;let⟨y1,_,_⟩:=pT h;have:=hI s1 ht;rw[<-y1,x1]at this;simp only[Frame.enter]at this;rw[x3]at this;cases this
     |succ n=>
      let⟨o,w',jI,hh⟩:=Dy f xs (s'.cs++[c]) s'.V x2 x3;rw[x1]at h;simp only[runN,gU hh]at h;cases h
  .rw[gU hg]at h;cases h
end
variable (P0 ok c Dr Q)in
def aj (s:St):Prop:=∀τ d,fK P0 ok (s.re τ d)->Wk P0 ok c Dr Q (s.re τ d)
def pu (ok:Ctx)(Dr:FuncId->Array Value->World->(Value->World->Prop)->Prop):Prop:=∀{f:FuncId} {xs:Array Value} {V V':World} {v:Value} {ρ:Ren} {R:Value->World->Prop},Dr f xs V R->R v V'->ax ok ρ xs xs->bN ok true ρ V V->∃σ,ρ.le σ/\aw ok σ v v/\bN ok true σ V' V'
def aj.of_steps (hP:dL P0 P0 ok)(Dy:Shut P0 ok)(hF:jA P0 c)(Good:St->Prop)(hI:∀s1,Good s1->ok.aX s1.fr.fn=true)
  (h:∀τ d,∃s1,Good s1/\Steps P0 (lone s.fr (s.cs++[c])<|re s.V τ d) (lone s1.fr (s1.cs++[c]) s1.V))(hW:∀s1,Good s1->aj P0 ok c Dr Q s1):aj P0 ok c Dr Q s:=by
 intro τ d hs;refine PH (Tgt:=λs1=>∃s0 τ d,Good s0/\s1=s0.re τ d) hP Dy ?_ ?_ ?_ hs ?_
 .rintro _ ⟨s0,τ,d,hg,rfl⟩;exact hI s0 hg
 .rintro _ τ' d' ⟨s0,τ,d,hg,rfl⟩;exact⟨s0,τ',d',hg,rfl⟩
 .rintro _ ⟨s0,τ,d,hg,rfl⟩ hs;exact hW s0 hg τ d hs
 .intro τ' d';let⟨s1,hg,n,hn⟩:=h τ' d';exact D5 (s1:=s1) hP Dy (by rintro _ ⟨s0,τ,d,hg,rfl⟩;exact hI s0 hg) hF ⟨s1,s1.V.tape,s1.V.drawn,hg,rfl⟩ n (hs.re τ' d') hn
def aj.door (hP:dL P0 P0 ok)(hDS:pu ok Dr)(hf:ok.aX f=false)(hgo:∀τ d,fw P0 c (s.re τ d) ⟨Frame.enter P0 f xs .normal,s.fr::s.cs,re s.V τ d⟩)
  {R:(Nat->Question->Nat)->Nat->Value->World->Prop}(hp:∀τ d,Dr f xs (re s.V τ d)<|R τ d)(h:∀τ d v V',R τ d v V'->aj P0 ok c Dr Q ⟨s.fr.finish v,s.cs,V'⟩):aj P0 ok c Dr Q s:=by
 intro τ d hs;have hk:ok.aX s.fr.fn=true/\s.fr.kind=.normal:=by let⟨ρ,h1,_⟩:=hs;exact⟨h1.aX,h1.kind⟩
 refine .step (s:=s.re τ d) (λτ' d'=>⟨Frame.enter P0 f xs .normal,s.fr::s.cs,re s.V τ' d'⟩) hk.1 hk.2 hgo λτ' d'=>.door hf (hp τ' d') λv V' hD=>?_
 have mL:=hs.re τ' d';let⟨es,hg⟩:=hgo τ' d';let⟨s2,e1,e2,h2⟩:=sA (s:=s.re τ' d') (c:=c) hP mL (fw.inside hP mL ⟨es,hg⟩) hg;let⟨fr2,Dw,V2⟩:=s2;have e3:=congrArg Goroutine.frame e1;have e4:=congrArg Goroutine.callers e1;simp only[G]at e3 e4 e2;have e4:s.fr::s.cs=Dw:=adq e4;subst e3 e4 e2;refine h τ' d' v V' hD V'.tape V'.drawn ?_;rcases h2 with⟨ρ,x1,_⟩|⟨ρ,f',xs',x1,x2,x3,x4,x5,x6,x7⟩
 .exfalso;have:=x1.aX;simp only[Frame.enter]at this;rw[hf]at this;cases this
 .have x1:Frame.enter P0 f xs .normal=Frame.enter P0 f' xs' .normal:=x1;have hff:=congrArg Frame.fn x1;simp only[Frame.enter]at hff;subst hff;let⟨xs2,y1,y2⟩:=xe (ok:=ok) (ρ:=ρ) rfl x1 x4;have hxx:ax ok ρ xs xs:=by
   have et:=congrArg Frame.tmps<|y2.trans x1.symm;simp only[Frame.enter]at et;rw[<-y1.size]at et;have:xs2=xs:=(Array.append_inj et y1.size.symm).1;rw[this]at y1;exact y1
  let⟨σ,z1,z2,z3⟩:=hDS (hp τ' d') hD hxx x6;cases x5 with
  |cons b1 b2=>
   refine⟨σ,(b1.mono z1).finish z2,b2.mono z1,?_,z3⟩;have:tU s.fr s.cs:=λg hg=>x7 g hg
   exact this.swap (by
    show(s.fr.finish v).roundOf=s.fr.roundOf;cases s.fr with|mk fn tmps todo defers mode kind roundOf=>cases todo with
     |nil=>rfl
     |cons x l=>cases x<;>first|rfl|(rename_i ops l2;cases l2<;>rfl))
def aj.ends (h:∀τ d,zf P0 Q<|s.re τ d)(hr:∃fn t,P0.funcs[s.fr.fn]?=some fn/\fn.results=#[.tmp t]):aj P0 ok c Dr Q s:=λ_ _ _=>.ends h hr
end
