import Derived.Test.YtlmcblcijndipaaGreatDoora13
import Derived.Test.YtlmcblcijndipaaGreatDoora11
set_option linter.defProp false
set_option linter.unusedSimpArgs false
set_option linter.unusedVariables false
set_option maxHeartbeats 4000000
set_option maxRecDepth 100000
namespace Go.Proofs.YtlmcblcijndipaaGreatDoor
open Conc Conc.Lib ConcR.Gen RowKit
variable {xs:Array Value}{ok:Ctx}{c:Frame}{f:FuncId}{rb:List Frame}{bl bn lc ln n nc nn r4 tb wg:Nat}{M:Nat->Prop}{la na:Option Addr}{P P0:Program}{s s':St}{u v:Value}{W acH ah w:World}
def Iw {b:Nat}{e:TypeId}(h:w.heap[b]?=some (.cells #[v] e (0,0))):(w.setCell b u).heap[b]?=some (.cells #[u] e (0,0)):=by
 rw[setCell_eq_setRow w b 0 _ _ _ u h,setRow_heap _ _ _ _ _ _ h];rfl
noncomputable def dQ:Code:=Tryz.f139.body.getD .skip
noncomputable def li:Code:=(jZ dQ).getD .skip
def fE:Code->Code
 |.seq _ b=>b
 |c=>c
noncomputable def iT:Code:=fE<|fE<|fE<|fE<|fE dQ
noncomputable def uR:Array Oper:=(nj 10 dQ).getD #[]
noncomputable def acG:Array Oper:=(nj 8 dQ).getD #[]
section
variable [Gl]{J:Jb}{p:Ph}{M' Ro0:Nat->Prop}{Wst:World}{cs:List Frame}{t0 t1:Value}
structure BT (J:Jb)(P0:Program)(p:Ph)(ok:Ctx)(M' Ro0:Nat->Prop)(Wst:World)(Ro M:Nat->Prop)(W:World):Prop where
 Zv:mN J P0 p ok Ro W
 sub:∀b,M' b\/Ro0 b->M b\/Ro b
 keep:aK (λb=>M' b\/Ro0 b) Wst W
 sp:∀b,p.Sp b->¬M b/\¬Ro b/\b<W
 lt:∀b,M b\/Ro b->b<W
 mr:∀b,M b->¬Ro b
 gl:Gl.n<=W
 wb:p.Wg≠p.Bs
section
variable {Ro:Nat->Prop}
def BT.rely (h:BT J P0 p ok M' Ro0 Wst Ro M W)(k:aK (λb=>M b\/Ro b) W ah):BT J P0 p ok M' Ro0 Wst Ro M ah:=
 ⟨h.Zv.mono (λ_ h=>h)<|k.mono λ_ x=>.inr x,h.sub,h.keep.trans<|k.mono h.sub,λb hb=>⟨(h.sp b hb).1,(h.sp b hb).2.1,ac6 (h.sp b hb).2.2 k.size⟩,λb hb=>ac6 (h.lt b hb) k.size,h.mr,ac8 h.gl k.size,h.wb⟩
def BT.alloc (h:BT J P0 p ok M' Ro0 Wst Ro M W)(o:Obj):BT J P0 p ok M' Ro0 Wst Ro (grow M W<|W.alloc o) (W.alloc o):=by
 have z:(W.alloc o).heap.size=W.heap.size+1:=by show(W.heap.push o).size=_;simp
 have hb:∀b,b<W.heap.size->(W.alloc o).heap[b]?=W.heap[b]?:=λb hb=>Below.heap_alloc _ _ _ hb
 have hk:aK (λb=>M b\/Ro b) W (W.alloc o):=⟨λb x=>hb b<|h.lt b x,by rw[z];omega,rfl,rfl⟩;refine⟨h.Zv.mono (λ_ h=>h)<|hk.mono λ_ x=>.inr x,λb x=>(h.sub b x).imp .inl id,h.keep.trans<|hk.mono h.sub,λb x=>?_,λb x=>?_,λb x=>?_,by rw[z];have:=h.gl;omega,h.wb⟩
 .let⟨h1,h2,h3⟩:=h.sp b x;exact⟨λy=>y.elim h1 λy=>aa,h2,by rw[z];omega⟩
 .rw[z];rcases x with(x|⟨_,x⟩)|x
  .have:=h.lt b<|.inl x;omega
  .rw[z]at x;exact x
  .have:=h.lt b<|.inr x;omega
 .rcases x with x|⟨x,_⟩
  .exact h.mr b x
  .exact λy=>by have:=h.lt b<|.inr y;omega
def BT.set (h:BT J P0 p ok M' Ro0 Wst Ro M W){a:Addr}(v:Value)(ha:¬(M' a.block\/Ro0 a.block))(hr:¬Ro a.block):BT J P0 p ok M' Ro0 Wst Ro M (W.setCell a v):=by
 have z:(W.setCell a v).heap.size=W.heap.size:=(aside_setCell W a v).size;have hb:∀b,b≠a.block->(W.setCell a v).heap[b]?=W.heap[b]?:=λb hb=>Below.heap_setCell _ _ _ _ hb
 have hkr:aK Ro W (W.setCell a v):=⟨λb x=>hb b λe=>hr<|e▸x,by rw[z];omega,rfl,rfl⟩;exact⟨h.Zv.mono (λ_ h=>h) hkr,h.sub,h.keep.trans ⟨λb x=>hb b λe=>ha<|e▸x,by rw[z];omega,rfl,rfl⟩,λb x=>by rw[z];exact h.sp b x,λb x=>by rw[z];exact h.lt b x,h.mr,by rw[z];exact h.gl,h.wb⟩
def BT.go (h:BT J P0 p ok M' Ro0 Wst Ro M W){bi:Nat}(hM:M bi):BT J P0 p ok M' Ro0 Wst (λb=>Ro b\/b=bi) (λb=>M b/\¬(Ro b\/b=bi)) W:=by
 refine⟨h.Zv.mono (λ_ h=>.inl h)<|aK.refl _ _,λb x=>?_,h.keep,λb x=>?_,λb x=>?_,λb x=>x.2,h.gl,h.wb⟩
 .rcases h.sub b x with y|y
  .by_cases e:b=bi
   .exact .inr (.inr e)
   .exact .inl ⟨y,λz=>z.elim (h.mr b y) e⟩
  .exact .inr (.inl y)
 .let⟨h1,h2,h3⟩:=h.sp b x;exact⟨λy=>h1 y.1,λy=>y.elim h2 λe=>h1<|e▸hM,h3⟩
 .rcases x with x|x|rfl
  .exact h.lt b (.inl x.1)
  .exact h.lt b (.inr x)
  .exact h.lt _ (.inl hM)
end
def Xg (J:Jb)(P0:Program)(p:Ph)(ok:Ctx)(M' Ro0:Nat->Prop)(Wst:World)(r4:Nat)(t0 t1:Value)(a:Act)(Ro M:Nat->Prop)(W:World):Prop:=
 (∃v8 v9 v10 v12 v13 v14 v15 v16 v17 v18 v19 v20:Value,a=⟨#[t0,t1,.pointer J.bl,.pointer J.bn,.pointer r4,.pointer J.tb,.pointer p.Wg,.pointer J.bb,v8,v9,v10,(4:Int),v12,v13,v14,v15,v16,v17,v18,v19,v20],[]⟩)/\BT J P0 p ok M' Ro0 Wst Ro M W
omit [Gl] in
def KM (Anch:(Nat->Prop)->(Nat->Prop)->Goroutine->World->Prop)(r:Nat)(Ro:Nat->Prop):∃Stop,∀M g W,p.Spawns Anch r Ro M g W=ET p.P true p.I p.dE Ro Stop M g W:=by
 cases r<;>exact⟨_,λ_ _ _=>rfl⟩
def Ok (eG:dM P0 P0 ok)(hP:dM P0 Tryz.prog ok)(iv:∀f,ok.fn f=true->ok.bh f=true)(yY:jE P0 c)(hL:p.L<4611686018427387904)(qM:p.P=Tryz.prog)(hn4:p.n=4)(r:Nat):
  ∀(j:Nat) (v8 v9 v10 v13 v14 v15 v16 v17 v18 v19 v20:Value) (Ro M:Nat->Prop) (W:World),j+r=4->BT J P0 p ok M' Ro0 Wst Ro M W->
   p.Spawns (p.Xe link (Xg J P0 p ok M' Ro0 Wst r4 t0 t1) (base 139) uR 0 [] [.code (fE iT)] cs) r Ro M (G ((base 139).at ⟨#[t0,t1,.pointer<|some ⟨J.bl,0,none⟩,.pointer<|some ⟨J.bn,0,none⟩,.pointer<|some ⟨r4,0,none⟩,.pointer<|some ⟨J.tb,0,none⟩,.pointer<|some ⟨p.Wg,0,none⟩,.pointer<|some ⟨J.bb,0,none⟩,v8,v9,v10,.int .i64 4,.int .i64 j,v13,v14,v15,v16,v17,v18,v19,v20],[]⟩ [.code li,.inLoop li,.inBlock 0,.code iT]) cs) W:=by
 have H:WgLib p.P link:=qM▸Bc;obtain⟨An,R7⟩:∃An,An=p.Xe link (Xg J P0 p ok M' Ro0 Wst r4 t0 t1) (base 139) uR 0 [] [.code (fE iT)] cs:=⟨_,rfl⟩;rw[<-R7];induction r with
 |zero=>
  intro j v8 v9 v10 v13 v14 v15 v16 v17 v18 v19 v20 Ro M W hj hb;obtain rfl:j=4:=aa;show ET p.P true p.I p.dE Ro (p.AtKd An Ro) M _ W;simp only[li,iT,dQ,Tryz.f139,Option.getD_some,jZ,fE,Option.or_some,Option.or_none,Option.none_or];rw[qM];apply ET.sr;refine ET.z ?_;apply ET.rn;apply ET.sq;refine ET.gJ rfl ?_;refine ET.c (λ_=>stepG_exit rfl) ?_;apply ET.sr;refine ET.k rfl λ_ _ _=>goes_call rfl rfl (by k_ne) rfl Bc.f_wait (nm_wait link) rfl ⟨⟨rfl,λe he=>ia⟩,?_⟩;walk_nrmf waitFn
  have hA:=Ph.waitStart (p:=p) (L:=link) (F:=Xg J P0 p ok M' Ro0 Wst r4 t0 t1) (acK:=base 139) (ops0:=uR) (acN:=0) (rest0:=[]) (acO:=[.code (fE iT)]) (cs:=cs) (Ro:=Ro) (M:=M) (acU:=W) (acI:=⟨#[t0,t1,.pointer J.bl,.pointer J.bn,.pointer r4,.pointer J.tb,.pointer p.Wg,.pointer J.bb,v8,v9,v10,(4:Int),(4:Int),false,v14,v15,v16,v17,v18,v19,v20],[]⟩) H λw k=>⟨⟨v8,v9,v10,_,_,v14,v15,v16,v17,v18,v19,v20,rfl⟩,hb.rely k⟩;rw[<-R7,qM]at hA;simp only[body_wait,waitFn,Option.getD_some]at hA;exact hA
 |succ r ih=>
  intro j v8 v9 v10 v13 v14 v15 v16 v17 v18 v19 v20 Ro M W hj hb;show ET p.P true p.I p.dE Ro (p.AtKdS Ro (p.n-(r+1))<|p.Spawns An r) M _ W;have ej:p.n-(r+1)=j:=aa;rw[ej];have aB:(j:Int)<4:=aa;have hd:decide ((j:Int)<4)=true:=decide_eq_true aB;simp only[li,iT,dQ,Tryz.f139,Option.getD_some,jZ,fE,Option.or_some,Option.or_none,Option.none_or];rw[qM];apply ET.sr;refine ET.z ?_;apply ET.rn;apply ET.sq;refine ET.kX rfl ?_;apply ET.sk;apply ET.sq;refine ET.c (λ_=>stepG_block) ?_;apply ET.sr;refine ET.z ?_;refine ET.oper rfl rfl (by k_ne) λah acP _=>⟨.pointer<|some ⟨ah.heap.size,0,none⟩,ah.alloc<|.cells #[(0:Int)] 3,?_,?_,?_⟩
  .go_simp
  .refine eP.alloc _ λe he=>?_
   have hm:=mem_listed he;simp[go_sem]at hm
  walk_nrm
  have IB:=hb.rely acP;have z0:(ah.alloc<|.cells #[(0:Int)] 3).heap.size=ah.heap.size+1:=by show(ah.heap.push _).size=_;simp
  have tT:grow M ah (ah.alloc<|.cells #[(0:Int)] 3) ah.heap.size:=.inr ⟨ac5 _,by rw[z0];omega⟩;have DN:=IB.alloc<|.cells #[(0:Int)] 3;have Fz:¬(M' ah.heap.size\/Ro0 ah.heap.size):=λe=>by have:=IB.lt _<|IB.sub _ e;omega
  have O3:(ah.alloc<|.cells #[(0:Int)] 3).heap[ah.heap.size]?=some (.cells #[(0:Int)] 3 (0,0)):=heap_alloc_new _ _;generalize ah.alloc (.cells #[(0:Int)] 3)=dx at DN tT O3 z0⊢;generalize grow M ah dx=pq at DN tT⊢;generalize ah.heap.size=bi at tT Fz O3 z0⊢;clear IB hb;refine ET.none rfl rfl (by k_ne) λdv dB _=>⟨dv.setCell ⟨bi,0,none⟩<|.int .i64 j,?_,?_,?_⟩
  .have hc:=fy<|(dB.block _<|.inl tT).trans O3;have hz:dv.frozen? bi=false:=by simp[World.frozen?,(dB.block _<|.inl tT).trans O3]
   go_simp
  .have hc:=fy<|(dB.block _<|.inl tT).trans O3;have hz:dv.frozen? bi=false:=by simp[World.frozen?,(dB.block _<|.inl tT).trans O3]
   refine eP.set _ tT λe he=>?_
   have hm:=mem_listed he;simp[go_sem,hc,hz]at hm;subst hm;exact gA tT
  rw[cJ (aside_setCell dv ⟨bi,0,none⟩<|.int .i64 j).size];have sL:=(DN.rely dB).set (a:=⟨bi,0,none⟩) (.int .i64 j) Fz<|DN.mr _ tT;have Au:(dv.setCell ⟨bi,0,none⟩<|.int .i64 j).heap[bi]?=some (.cells #[.int .i64 j] 3 (0,0)):=Iw<|(dB.block _<|.inl tT).trans O3;generalize dv.setCell ⟨bi,0,none⟩ (.int .i64 j)=qA at sL Au⊢;clear DN dB O3;walk_nrm
  apply ET.ns;refine ET.k rfl λ_ _ _=>goes_call rfl rfl (by k_ne) rfl Bc.f_add (nm_add link) rfl ⟨⟨rfl,λe he=>ia⟩,?_⟩;walk_nrmf addFn
  have hA:=@Ph.addPos p pq Ro link j<|p.Spawns An r;simp only[body_add,addFn,Option.getD_some,qM]at hA;refine hA Bc (λe=>e.elim (sL.sp _<|.inl rfl).1 (sL.sp _<|.inl rfl).2.1) λw k=>?_;clear hA;replace sL:=sL.rely k;replace Au:=(k.block _<|.inl tT).trans Au;clear k;walk_nrm
  apply ET.rn;apply ET.rg;refine ET.val (.func (.func 156) #[] #[.pointer p.Wg,.pointer J.bl,.pointer J.bn,.pointer J.tb,.pointer J.bb,.pointer bi]) rfl rfl (by k_ne) (λOW _ _=>⟨?_,λe he=>?_⟩) ?_
  .go_simp
   rfl
  .simp[go_sem]at he;change e∈#[]at he;simp at he
  walk_nrm
  refine ET.stop λOW Cs acD=>?_
  replace sL:=sL.rely Cs;replace Au:=(Cs.block _<|.inl tT).trans Au;clear Cs;refine⟨rfl,?gx,born Tryz.prog<|call47 J p.Wg bi,λb=>Ro b\/b=bi,?_,rfl,λb hb=>.inl hb,λb hb=>hb.elim .inl λe=>.inr<|e▸tT,?_,?_⟩;rotate_left 1
  .rw[qM,stepG_spawn (d:=call47 J p.Wg bi) (w':=OW) (f:=.func 156) (c:=#[.pointer p.Wg,.pointer J.bl,.pointer J.bn,.pointer J.tb,.pointer J.bb,.pointer bi]) rfl rfl (by k_ne) (by simp[go_sem,call47,Deferred.ofValue]) rfl];generalize hL:listed _ _ _ _ _=Lx;have hLx:Lx=#[]:=by
    rw[<-hL];simp[listed,go_sem,seen,Deferred.ofValue];rfl
   subst hLx;rfl
  .have dw:=sL.go tT;exact Ta dw.Zv eG hP iv yY hL aa (.inr rfl) Au dw.wb (λb hb=>(dw.sp b hb).2.1) (λb hb=>hb.elim (λx=>(dw.sp b x).2.2) λx=>dw.lt b<|.inr x) dw.gl
  .have dw:=sL.go tT;let⟨Stop,hS⟩:=KM (p:=p) An r λb=>Ro b\/b=bi;have Ce:IntKind.i64.wrap ((j:Int)+1)=((j+1:Nat):Int):=hZ;rw[hS,qM];walk_nrm
   apply ET.rn;refine ET.c (λ_=>stepG_inBlock) ?_;apply ET.rg;refine ET.z ?_;refine ET.z ?_;apply ET.rn;refine ET.c (λ_=>stepG_inLoop) ?_;have hI:=ih (j+1) (.pointer<|some ⟨bi,0,none⟩) v9 v10 (.bool true) (.int .i64 j) (.tuple #[]) (.func (.func 156) #[] #[.pointer<|some ⟨p.Wg,0,none⟩,.pointer<|some ⟨J.bl,0,none⟩,.pointer<|some ⟨J.bn,0,none⟩,.pointer<|some ⟨J.tb,0,none⟩,.pointer<|some ⟨J.bb,0,none⟩,.pointer<|some ⟨bi,0,none⟩]) (.int .i64 ((j+1:Nat):Int)) v18 v19 v20 _ _ OW aa dw;rw[hS,qM]at hI;exact hI
end
noncomputable def AK:Array Oper:=(nj 1 dQ).getD #[]
noncomputable def AL:Array Oper:=(nj 2 dQ).getD #[]
structure EN (ft:Nat->Prop)(acH:World)(M:Nat->Prop)(W:World):Prop where
 own:∀b,ft b->M b
 keep:aK ft acH W
 lt:∀b,M b->b<W
 new:∀b,M b->ft b\/acH.heap.size<=b
section
variable {ft:Nat->Prop}
def EN.rely (h:EN ft acH M W)(k:aK (λb=>M b\/False) W ah):EN ft acH M ah:=⟨h.own,h.keep.trans<|k.mono λb hb=>.inl<|h.own b hb,λb hb=>ac6 (h.lt b hb) k.size,h.new⟩
def EN.alloc (h:EN ft acH M W)(o:Obj):EN ft acH (grow M W<|W.alloc o) (W.alloc o):=by
 have z:(W.alloc o).heap.size=W.heap.size+1:=by show(W.heap.push o).size=_;simp
 refine⟨λb hb=>.inl<|h.own b hb,h.keep.trans ⟨λb hb=>Below.heap_alloc _ _ _<|h.lt b<|h.own b hb,by rw[z];omega,rfl,rfl⟩,λb hb=>hb.elim (λx=>by rw[z];have:=h.lt b x;omega) And.right,λb hb=>hb.elim (h.new b) λx=>.inr<|ac8 h.keep.size x.1⟩
end
def TU (hM:∀b,M b->b<W):
  ET Tryz.prog true (λ_=>True) Ph.nE (λ_=>False) (λM' g W'=>∃bl bn r4,g=G ((base 139).at ⟨#[.slice la ln lc,.slice na nn nc,.pointer<|some ⟨bl,0,none⟩,.pointer<|some ⟨bn,0,none⟩,.pointer<|some ⟨r4,0,none⟩,ud,ud,ud,ud,ud,ud,ud,ud,ud,ud,ud,ud,ud,ud,ud,ud],[]⟩ [.inRegion AK [0],.code (fE<|fE dQ)]) rb/\EN M W M' W'/\(W.heap.size<=bl/\bl<bn/\bn<r4)/\M' bl/\M' bn/\M' r4/\
    W'.heap[bl]?=some (.cells #[.slice la ln lc] 23 (0,0))/\W'.heap[bn]?=some (.cells #[.slice na nn nc] 179 (0,0))/\W'.heap[r4]?=some (.cells d7.cells.toArray 177 (0,0)))
   M (G ((base 139).at ⟨#[.slice la ln lc,.slice na nn nc,ud,ud,ud,ud,ud,ud,ud,ud,ud,ud,ud,ud,ud,ud,ud,ud,ud,ud,ud],[]⟩ [.code dQ]) rb) W:=by
 have z0:∀(w:World) (o:Obj),(w.alloc o).heap.size=w.heap.size+1:=λw o=>by show(w.heap.push o).size=_;simp
 have hE:EN M W M W:=⟨λ_ h=>h,aK.refl _ _,hM,λ_ h=>.inl h⟩;simp only[dQ,Tryz.f139,Option.getD_some];apply ET.sr;refine ET.oper rfl rfl (by k_ne) λah acP _=>⟨.pointer<|some ⟨ah.heap.size,0,none⟩,ah.alloc<|.cells #[.slice la ln lc] 23,?_,?_,?_⟩
 .go_simp
 .refine eP.alloc _ λe he=>?_
  have hm:=mem_listed he;simp[go_sem]at hm
 walk_nrm
 have h1:=(hE.rely acP).alloc<|.cells #[.slice la ln lc] 23;have m1:grow M ah (ah.alloc<|.cells #[.slice la ln lc] 23) ah.heap.size:=.inr ⟨ac5 _,by rw[z0];omega⟩;have c1:(ah.alloc<|.cells #[.slice la ln lc] 23).heap[ah.heap.size]?=some (.cells #[.slice la ln lc] 23 (0,0)):=heap_alloc_new _ _;have s1:=acP.size;have y1:=z0 ah<|.cells #[.slice la ln lc] 23;generalize ah.alloc (.cells #[.slice la ln lc] 23)=LC at h1 m1 c1 y1⊢;generalize grow M ah LC=ga at h1 m1⊢;generalize ah.heap.size=bl at m1 c1 s1 y1⊢;refine ET.oper rfl rfl (by k_ne) λdx acQ _=>⟨.pointer<|some ⟨dx.heap.size,0,none⟩,dx.alloc<|.cells #[.slice na nn nc] 179,?_,?_,?_⟩
 .go_simp
 .refine eP.alloc _ λe he=>?_
  have hm:=mem_listed he;simp[go_sem]at hm
 walk_nrm
 have h2:=(h1.rely acQ).alloc<|.cells #[.slice na nn nc] 179;have m2:grow ga dx (dx.alloc<|.cells #[.slice na nn nc] 179) dx.heap.size:=.inr ⟨ac5 _,by rw[z0];omega⟩;have s2:=acQ.size;have y2:=z0 dx<|.cells #[.slice na nn nc] 179;have c2:(dx.alloc<|.cells #[.slice na nn nc] 179).heap[dx.heap.size]?=some (.cells #[.slice na nn nc] 179 (0,0)):=heap_alloc_new _ _;have TE:(dx.alloc<|.cells #[.slice na nn nc] 179).heap[bl]?=some (.cells #[.slice la ln lc] 23 (0,0)):=(Below.heap_alloc _ _ _ aa).trans<|(acQ.block _<|.inl m1).trans c1;have Pc:grow ga dx (dx.alloc<|.cells #[.slice na nn nc] 179) bl:=.inl m1;generalize dx.alloc (.cells #[.slice na nn nc] 179)=PA at h2 m2 c2 TE Pc y2⊢;generalize grow ga dx PA=pq at h2 m2 Pc⊢;generalize dx.heap.size=bn at m2 c2 s2 y2⊢;refine ET.oper rfl rfl (by k_ne) λdv dB _=>⟨.pointer<|some ⟨dv.heap.size,0,none⟩,dv.alloc<|.cells #[false,(0:Int),(0:Int),()] 177,?_,?_,?_⟩
 .go_simp
 .refine eP.alloc _ λe he=>?_
  have hm:=mem_listed he;simp[go_sem]at hm
 walk_nrm
 have h3:=(h2.rely dB).alloc<|.cells #[false,(0:Int),(0:Int),()] 177;have m3:grow pq dv (dv.alloc<|.cells #[false,(0:Int),(0:Int),()] 177) dv.heap.size:=.inr ⟨ac5 _,by rw[z0];omega⟩;have s3:=dB.size;have c3:(dv.alloc<|.cells #[false,(0:Int),(0:Int),()] 177).heap[dv.heap.size]?=some (.cells d7.cells.toArray 177 (0,0)):=heap_alloc_new _ _;have R2:(dv.alloc<|.cells #[false,(0:Int),(0:Int),()] 177).heap[bn]?=some (.cells #[.slice na nn nc] 179 (0,0)):=(Below.heap_alloc _ _ _ aa).trans<|(dB.block _<|.inl m2).trans c2;have LV:(dv.alloc<|.cells #[false,(0:Int),(0:Int),()] 177).heap[bl]?=some (.cells #[.slice la ln lc] 23 (0,0)):=(Below.heap_alloc _ _ _ aa).trans<|(dB.block _<|.inl Pc).trans TE;have QF:grow pq dv (dv.alloc<|.cells #[false,(0:Int),(0:Int),()] 177) bl:=.inl Pc;have m2':grow pq dv (dv.alloc<|.cells #[false,(0:Int),(0:Int),()] 177) bn:=.inl m2;generalize dv.alloc (.cells #[.bool false,(0:Int),(0:Int),.slice none 0 0] 177)=Tp at h3 m3 c3 R2 LV QF m2'⊢;generalize grow pq dv Tp=aah at h3 m3 QF m2'⊢;generalize dv.heap.size=r4 at m3 c3 s3⊢;apply ET.ns;refine ET.stop λqA kv _=>⟨bl,bn,r4,rfl,h3.rely kv,⟨aa,aa,aa⟩,QF,m2',m3,(kv.block _<|.inl QF).trans LV,(kv.block _<|.inl m2').trans R2,(kv.block _<|.inl m3).trans c3⟩
def Rq (w:World):stepG Tryz.prog true (G ((base 139).at ⟨#[.slice la ln lc,.slice na nn nc,.pointer bl,.pointer bn,.pointer r4,ud,ud,ud,ud,ud,ud,ud,ud,ud,ud,ud,ud,ud,ud,ud,ud],[]⟩ [.inRegion AK [0],.code (fE<|fE dQ)]) rb) w=
  .go (G ((base 139).at ⟨#[.slice la ln lc,.slice na nn nc,.pointer bl,.pointer bn,.pointer r4,.pointer w.heap.size,ud,ud,ud,ud,ud,ud,ud,ud,ud,ud,ud,ud,ud,ud,ud],[]⟩ [.inRegion AK [],.code (fE<|fE dQ)]) rb) (w.alloc<|.cells #[(0:Int)] 203) #[]:=by
 obtain⟨o,ho,bz,hd,hg⟩:∃o,AK[0]?=some o/\o.op=.alloc 203/\o.dst=some 5/\o.guard=none:=⟨_,rfl,rfl,rfl,rfl⟩;have hr:∀f,(execOp f o).run Tryz.prog w=.ok (.value<|.pointer w.heap.size) (w.alloc<|.cells #[(0:Int)] 203):=λf=>by
  unfold execOp;simp only[bz];go_simp
 have he:∀f,(execOp f o).events Tryz.prog w #[]=#[]:=λf=>by
  unfold execOp;simp only[bz];simp[go_sem]
 rw[pi ho kV (by k_ne) (hr _)];unfold listed;rw[he,seen_none,hd];walk_nrm
def Rr (w:World):stepG Tryz.prog true (G ((base 139).at ⟨#[.slice la ln lc,.slice na nn nc,.pointer bl,.pointer bn,.pointer r4,.pointer tb,ud,ud,ud,ud,ud,ud,ud,ud,ud,ud,ud,ud,ud,ud,ud],[]⟩ [.inRegion AL [0],.code (fE<|fE<|fE dQ)]) rb) w=
  .go (G ((base 139).at ⟨#[.slice la ln lc,.slice na nn nc,.pointer bl,.pointer bn,.pointer r4,.pointer tb,.pointer w.heap.size,ud,ud,ud,ud,ud,ud,ud,ud,ud,ud,ud,ud,ud,ud],[]⟩ [.inRegion AL [],.code (fE<|fE<|fE dQ)]) rb) (w.alloc<|.cells #[.int .u64 0,.int .u32 0] 210) #[]:=by
 obtain⟨o,ho,bz,hd,hg⟩:∃o,AL[0]?=some o/\o.op=.alloc 210/\o.dst=some 6/\o.guard=none:=⟨_,rfl,rfl,rfl,rfl⟩;have hr:∀f,(execOp f o).run Tryz.prog w=.ok (.value<|.pointer w.heap.size) (w.alloc<|.cells #[.int .u64 0,.int .u32 0] 210):=λf=>by
  unfold execOp;simp only[bz];go_simp
 have he:∀f,(execOp f o).events Tryz.prog w #[]=#[]:=λf=>by
  unfold execOp;simp only[bz];simp[go_sem]
 rw[pi ho kV (by k_ne) (hr _)];unfold listed;rw[he,seen_none,hd];walk_nrm
def TV:ET Tryz.prog true (λ_=>True) Ph.nE (λ_=>False) (λM' g W'=>M'=M/\aK M W W'/\g=G ((base 139).at ⟨#[.slice la ln lc,.slice na nn nc,.pointer bl,.pointer bn,.pointer r4,.pointer tb,ud,ud,ud,ud,ud,ud,ud,ud,ud,ud,ud,ud,ud,ud,ud],[]⟩ [.inRegion AL [0],.code (fE<|fE<|fE dQ)]) rb)
  M (G ((base 139).at ⟨#[.slice la ln lc,.slice na nn nc,.pointer bl,.pointer bn,.pointer r4,.pointer tb,ud,ud,ud,ud,ud,ud,ud,ud,ud,ud,ud,ud,ud,ud,ud],[]⟩ [.inRegion AK [],.code (fE<|fE dQ)]) rb) W:=by
 simp only[dQ,Tryz.f139,Option.getD_some,fE];apply ET.ns;exact ET.stop λah acP _=>⟨rfl,acP.mono λb hb=>.inl hb,rfl⟩
def Tb (w:World):(Instr.makeSlice 211 (.int .i64 4)<|.int .i64 4).run Tryz.prog w=.ok (.slice w.heap.size 4 4) (w.alloc<|.cells #[false,(0:Int),(0:Int),(),false,(0:Int),(0:Int),(),false,(0:Int),(0:Int),(),false,(0:Int),(0:Int),()] 177):=bD
def XJ (w:World)(es:Array Event):(Instr.makeSlice 211 (.int .i64 4)<|.int .i64 4).events Tryz.prog w es=es:=bD
def TW (hM:∀b,M b->b<W):
  ET Tryz.prog true (λ_=>True) Ph.nE (λ_=>False) (λM' g W'=>∃(Bs bb:Nat) (v9 v10:Value),g=G ((base 139).at ⟨#[.slice la ln lc,.slice na nn nc,.pointer bl,.pointer bn,.pointer r4,.pointer tb,.pointer wg,.pointer bb,undef,v9,v10,(4:Int),(0:Int),ud,ud,ud,ud,ud,ud,ud,ud],[]⟩ [.code li,.inLoop li,.inBlock 0,.code iT]) rb/\EN M W M' W'/\(W.heap.size<=Bs/\Bs<bb)/\M' Bs/\M' bb/\
    W'.heap[bb]?=some (.cells #[.slice Bs 4 4] 211 (0,0))/\∃cs,W'.heap[Bs]?=some (.cells cs 177 (0,0))/\cs.size=16)
   M (G ((base 139).at ⟨#[.slice la ln lc,.slice na nn nc,.pointer bl,.pointer bn,.pointer r4,.pointer tb,.pointer wg,ud,ud,ud,ud,ud,ud,ud,ud,ud,ud,ud,ud,ud,ud],[]⟩ [.inRegion AL [],.code (fE<|fE<|fE dQ)]) rb) W:=by
 have z0:∀(w:World) (o:Obj),(w.alloc o).heap.size=w.heap.size+1:=λw o=>by show(w.heap.push o).size=_;simp
 have hE:EN M W M W:=⟨λ_ h=>h,aK.refl _ _,hM,λ_ h=>.inl h⟩;simp only[li,iT,dQ,Tryz.f139,Option.getD_some,jZ,fE,Option.or_some,Option.or_none,Option.none_or];apply ET.ns;refine ET.oper rfl rfl (by k_ne) λah acP _=>⟨.slice (some ⟨ah.heap.size,0,none⟩) 4 4,ah.alloc<|.cells #[false,(0:Int),(0:Int),(),false,(0:Int),(0:Int),(),false,(0:Int),(0:Int),(),false,(0:Int),(0:Int),()] 177,?_,?_,?_⟩
 .go_simp
  rw[Tb];rfl
 .refine eP.alloc _ λe he=>?_
  have hm:=mem_listed he;simp[go_sem]at hm;rw[XJ]at hm;simp at hm
 walk_nrm
 have h1:=(hE.rely acP).alloc<|.cells #[false,(0:Int),(0:Int),(),false,(0:Int),(0:Int),(),false,(0:Int),(0:Int),(),false,(0:Int),(0:Int),()] 177;have m1:grow M ah (ah.alloc<|.cells #[false,(0:Int),(0:Int),(),false,(0:Int),(0:Int),(),false,(0:Int),(0:Int),(),false,(0:Int),(0:Int),()] 177) ah.heap.size:=.inr ⟨ac5 _,by rw[z0];omega⟩;have c1:∃cs:Array Value,(ah.alloc<|.cells #[false,(0:Int),(0:Int),(),false,(0:Int),(0:Int),(),false,(0:Int),(0:Int),(),false,(0:Int),(0:Int),()] 177).heap[ah.heap.size]?=some (.cells cs 177 (0,0))/\cs.size=16:=⟨_,heap_alloc_new _ _,rfl⟩;have s1:=acP.size;have y1:=z0 ah<|.cells #[false,(0:Int),(0:Int),(),false,(0:Int),(0:Int),(),false,(0:Int),(0:Int),(),false,(0:Int),(0:Int),()] 177;generalize ah.alloc (.cells #[.bool false,(0:Int),(0:Int),.slice none 0 0,.bool false,(0:Int),(0:Int),.slice none 0 0,.bool false,(0:Int),(0:Int),.slice none 0 0,.bool false,(0:Int),(0:Int),.slice none 0 0] 177)=LC at h1 m1 c1 y1⊢;generalize grow M ah LC=ga at h1 m1⊢;generalize ah.heap.size=Bs at m1 c1 s1 y1⊢;refine ET.oper rfl rfl (by k_ne) λdx acQ _=>⟨.pointer<|some ⟨dx.heap.size,0,none⟩,dx.alloc<|.cells #[()] 211,?_,?_,?_⟩
 .go_simp
 .refine eP.alloc _ λe he=>?_
  have hm:=mem_listed he;simp[go_sem]at hm
 walk_nrm
 have h2:=(h1.rely acQ).alloc<|.cells #[()] 211;have m2:grow ga dx (dx.alloc<|.cells #[()] 211) dx.heap.size:=.inr ⟨ac5 _,by rw[z0];omega⟩;have s2:=acQ.size;have y2:=z0 dx<|.cells #[()] 211;have c2:(dx.alloc<|.cells #[()] 211).heap[dx.heap.size]?=some (.cells #[()] 211 (0,0)):=heap_alloc_new _ _;have TE:∃cs:Array Value,(dx.alloc<|.cells #[()] 211).heap[Bs]?=some (.cells cs 177 (0,0))/\cs.size=16:=by
  let⟨cs,g1,g2⟩:=c1;exact⟨cs,(Below.heap_alloc _ _ _ aa).trans<|(acQ.block _<|.inl m1).trans g1,g2⟩
 have Pc:grow ga dx (dx.alloc<|.cells #[()] 211) Bs:=.inl m1;have hbM:¬M dx.heap.size:=λe=>by have:=(h1.rely acQ).lt _<|(h1.rely acQ).own _ e;omega
 generalize dx.alloc (.cells #[.slice none 0 0] 211)=PA at h2 m2 c2 TE Pc y2⊢;generalize grow ga dx PA=pq at h2 m2 Pc⊢;generalize dx.heap.size=bb at m2 c2 s2 y2 hbM⊢;refine ET.none rfl rfl (by k_ne) λdv dB _=>⟨dv.setCell bb<|.slice Bs 4 4,?_,?_,?_⟩
 .have hc:=fy<|(dB.block _<|.inl m2).trans c2;have hz:dv.frozen? bb=false:=by simp[World.frozen?,(dB.block _<|.inl m2).trans c2]
  go_simp
 .have hc:=fy<|(dB.block _<|.inl m2).trans c2;have hz:dv.frozen? bb=false:=by simp[World.frozen?,(dB.block _<|.inl m2).trans c2]
  refine eP.set _ m2 λe he=>?_
  have hm:=mem_listed he;simp[go_sem,hc,hz]at hm;rw[events_store _ _ _ _ _ _ rfl,hc]at hm;simp[hz]at hm;subst hm;exact gA m2
 rw[cJ (aside_setCell dv bb<|.slice Bs 4 4).size];have c3:(dv.setCell bb<|.slice Bs 4 4).heap[bb]?=some (.cells #[.slice Bs 4 4] 211 (0,0)):=Iw<|(dB.block _<|.inl m2).trans c2;have LV:∃cs:Array Value,(dv.setCell bb<|.slice Bs 4 4).heap[Bs]?=some (.cells cs 177 (0,0))/\cs.size=16:=by
  let⟨cs,g1,g2⟩:=TE;exact⟨cs,(Below.heap_setCell _ _ _ _ (by show Bs≠bb;omega)).trans<|(dB.block _<|.inl Pc).trans g1,g2⟩
 have h3:EN M W pq (dv.setCell bb<|.slice Bs 4 4):=by
  have h:=h2.rely dB;have z:=(aside_setCell dv bb<|.slice Bs 4 4).size;exact⟨h.own,h.keep.trans ⟨λb hb=>Below.heap_setCell _ _ _ _ λe=>hbM (by have e':b=bb:=e;exact e'▸hb),by rw[z];omega,rfl,rfl⟩,λb hb=>by rw[z];exact h.lt b hb,h.new⟩
 generalize dv.setCell ⟨bb,0,none⟩ (.slice (some ⟨Bs,0,none⟩) 4 4)=Tp at h3 c3 LV⊢;walk_nrm
 apply ET.rn;apply ET.sq;apply ET.sr;refine ET.val (.slice Bs 4 4) rfl rfl (by k_ne) (λqA kv _=>?_) ?_
 .have hc:=fy<|(kv.block _<|.inl m2).trans c3;refine⟨?_,λe he=>?_⟩
  .go_simp
  .simp[go_sem,hc]at he;subst he;exact gA m2
 walk_nrm
 refine ET.z ?_;refine ET.z ?_;apply ET.rn;refine ET.c (λ_=>stepG_block) ?_;refine ET.c (λ_=>stepG_loop) ?_;refine ET.stop λqA kv _=>⟨Bs,bb,_,_,rfl,h3.rely kv,⟨aa,aa⟩,Pc,m2,(kv.block _<|.inl m2).trans c3,?_⟩
 let⟨cs,g1,g2⟩:=LV;exact⟨cs,(kv.block _<|.inl Pc).trans g1,g2⟩
def fR {N':Nat}{acR:Machine}{OL:Trace}{r:Stepped×Trace}(h':runNT P N' acR OL=r):∀(N:Nat) (m:Machine) (t:Trace),runNT P N m t=(.next acR,OL)->runNT P (N+N') m t=r:=by
 intro N;induction N with
 |zero=>intro m t h;simp only[runNT,Prod.mk.injEq,Stepped.next.injEq]at h;obtain⟨rfl,rfl⟩:=h;rw[Nat.zero_add];exact h'
 |succ N ih=>
  intro m t h;rw[show N+1+N'=(N+N')+1 by omega];simp only[runNT]at h⊢;generalize stepT P m=s at h⊢;let⟨s,ops⟩:=s;cases s with
  |next m'=>exact ih _ _ h
  |_=>simp at h
section
variable {am:Loc->Prop}{gs:Array Goroutine}{sl:Option (Nat×Nat)}{t:Trace}{q:Nat->Nat}
def dJ.QD {V:Nat->Prop}{a:Goroutine}(h:dJ P am V (λ_=>False) M gs a w t q):∀b,M b->b<w:=λb hb=>h.lt b<|.inl hb
def Q2 (h:dJ Tryz.prog am (λ_=>False) (λ_=>False) M gs (G ((base 139).at ⟨#[.slice la ln lc,.slice na nn nc,ud,ud,ud,ud,ud,ud,ud,ud,ud,ud,ud,ud,ud,ud,ud,ud,ud,ud,ud],[]⟩ [.code dQ]) rb) w t q):
  ∃N Mz ga acV Z9 OL abw bl bn r4 tb wg Bs bb v9 v10,runNT Tryz.prog N (crowd gs w sl) t=(.next<|crowd Mz acV Z9,OL)/\Mz.size=gs.size/\
   dJ Tryz.prog am (λb=>(False\/b=tb)\/b=wg) (λ_=>False) ga Mz (G ((base 139).at ⟨#[.slice la ln lc,.slice na nn nc,.pointer<|some ⟨bl,0,none⟩,.pointer<|some ⟨bn,0,none⟩,.pointer<|some ⟨r4,0,none⟩,.pointer<|some ⟨tb,0,none⟩,.pointer<|some ⟨wg,0,none⟩,.pointer<|some ⟨bb,0,none⟩,undef,v9,v10,.int .i64 4,.int .i64 0,ud,ud,ud,ud,ud,ud,ud,ud],[]⟩ [.code li,.inLoop li,.inBlock 0,.code iT]) rb) acV OL abw/\
   EN M w ga acV/\(w.heap.size<=bl/\bl<bn/\bn<r4/\r4<tb/\tb<wg/\wg<Bs/\Bs<bb)/\(ga bl/\ga bn/\ga r4/\ga Bs/\ga bb)/\
   acV.heap[bl]?=some (.cells #[.slice la ln lc] 23 (0,0))/\acV.heap[bn]?=some (.cells #[.slice na nn nc] 179 (0,0))/\acV.heap[r4]?=some (.cells d7.cells.toArray 177 (0,0))/\
   acV.heap[tb]?=some (.cells #[(0:Int)] 203 (0,0))/\acV.heap[wg]?=some (.cells #[.int .u64 0,.int .u32 0] 210 (0,0))/\
   acV.heap[bb]?=some (.cells #[.slice (some ⟨Bs,0,none⟩) 4 4] 211 (0,0))/\∃cs,acV.heap[Bs]?=some (.cells cs 177 (0,0))/\cs.size=16:=by
 have z0:∀(w:World) (o:Obj),(w.alloc o).heap.size=w.heap.size+1:=λw o=>by show(w.heap.push o).size=_;simp
 let⟨r,hr⟩:=TU (rb:=rb) (la:=la) (ln:=ln) (lc:=lc) (na:=na) (nn:=nn) (nc:=nc) h.QD;let⟨N1,H_,M1,a1,w1,Z8,t1,q1,e1,e2,e3,e4,e5,e6,e7,e8⟩:=jw (λ_=>trivial) r _ gs M _ w sl t q (ac5 _) h hr;obtain⟨bl,bn,r4,rfl,hE,⟨o1,o2,o3⟩,m1,m2,m3,c1,c2,c3⟩:=e3 w1 (aK.refl _ _) trivial;have abx:=hE.lt _ m3;let⟨N2,Qb,a2,w2,Rc,t2,q2,f1,f2,f3,f4,f5,f6⟩:=dJ.alloc (w:=w1) (sl:=Z8) (t:=t1) (q:=q1) (gs:=H_) (d:=w1.drawn) (Q:=λa' w'=>a'=G ((base 139).at ⟨#[.slice la ln lc,.slice na nn nc,.pointer<|some ⟨bl,0,none⟩,.pointer<|some ⟨bn,0,none⟩,.pointer<|some ⟨r4,0,none⟩,.pointer<|some ⟨w1.heap.size,0,none⟩,ud,ud,ud,ud,ud,ud,ud,ud,ud,ud,ud,ud,ud,ud,ud],[]⟩ [.inRegion AK [],.code (fE<|fE dQ)]) rb/\w'.heap[w1.heap.size]?=some (.cells #[(0:Int)] 203 (0,0))/\w'.os=w1.os/\w'.output=w1.output)
  (λd=>⟨_,_,Rq<|w1.at d,z0 _ _,λb hb=>Below.heap_alloc _ _ _ hb,rfl,heap_alloc_new _ _,rfl,rfl⟩) rfl _ (ac5 _) e4
 obtain⟨rfl,ctk,os2,ou2⟩:=f3;let⟨r',gG⟩:=TV (rb:=rb) (M:=M1) (W:=w2) (la:=la) (ln:=ln) (lc:=lc) (na:=na) (nn:=nn) (nc:=nc) (bl:=bl) (bn:=bn) (r4:=r4) (tb:=w1.heap.size);let⟨N3,gs3,M3,a3,w3,sl3,t3,q3,g1,g2,g3,g4,g5,g6,g7,g8⟩:=jw (λ_=>trivial) r' _ Qb M1 _ w2 Rc t2 q2 (ac5 _) f4 gG;obtain⟨rfl,k3,rfl⟩:=g3 w3 (aK.refl _ _) trivial;let⟨N4,gs4,a4,w4,sl4,t4,q4,i1,i2,i3,i4,i5,i6⟩:=dJ.alloc (w:=w3) (sl:=sl3) (t:=t3) (q:=q3) (gs:=gs3) (d:=w3.drawn) (Q:=λa' w'=>a'=G ((base 139).at ⟨#[.slice la ln lc,.slice na nn nc,.pointer<|some ⟨bl,0,none⟩,.pointer<|some ⟨bn,0,none⟩,.pointer<|some ⟨r4,0,none⟩,.pointer<|some ⟨w1.heap.size,0,none⟩,.pointer<|some ⟨w3.heap.size,0,none⟩,ud,ud,ud,ud,ud,ud,ud,ud,ud,ud,ud,ud,ud,ud],[]⟩ [.inRegion AL [],.code (fE<|fE<|fE dQ)]) rb/\w'.heap[w3.heap.size]?=some (.cells #[.int .u64 0,.int .u32 0] 210 (0,0))/\w'.os=w3.os/\w'.output=w3.output)
  (λd=>⟨_,_,Rr<|w3.at d,z0 _ _,λb hb=>Below.heap_alloc _ _ _ hb,rfl,heap_alloc_new _ _,rfl,rfl⟩) rfl _ (ac5 _) g4
 obtain⟨rfl,cwg,os4,ou4⟩:=i3;let⟨r'',aa9⟩:=TW (rb:=rb) (la:=la) (ln:=ln) (lc:=lc) (na:=na) (nn:=nn) (nc:=nc) (bl:=bl) (bn:=bn) (r4:=r4) (tb:=w1.heap.size) (wg:=w3.heap.size) i4.QD;let⟨N5,gs5,M5,a5,w5,sl5,t5,q5,j1,j2,j3,j4,j5,j6,j7,j8⟩:=jw (λ_=>trivial) r'' _ gs4 M3 _ w4 sl4 t4 q4 (ac5 _) i4 aa9;obtain⟨Bs,bb,v9,v10,rfl,Ud,⟨p1,p2⟩,n1,n2,cbb,cBs⟩:=j3 w5 (aK.refl _ _) trivial;have hE':aK M3 w1 w4:=(show aK M3 w1 w2 from⟨λb hb=>f6 b<|hE.lt b hb,aa,os2,ou2⟩).trans<|k3.trans ⟨λb hb=>i6 b (by have:=hE.lt b hb;omega),aa,os4,ou4⟩;have hk5:=hE'.trans Ud.keep;have tn:¬M3 w1.heap.size:=λx=>by have:=hE.lt _ x;omega
 have wn:¬M3 w3.heap.size:=λx=>by have:=hE.lt _ x;omega
 refine⟨N1+(N2+(N3+(N4+N5))),gs5,M5,w5,sl5,t5,q5,bl,bn,r4,w1.heap.size,w3.heap.size,Bs,bb,v9,v10,fR (fR (fR (fR j1 _ _ _ i1) _ _ _ g1) _ _ _ f1) _ _ _ e1,aa,j4,⟨λb hb=>Ud.own b<|hE.own b hb,hE.keep.trans<|hk5.mono hE.own,Ud.lt,λb hb=>?_⟩,⟨o1,o2,o3,abx,aa,aa,p2⟩,⟨Ud.own _ m1,Ud.own _ m2,Ud.own _ m3,n1,n2⟩,(hk5.block _ m1).trans c1,(hk5.block _ m2).trans c2,(hk5.block _ m3).trans c3,?_,?_,cbb,cBs⟩
 .rcases Ud.new b hb with x|x
  .exact hE.new b x
  .exact .inr (by have:=hE.keep.size;omega)
 .rw[j8 _ aa tn,i6 _ aa,g8 _ aa tn];exact ctk
 .rw[j8 _ aa wn];exact cwg
end
section
open ConcN (sumTo)
def Tg [Gl](fr:Frame)(V:World):Prop:=∃(b:Frame) (a:Act) (ops:Array Oper) (i:Nat) (r:List Nat) (k:List Item) (o:Oper) (x y:Nat) (ts:Array TypeId) (p q:Addr) (la ca lb cb:Nat) (c1 c2:Array Value) (t1 t2:TypeId),
 Gl.ov<1000000000/\fr=b.at a (.inRegion ops (i::r)::k)/\ops[i]?=some o/\Region.wanted o (yielded ops a.tmps)=true/\o.op=.call {callee:=.value<|.func Gl.ov,args:=#[.tmp x,.tmp y],argTypes:=ts}/\
 a.tmps[x]?=some (.slice (some p) la ca)/\a.tmps[y]?=some (.slice (some q) lb cb)/\p.block≠q.block/\V.heap[p.block]?=some (.cells c1 t1 (0,0))/\c1.size≠0/\V.heap[q.block]?=some (.cells c2 t2 (0,0))/\c2.size≠0
def Bh [Gl](P:Program):Prop:=∀(p q:Addr) (la ca lb cb:Nat) (c1 c2:Array Value) (t1 t2:TypeId) (W:World),p.block≠q.block->W.heap[p.block]?=some (.cells c1 t1 (0,0))->c1.size≠0->W.heap[q.block]?=some (.cells c2 t2 (0,0))->c2.size≠0->
 (callFunc Gl.ov #[.slice (some p) la ca,.slice (some q) lb cb]).run P W=.ok (.value false) W/\∀e∈(callFunc Gl.ov #[.slice (some p) la ca,.slice (some q) lb cb]).events P W #[],∃f,e=⟨.mark<|.extern f,false,true⟩
def JT [Gl]{a:Act}{o:Oper}{x y:Nat}{ts:Array TypeId}(bz:o.op=.call {callee:=.value<|.func Gl.ov,args:=#[.tmp x,.tmp y],argTypes:=ts})(hx:a.tmps[x]?=some u)(hy:a.tmps[y]?=some v):execOp a.eval o=callFunc Gl.ov #[u,v]:=by
 have e1:a.eval (.tmp x)=u:=by simp[Act.eval,hx]
 have e2:a.eval (.tmp y)=v:=by simp[Act.eval,hy]
 have e3:a.eval (.func Gl.ov)=.func (.func Gl.ov) #[] #[]:=rfl;unfold execOp;rw[bz];simp[resolve,invoke,e1,e2,e3,Deferred.ofValue]
section
variable [Gl](P:Program)(ok:Ctx)(c:Frame)(Dr:FuncId->Array Value->World->(Value->World->Prop)->Prop)(Q:Value->World->Prop)
inductive Wk:St->Prop
 |ends {s:St}:(∀τ d,yR P Q<|s.re τ d)->(∃fn t,P.funcs[s.fr.fn]?=some fn/\fn.results=#[.tmp t])->Wk s
 |step {s:St} (f:(Nat->Question->Nat)->Nat->St):ok.bh s.fr.fn=true->s.fr.kind=.normal->(∀τ d,fx P c (s.re τ d)<|f τ d)->(∀τ d,Wk<|f τ d)->Wk s
 |door {f:FuncId} {xs:Array Value} {fr:Frame} {cs:List Frame} {V:World} {R:Value->World->Prop}:ok.bh f=false->Dr f xs V R->(∀v V',R v V'->Wk ⟨fr.finish v,cs,V'⟩)->Wk ⟨Frame.enter P f xs .normal,fr::cs,V⟩
 |ext {fr:Frame} {cs:List Frame} {V:World}:ok.bh fr.fn=true->fr.kind=.normal->Tg fr V->Wk ⟨fr.finish<|.bool false,cs,V⟩->Wk ⟨fr,cs,V⟩
end
section
variable [Gl]{P0 P:Program}{ok:Ctx}{c:Frame}{Dr:FuncId->Array Value->World->(Value->World->Prop)->Prop}{Q:Value->World->Prop}
set_option linter.unusedSectionVars false in
def PW (hP:Same P0 P ok)(hi:ok.bh s.fr.fn=true)(hk:s.fr.kind=.normal)(he:yS s)(h:fx P0 c s s'):False:=by
 let⟨fr,cs,V⟩:=s;let⟨e1,e2,e3⟩:=he;let⟨es,h⟩:=h;simp only at e1 e2 e3 h hi hk;subst e1;rw[jy e2]at h;let⟨F,cd,f1,_⟩:=hP.same _ hi;let⟨fn,tmps,todo,defers,mode,kind,roundOf⟩:=fr;simp only at e2 e3 hk f1;subst e3 hk;cases mode with
 |run=>exact absurd rfl e2
 |panicking ch=>
  have c1:Frame.catches P0 ⟨fn,tmps,todo,[],.panicking ch,.normal,roundOf⟩=false:=by simp[Frame.catches,f1]
  simp only[unwind,c1,List.nil_append,Bool.false_eq_true,if_false,GStep.go.injEq]at h;have:=congrArg Goroutine.callers h.1;simp[G]at this
 |returning=>
  simp only[unwind,f1,List.nil_append]at h;let⟨PY,h3⟩:=kS h;generalize (results F tmps).runT P0 V #[]=x at h3;let⟨r,e⟩:=x;cases r with
  |ok v w=>
   simp only[doReturn,GStep.go.injEq]at h3;have:=congrArg Goroutine.callers h3.1;simp[G]at this
  |halt hh w=>cases hh<;>cases h3
def FR (ρ:Ren)(M:Nat->Prop):Prop:=∀b d,ρ b=some d->M d
def jj:Nat->Prop:=λ_=>False
def bO.others {ρ:Ren}{V:World}(hw:bO ok true ρ (re V W.tape W.drawn) W)(ho:FR ρ M)(k:aK (λb=>M b\/jj b) W ah):bO ok true ρ (re V ah.tape ah.drawn) ah:=by
 refine⟨λb d hb=>?_,rfl,rfl,hw.gV,ac8 hw.gW k.size⟩;let⟨o,o',h1,h2,h3⟩:=hw.heap b d hb;exact⟨o,o',h1,(k.block d<|.inl<|ho b d hb).trans h2,h3⟩
def pj (P:Program)(ok:Ctx)(Inv:(Nat->Prop)->World->Prop)(Dr:FuncId->Array Value->World->(Value->World->Prop)->Prop):Prop:=
 ∀{f:FuncId} {xs:Array Value} {V:World} {ρ:Ren} {xs':Array Value} {W:World} {M:Nat->Prop} {am:Loc->Prop} {gs:Array Goroutine} {r0:Frame} {rest:List Frame} {t:Trace} {q:Nat->Nat} {sl:Option (Nat×Nat)} {R:Value->World->Prop},
  Inv M W->Dr f xs V R->ax ok ρ xs xs'->bO ok true ρ (re V W.tape W.drawn) W->FR ρ M->dJ P am jj jj M gs (G (Frame.enter P f xs' .normal)<|r0::rest) W t q->
  ∃N jN W' kz t' q' sE M' v' σ v V',runNT P N (crowd gs W sl) t=(.next<|crowd jN W' kz,t')/\dJ P sE jj jj M' jN (G (r0.finish v') rest) W' t' q'/\
   ρ.le σ/\ar ok σ v v'/\bO ok true σ (re V' W'.tape W'.drawn) W'/\FR σ M'/\R v V'/\aK M W W'/\(∀d,M d->M' d)/\(∀b d,σ b=some d->ρ b=some d\/W.heap.size<=d)/\∀b,Ro V b->V'.heap[b]?=V.heap[b]?
omit [Gl] in
def OM [Gl]{ρ:Ren}(h:ar ok ρ undef v):v=undef:=by
 unfold undef at h;generalize hu:Value.tuple #[]=u at h;cases h with
 |@tuple xs xs' e h=>
  simp only[Value.tuple.injEq]at hu;subst hu;have:xs'=#[]:=by
   have:=e.symm;simpa using this
  rw[this];rfl
 |_=>cases hu
def wN {ρ:Ren}{ys C6:Array Value}(hn:((P0.funcs[f]?).map (·.ntmps)).getD 0=((P.funcs[f]?).map (·.ntmps)).getD 0)(e:Frame.enter P0 f xs .normal=Frame.enter P0 f ys .normal)(h:ax ok ρ ys C6):∃xs',ax ok ρ xs xs'/\Frame.enter P f xs' .normal=Frame.enter P f C6 .normal:=by
 have et:=congrArg Frame.tmps e;simp only[Frame.enter]at et;rw[hn]at et;have hz:=h.size;have hT:ax ok ρ (ys++Array.replicate (((P.funcs[f]?).map (·.ntmps)).getD 0-ys.size) undef) (C6++Array.replicate (((P.funcs[f]?).map (·.ntmps)).getD 0-ys.size) undef):=h.append<|ax.replicate lF _;rw[<-et]at hT;generalize hm:((P.funcs[f]?).map (·.ntmps)).getD 0=n at et hT;generalize X5:C6++Array.replicate (n-ys.size) undef=T' at hT;have hs:=hT.size;simp only[Array.size_append,Array.size_replicate]at hs;have hx:ax ok ρ xs (T'.extract 0 xs.size):=by
  have:=hT.extract 0 xs.size;rw[Array.extract_append_left]at this;simpa using this
 refine⟨T'.extract 0 xs.size,hx,?_⟩;simp only[Frame.enter,hm,Frame.mk.injEq,true_and,and_true];rw[<-hz,X5,<-hx.size];refine Array.ext cU λi h1 h2=>?_
 by_cases hi:i<xs.size
 .rw[Array.getElem_append_left (by rw[<-hx.size];exact hi)];simp
 .rw[Array.getElem_append_right (by rw[<-hx.size];omega)];simp only[Array.getElem_replicate];have:=hT.at_ i undef T'[i] (by rw[Array.getElem?_append_right aa,Array.getElem?_replicate,if_pos aa])<|adc h2;exact(OM this).symm
def Wk.beside (hP:dM P0 P ok)(hN:∀f,ok.bh f=false->((P0.funcs[f]?).map (·.ntmps)).getD 0=((P.funcs[f]?).map (·.ntmps)).getD 0){Inv:(Nat->Prop)->World->Prop}(hOv:Gl.ov<1000000000->Bh P)(hD:pj P ok Inv Dr){F:Nat->Prop}(Ue:∀M W,(∀d,F d->M d)->aK F acH W->Inv M W)(h:Wk P0 ok c Dr Q s):∀{ρ:Ren} {a:Goroutine} {gs:Array Goroutine} {M:Nat->Prop} {W:World} {sl:Option (Nat×Nat)} {t:Trace} {q:Nat->Nat} {am:Loc->Prop},
  aK F acH W->pn P0 P ok ρ [c] [] (G s.fr<|s.cs++[c]) a->bO ok true ρ (re s.V W.tape W.drawn) W->FR ρ M->dJ P am jj jj M gs a W t q->(∀d,F d->M d/\((∀b,ρ b≠some d)\/∃b,ρ b=some d/\Ro s.V b))->
  ∃N jN W' kz t' q' sE M' σ,∃(s':St) (eQ:Frame),runNT P N (crowd gs W sl) t=(.next<|crowd jN W' kz,t')/\dJ P sE jj jj M' jN (G eQ []) W' t' q'/\
   ρ.le σ/\eF P ok σ s'.fr eQ/\bO ok true σ (re s'.V W'.tape W'.drawn) W'/\FR σ M'/\(∀τ d,yR P0 Q<|s'.re τ d)/\aK F W W'/\∃fn t,P0.funcs[s'.fr.fn]?=some fn/\fn.results=#[.tmp t]:=by
 induction h with
 |@ends s he vz=>
  intro ρ a gs M W sl t q am hK hg hw ho hl hF;generalize hz:G s.fr (s.cs++[c])=z at hg;cases hg with
  |@inside fr eQ cs cs' a1 a2 a3=>
   have z1:=congrArg Goroutine.frame hz;have z2:=congrArg Goroutine.callers hz;simp only[G]at z1 z2;replace z2:=ads z2;subst z1 z2;have X':s.cs=[]:=(he (λ_ _=>0) 0).1;rw[X']at a2;cases a2;exact⟨0,gs,W,sl,t,q,am,M,ρ,s,eQ,rfl,hl,Ren.le_refl _,a1,hw,ho,he,aK.refl _ _,vz⟩
  |door a1 a2=>
   have z1:=congrArg Goroutine.frame hz;simp only[G]at z1;let⟨_,v,hl,_⟩:=he (λ_ _=>0) 0;have:=hl.1;have h2:s.fr.mode=.returning:=this;rw[z1]at h2;simp[Frame.enter]at h2
 |@step s f hi hk hgo Db ih=>
  intro ρ a gs M W sl t q am hK hg hw ho hl hF;generalize hz:G s.fr (s.cs++[c])=z at hg;cases hg with
  |@inside fr eQ cs cs' a1 a2 a3=>
   have z1:=congrArg Goroutine.frame hz;have z2:=congrArg Goroutine.callers hz;simp only[G]at z1 z2;replace z2:=ads z2;subst z1 z2;let Stop:(Nat->Prop)->Goroutine->World->Prop:=λM' a' ah=>∃σ τ d,ρ.le σ/\pn P0 P ok σ [c] [] (G (f τ d).fr<|(f τ d).cs++[c]) a'/\bO ok true σ (re (f τ d).V ah.tape ah.drawn) ah/\FR σ M'/\aK F W ah/\∀d',F d'->M' d'/\((∀b,σ b≠some d')\/∃b,σ b=some d'/\Ro (f τ d).V b)
   have hPT:PT P true (λ_=>True) Ph.nE jj Stop (.node λ_=>.leaf) M (G eQ<|cs'++[]) W:=by
    refine .inr ⟨rfl,λah k _=>?_⟩;have uI:=hw.others ho k;let⟨es,Wy⟩:=hgo ah.tape ah.drawn;let⟨σ,g2,W2,yX,e,jW,GG,mY,mH⟩:=tx (lb:=[c]) (rb:=[]) (acR:=true) hP a1 a2 a3 uI (λx y z=>PW (c:=c) (s:=s.re ah.tape ah.drawn) hP.toSame hi hk ⟨x,y,z⟩ ⟨es,Wy⟩) Wy;have hh:sB ρ (re s.V ah.tape ah.drawn) M jj:=λb d hb=>.inl<|ho b d hb
    have aB:∀b d,σ b=some d->d<W2:=λb d hb=>(GG.lt hb).2
    have qF:FR σ (grow M ah W2):=λb d hb=>(hh.step mY aB b d hb).elim id λx=>x.1.elim
    have hlF:∀d,F d->d<W:=λd hd=>hl.lt d<|.inl (hF d hd).1
    have same:∀d,F d->W2.heap[d]?=ah.heap[d]?:=λd hd=>by
     rcases(hF d hd).2 with x|⟨b,x,y⟩
     .exact mY.keep d (ac6 (hlF d hd) k.size) x
     .exact(mY.ro b d x y).2
    have kF:aK F W W2:=⟨λd hd=>(same d hd).trans<|k.block d<|.inl (hF d hd).1,ac8 k.size mY.size,mY.os.trans k.os,mY.out.trans k.out⟩;have N_:∀d,F d->grow M ah W2 d/\((∀b,σ b≠some d)\/∃b,σ b=some d/\Ro (f ah.tape ah.drawn).V b):=λd hd=>⟨.inl (hF d hd).1,by
     rcases(hF d hd).2 with y|⟨b,x,y⟩
     .refine .inl λb hb=>?_
      rcases mY.new b d hb with x|⟨_,x⟩
      .exact y b x
      .have:=hlF d hd;have:=k.size;omega
     .refine .inr ⟨b,mY.le _ _ x,?_⟩;have h1:=(mY.ro b d x y).1;let⟨c1,c2,c3⟩:=y;exact⟨c1,c2,h1.trans c3⟩⟩
    refine⟨g2,W2,yX,e,hh.Vr mY aB mH,λdx acQ _=>⟨σ,ah.tape,ah.drawn,mY.le,jW,?_,qF,kF.trans<|acQ.mono λd hd=>.inl (N_ d hd).1,N_⟩⟩;have:bO ok true σ (re (f ah.tape ah.drawn).V W2.tape W2.drawn) W2:=⟨GG.heap,rfl,rfl,GG.gV,GG.gW⟩;exact this.others qF acQ
   let⟨N,jN,M',a',w',kz,t',q',h1,_,h3,h4,_⟩:=jw (λ_=>trivial) _ _ gs M _ W sl t q (ac5 _) hl hPT;let⟨σ,τ,d,g1,g2,g3,g4,g5,g6⟩:=h3 w' (aK.refl _ _) trivial;let⟨N2,Qb,W2,Rc,t2,q2,Dv,M2,OX,s2,fr2,i1,i2,i3,i4,i5,i6,i7,i8,i9⟩:=ih τ d (sl:=kz) (hK.trans g5) g2 g3 g4 h4 g6;exact⟨N+N2,Qb,W2,Rc,t2,q2,Dv,M2,OX,s2,fr2,fR i1 _ _ _ h1,i2,g1.trans i3,i4,i5,i6,i7,g5.trans i8,i9⟩
  |door a1 a2=>
   have z1:=congrArg Goroutine.frame hz;simp only[G]at z1;rw[z1]at hi;simp only[Frame.enter]at hi;rw[hi]at a2;cases a2
 |@door f xs fr cs V R hf hp Db ih=>
  intro ρ a gs M W sl t q am hK hg hw ho hl hF;generalize hz:G (Frame.enter P0 f xs .normal) (fr::cs++[c])=z at hg;cases hg with
  |@inside fr1 eQ cs1 cs' a1 a2 a3=>
   have z1:=congrArg Goroutine.frame hz;simp only[G]at z1;have:=a1.bh;rw[<-z1]at this;simp only[Frame.enter]at this;rw[hf]at this;cases this
  |@door f1 ys C6 cs1 ab4 a1 a2 a3 a4 a5 a6=>
   have z1:=congrArg Goroutine.frame hz;have z2:=congrArg Goroutine.callers hz;simp only[G]at z1 z2;replace z2:=ads z2;subst z2;have z3:=congrArg Frame.fn z1;simp only[Frame.enter]at z3;subst z3;let⟨xs',hx,hE⟩:=wN (ok:=ok) (ρ:=ρ) (hN _ hf) z1 a3;cases a4 with
   |@cons _ r0 _ rest b1 b2=>
    simp only[List.append_nil]at hl;rw[<-hE]at hl;let⟨N,H_,W1,Z8,t1,q1,abJ,M1,v',σ,v,V',e1,e2,e3,e4,e5,e6,e7,e8,e9,XG,V8⟩:=hD (sl:=sl) (Ue M W (λd hd=>(hF d hd).1) hK) hp hx hw ho hl;have hlF:∀d,F d->d<W:=λd hd=>hl.lt d<|.inl (hF d hd).1
    have N_:∀d,F d->M1 d/\((∀b,σ b≠some d)\/∃b,σ b=some d/\Ro V' b):=λd hd=>⟨e9 d (hF d hd).1,by
     rcases(hF d hd).2 with y|⟨b,x,y⟩
     .refine .inl λb hb=>?_
      rcases XG b d hb with x|x
      .exact y b x
      .have:=hlF d hd;omega
     .refine .inr ⟨b,e3 _ _ x,?_⟩;have h1:=V8 b y;let⟨c1,c2,c3⟩:=y;exact⟨c1,c2,h1.trans c3⟩⟩
    have hb:tG (fr.finish v) cs:=by
     have:tG fr cs:=λg hg=>a6 g hg
     exact this.swap (by cases fr with|mk fn tmps todo defers mode kind roundOf=>cases todo with
      |nil=>rfl
      |cons x l=>cases x<;>first|rfl|(rename_i ops l2;cases l2<;>rfl))
    have hG:pn P0 P ok σ [c] [] (G (fr.finish v)<|cs++[c]) (G (r0.finish v')<|rest++[]):=.inside ((b1.mono e3).finish e4) (b2.mono e3) hb;rw[List.append_nil]at hG;let⟨N2,Qb,W2,Rc,t2,q2,Dv,M2,OX,s2,fr2,i1,i2,i3,i4,i5,i6,i7,i8,i9⟩:=ih v V' e7 (sl:=Z8) (hK.trans<|e8.mono λd hd=>(hF d hd).1) hG e5 e6 e2 N_;exact⟨N+N2,Qb,W2,Rc,t2,q2,Dv,M2,OX,s2,fr2,fR i1 _ _ _ e1,i2,e3.trans i3,i4,i5,i6,i7,(e8.mono λd hd=>(hF d hd).1).trans i8,i9⟩
 |@ext fr cs V hi hk hA Db ih=>
  intro ρ a gs M W sl t q am hK hg hw ho hl hF;generalize hz:G fr (cs++[c])=z at hg;cases hg with
  |@inside fr0 eQ cs0 cs' a1 a2 a3=>
   have z1:=congrArg Goroutine.frame hz;have z2:=congrArg Goroutine.callers hz;simp only[G]at z1 z2;replace z2:=ads z2;subst z1 z2;let⟨b,ac,ops,i,r,k,o,x,y,ts,p,q',la,ca,lb,cb,c1,c2,t1,t2,e00,e0,MV,hw',bz,hx,hy,hne,g1,n1,g2,n2⟩:=hA;obtain⟨ac',k',e',ht⟩:∃ac' k',eQ=eQ.at ac' (.inRegion ops (i::r)::k')/\ax ok ρ ac.tmps ac'.tmps:=by
    have h1:=a1.todo;have h2:=a1.tmps;have h3:=a1.mode;have h4:=a1.round;rw[e0]at h1 h2 h3 h4;let⟨dC,dl,j0,cY,pP,fp,bj⟩:=eQ;simp only[Frame.at]at h1 h2 h3 h4;cases h3;cases h4;cases h1 with
    |cons h5 h6=>
     cases h5;exact⟨⟨dl,cY⟩,_,rfl,h2⟩
   let⟨x',dG,rx⟩:=ht.get hx;let⟨y',GH,ry⟩:=ht.get hy;obtain⟨p',rfl,rp⟩:∃p',x'=.slice (some p') la ca/\dI ρ p p':=by cases rx with|slice _ _ r=>exact⟨_,rfl,r⟩
   obtain⟨r',rfl,rq⟩:∃r',y'=.slice (some r') lb cb/\dI ρ q' r':=by cases ry with|slice _ _ r=>exact⟨_,rfl,r⟩
   have plain:∀{ah:World} {d d':Nat} {cc:Array Value} {tt:TypeId},bO ok true ρ (re V ah.tape ah.drawn) ah->ρ d=some d'->V.heap[d]?=some (.cells cc tt (0,0))->cc.size≠0->∃cc',ah.heap[d']?=some (.cells cc' tt (0,0))/\cc'.size≠0:=by
    intro ah d d' cc tt uI hd hg hn;let⟨o1,o2,i1,i2,i3⟩:=uI.heap d d' hd;replace i1:V.heap[d]?=some o1:=i1;rw[hg]at i1;obtain rfl:=adb i1;cases i3 with
    |@cells _ c' _ _ z' MJ hz=>
     have Lp:z'=(0,0):=by
      rcases hz with h|⟨_,h,h'⟩
      .simpa using h
      .simp at h;omega
     subst Lp;exact⟨c',i2,by rw[<-MJ.size];exact hn⟩
   have YV:p'.block≠r'.block:=λe=>hne (ρ.inj _ _ _ rp.blk<|by rw[e];exact rq.blk)
   have hE:ET P true (λ_=>True) Ph.nE jj (λM' g W'=>g=G (eQ.finish false) (cs'++[])/\M'=M/\aK (λb=>M b\/jj b) W W') M (G eQ<|cs'++[]) W:=by
    rw[e'];refine ET.val false MV (by rw[yK ht];exact hw') (by rw[a1.fp];simp) (λah acP _=>?_)<|ET.stop λah acP _=>⟨?_,rfl,acP⟩
    .have uI:=hw.others ho acP;let⟨TE,j1,j2⟩:=plain uI rp.blk g1 n1;let⟨R2,j3,j4⟩:=plain uI rq.blk g2 n2;have d6:=hOv e00 p' r' la ca lb cb TE R2 t1 t2 ah YV j1 j2 j3 j4;rw[JT bz dG GH];refine⟨d6.1,λe he=>?_⟩;obtain⟨f,rfl⟩:=d6.2 e he;exact .inr<|.inr<|.inl ⟨_,rfl,rfl⟩
    .rw[<-e'];conv=>rhs;rw[e']
     rw[Frame.finish_at,MV];rfl
   let⟨r,hr⟩:=hE;let⟨N,jN,M',a',w',kz,t',q2,h1,_,h3,h4,_⟩:=jw (λ_=>trivial) r _ gs M _ W sl t q (ac5 _) hl hr;obtain⟨rfl,rfl,h5⟩:=h3 w' (aK.refl _ _) trivial;have hb:tG (fr.finish false) cs:=a3.swap (by cases fr with|mk fn tmps todo defers mode kind roundOf=>cases todo with
    |nil=>rfl
    |cons x l=>cases x<;>first|rfl|(rename_i ops l2;cases l2<;>rfl))
   have hG:pn P0 P ok ρ [c] [] (G (fr.finish<|.bool false)<|cs++[c]) (G (eQ.finish<|.bool false)<|cs'++[]):=.inside (a1.finish<|.bool _) a2 hb;let⟨N2,Qb,W2,Rc,t2,q2,Dv,M2,OX,s2,fr2,i1,i2,i3,i4,i5,i6,i7,i8,i9⟩:=ih (sl:=kz) (hK.trans<|h5.mono λd hd=>.inl (hF d hd).1) hG (hw.others ho h5) ho h4 hF;exact⟨N+N2,Qb,W2,Rc,t2,q2,Dv,M2,OX,s2,fr2,fR i1 _ _ _ h1,i2,i3,i4,i5,i6,i7,(h5.mono λd hd=>.inl (hF d hd).1).trans i8,i9⟩
  |door a1 a2=>
   have z1:=congrArg Goroutine.frame hz;simp only[G]at z1;rw[z1]at hi;simp only[Frame.enter]at hi;rw[hi]at a2;cases a2
end
end
section
variable [Gl]{P0:Program}{ok:Ctx}{c:Frame}{Dr:FuncId->Array Value->World->(Value->World->Prop)->Prop}{Q:Value->World->Prop}
def Shut (P0:Program)(ok:Ctx):Prop:=∀f xs cs V,ok.fn f=true->ok.bh f=false->∃o w es,stepG P0 true (G (Frame.enter P0 f xs .normal) cs) V=.ended o w es
def Lv (P0:Program)(ok:Ctx)(s:St):Prop:=∃ρ f xs,s.fr=Frame.enter P0 f xs .normal/\ok.fn f=true/\ok.bh f=false/\ax ok ρ xs xs/\jd P0 ok ρ s.cs s.cs/\bO ok true ρ s.V s.V/\∀f,s.cs.getLast?=some f->f.roundOf=none
def rV (hP:dM P0 P0 ok)(hs:fJ P0 ok s)(he:¬yS s){g2:Goroutine}{V2:World}{es:Array Event}(h:stepG P0 true (G s.fr<|s.cs++[c]) s.V=.go g2 V2 es):
  ∃s':St,g2=G s'.fr (s'.cs++[c])/\V2=s'.V/\(fJ P0 ok s'\/Lv P0 ok s'):=by
 let⟨ρ,h1,h2,h3,h4⟩:=hs;let⟨σ,XO,W2,yX,e,hg,hw,_,_⟩:=tx (lb:=[c]) (rb:=[c]) (acR:=true) hP h1 h2 h3 h4 (λa b=>λd=>he ⟨a,b,d⟩) h;rw[h]at e;simp only[GStep.go.injEq]at e;obtain⟨rfl,rfl,_⟩:=e;generalize jW:g2=XO at hg;have qE:pn P0 P0 ok σ [c] [c] g2 XO:=by rw[jW]at*;exact hg
 clear hg;cases qE with
 |@inside fr eQ cs cs' a1 a2 a3=>
  have e1:=congrArg Goroutine.frame jW;have e2:=congrArg Goroutine.callers jW;simp only[G]at e1 e2;have e2:cs=cs':=ads e2;subst e1 e2;exact⟨⟨fr,cs,V2⟩,rfl,rfl,.inl ⟨σ,a1,a2,a3,hw⟩⟩
 |@door f xs xs' cs cs' a1 a2 a3 a4 a5 a6=>
  have e1:=congrArg Goroutine.frame jW;have e2:=congrArg Goroutine.callers jW;simp only[G]at e1 e2;have e2:cs=cs':=ads e2;subst e2;refine⟨⟨Frame.enter P0 f xs .normal,cs,V2⟩,by rw[e1],rfl,.inr ⟨σ,f,xs,rfl,a1,a2,?_,a4,hw,a6⟩⟩;have et:=congrArg Frame.tmps e1;simp only[Frame.enter]at et;rw[<-a3.size]at et;have:xs=xs':=(Array.append_inj et<|by first|exact a3.size|exact a3.size.symm).1|>λh=>by first|exact h|exact h.symm
  rw[<-this]at a3;exact a3
section
variable {Tgt:St->Prop}
def vn (P0:Program)(c:Frame)(Tgt:St->Prop):Nat->St->Prop
 |0,s=>Tgt s
 |n+1,s=>¬Tgt s/\∃s',fx P0 c s s'/\vn P0 c Tgt n s'
def vn.Vb (Da:Shut P0 ok)(hI:∀s,Tgt s->ok.bh s.fr.fn=true)(h:vn P0 c Tgt n s)(hd:Lv P0 ok s):False:=by
 let⟨ρ,f,xs,e,h1,h2,_⟩:=hd;cases n with
 |zero=>
  have:=hI s h;rw[e]at this;simp only[Frame.enter]at this;rw[h2]at this;cases this
 |succ n=>
  let⟨_,s',⟨es,hg⟩,_⟩:=h;let⟨o,w,jL,hx⟩:=Da f xs (s.cs++[c]) s.V h1 h2;rw[e,hx]at hg;cases hg
def fx.SX (hP:dM P0 P0 ok)(Da:Shut P0 ok)(hI:∀s,Tgt s->ok.bh s.fr.fn=true)(hs:fJ P0 ok s)(h:fx P0 c s s')(hf:∃τ d,vn P0 c Tgt n<|s'.re τ d):fJ P0 ok s':=by
 have hi:=h.inside hP hs;let⟨es,h⟩:=h;let⟨s2,e1,e2,h2⟩:=rV hP hs hi h;let⟨fr,cs,V⟩:=s';let⟨fr2,C9,V2⟩:=s2;have e3:=congrArg Goroutine.frame e1;have e4:=congrArg Goroutine.callers e1;simp only[G]at e3 e4 e2;have e4:cs=C9:=ads e4;subst e3 e4 e2;rcases h2 with h2|h2
 .exact h2
 .let⟨τ,d,hf⟩:=hf;exfalso;refine hf.Vb Da hI ?_;let⟨ρ,f,xs,a1,a2,a3,a4,a5,a6,a7⟩:=h2;exact⟨ρ,f,xs,a1,a2,a3,a4,a5,⟨a6.heap,rfl,rfl,a6.gV,a6.gW⟩,a7⟩
def vn.shift (hP:dM P0 P0 ok)(Da:Shut P0 ok)(hI:∀s,Tgt s->ok.bh s.fr.fn=true)(hT:∀s τ d,Tgt s->Tgt (s.re τ d)):∀(n:Nat) {s:St},fJ P0 ok s->vn P0 c Tgt n s->∀τ d,(∀i q,s.V.tape (s.V.drawn+i) q=τ (d+i) q)->vn P0 c Tgt n (s.re τ d):=by
 intro n;induction n with
 |zero=>intro s hs h τ d _;exact hT s τ d h
 |succ n ih=>
  intro s hs h τ d hA;let⟨h0,s',h1,h2⟩:=h;let⟨k1,k2,k3⟩:=h1.sh hP hs;refine⟨λh=>h0<|hT (s.re τ d) s.V.tape s.V.drawn h,_,k3 τ d λi _ q=>hA i q,ih (h1.SX hP Da hI hs ⟨s'.V.tape,s'.V.drawn,h2⟩) h2 τ _ λi q=>?_⟩;rw[k2];have:=hA (s'.V.drawn-s.V.drawn+i) q;rw[show s.V.drawn+(s'.V.drawn-s.V.drawn+i)=s'.V.drawn+i by omega]at this;rw[this];congr 1;omega
def HT (P0:Program)(c:Frame)(Tgt:St->Prop)(s:St):Prop:=∀τ d,∃n,vn P0 c Tgt n (s.re τ d)
def HT.succ (hP:dM P0 P0 ok)(Da:Shut P0 ok)(hI:∀s,Tgt s->ok.bh s.fr.fn=true)(hT:∀s τ d,Tgt s->Tgt (s.re τ d))(hs:fJ P0 ok s)(hH:HT P0 c Tgt s)(h0:¬Tgt s){τ:Nat->Question->Nat}{d:Nat}(h:fx P0 c (s.re τ d) s'):HT P0 c Tgt s'/\fJ P0 ok s':=by
 have yQ:=hs.re τ d;let⟨k1,k2,k3⟩:=h.sh hP yQ;have Zw:d<=s'.V.drawn:=k1;have key:∀(τ':Nat->Question->Nat) (d':Nat),∃n t2,vn P0 c Tgt n (s'.re t2 s'.V.drawn)/\∀i q,t2 (s'.V.drawn+i) q=τ' (d'+i) q:=by
  intro τ' d';let t2:Nat->Question->Nat:=λi q=>if i<s'.V.drawn then τ i q else τ' (d'+(i-s'.V.drawn)) q
  have hA:kQ (s.re τ d).V.tape (s.re τ d).V.drawn t2 d (s'.V.drawn-(s.re τ d).V.drawn):=by
   intro i hi q;show τ (d+i) q=t2 (d+i) q;simp only[t2];have oH:i<s'.V.drawn-d:=hi;rw[if_pos aa]
  have h2:=k3 t2 d hA;let⟨n,hn⟩:=hH t2 d;have e1:(s.re τ d).re t2 d=s.re t2 d:=rfl;rw[e1]at h2;cases n with
  |zero=>exact absurd (hT (s.re t2 d) s.V.tape s.V.drawn hn) h0
  |succ n=>
   let⟨_,s2,g1,g2⟩:=hn;have:=g1.E_ h2;subst this;have e2:d+(s'.V.drawn-(s.re τ d).V.drawn)=s'.V.drawn:=by show d+(s'.V.drawn-d)=_;omega
   rw[e2]at g2;refine⟨n,t2,g2,λi q=>?_⟩;simp only[t2];rw[if_neg aa];congr 1;omega
 have m8:fJ P0 ok s':=by
  let⟨n,t2,h2,_⟩:=key τ d;exact h.SX hP Da hI yQ ⟨_,_,h2⟩
 refine⟨λτ' d'=>?_,m8⟩;let⟨n,t2,h2,h3⟩:=key τ' d';exact⟨n,vn.shift hP Da hI hT n (m8.re t2 s'.V.drawn) h2 τ' d' h3⟩
def Xq (P0:Program)(c:Frame)(Tgt:St->Prop)(s' s:St):Prop:=¬Tgt s/\∃τ d,fx P0 c (s.re τ d) s'
omit [Gl] in
def LX {α:Type}{r:α->α->Prop}{s:α}(h:¬Acc r s):∃f:Nat->α,f 0=s/\∀n,r (f<|n+1) (f n):=by
 have step:∀s:{s:α //¬Acc r s},∃s':{s:α //¬Acc r s},r s'.1 s.1:=by
  intro ⟨s,hs⟩;apply adu;intro hn;apply hs;refine⟨_,λy hy=>?_⟩;apply adu;intro GH;exact hn ⟨⟨y,GH⟩,hy⟩
 let g:Nat->{s:α //¬Acc r s}:=λn=>Nat.rec ⟨s,h⟩ (λ_ x=>(step x).choose) n
 exact⟨λn=>(g n).1,rfl,λn=>(step<|g n).choose_spec⟩
def JA (hP:dM P0 P0 ok)(Da:Shut P0 ok)(hI:∀s,Tgt s->ok.bh s.fr.fn=true)(hT:∀s τ d,Tgt s->Tgt (s.re τ d))(hs:fJ P0 ok s)(hH:HT P0 c Tgt s):Acc (Xq P0 c Tgt) s:=by
 apply adu;intro hn;let⟨f,f0,hf⟩:=LX hn;have all:∀n,HT P0 c Tgt (f n)/\fJ P0 ok (f n):=by
  intro n;induction n with
  |zero=>rw[f0];exact⟨hH,hs⟩
  |succ n ih=>let⟨h0,τ,d,h⟩:=hf n;exact HT.succ hP Da hI hT ih.2 ih.1 h0 h
 let τ:Nat->Nat->Question->Nat:=λn=>(hf n).2.choose
 let d:Nat->Nat:=λn=>(hf n).2.choose_spec.choose
 have g:∀n,fx P0 c ((f n).re (τ n)<|d n) (f<|n+1):=λn=>(hf n).2.choose_spec.choose_spec
 let D:Nat->Nat:=λn=>Nat.rec 0 (λn x=>x+((f<|n+1).V.drawn-d n)) n
 have hD:∀n,D (n+1)=D n+((f<|n+1).V.drawn-d n):=λn=>rfl
 let⟨T,X5⟩:=Eu D (λn=>by rw[hD];omega) λn j q=>τ n (d n+j) q;have go:∀n,fx P0 c ((f n).re T<|D n) ((f<|n+1).re T<|D<|n+1):=by
  intro n;let⟨_,_,k3⟩:=(g n).sh hP<|(all n).2.re (τ n)<|d n;have:=k3 T (D n) (λi hi q=>by
   show τ n (d n+i) q=T (D n+i) q;have oH:i<(f<|n+1).V.drawn-d n:=hi;rw[X5 n i q (by rw[hD];omega)])
  rw[hD];exact this
 have none_:∀N n,¬vn P0 c Tgt N ((f n).re T<|D n):=by
  intro N;induction N with
  |zero=>intro n h;exact(hf n).1 (hT ((f n).re T<|D n) (f n).V.tape (f n).V.drawn h)
  |succ N ih=>
   intro n h;let⟨_,s',h1,h2⟩:=h;have:=h1.E_<|go n;subst this;exact ih (n+1) h2
 let⟨N,hN⟩:=hH T 0;rw[<-f0]at hN;exact none_ N 0 hN
def OT (hP:dM P0 P0 ok)(Da:Shut P0 ok)(hI:∀s,Tgt s->ok.bh s.fr.fn=true)(hT:∀s τ d,Tgt s->Tgt (s.re τ d))(hW:∀s,Tgt s->fJ P0 ok s->Wk P0 ok c Dr Q s)(hs:fJ P0 ok s)(hH:HT P0 c Tgt s):Wk P0 ok c Dr Q s:=by
 have ha:=JA hP Da hI hT hs hH;induction ha with
 |intro s _ ih=>
  by_cases h0:Tgt s
  .exact hW s h0 hs
  have key:∀τ d,∃s',fx P0 c (s.re τ d) s':=by
   intro τ d;let⟨n,hn⟩:=hH τ d;cases n with
   |zero=>exact absurd (hT (s.re τ d) s.V.tape s.V.drawn hn) h0
   |succ n=>let⟨_,s',h1,_⟩:=hn;exact⟨s',h1⟩
  have hk:ok.bh s.fr.fn=true/\s.fr.kind=.normal:=by let⟨ρ,h1,_⟩:=hs;exact⟨h1.bh,h1.kind⟩
  refine .step (λτ d=>(key τ d).choose) hk.1 hk.2 (λτ d=>(key τ d).choose_spec) λτ d=>?_
  have:=HT.succ hP Da hI hT hs hH h0 (key τ d).choose_spec;exact ih _ ⟨h0,τ,d,(key τ d).choose_spec⟩ this.2 this.1
def DJ (hP:dM P0 P0 ok)(Da:Shut P0 ok)(hI:∀s,Tgt s->ok.bh s.fr.fn=true)(hF:jE P0 c){s1:St}(ht:Tgt s1):
  ∀(n:Nat) {s:St},fJ P0 ok s->runN P0 n (lone s.fr (s.cs++[c]) s.V)=.next (lone s1.fr (s1.cs++[c]) s1.V)->∃k,vn P0 c Tgt k s:=by
 intro n;induction n with
 |zero=>
  intro s hs h;simp only[runN,Stepped.next.injEq]at h;let⟨e1,e2,e3⟩:=pO h;have e2:s.cs=s1.cs:=ads e2;have:s=s1:=by
   let⟨a,b,d⟩:=s;let⟨a1,b1,d1⟩:=s1;simp only at e1 e2 e3;rw[e1,e2,e3]
  exact⟨0,this▸ht⟩
 |succ n ih=>
  intro s hs h;by_cases h0:Tgt s
  .exact⟨0,h0⟩
  let⟨ρ,h1,h2,h3,h4⟩:=hs;have hs:fJ P0 ok s:=⟨ρ,h1,h2,h3,h4⟩;have hk:(∃g2 V2 es,stepG P0 true (G s.fr<|s.cs++[c]) s.V=.go g2 V2 es)\/∃o w es,stepG P0 true (G s.fr<|s.cs++[c]) s.V=.ended o w es:=by
   cases hcs:s.cs++[c]with
   |nil=>simp at hcs
   |cons a l=>exact(CV (m:=true) (c:=a) (cs:=l) hP h1 h4).1
  simp only[runN]at h;rcases hk with⟨g2,V2,es,hg⟩|⟨o,w,es,hg⟩
  .by_cases he:yS s
   .exfalso;have fin:∀fr2,g2=G fr2 []->(∀w,∃o w' es,stepG P0 true (G fr2 []) w=.ended o w' es)->False:=by
     intro fr2 e ml;subst e;rw[oz hg]at h;simp only at h;cases n with
     |zero=>
      simp only[runN,Stepped.next.injEq]at h;let⟨_,e2,_⟩:=pO h;simp at e2
     |succ n=>
      let⟨o,w',jL,hh⟩:=ml V2;simp only[runN,gS hh]at h;cases h
    rcases tP hP hs he hg with⟨v,e⟩|⟨ch,e⟩
    .exact fin _ e (hF.ret v)
    .exact fin _ e (hF.pan ch)
   .let⟨s',e1,e2,h5⟩:=rV hP hs he hg;subst e1 e2;rw[oz hg]at h;rcases h5 with h5|h5
    .let⟨k,hk⟩:=ih h5 h;exact⟨k+1,h0,s',⟨es,hg⟩,hk⟩
    .exfalso;let⟨ρ',f,xs,x1,x2,x3,_⟩:=h5;simp only at h;cases n with
     |zero=>
      simp only[runN,Stepped.next.injEq]at h;let⟨y1,_,_⟩:=pO h;have:=hI s1 ht;rw[<-y1,x1]at this;simp only[Frame.enter]at this;rw[x3]at this;cases this
     |succ n=>
      let⟨o,w',jL,hh⟩:=Da f xs (s'.cs++[c]) s'.V x2 x3;rw[x1]at h;simp only[runN,gS hh]at h;cases h
  .rw[gS hg]at h;cases h
end
variable (P0 ok c Dr Q)in
def ak (s:St):Prop:=∀τ d,fJ P0 ok (s.re τ d)->Wk P0 ok c Dr Q (s.re τ d)
def pm (ok:Ctx)(Dr:FuncId->Array Value->World->(Value->World->Prop)->Prop):Prop:=∀{f:FuncId} {xs:Array Value} {V V':World} {v:Value} {ρ:Ren} {R:Value->World->Prop},Dr f xs V R->R v V'->ax ok ρ xs xs->bO ok true ρ V V->∃σ,ρ.le σ/\ar ok σ v v/\bO ok true σ V' V'
def ak.of_steps (hP:dM P0 P0 ok)(Da:Shut P0 ok)(hF:jE P0 c)(Good:St->Prop)(hI:∀s1,Good s1->ok.bh s1.fr.fn=true)
  (h:∀τ d,∃s1,Good s1/\Steps P0 (lone s.fr (s.cs++[c])<|re s.V τ d) (lone s1.fr (s1.cs++[c]) s1.V))(hW:∀s1,Good s1->ak P0 ok c Dr Q s1):ak P0 ok c Dr Q s:=by
 intro τ d hs;refine OT (Tgt:=λs1=>∃s0 τ d,Good s0/\s1=s0.re τ d) hP Da ?_ ?_ ?_ hs ?_
 .rintro _ ⟨s0,τ,d,hg,rfl⟩;exact hI s0 hg
 .rintro _ τ' d' ⟨s0,τ,d,hg,rfl⟩;exact⟨s0,τ',d',hg,rfl⟩
 .rintro _ ⟨s0,τ,d,hg,rfl⟩ hs;exact hW s0 hg τ d hs
 .intro τ' d';let⟨s1,hg,n,hn⟩:=h τ' d';exact DJ (s1:=s1) hP Da (by rintro _ ⟨s0,τ,d,hg,rfl⟩;exact hI s0 hg) hF ⟨s1,s1.V.tape,s1.V.drawn,hg,rfl⟩ n (hs.re τ' d') hn
def ak.door (hP:dM P0 P0 ok)(hDS:pm ok Dr)(hf:ok.bh f=false)(hgo:∀τ d,fx P0 c (s.re τ d) ⟨Frame.enter P0 f xs .normal,s.fr::s.cs,re s.V τ d⟩)
  {R:(Nat->Question->Nat)->Nat->Value->World->Prop}(hp:∀τ d,Dr f xs (re s.V τ d)<|R τ d)(h:∀τ d v V',R τ d v V'->ak P0 ok c Dr Q ⟨s.fr.finish v,s.cs,V'⟩):ak P0 ok c Dr Q s:=by
 intro τ d hs;have hk:ok.bh s.fr.fn=true/\s.fr.kind=.normal:=by let⟨ρ,h1,_⟩:=hs;exact⟨h1.bh,h1.kind⟩
 refine .step (s:=s.re τ d) (λτ' d'=>⟨Frame.enter P0 f xs .normal,s.fr::s.cs,re s.V τ' d'⟩) hk.1 hk.2 hgo λτ' d'=>.door hf (hp τ' d') λv V' hD=>?_
 have mJ:=hs.re τ' d';let⟨es,hg⟩:=hgo τ' d';let⟨s2,e1,e2,h2⟩:=rV (s:=s.re τ' d') (c:=c) hP mJ (fx.inside hP mJ ⟨es,hg⟩) hg;let⟨fr2,C9,V2⟩:=s2;have e3:=congrArg Goroutine.frame e1;have e4:=congrArg Goroutine.callers e1;simp only[G]at e3 e4 e2;have e4:s.fr::s.cs=C9:=ads e4;subst e3 e4 e2;refine h τ' d' v V' hD V'.tape V'.drawn ?_;rcases h2 with⟨ρ,x1,_⟩|⟨ρ,f',xs',x1,x2,x3,x4,x5,x6,x7⟩
 .exfalso;have:=x1.bh;simp only[Frame.enter]at this;rw[hf]at this;cases this
 .have x1:Frame.enter P0 f xs .normal=Frame.enter P0 f' xs' .normal:=x1;have hff:=congrArg Frame.fn x1;simp only[Frame.enter]at hff;subst hff;let⟨xs2,y1,y2⟩:=wN (ok:=ok) (ρ:=ρ) rfl x1 x4;have hxx:ax ok ρ xs xs:=by
   have et:=congrArg Frame.tmps<|y2.trans x1.symm;simp only[Frame.enter]at et;rw[<-y1.size]at et;have:xs2=xs:=(Array.append_inj et y1.size.symm).1;rw[this]at y1;exact y1
  let⟨σ,z1,z2,z3⟩:=hDS (hp τ' d') hD hxx x6;cases x5 with
  |cons b1 b2=>
   refine⟨σ,(b1.mono z1).finish z2,b2.mono z1,?_,z3⟩;have:tG s.fr s.cs:=λg hg=>x7 g hg
   exact this.swap (by
    show(s.fr.finish v).roundOf=s.fr.roundOf;cases s.fr with|mk fn tmps todo defers mode kind roundOf=>cases todo with
     |nil=>rfl
     |cons x l=>cases x<;>first|rfl|(rename_i ops l2;cases l2<;>rfl))
def ak.ends (h:∀τ d,yR P0 Q<|s.re τ d)(hr:∃fn t,P0.funcs[s.fr.fn]?=some fn/\fn.results=#[.tmp t]):ak P0 ok c Dr Q s:=λ_ _ _=>.ends h hr
end
