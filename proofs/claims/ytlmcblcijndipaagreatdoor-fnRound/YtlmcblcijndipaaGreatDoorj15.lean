import Derived.Test.YtlmcblcijndipaaGreatDoorj14
import Derived.Test.YtlmcblcijndipaaGreatDoorj11
set_option linter.unusedSimpArgs false
set_option linter.unusedVariables false
set_option maxHeartbeats 4000000
set_option maxRecDepth 100000
namespace Go.Proofs.YtlmcblcijndipaaGreatDoor
section
open Conc Conc.Lib ConcR.Gen RowKit
theorem Gx {w:World}{b:Nat}{v u:Value}{e:TypeId}(h:w.heap[b]?=some (.cells #[v] e (0,0))):(w.setCell b u).heap[b]?=some (.cells #[u] e (0,0)):=by
 rw[setCell_eq_setRow w b 0 _ _ _ u h,setRow_heap _ _ _ _ _ _ h];rfl
noncomputable def dK:Code:=Tryz.f139.body.getD .skip
noncomputable def kP:Code:=(jJ dK).getD .skip
def fi:Code->Code
 |.seq _ b=>b
 |c=>c
noncomputable def iE:Code:=fi (fi (fi (fi (fi dK))))
noncomputable def ur:Array Oper:=(mD 10 dK).getD #[]
noncomputable def abU:Array Oper:=(mD 8 dK).getD #[]
section
variable [Gl]{J:Jb}{P0:Program}{p:Ph}{ok:Ctx}{c:Frame}{M' Ro0:Nat->Prop}{Wst:World}{cs:List Frame}{r4:Nat}{t0 t1:Value}
structure BT (J:Jb)(P0:Program)(p:Ph)(ok:Ctx)(M' Ro0:Nat->Prop)(Wst:World)(Ro M:Nat->Prop)(W:World):Prop where
 XB:me J P0 p ok Ro W
 sub:∀b,M' b\/Ro0 b->M b\/Ro b
 keep:aO (λb=>M' b\/Ro0 b) Wst W
 sp:∀b,p.Sp b->¬M b/\¬Ro b/\b<W
 lt:∀b,M b\/Ro b->b<W
 mr:∀b,M b->¬Ro b
 gl:Gl.n<=W
 wb:p.Wg≠p.Bs
section
variable {Ro M:Nat->Prop}{W ai:World}
theorem BT.rely (h:BT J P0 p ok M' Ro0 Wst Ro M W)(k:aO (λb=>M b\/Ro b) W ai):BT J P0 p ok M' Ro0 Wst Ro M ai:=
 ⟨h.XB.mono (λ_ h=>h) (k.mono λ_ x=>.inr x),h.sub,h.keep.trans (k.mono h.sub),λb hb=>⟨(h.sp b hb).1,(h.sp b hb).2.1,acl (h.sp b hb).2.2 k.size⟩,λb hb=>acl (h.lt b hb) k.size,h.mr,acn h.gl k.size,h.wb⟩
theorem BT.alloc (h:BT J P0 p ok M' Ro0 Wst Ro M W)(o:Obj):BT J P0 p ok M' Ro0 Wst Ro (grow M W (W.alloc o)) (W.alloc o):=by
 have z:(W.alloc o).heap.size=W.heap.size+1:=by show(W.heap.push o).size=_;simp
 have hb:∀b,b<W.heap.size->(W.alloc o).heap[b]?=W.heap[b]?:=λb hb=>Below.heap_alloc _ _ _ hb
 have hk:aO (λb=>M b\/Ro b) W (W.alloc o):=⟨λb x=>hb b (h.lt b x),by rw[z];omega,rfl,rfl⟩;refine⟨h.XB.mono (λ_ h=>h) (hk.mono λ_ x=>.inr x),λb x=>(h.sub b x).imp .inl id,h.keep.trans (hk.mono h.sub),λb x=>?_,λb x=>?_,λb x=>?_,by rw[z];have:=h.gl;omega,h.wb⟩
 .obtain⟨h1,h2,h3⟩:=h.sp b x;exact⟨λy=>y.elim h1 λy=>ab,h2,by rw[z];omega⟩
 .rw[z];rcases x with(x|⟨_,x⟩)|x
  .have:=h.lt b (.inl x);omega
  .rw[z]at x;exact x
  .have:=h.lt b (.inr x);omega
 .rcases x with x|⟨x,_⟩
  .exact h.mr b x
  .exact λy=>by have:=h.lt b (.inr y);omega
theorem BT.set (h:BT J P0 p ok M' Ro0 Wst Ro M W){a:Addr}(v:Value)(ha:¬(M' a.block\/Ro0 a.block))(hr:¬Ro a.block):BT J P0 p ok M' Ro0 Wst Ro M (W.setCell a v):=by
 have z:(W.setCell a v).heap.size=W.heap.size:=(aside_setCell W a v).size;have hb:∀b,b≠a.block->(W.setCell a v).heap[b]?=W.heap[b]?:=λb hb=>Below.heap_setCell _ _ _ _ hb
 have hkr:aO Ro W (W.setCell a v):=⟨λb x=>hb b (λe=>hr (e▸x)),by rw[z];omega,rfl,rfl⟩;exact⟨h.XB.mono (λ_ h=>h) hkr,h.sub,h.keep.trans ⟨λb x=>hb b (λe=>ha (e▸x)),by rw[z];omega,rfl,rfl⟩,λb x=>by rw[z];exact h.sp b x,λb x=>by rw[z];exact h.lt b x,h.mr,by rw[z];exact h.gl,h.wb⟩
theorem BT.go (h:BT J P0 p ok M' Ro0 Wst Ro M W){bi:Nat}(hM:M bi):BT J P0 p ok M' Ro0 Wst (λb=>Ro b\/b=bi) (λb=>M b/\¬(Ro b\/b=bi)) W:=by
 refine⟨h.XB.mono (λ_ h=>.inl h) (aO.refl _ _),λb x=>?_,h.keep,λb x=>?_,λb x=>?_,λb x=>x.2,h.gl,h.wb⟩
 .rcases h.sub b x with y|y
  .by_cases e:b=bi
   .exact .inr (.inr e)
   .exact .inl ⟨y,λz=>z.elim (h.mr b y) e⟩
  .exact .inr (.inl y)
 .obtain⟨h1,h2,h3⟩:=h.sp b x;exact⟨λy=>h1 y.1,λy=>y.elim h2 λe=>h1 (e▸hM),h3⟩
 .rcases x with x|x|rfl
  .exact h.lt b (.inl x.1)
  .exact h.lt b (.inr x)
  .exact h.lt _ (.inl hM)
end
def U8 (J:Jb)(P0:Program)(p:Ph)(ok:Ctx)(M' Ro0:Nat->Prop)(Wst:World)(r4:Nat)(t0 t1:Value)(a:Act)(Ro M:Nat->Prop)(W:World):Prop:=
 (∃v8 v9 v10 v12 v13 v14 v15 v16 v17 v18 v19 v20:Value,a=⟨#[t0,t1,.pointer J.bl,.pointer J.bn,.pointer r4,.pointer J.tb,.pointer p.Wg,.pointer J.bb,v8,v9,v10,.int .i64 4,v12,v13,v14,v15,v16,v17,v18,v19,v20],[]⟩)/\BT J P0 p ok M' Ro0 Wst Ro M W
omit [Gl] in
theorem Jd (Anch:(Nat->Prop)->(Nat->Prop)->Goroutine->World->Prop)(r:Nat)(Ro:Nat->Prop):∃Stop,∀M g W,p.Spawns Anch r Ro M g W=ET p.P true p.I p.dz Ro Stop M g W:=by
 cases r<;>exact⟨_,λ_ _ _=>rfl⟩
theorem My (eh:dE P0 P0 ok)(hP:dE P0 Tryz.prog ok)(gY:∀f,ok.fn f=true->ok.bI f=true)(xH:jl P0 c)(hL:p.L<4611686018427387904)(oX:p.P=Tryz.prog)(hn4:p.n=4)(r:Nat):
  ∀(j:Nat) (v8 v9 v10 v13 v14 v15 v16 v17 v18 v19 v20:Value) (Ro M:Nat->Prop) (W:World),j+r=4->BT J P0 p ok M' Ro0 Wst Ro M W->
   p.Spawns (p.U6 link (U8 J P0 p ok M' Ro0 Wst r4 t0 t1) (base 139) ur 0 [] [.code (fi iE)] cs) r Ro M (G ((base 139).at ⟨#[t0,t1,.pointer (some ⟨J.bl,0,none⟩),.pointer (some ⟨J.bn,0,none⟩),.pointer (some ⟨r4,0,none⟩),.pointer (some ⟨J.tb,0,none⟩),.pointer (some ⟨p.Wg,0,none⟩),.pointer (some ⟨J.bb,0,none⟩),v8,v9,v10,.int .i64 4,.int .i64 j,v13,v14,v15,v16,v17,v18,v19,v20],[]⟩ [.code kP,.inLoop kP,.inBlock 0,.code iE]) cs) W:=by
 have H:WgLib p.P link:=oX▸zF;obtain⟨An,Qh⟩:∃An,An=p.U6 link (U8 J P0 p ok M' Ro0 Wst r4 t0 t1) (base 139) ur 0 [] [.code (fi iE)] cs:=⟨_,rfl⟩;rw[<-Qh];induction r with
 |zero=>
  intro j v8 v9 v10 v13 v14 v15 v16 v17 v18 v19 v20 Ro M W hj hb;obtain rfl:j=4:=ab;show ET p.P true p.I p.dz Ro (p.AtKd An Ro) M _ W;simp only[kP,iE,dK,Tryz.f139,Option.getD_some,jJ,fi,Option.or_some,Option.or_none,Option.none_or];rw[oX];apply ET.sr
  (refine ET.o rfl rfl (λ_ K hK=>?_);go_simp;refine hK _ _ rfl ?_;clear hK K;try w_num)
  apply ET.rn;apply ET.sq;refine ET.gp rfl ?_;refine ET.c (λ_=>stepG_exit rfl) ?_;apply ET.sr;refine ET.k rfl (λ_ _ _=>goes_call rfl rfl (by k_ne) rfl zF.f_wait (nm_wait link) rfl ⟨⟨rfl,λe he=>zO⟩,?_⟩);walk_nrmf waitFn
  have hA:=Ph.waitStart (p:=p) (L:=link) (F:=U8 J P0 p ok M' Ro0 Wst r4 t0 t1) (abY:=base 139) (ops0:=ur) (ab1:=0) (rest0:=[]) (ab2:=[.code (fi iE)]) (cs:=cs) (Ro:=Ro) (M:=M) (ab8:=W) (abW:=⟨#[t0,t1,.pointer J.bl,.pointer J.bn,.pointer r4,.pointer J.tb,.pointer p.Wg,.pointer J.bb,v8,v9,v10,.int .i64 4,.int .i64 4,false,v14,v15,v16,v17,v18,v19,v20],[]⟩) H (λw k=>⟨⟨v8,v9,v10,_,_,v14,v15,v16,v17,v18,v19,v20,rfl⟩,hb.rely k⟩);rw[<-Qh,oX]at hA;simp only[body_wait,waitFn,Option.getD_some]at hA;exact hA
 |succ r ih=>
  intro j v8 v9 v10 v13 v14 v15 v16 v17 v18 v19 v20 Ro M W hj hb;show ET p.P true p.I p.dz Ro (p.AtKdS Ro (p.n-(r+1)) (p.Spawns An r)) M _ W;have ej:p.n-(r+1)=j:=ab;rw[ej];have aI:(j:Int)<4:=ab;have hd:decide ((j:Int)<4)=true:=decide_eq_true aI;simp only[kP,iE,dK,Tryz.f139,Option.getD_some,jJ,fi,Option.or_some,Option.or_none,Option.none_or];rw[oX];apply ET.sr
  (refine ET.o rfl rfl (λ_ K hK=>?_);go_simp;refine hK _ _ rfl ?_;clear hK K;try w_num)
  apply ET.rn;apply ET.sq;refine ET.kH rfl ?_;apply ET.sk;apply ET.sq;refine ET.c (λ_=>stepG_block) ?_;apply ET.sr
  (refine ET.o rfl rfl (λ_ K hK=>?_);go_simp;refine hK _ _ rfl ?_;clear hK K;try w_num)
  refine ET.oper rfl rfl (by k_ne) λai ab3 _=>⟨.pointer (some ⟨ai.heap.size,0,none⟩),ai.alloc (.cells #[.int .i64 0] 3),?_,?_,?_⟩
  .go_simp
  .refine ez.alloc _ λe he=>?_
   have hm:=mem_listed he;simp[go_sem]at hm
  walk_nrm
  have GE:=hb.rely ab3;have z0:(ai.alloc (.cells #[.int .i64 0] 3)).heap.size=ai.heap.size+1:=by show(ai.heap.push _).size=_;simp
  have tA:grow M ai (ai.alloc (.cells #[.int .i64 0] 3)) ai.heap.size:=.inr ⟨ack _,by rw[z0];omega⟩;have Cb:=GE.alloc (.cells #[.int .i64 0] 3);have DU:¬(M' ai.heap.size\/Ro0 ai.heap.size):=λe=>by have:=GE.lt _ (GE.sub _ e);omega
  have Np:(ai.alloc (.cells #[.int .i64 0] 3)).heap[ai.heap.size]?=some (.cells #[.int .i64 0] 3 (0,0)):=heap_alloc_new _ _;generalize ai.alloc (.cells #[.int .i64 0] 3)=du at Cb tA Np z0⊢;generalize grow M ai du=oD at Cb tA⊢;generalize ai.heap.size=bi at tA DU Np z0⊢;clear GE hb;refine ET.none rfl rfl (by k_ne) λdq dx _=>⟨dq.setCell ⟨bi,0,none⟩ (.int .i64 j),?_,?_,?_⟩
  .have hc:=ff ((dx.block _ (.inl tA)).trans Np);have hz:dq.frozen? bi=false:=by simp[World.frozen?,(dx.block _ (.inl tA)).trans Np]
   go_simp
  .have hc:=ff ((dx.block _ (.inl tA)).trans Np);have hz:dq.frozen? bi=false:=by simp[World.frozen?,(dx.block _ (.inl tA)).trans Np]
   refine ez.set _ tA λe he=>?_
   have hm:=mem_listed he;simp[go_sem,hc,hz]at hm;subst hm;exact ge tA
  rw[cD (aside_setCell dq ⟨bi,0,none⟩ (.int .i64 j)).size];have rU:=(Cb.rely dx).set (a:=⟨bi,0,none⟩) (.int .i64 j) DU (Cb.mr _ tA);have yQ:(dq.setCell ⟨bi,0,none⟩ (.int .i64 j)).heap[bi]?=some (.cells #[.int .i64 j] 3 (0,0)):=Gx ((dx.block _ (.inl tA)).trans Np);generalize dq.setCell ⟨bi,0,none⟩ (.int .i64 j)=qe at rU yQ⊢;clear Cb dx Np;walk_nrm
  apply ET.ns;refine ET.k rfl (λ_ _ _=>goes_call rfl rfl (by k_ne) rfl zF.f_add (nm_add link) rfl ⟨⟨rfl,λe he=>zO⟩,?_⟩);walk_nrmf addFn
  have hA:=@Ph.addPos p oD Ro link j (p.Spawns An r);simp only[body_add,addFn,Option.getD_some,oX]at hA;refine hA zF (λe=>e.elim (rU.sp _ (.inl rfl)).1 (rU.sp _ (.inl rfl)).2.1) (λw k=>?_);clear hA;replace rU:=rU.rely k;replace yQ:=(k.block _ (.inl tA)).trans yQ;clear k;walk_nrm
  apply ET.rn;apply ET.rg;refine ET.val (.func (.func 156) #[] #[.pointer p.Wg,.pointer J.bl,.pointer J.bn,.pointer J.tb,.pointer J.bb,.pointer bi]) rfl rfl (by k_ne) (λNg _ _=>⟨?_,λe he=>?_⟩) ?_
  .go_simp
   rfl
  .simp[go_sem]at he;change e∈#[]at he;simp at he
  walk_nrm
  refine ET.stop λNg AB abS=>?_
  replace rU:=rU.rely AB;replace yQ:=(AB.block _ (.inl tA)).trans yQ;clear AB;refine⟨rfl,?gx,born Tryz.prog (call47 J p.Wg bi),λb=>Ro b\/b=bi,?_,rfl,λb hb=>.inl hb,λb hb=>hb.elim .inl λe=>.inr (e▸tA),?_,?_⟩;rotate_left 1
  .rw[oX,stepG_spawn (d:=call47 J p.Wg bi) (w':=Ng) (f:=.func 156) (c:=#[.pointer p.Wg,.pointer J.bl,.pointer J.bn,.pointer J.tb,.pointer J.bb,.pointer bi]) rfl rfl (by k_ne) (by simp[go_sem,call47,Deferred.ofValue]) rfl];generalize hL:listed _ _ _ _ _=Lx;have hLx:Lx=#[]:=by
    rw[<-hL];simp[listed,go_sem,seen,Deferred.ofValue];rfl
   subst hLx;rfl
  .have cZ:=rU.go tA;exact Rh cZ.XB eh hP gY xH hL ab (.inr rfl) yQ cZ.wb (λb hb=>(cZ.sp b hb).2.1) (λb hb=>hb.elim (λx=>(cZ.sp b x).2.2) λx=>cZ.lt b (.inr x)) cZ.gl
  .have cZ:=rU.go tA;obtain⟨Stop,hS⟩:=Jd (p:=p) An r (λb=>Ro b\/b=bi);have Ao:IntKind.i64.wrap ((j:Int)+1)=((j+1:Nat):Int):=gH;rw[hS,oX];walk_nrm
   apply ET.rn;refine ET.c (λ_=>stepG_inBlock) ?_;apply ET.rg
   iterate 2 (refine ET.o rfl rfl (λ_ K hK=>?_);go_simp;refine hK _ _ rfl ?_;clear hK K;try w_num)
   apply ET.rn;refine ET.c (λ_=>stepG_inLoop) ?_;have hI:=ih (j+1) (.pointer (some ⟨bi,0,none⟩)) v9 v10 (.bool true) (.int .i64 j) (.tuple #[]) (.func (.func 156) #[] #[.pointer (some ⟨p.Wg,0,none⟩),.pointer (some ⟨J.bl,0,none⟩),.pointer (some ⟨J.bn,0,none⟩),.pointer (some ⟨J.tb,0,none⟩),.pointer (some ⟨J.bb,0,none⟩),.pointer (some ⟨bi,0,none⟩)]) (.int .i64 ((j+1:Nat):Int)) v18 v19 v20 _ _ Ng ab cZ;rw[hS,oX]at hI;exact hI
end
noncomputable def zd:Array Oper:=(mD 1 dK).getD #[]
noncomputable def ze:Array Oper:=(mD 2 dK).getD #[]
structure EN (eY:Nat->Prop)(abV:World)(M:Nat->Prop)(W:World):Prop where
 own:∀b,eY b->M b
 keep:aO eY abV W
 lt:∀b,M b->b<W
 new:∀b,M b->eY b\/abV.heap.size<=b
section
variable {eY M:Nat->Prop}{abV W ai:World}
theorem EN.rely (h:EN eY abV M W)(k:aO (λb=>M b\/False) W ai):EN eY abV M ai:=⟨h.own,h.keep.trans (k.mono λb hb=>.inl (h.own b hb)),λb hb=>acl (h.lt b hb) k.size,h.new⟩
theorem EN.alloc (h:EN eY abV M W)(o:Obj):EN eY abV (grow M W (W.alloc o)) (W.alloc o):=by
 have z:(W.alloc o).heap.size=W.heap.size+1:=by show(W.heap.push o).size=_;simp
 refine⟨λb hb=>.inl (h.own b hb),h.keep.trans ⟨λb hb=>Below.heap_alloc _ _ _ (h.lt b (h.own b hb)),by rw[z];omega,rfl,rfl⟩,λb hb=>hb.elim (λx=>by rw[z];have:=h.lt b x;omega) And.right,λb hb=>hb.elim (h.new b) λx=>.inr (acn h.keep.size x.1)⟩
end
section
variable {rb:List Frame}{M:Nat->Prop}{W:World}{la na:Option Addr}{ln lc nn nc:Nat}
theorem R4 (hM:∀b,M b->b<W):
  ET Tryz.prog true (λ_=>True) Ph.mU (λ_=>False) (λM' g W'=>∃bl bn r4,g=G ((base 139).at ⟨#[.slice la ln lc,.slice na nn nc,.pointer (some ⟨bl,0,none⟩),.pointer (some ⟨bn,0,none⟩),.pointer (some ⟨r4,0,none⟩),undef,undef,undef,undef,undef,undef,undef,undef,undef,undef,undef,undef,undef,undef,undef,undef],[]⟩ [.inRegion zd [0],.code (fi (fi dK))]) rb/\EN M W M' W'/\(W.heap.size<=bl/\bl<bn/\bn<r4)/\M' bl/\M' bn/\M' r4/\
    W'.heap[bl]?=some (.cells #[.slice la ln lc] 23 (0,0))/\W'.heap[bn]?=some (.cells #[.slice na nn nc] 179 (0,0))/\W'.heap[r4]?=some (.cells dQ.cells.toArray 177 (0,0)))
   M (G ((base 139).at ⟨#[.slice la ln lc,.slice na nn nc,undef,undef,undef,undef,undef,undef,undef,undef,undef,undef,undef,undef,undef,undef,undef,undef,undef,undef,undef],[]⟩ [.code dK]) rb) W:=by
 have z0:∀(w:World) (o:Obj),(w.alloc o).heap.size=w.heap.size+1:=λw o=>by show(w.heap.push o).size=_;simp
 have hE:EN M W M W:=⟨λ_ h=>h,aO.refl _ _,hM,λ_ h=>.inl h⟩;simp only[dK,Tryz.f139,Option.getD_some];apply ET.sr;refine ET.oper rfl rfl (by k_ne) λai ab3 _=>⟨.pointer (some ⟨ai.heap.size,0,none⟩),ai.alloc (.cells #[.slice la ln lc] 23),?_,?_,?_⟩
 .go_simp
 .refine ez.alloc _ λe he=>?_
  have hm:=mem_listed he;simp[go_sem]at hm
 walk_nrm
 have h1:=(hE.rely ab3).alloc (.cells #[.slice la ln lc] 23);have m1:grow M ai (ai.alloc (.cells #[.slice la ln lc] 23)) ai.heap.size:=.inr ⟨ack _,by rw[z0];omega⟩;have c1:(ai.alloc (.cells #[.slice la ln lc] 23)).heap[ai.heap.size]?=some (.cells #[.slice la ln lc] 23 (0,0)):=heap_alloc_new _ _;have s1:=ab3.size;have y1:=z0 ai (.cells #[.slice la ln lc] 23);generalize ai.alloc (.cells #[.slice la ln lc] 23)=J9 at h1 m1 c1 y1⊢;generalize grow M ai J9=fN at h1 m1⊢;generalize ai.heap.size=bl at m1 c1 s1 y1⊢;refine ET.oper rfl rfl (by k_ne) λdu ab4 _=>⟨.pointer (some ⟨du.heap.size,0,none⟩),du.alloc (.cells #[.slice na nn nc] 179),?_,?_,?_⟩
 .go_simp
 .refine ez.alloc _ λe he=>?_
  have hm:=mem_listed he;simp[go_sem]at hm
 walk_nrm
 have h2:=(h1.rely ab4).alloc (.cells #[.slice na nn nc] 179);have m2:grow fN du (du.alloc (.cells #[.slice na nn nc] 179)) du.heap.size:=.inr ⟨ack _,by rw[z0];omega⟩;have s2:=ab4.size;have y2:=z0 du (.cells #[.slice na nn nc] 179);have c2:(du.alloc (.cells #[.slice na nn nc] 179)).heap[du.heap.size]?=some (.cells #[.slice na nn nc] 179 (0,0)):=heap_alloc_new _ _;have Nj:(du.alloc (.cells #[.slice na nn nc] 179)).heap[bl]?=some (.cells #[.slice la ln lc] 23 (0,0)):=(Below.heap_alloc _ _ _ ab).trans ((ab4.block _ (.inl m1)).trans c1);have Ny:grow fN du (du.alloc (.cells #[.slice na nn nc] 179)) bl:=.inl m1;generalize du.alloc (.cells #[.slice na nn nc] 179)=NT at h2 m2 c2 Nj Ny y2⊢;generalize grow fN du NT=oD at h2 m2 Ny⊢;generalize du.heap.size=bn at m2 c2 s2 y2⊢;refine ET.oper rfl rfl (by k_ne) λdq dx _=>⟨.pointer (some ⟨dq.heap.size,0,none⟩),dq.alloc (.cells #[false,.int .i64 0,.int .i64 0,()] 177),?_,?_,?_⟩
 .go_simp
 .refine ez.alloc _ λe he=>?_
  have hm:=mem_listed he;simp[go_sem]at hm
 walk_nrm
 have h3:=(h2.rely dx).alloc (.cells #[false,.int .i64 0,.int .i64 0,()] 177);have m3:grow oD dq (dq.alloc (.cells #[false,.int .i64 0,.int .i64 0,()] 177)) dq.heap.size:=.inr ⟨ack _,by rw[z0];omega⟩;have s3:=dx.size;have c3:(dq.alloc (.cells #[false,.int .i64 0,.int .i64 0,()] 177)).heap[dq.heap.size]?=some (.cells dQ.cells.toArray 177 (0,0)):=heap_alloc_new _ _;have Qd:(dq.alloc (.cells #[false,.int .i64 0,.int .i64 0,()] 177)).heap[bn]?=some (.cells #[.slice na nn nc] 179 (0,0)):=(Below.heap_alloc _ _ _ ab).trans ((dx.block _ (.inl m2)).trans c2);have Ks:(dq.alloc (.cells #[false,.int .i64 0,.int .i64 0,()] 177)).heap[bl]?=some (.cells #[.slice la ln lc] 23 (0,0)):=(Below.heap_alloc _ _ _ ab).trans ((dx.block _ (.inl Ny)).trans Nj);have O4:grow oD dq (dq.alloc (.cells #[false,.int .i64 0,.int .i64 0,()] 177)) bl:=.inl Ny;have Zu:grow oD dq (dq.alloc (.cells #[false,.int .i64 0,.int .i64 0,()] 177)) bn:=.inl m2;generalize dq.alloc (.cells #[.bool false,.int .i64 0,.int .i64 0,.slice none 0 0] 177)=Rz at h3 m3 c3 Qd Ks O4 Zu⊢;generalize grow oD dq Rz=ZU at h3 m3 O4 Zu⊢;generalize dq.heap.size=r4 at m3 c3 s3⊢;apply ET.ns;refine ET.stop λqe jS _=>⟨bl,bn,r4,rfl,h3.rely jS,⟨ab,ab,ab⟩,O4,Zu,m3,(jS.block _ (.inl O4)).trans Ks,(jS.block _ (.inl Zu)).trans Qd,(jS.block _ (.inl m3)).trans c3⟩
end
section
variable {rb:List Frame}{M:Nat->Prop}{W:World}{la na:Option Addr}{ln lc nn nc bl bn r4 tb wg:Nat}
theorem PL (w:World):stepG Tryz.prog true (G ((base 139).at ⟨#[.slice la ln lc,.slice na nn nc,.pointer bl,.pointer bn,.pointer r4,undef,undef,undef,undef,undef,undef,undef,undef,undef,undef,undef,undef,undef,undef,undef,undef],[]⟩ [.inRegion zd [0],.code (fi (fi dK))]) rb) w=
  .go (G ((base 139).at ⟨#[.slice la ln lc,.slice na nn nc,.pointer bl,.pointer bn,.pointer r4,.pointer w.heap.size,undef,undef,undef,undef,undef,undef,undef,undef,undef,undef,undef,undef,undef,undef,undef],[]⟩ [.inRegion zd [],.code (fi (fi dK))]) rb) (w.alloc (.cells #[.int .i64 0] 203)) #[]:=by
 obtain⟨o,ho,bf,hd,hg⟩:∃o,zd[0]?=some o/\o.op=.alloc 203/\o.dst=some 5/\o.guard=none:=⟨_,rfl,rfl,rfl,rfl⟩;have hr:∀f,(execOp f o).run Tryz.prog w=.ok (.value (.pointer w.heap.size)) (w.alloc (.cells #[.int .i64 0] 203)):=λf=>by
  unfold execOp;simp only[bf];go_simp
 have he:∀f,(execOp f o).events Tryz.prog w #[]=#[]:=λf=>by
  unfold execOp;simp only[bf];simp[go_sem]
 rw[oy ho kD (by k_ne) (hr _)];unfold listed;rw[he,seen_none,hd];walk_nrm
theorem PM (w:World):stepG Tryz.prog true (G ((base 139).at ⟨#[.slice la ln lc,.slice na nn nc,.pointer bl,.pointer bn,.pointer r4,.pointer tb,undef,undef,undef,undef,undef,undef,undef,undef,undef,undef,undef,undef,undef,undef,undef],[]⟩ [.inRegion ze [0],.code (fi (fi (fi dK)))]) rb) w=
  .go (G ((base 139).at ⟨#[.slice la ln lc,.slice na nn nc,.pointer bl,.pointer bn,.pointer r4,.pointer tb,.pointer w.heap.size,undef,undef,undef,undef,undef,undef,undef,undef,undef,undef,undef,undef,undef,undef],[]⟩ [.inRegion ze [],.code (fi (fi (fi dK)))]) rb) (w.alloc (.cells #[.int .u64 0,.int .u32 0] 210)) #[]:=by
 obtain⟨o,ho,bf,hd,hg⟩:∃o,ze[0]?=some o/\o.op=.alloc 210/\o.dst=some 6/\o.guard=none:=⟨_,rfl,rfl,rfl,rfl⟩;have hr:∀f,(execOp f o).run Tryz.prog w=.ok (.value (.pointer w.heap.size)) (w.alloc (.cells #[.int .u64 0,.int .u32 0] 210)):=λf=>by
  unfold execOp;simp only[bf];go_simp
 have he:∀f,(execOp f o).events Tryz.prog w #[]=#[]:=λf=>by
  unfold execOp;simp only[bf];simp[go_sem]
 rw[oy ho kD (by k_ne) (hr _)];unfold listed;rw[he,seen_none,hd];walk_nrm
theorem R5:ET Tryz.prog true (λ_=>True) Ph.mU (λ_=>False) (λM' g W'=>M'=M/\aO M W W'/\g=G ((base 139).at ⟨#[.slice la ln lc,.slice na nn nc,.pointer bl,.pointer bn,.pointer r4,.pointer tb,undef,undef,undef,undef,undef,undef,undef,undef,undef,undef,undef,undef,undef,undef,undef],[]⟩ [.inRegion ze [0],.code (fi (fi (fi dK)))]) rb)
  M (G ((base 139).at ⟨#[.slice la ln lc,.slice na nn nc,.pointer bl,.pointer bn,.pointer r4,.pointer tb,undef,undef,undef,undef,undef,undef,undef,undef,undef,undef,undef,undef,undef,undef,undef],[]⟩ [.inRegion zd [],.code (fi (fi dK))]) rb) W:=by
 simp only[dK,Tryz.f139,Option.getD_some,fi];apply ET.ns;exact ET.stop λai ab3 _=>⟨rfl,ab3.mono λb hb=>.inl hb,rfl⟩
end
theorem Ri (w:World):(Instr.makeSlice 211 (.int .i64 4) (.int .i64 4)).run Tryz.prog w=.ok (.slice w.heap.size 4 4) (w.alloc (.cells #[false,.int .i64 0,.int .i64 0,(),false,.int .i64 0,.int .i64 0,(),false,.int .i64 0,.int .i64 0,(),false,.int .i64 0,.int .i64 0,()] 177)):=bR
theorem Vy (w:World)(es:Array Event):(Instr.makeSlice 211 (.int .i64 4) (.int .i64 4)).events Tryz.prog w es=es:=bR
section
variable {rb:List Frame}{M:Nat->Prop}{W:World}{la na:Option Addr}{ln lc nn nc bl bn r4 tb wg:Nat}
theorem R6 (hM:∀b,M b->b<W):
  ET Tryz.prog true (λ_=>True) Ph.mU (λ_=>False) (λM' g W'=>∃(Bs bb:Nat) (v9 v10:Value),g=G ((base 139).at ⟨#[.slice la ln lc,.slice na nn nc,.pointer bl,.pointer bn,.pointer r4,.pointer tb,.pointer wg,.pointer bb,undef,v9,v10,.int .i64 4,.int .i64 0,undef,undef,undef,undef,undef,undef,undef,undef],[]⟩ [.code kP,.inLoop kP,.inBlock 0,.code iE]) rb/\EN M W M' W'/\(W.heap.size<=Bs/\Bs<bb)/\M' Bs/\M' bb/\
    W'.heap[bb]?=some (.cells #[.slice Bs 4 4] 211 (0,0))/\∃cs,W'.heap[Bs]?=some (.cells cs 177 (0,0))/\cs.size=16)
   M (G ((base 139).at ⟨#[.slice la ln lc,.slice na nn nc,.pointer bl,.pointer bn,.pointer r4,.pointer tb,.pointer wg,undef,undef,undef,undef,undef,undef,undef,undef,undef,undef,undef,undef,undef,undef],[]⟩ [.inRegion ze [],.code (fi (fi (fi dK)))]) rb) W:=by
 have z0:∀(w:World) (o:Obj),(w.alloc o).heap.size=w.heap.size+1:=λw o=>by show(w.heap.push o).size=_;simp
 have hE:EN M W M W:=⟨λ_ h=>h,aO.refl _ _,hM,λ_ h=>.inl h⟩;simp only[kP,iE,dK,Tryz.f139,Option.getD_some,jJ,fi,Option.or_some,Option.or_none,Option.none_or];apply ET.ns;refine ET.oper rfl rfl (by k_ne) λai ab3 _=>⟨.slice (some ⟨ai.heap.size,0,none⟩) 4 4,ai.alloc (.cells #[false,.int .i64 0,.int .i64 0,(),false,.int .i64 0,.int .i64 0,(),false,.int .i64 0,.int .i64 0,(),false,.int .i64 0,.int .i64 0,()] 177),?_,?_,?_⟩
 .go_simp
  rw[Ri];rfl
 .refine ez.alloc _ λe he=>?_
  have hm:=mem_listed he;simp[go_sem]at hm;rw[Vy]at hm;simp at hm
 walk_nrm
 have h1:=(hE.rely ab3).alloc (.cells #[false,.int .i64 0,.int .i64 0,(),false,.int .i64 0,.int .i64 0,(),false,.int .i64 0,.int .i64 0,(),false,.int .i64 0,.int .i64 0,()] 177);have m1:grow M ai (ai.alloc (.cells #[false,.int .i64 0,.int .i64 0,(),false,.int .i64 0,.int .i64 0,(),false,.int .i64 0,.int .i64 0,(),false,.int .i64 0,.int .i64 0,()] 177)) ai.heap.size:=.inr ⟨ack _,by rw[z0];omega⟩;have c1:∃cs:Array Value,(ai.alloc (.cells #[false,.int .i64 0,.int .i64 0,(),false,.int .i64 0,.int .i64 0,(),false,.int .i64 0,.int .i64 0,(),false,.int .i64 0,.int .i64 0,()] 177)).heap[ai.heap.size]?=some (.cells cs 177 (0,0))/\cs.size=16:=⟨_,heap_alloc_new _ _,rfl⟩;have s1:=ab3.size;have y1:=z0 ai (.cells #[false,.int .i64 0,.int .i64 0,(),false,.int .i64 0,.int .i64 0,(),false,.int .i64 0,.int .i64 0,(),false,.int .i64 0,.int .i64 0,()] 177);generalize ai.alloc (.cells #[.bool false,.int .i64 0,.int .i64 0,.slice none 0 0,.bool false,.int .i64 0,.int .i64 0,.slice none 0 0,.bool false,.int .i64 0,.int .i64 0,.slice none 0 0,.bool false,.int .i64 0,.int .i64 0,.slice none 0 0] 177)=J9 at h1 m1 c1 y1⊢;generalize grow M ai J9=fN at h1 m1⊢;generalize ai.heap.size=Bs at m1 c1 s1 y1⊢;refine ET.oper rfl rfl (by k_ne) λdu ab4 _=>⟨.pointer (some ⟨du.heap.size,0,none⟩),du.alloc (.cells #[()] 211),?_,?_,?_⟩
 .go_simp
 .refine ez.alloc _ λe he=>?_
  have hm:=mem_listed he;simp[go_sem]at hm
 walk_nrm
 have h2:=(h1.rely ab4).alloc (.cells #[()] 211);have m2:grow fN du (du.alloc (.cells #[()] 211)) du.heap.size:=.inr ⟨ack _,by rw[z0];omega⟩;have s2:=ab4.size;have y2:=z0 du (.cells #[()] 211);have c2:(du.alloc (.cells #[()] 211)).heap[du.heap.size]?=some (.cells #[()] 211 (0,0)):=heap_alloc_new _ _;have Nj:∃cs:Array Value,(du.alloc (.cells #[()] 211)).heap[Bs]?=some (.cells cs 177 (0,0))/\cs.size=16:=by
  obtain⟨cs,g1,g2⟩:=c1;exact⟨cs,(Below.heap_alloc _ _ _ ab).trans ((ab4.block _ (.inl m1)).trans g1),g2⟩
 have Ny:grow fN du (du.alloc (.cells #[()] 211)) Bs:=.inl m1;have hbM:¬M du.heap.size:=λe=>by have:=(h1.rely ab4).lt _ ((h1.rely ab4).own _ e);omega
 generalize du.alloc (.cells #[.slice none 0 0] 211)=NT at h2 m2 c2 Nj Ny y2⊢;generalize grow fN du NT=oD at h2 m2 Ny⊢;generalize du.heap.size=bb at m2 c2 s2 y2 hbM⊢;refine ET.none rfl rfl (by k_ne) λdq dx _=>⟨dq.setCell bb (.slice Bs 4 4),?_,?_,?_⟩
 .have hc:=ff ((dx.block _ (.inl m2)).trans c2);have hz:dq.frozen? bb=false:=by simp[World.frozen?,(dx.block _ (.inl m2)).trans c2]
  go_simp
 .have hc:=ff ((dx.block _ (.inl m2)).trans c2);have hz:dq.frozen? bb=false:=by simp[World.frozen?,(dx.block _ (.inl m2)).trans c2]
  refine ez.set _ m2 λe he=>?_
  have hm:=mem_listed he;simp[go_sem,hc,hz]at hm;rw[events_store _ _ _ _ _ _ rfl,hc]at hm;simp[hz]at hm;subst hm;exact ge m2
 rw[cD (aside_setCell dq bb (.slice Bs 4 4)).size];have c3:(dq.setCell bb (.slice Bs 4 4)).heap[bb]?=some (.cells #[.slice Bs 4 4] 211 (0,0)):=Gx ((dx.block _ (.inl m2)).trans c2);have Ks:∃cs:Array Value,(dq.setCell bb (.slice Bs 4 4)).heap[Bs]?=some (.cells cs 177 (0,0))/\cs.size=16:=by
  obtain⟨cs,g1,g2⟩:=Nj;exact⟨cs,(Below.heap_setCell _ _ _ _ (by show Bs≠bb;omega)).trans ((dx.block _ (.inl Ny)).trans g1),g2⟩
 have h3:EN M W oD (dq.setCell bb (.slice Bs 4 4)):=by
  have h:=h2.rely dx;have z:=(aside_setCell dq bb (.slice Bs 4 4)).size;exact⟨h.own,h.keep.trans ⟨λb hb=>Below.heap_setCell _ _ _ _ (λe=>hbM (by have e':b=bb:=e;exact e'▸hb)),by rw[z];omega,rfl,rfl⟩,λb hb=>by rw[z];exact h.lt b hb,h.new⟩
 generalize dq.setCell ⟨bb,0,none⟩ (.slice (some ⟨Bs,0,none⟩) 4 4)=Rz at h3 c3 Ks⊢;walk_nrm
 apply ET.rn;apply ET.sq;apply ET.sr;refine ET.val (.slice Bs 4 4) rfl rfl (by k_ne) (λqe jS _=>?_) ?_
 .have hc:=ff ((jS.block _ (.inl m2)).trans c3);refine⟨?_,λe he=>?_⟩
  .go_simp
  .simp[go_sem,hc]at he;subst he;exact ge m2
 walk_nrm
 iterate 2 (refine ET.o rfl rfl (λ_ K hK=>?_);go_simp;refine hK _ _ rfl ?_;clear hK K;try w_num)
 apply ET.rn;refine ET.c (λ_=>stepG_block) ?_;refine ET.c (λ_=>stepG_loop) ?_;refine ET.stop λqe jS _=>⟨Bs,bb,_,_,rfl,h3.rely jS,⟨ab,ab⟩,Ny,m2,(jS.block _ (.inl m2)).trans c3,?_⟩
 obtain⟨cs,g1,g2⟩:=Ks;exact⟨cs,(jS.block _ (.inl Ny)).trans g1,g2⟩
end
theorem fF {P:Program}{N':Nat}{ab5:Machine}{M7:Trace}{r:Stepped×Trace}(h':runNT P N' ab5 M7=r):∀(N:Nat) (m:Machine) (t:Trace),runNT P N m t=(.next ab5,M7)->runNT P (N+N') m t=r:=by
 intro N;induction N with
 |zero=>intro m t h;simp only[runNT,Prod.mk.injEq,Stepped.next.injEq]at h;obtain⟨rfl,rfl⟩:=h;rw[Nat.zero_add];exact h'
 |succ N ih=>
  intro m t h;rw[show N+1+N'=(N+N')+1 by omega];simp only[runNT]at h⊢;generalize stepT P m=s at h⊢;obtain⟨s,ops⟩:=s;cases s with
  |next m'=>exact ih _ _ h
  |_=>simp at h
section
variable {ax:Loc->Prop}{rb:List Frame}{M:Nat->Prop}{gs:Array Goroutine}{w:World}{sl:Option (Nat×Nat)}{t:Trace}{q:Nat->Nat}{la na:Option Addr}{ln lc nn nc:Nat}
theorem dD.O2 {P:Program}{V:Nat->Prop}{a:Goroutine}(h:dD P ax V (λ_=>False) M gs a w t q):∀b,M b->b<w:=λb hb=>h.lt b (.inl hb)
theorem Pq (h:dD Tryz.prog ax (λ_=>False) (λ_=>False) M gs (G ((base 139).at ⟨#[.slice la ln lc,.slice na nn nc,undef,undef,undef,undef,undef,undef,undef,undef,undef,undef,undef,undef,undef,undef,undef,undef,undef,undef,undef],[]⟩ [.code dK]) rb) w t q):
  ∃N KT fN ab9 Yf M7 aaR bl bn r4 tb wg Bs bb v9 v10,runNT Tryz.prog N (crowd gs w sl) t=(.next (crowd KT ab9 Yf),M7)/\KT.size=gs.size/\
   dD Tryz.prog ax (λb=>(False\/b=tb)\/b=wg) (λ_=>False) fN KT (G ((base 139).at ⟨#[.slice la ln lc,.slice na nn nc,.pointer (some ⟨bl,0,none⟩),.pointer (some ⟨bn,0,none⟩),.pointer (some ⟨r4,0,none⟩),.pointer (some ⟨tb,0,none⟩),.pointer (some ⟨wg,0,none⟩),.pointer (some ⟨bb,0,none⟩),undef,v9,v10,.int .i64 4,.int .i64 0,undef,undef,undef,undef,undef,undef,undef,undef],[]⟩ [.code kP,.inLoop kP,.inBlock 0,.code iE]) rb) ab9 M7 aaR/\
   EN M w fN ab9/\(w.heap.size<=bl/\bl<bn/\bn<r4/\r4<tb/\tb<wg/\wg<Bs/\Bs<bb)/\(fN bl/\fN bn/\fN r4/\fN Bs/\fN bb)/\
   ab9.heap[bl]?=some (.cells #[.slice la ln lc] 23 (0,0))/\ab9.heap[bn]?=some (.cells #[.slice na nn nc] 179 (0,0))/\ab9.heap[r4]?=some (.cells dQ.cells.toArray 177 (0,0))/\
   ab9.heap[tb]?=some (.cells #[.int .i64 0] 203 (0,0))/\ab9.heap[wg]?=some (.cells #[.int .u64 0,.int .u32 0] 210 (0,0))/\
   ab9.heap[bb]?=some (.cells #[.slice (some ⟨Bs,0,none⟩) 4 4] 211 (0,0))/\∃cs,ab9.heap[Bs]?=some (.cells cs 177 (0,0))/\cs.size=16:=by
 have z0:∀(w:World) (o:Obj),(w.alloc o).heap.size=w.heap.size+1:=λw o=>by show(w.heap.push o).size=_;simp
 obtain⟨r,hr⟩:=R4 (rb:=rb) (la:=la) (ln:=ln) (lc:=lc) (na:=na) (nn:=nn) (nc:=nc) h.O2;obtain⟨N1,YM,M1,a1,w1,Ye,t1,q1,e1,e2,e3,e4,e5,e6,e7,e8⟩:=jf (λ_=>trivial) r _ gs M _ w sl t q (ack _) h hr;obtain⟨bl,bn,r4,rfl,hE,⟨o1,o2,o3⟩,m1,m2,m3,c1,c2,c3⟩:=e3 w1 (aO.refl _ _) trivial;have aaS:=hE.lt _ m3;obtain⟨N2,Oy,a2,w2,PA,t2,q2,f1,f2,f3,f4,f5,f6⟩:=dD.alloc (w:=w1) (sl:=Ye) (t:=t1) (q:=q1) (gs:=YM) (d:=w1.drawn) (Q:=λa' w'=>a'=G ((base 139).at ⟨#[.slice la ln lc,.slice na nn nc,.pointer (some ⟨bl,0,none⟩),.pointer (some ⟨bn,0,none⟩),.pointer (some ⟨r4,0,none⟩),.pointer (some ⟨w1.heap.size,0,none⟩),undef,undef,undef,undef,undef,undef,undef,undef,undef,undef,undef,undef,undef,undef,undef],[]⟩ [.inRegion zd [],.code (fi (fi dK))]) rb/\w'.heap[w1.heap.size]?=some (.cells #[.int .i64 0] 203 (0,0))/\w'.os=w1.os/\w'.output=w1.output)
  (λd=>⟨_,_,PL (w1.at d),z0 _ _,λb hb=>Below.heap_alloc _ _ _ hb,rfl,heap_alloc_new _ _,rfl,rfl⟩) rfl _ (ack _) e4
 obtain⟨rfl,ctk,os2,ou2⟩:=f3;obtain⟨r',eM⟩:=R5 (rb:=rb) (M:=M1) (W:=w2) (la:=la) (ln:=ln) (lc:=lc) (na:=na) (nn:=nn) (nc:=nc) (bl:=bl) (bn:=bn) (r4:=r4) (tb:=w1.heap.size);obtain⟨N3,u_,M3,a3,w3,sl3,t3,q3,g1,g2,g3,g4,g5,g6,g7,g8⟩:=jf (λ_=>trivial) r' _ Oy M1 _ w2 PA t2 q2 (ack _) f4 eM;obtain⟨rfl,k3,rfl⟩:=g3 w3 (aO.refl _ _) trivial;obtain⟨N4,gs4,a4,w4,sl4,t4,q4,i1,i2,i3,i4,i5,i6⟩:=dD.alloc (w:=w3) (sl:=sl3) (t:=t3) (q:=q3) (gs:=u_) (d:=w3.drawn) (Q:=λa' w'=>a'=G ((base 139).at ⟨#[.slice la ln lc,.slice na nn nc,.pointer (some ⟨bl,0,none⟩),.pointer (some ⟨bn,0,none⟩),.pointer (some ⟨r4,0,none⟩),.pointer (some ⟨w1.heap.size,0,none⟩),.pointer (some ⟨w3.heap.size,0,none⟩),undef,undef,undef,undef,undef,undef,undef,undef,undef,undef,undef,undef,undef,undef],[]⟩ [.inRegion ze [],.code (fi (fi (fi dK)))]) rb/\w'.heap[w3.heap.size]?=some (.cells #[.int .u64 0,.int .u32 0] 210 (0,0))/\w'.os=w3.os/\w'.output=w3.output)
  (λd=>⟨_,_,PM (w3.at d),z0 _ _,λb hb=>Below.heap_alloc _ _ _ hb,rfl,heap_alloc_new _ _,rfl,rfl⟩) rfl _ (ack _) g4
 obtain⟨rfl,cwg,os4,ou4⟩:=i3;obtain⟨r'',aav⟩:=R6 (rb:=rb) (la:=la) (ln:=ln) (lc:=lc) (na:=na) (nn:=nn) (nc:=nc) (bl:=bl) (bn:=bn) (r4:=r4) (tb:=w1.heap.size) (wg:=w3.heap.size) i4.O2;obtain⟨N5,gs5,M5,a5,w5,sl5,t5,q5,j1,j2,j3,j4,j5,j6,j7,j8⟩:=jf (λ_=>trivial) r'' _ gs4 M3 _ w4 sl4 t4 q4 (ack _) i4 aav;obtain⟨Bs,bb,v9,v10,rfl,Sn,⟨p1,p2⟩,n1,n2,cbb,cBs⟩:=j3 w5 (aO.refl _ _) trivial;have hE':aO M3 w1 w4:=(show aO M3 w1 w2 from⟨λb hb=>f6 b (hE.lt b hb),ab,os2,ou2⟩).trans (k3.trans ⟨λb hb=>i6 b (by have:=hE.lt b hb;omega),ab,os4,ou4⟩);have Zf:=hE'.trans Sn.keep;have tn:¬M3 w1.heap.size:=λx=>by have:=hE.lt _ x;omega
 have wn:¬M3 w3.heap.size:=λx=>by have:=hE.lt _ x;omega
 refine⟨N1+(N2+(N3+(N4+N5))),gs5,M5,w5,sl5,t5,q5,bl,bn,r4,w1.heap.size,w3.heap.size,Bs,bb,v9,v10,fF (fF (fF (fF j1 _ _ _ i1) _ _ _ g1) _ _ _ f1) _ _ _ e1,ab,j4,⟨λb hb=>Sn.own b (hE.own b hb),hE.keep.trans (Zf.mono hE.own),Sn.lt,λb hb=>?_⟩,⟨o1,o2,o3,aaS,ab,ab,p2⟩,⟨Sn.own _ m1,Sn.own _ m2,Sn.own _ m3,n1,n2⟩,(Zf.block _ m1).trans c1,(Zf.block _ m2).trans c2,(Zf.block _ m3).trans c3,?_,?_,cbb,cBs⟩
 .rcases Sn.new b hb with x|x
  .exact hE.new b x
  .exact .inr (by have:=hE.keep.size;omega)
 .rw[j8 _ ab tn,i6 _ ab,g8 _ ab tn];exact ctk
 .rw[j8 _ ab wn];exact cwg
end
end
section
open Conc
open ConcN (sumTo)
def Rn [Gl](fr:Frame)(V:World):Prop:=∃(b:Frame) (a:Act) (ops:Array Oper) (i:Nat) (r:List Nat) (k:List Item) (o:Oper) (x y:Nat) (ts:Array TypeId) (p q:Addr) (la ca lb cb:Nat) (c1 c2:Array Value) (t1 t2:TypeId),
 Gl.ov<1000000000/\fr=b.at a (.inRegion ops (i::r)::k)/\ops[i]?=some o/\Region.wanted o (yielded ops a.tmps)=true/\o.op=.call {callee:=.value (.func Gl.ov),args:=#[.tmp x,.tmp y],argTypes:=ts}/\
 a.tmps[x]?=some (.slice (some p) la ca)/\a.tmps[y]?=some (.slice (some q) lb cb)/\p.block≠q.block/\V.heap[p.block]?=some (.cells c1 t1 (0,0))/\c1.size≠0/\V.heap[q.block]?=some (.cells c2 t2 (0,0))/\c2.size≠0
def Ee [Gl](P:Program):Prop:=∀(p q:Addr) (la ca lb cb:Nat) (c1 c2:Array Value) (t1 t2:TypeId) (W:World),p.block≠q.block->W.heap[p.block]?=some (.cells c1 t1 (0,0))->c1.size≠0->W.heap[q.block]?=some (.cells c2 t2 (0,0))->c2.size≠0->
 (callFunc Gl.ov #[.slice (some p) la ca,.slice (some q) lb cb]).run P W=.ok (.value false) W/\∀e∈(callFunc Gl.ov #[.slice (some p) la ca,.slice (some q) lb cb]).events P W #[],∃f,e=⟨.mark (.extern f),false,true⟩
theorem Ij [Gl]{a:Act}{o:Oper}{x y:Nat}{ts:Array TypeId}{u v:Value}(bf:o.op=.call {callee:=.value (.func Gl.ov),args:=#[.tmp x,.tmp y],argTypes:=ts})(hx:a.tmps[x]?=some u)(hy:a.tmps[y]?=some v):execOp a.eval o=callFunc Gl.ov #[u,v]:=by
 have e1:a.eval (.tmp x)=u:=by simp[Act.eval,hx]
 have e2:a.eval (.tmp y)=v:=by simp[Act.eval,hy]
 have e3:a.eval (.func Gl.ov)=.func (.func Gl.ov) #[] #[]:=rfl;unfold execOp;rw[bf];simp[resolve,invoke,e1,e2,e3,Deferred.ofValue]
section
variable [Gl](P:Program)(ok:Ctx)(c:Frame)(Dr:FuncId->Array Value->World->(Value->World->Prop)->Prop)(Q:Value->World->Prop)
inductive Wk:St->Prop
 |ends {s:St}:(∀τ d,xB P Q (s.re τ d))->(∃fn t,P.funcs[s.fr.fn]?=some fn/\fn.results=#[.tmp t])->Wk s
 |step {s:St} (f:(Nat->Question->Nat)->Nat->St):ok.bI s.fr.fn=true->s.fr.kind=.normal->(∀τ d,fd P c (s.re τ d) (f τ d))->(∀τ d,Wk (f τ d))->Wk s
 |door {f:FuncId} {xs:Array Value} {fr:Frame} {cs:List Frame} {V:World} {R:Value->World->Prop}:ok.bI f=false->Dr f xs V R->(∀v V',R v V'->Wk ⟨fr.finish v,cs,V'⟩)->Wk ⟨Frame.enter P f xs .normal,fr::cs,V⟩
 |ext {fr:Frame} {cs:List Frame} {V:World}:ok.bI fr.fn=true->fr.kind=.normal->Rn fr V->Wk ⟨fr.finish (.bool false),cs,V⟩->Wk ⟨fr,cs,V⟩
end
section
variable [Gl]{P0 P:Program}{ok:Ctx}{c:Frame}{Dr:FuncId->Array Value->World->(Value->World->Prop)->Prop}{Q:Value->World->Prop}
set_option linter.unusedSectionVars false in
theorem Oh (hP:Same P0 P ok){s s':St}(hi:ok.bI s.fr.fn=true)(hk:s.fr.kind=.normal)(he:xC s)(h:fd P0 c s s'):False:=by
 obtain⟨fr,cs,V⟩:=s;obtain⟨e1,e2,e3⟩:=he;obtain⟨es,h⟩:=h;simp only at e1 e2 e3 h hi hk;subst e1;rw[jg e2]at h;obtain⟨F,cd,f1,_⟩:=hP.same _ hi;obtain⟨fn,tmps,todo,defers,mode,kind,roundOf⟩:=fr;simp only at e2 e3 hk f1;subst e3 hk;cases mode with
 |run=>exact absurd rfl e2
 |panicking ch=>
  have c1:Frame.catches P0 ⟨fn,tmps,todo,[],.panicking ch,.normal,roundOf⟩=false:=by simp[Frame.catches,f1]
  simp only[unwind,c1,List.nil_append,Bool.false_eq_true,if_false,GStep.go.injEq]at h;have:=congrArg Goroutine.callers h.1;simp[G]at this
 |returning=>
  simp only[unwind,f1,List.nil_append]at h;obtain⟨Oj,h3⟩:=kA h;generalize (results F tmps).runT P0 V #[]=x at h3;obtain⟨r,e⟩:=x;cases r with
  |ok v w=>
   simp only[doReturn,GStep.go.injEq]at h3;have:=congrArg Goroutine.callers h3.1;simp[G]at this
  |halt hh w=>cases hh<;>cases h3
def Eg (ρ:Ren)(M:Nat->Prop):Prop:=∀b d,ρ b=some d->M d
def iR:Nat->Prop:=λ_=>False
theorem bJ.others {ρ:Ren}{M:Nat->Prop}{V W ai:World}(hw:bJ ok true ρ (re V W.tape W.drawn) W)(ho:Eg ρ M)(k:aO (λb=>M b\/iR b) W ai):bJ ok true ρ (re V ai.tape ai.drawn) ai:=by
 refine⟨λb d hb=>?_,rfl,rfl,hw.gV,acn hw.gW k.size⟩;obtain⟨o,o',h1,h2,h3⟩:=hw.heap b d hb;exact⟨o,o',h1,(k.block d (.inl (ho b d hb))).trans h2,h3⟩
def oA (P:Program)(ok:Ctx)(Inv:(Nat->Prop)->World->Prop)(Dr:FuncId->Array Value->World->(Value->World->Prop)->Prop):Prop:=
 ∀{f:FuncId} {xs:Array Value} {V:World} {ρ:Ren} {xs':Array Value} {W:World} {M:Nat->Prop} {ax:Loc->Prop} {gs:Array Goroutine} {r0:Frame} {rest:List Frame} {t:Trace} {q:Nat->Nat} {sl:Option (Nat×Nat)} {R:Value->World->Prop},
  Inv M W->Dr f xs V R->aA ok ρ xs xs'->bJ ok true ρ (re V W.tape W.drawn) W->Eg ρ M->dD P ax iR iR M gs (G (Frame.enter P f xs' .normal) (r0::rest)) W t q->
  ∃N jw W' jU t' q' rP M' v' σ v V',runNT P N (crowd gs W sl) t=(.next (crowd jw W' jU),t')/\dD P rP iR iR M' jw (G (r0.finish v') rest) W' t' q'/\
   ρ.le σ/\ar ok σ v v'/\bJ ok true σ (re V' W'.tape W'.drawn) W'/\Eg σ M'/\R v V'/\aO M W W'/\(∀d,M d->M' d)/\(∀b d,σ b=some d->ρ b=some d\/W.heap.size<=d)/\∀b,Ro V b->V'.heap[b]?=V.heap[b]?
omit [Gl] in
theorem M8 [Gl]{ρ:Ren}{v:Value}(h:ar ok ρ undef v):v=undef:=by
 unfold undef at h;generalize hu:Value.tuple #[]=u at h;cases h with
 |@tuple xs xs' e h=>
  simp only[Value.tuple.injEq]at hu;subst hu;have:xs'=#[]:=by
   have:=e.symm;simpa using this
  rw[this];rfl
 |_=>cases hu
theorem vP {ρ:Ren}{f:FuncId}{xs ys A8:Array Value}(hn:((P0.funcs[f]?).map (·.ntmps)).getD 0=((P.funcs[f]?).map (·.ntmps)).getD 0)(e:Frame.enter P0 f xs .normal=Frame.enter P0 f ys .normal)(h:aA ok ρ ys A8):∃xs',aA ok ρ xs xs'/\Frame.enter P f xs' .normal=Frame.enter P f A8 .normal:=by
 have et:=congrArg Frame.tmps e;simp only[Frame.enter]at et;rw[hn]at et;have hz:=h.size;have hT:aA ok ρ (ys++Array.replicate (((P.funcs[f]?).map (·.ntmps)).getD 0-ys.size) undef) (A8++Array.replicate (((P.funcs[f]?).map (·.ntmps)).getD 0-ys.size) undef):=h.append (aA.replicate kZ _);rw[<-et]at hT;generalize hm:((P.funcs[f]?).map (·.ntmps)).getD 0=n at et hT;generalize Sv:A8++Array.replicate (n-ys.size) undef=T' at hT;have hs:=hT.size;simp only[Array.size_append,Array.size_replicate]at hs;have hx:aA ok ρ xs (T'.extract 0 xs.size):=by
  have:=hT.extract 0 xs.size;rw[Array.extract_append_left]at this;simpa using this
 refine⟨T'.extract 0 xs.size,hx,?_⟩;simp only[Frame.enter,hm,Frame.mk.injEq,true_and,and_true];rw[<-hz,Sv,<-hx.size];refine Array.ext cC λi h1 h2=>?_
 by_cases hi:i<xs.size
 .rw[Array.getElem_append_left (by rw[<-hx.size];exact hi)];simp
 .rw[Array.getElem_append_right (by rw[<-hx.size];omega)];simp only[Array.getElem_replicate];have:=hT.at_ i undef T'[i] (by rw[Array.getElem?_append_right ab,Array.getElem?_replicate,if_pos ab]) (acs h2);exact(M8 this).symm
theorem Wk.beside (hP:dE P0 P ok)(hN:∀f,ok.bI f=false->((P0.funcs[f]?).map (·.ntmps)).getD 0=((P.funcs[f]?).map (·.ntmps)).getD 0){Inv:(Nat->Prop)->World->Prop}(I_:Gl.ov<1000000000->Ee P)(hD:oA P ok Inv Dr){F:Nat->Prop}{abV:World}(So:∀M W,(∀d,F d->M d)->aO F abV W->Inv M W){s:St}(h:Wk P0 ok c Dr Q s):∀{ρ:Ren} {a:Goroutine} {gs:Array Goroutine} {M:Nat->Prop} {W:World} {sl:Option (Nat×Nat)} {t:Trace} {q:Nat->Nat} {ax:Loc->Prop},
  aO F abV W->oC P0 P ok ρ [c] [] (G s.fr (s.cs++[c])) a->bJ ok true ρ (re s.V W.tape W.drawn) W->Eg ρ M->dD P ax iR iR M gs a W t q->(∀d,F d->M d/\((∀b,ρ b≠some d)\/∃b,ρ b=some d/\Ro s.V b))->
  ∃N jw W' jU t' q' rP M' σ,∃(s':St) (eA:Frame),runNT P N (crowd gs W sl) t=(.next (crowd jw W' jU),t')/\dD P rP iR iR M' jw (G eA []) W' t' q'/\
   ρ.le σ/\ef P ok σ s'.fr eA/\bJ ok true σ (re s'.V W'.tape W'.drawn) W'/\Eg σ M'/\(∀τ d,xB P0 Q (s'.re τ d))/\aO F W W'/\∃fn t,P0.funcs[s'.fr.fn]?=some fn/\fn.results=#[.tmp t]:=by
 induction h with
 |@ends s he uT=>
  intro ρ a gs M W sl t q ax hK hg hw ho hl hF;generalize hz:G s.fr (s.cs++[c])=z at hg;cases hg with
  |@inside fr eA cs cs' a1 a2 a3=>
   have z1:=congrArg Goroutine.frame hz;have z2:=congrArg Goroutine.callers hz;simp only[G]at z1 z2;replace z2:=acI z2;subst z1 z2;have OI:s.cs=[]:=(he (λ_ _=>0) 0).1;rw[OI]at a2;cases a2;exact⟨0,gs,W,sl,t,q,ax,M,ρ,s,eA,rfl,hl,Ren.le_refl _,a1,hw,ho,he,aO.refl _ _,uT⟩
  |door a1 a2=>
   have z1:=congrArg Goroutine.frame hz;simp only[G]at z1;obtain⟨_,v,hl,_⟩:=he (λ_ _=>0) 0;have:=hl.1;have h2:s.fr.mode=.returning:=this;rw[z1]at h2;simp[Frame.enter]at h2
 |@step s f hi hk hgo Be ih=>
  intro ρ a gs M W sl t q ax hK hg hw ho hl hF;generalize hz:G s.fr (s.cs++[c])=z at hg;cases hg with
  |@inside fr eA cs cs' a1 a2 a3=>
   have z1:=congrArg Goroutine.frame hz;have z2:=congrArg Goroutine.callers hz;simp only[G]at z1 z2;replace z2:=acI z2;subst z1 z2;let Stop:(Nat->Prop)->Goroutine->World->Prop:=λM' a' ai=>∃σ τ d,ρ.le σ/\oC P0 P ok σ [c] [] (G (f τ d).fr ((f τ d).cs++[c])) a'/\bJ ok true σ (re (f τ d).V ai.tape ai.drawn) ai/\Eg σ M'/\aO F W ai/\∀d',F d'->M' d'/\((∀b,σ b≠some d')\/∃b,σ b=some d'/\Ro (f τ d).V b)
   have hPT:PT P true (λ_=>True) Ph.mU iR Stop (.node λ_=>.leaf) M (G eA (cs'++[])) W:=by
    refine .inr ⟨rfl,λai k _=>?_⟩;have ug:=hw.others ho k;obtain⟨es,UF⟩:=hgo ai.tape ai.drawn;obtain⟨σ,g2,W2,xF,e,oR,QN,jY,lW⟩:=sY (lb:=[c]) (rb:=[]) (ab5:=true) hP a1 a2 a3 ug (λx y z=>Oh (c:=c) (s:=s.re ai.tape ai.drawn) hP.toSame hi hk ⟨x,y,z⟩ ⟨es,UF⟩) UF;have hh:rL ρ (re s.V ai.tape ai.drawn) M iR:=λb d hb=>.inl (ho b d hb)
    have aI:∀b d,σ b=some d->d<W2:=λb d hb=>(QN.lt hb).2
    have uS:Eg σ (grow M ai W2):=λb d hb=>(hh.step jY aI b d hb).elim id λx=>x.1.elim
    have Zh:∀d,F d->d<W:=λd hd=>hl.lt d (.inl (hF d hd).1)
    have same:∀d,F d->W2.heap[d]?=ai.heap[d]?:=λd hd=>by
     rcases(hF d hd).2 with x|⟨b,x,y⟩
     .exact jY.keep d (acl (Zh d hd) k.size) x
     .exact(jY.ro b d x y).2
    have kF:aO F W W2:=⟨λd hd=>(same d hd).trans (k.block d (.inl (hF d hd).1)),acn k.size jY.size,jY.os.trans k.os,jY.out.trans k.out⟩;have YT:∀d,F d->grow M ai W2 d/\((∀b,σ b≠some d)\/∃b,σ b=some d/\Ro (f ai.tape ai.drawn).V b):=λd hd=>⟨.inl (hF d hd).1,by
     rcases(hF d hd).2 with y|⟨b,x,y⟩
     .refine .inl λb hb=>?_
      rcases jY.new b d hb with x|⟨_,x⟩
      .exact y b x
      .have:=Zh d hd;have:=k.size;omega
     .refine .inr ⟨b,jY.le _ _ x,?_⟩;have h1:=(jY.ro b d x y).1;obtain⟨c1,c2,c3⟩:=y;exact⟨c1,c2,h1.trans c3⟩⟩
    refine⟨g2,W2,xF,e,hh.TO jY aI lW,λdu ab4 _=>⟨σ,ai.tape,ai.drawn,jY.le,oR,?_,uS,kF.trans (ab4.mono λd hd=>.inl (YT d hd).1),YT⟩⟩;have:bJ ok true σ (re (f ai.tape ai.drawn).V W2.tape W2.drawn) W2:=⟨QN.heap,rfl,rfl,QN.gV,QN.gW⟩;exact this.others uS ab4
   obtain⟨N,jw,M',a',w',jU,t',q',h1,_,h3,h4,_⟩:=jf (λ_=>trivial) _ _ gs M _ W sl t q (ack _) hl hPT;obtain⟨σ,τ,d,g1,g2,g3,g4,g5,g6⟩:=h3 w' (aO.refl _ _) trivial;obtain⟨N2,Oy,W2,PA,t2,q2,BC,M2,Nh,s2,fr2,i1,i2,i3,i4,i5,i6,i7,i8,i9⟩:=ih τ d (sl:=jU) (hK.trans g5) g2 g3 g4 h4 g6;exact⟨N+N2,Oy,W2,PA,t2,q2,BC,M2,Nh,s2,fr2,fF i1 _ _ _ h1,i2,g1.trans i3,i4,i5,i6,i7,g5.trans i8,i9⟩
  |door a1 a2=>
   have z1:=congrArg Goroutine.frame hz;simp only[G]at z1;rw[z1]at hi;simp only[Frame.enter]at hi;rw[hi]at a2;cases a2
 |@door f xs fr cs V R hf hp Be ih=>
  intro ρ a gs M W sl t q ax hK hg hw ho hl hF;generalize hz:G (Frame.enter P0 f xs .normal) (fr::cs++[c])=z at hg;cases hg with
  |@inside fr1 eA cs1 cs' a1 a2 a3=>
   have z1:=congrArg Goroutine.frame hz;simp only[G]at z1;have:=a1.bI;rw[<-z1]at this;simp only[Frame.enter]at this;rw[hf]at this;cases this
  |@door f1 ys A8 cs1 abn a1 a2 a3 a4 a5 a6=>
   have z1:=congrArg Goroutine.frame hz;have z2:=congrArg Goroutine.callers hz;simp only[G]at z1 z2;replace z2:=acI z2;subst z2;have z3:=congrArg Frame.fn z1;simp only[Frame.enter]at z3;subst z3;obtain⟨xs',hx,hE⟩:=vP (ok:=ok) (ρ:=ρ) (hN _ hf) z1 a3;cases a4 with
   |@cons _ r0 _ rest b1 b2=>
    simp only[List.append_nil]at hl;rw[<-hE]at hl;obtain⟨N,YM,W1,Ye,t1,q1,aa3,M1,v',σ,v,V',e1,e2,e3,e4,e5,e6,e7,e8,e9,k_,YI⟩:=hD (sl:=sl) (So M W (λd hd=>(hF d hd).1) hK) hp hx hw ho hl;have Zh:∀d,F d->d<W:=λd hd=>hl.lt d (.inl (hF d hd).1)
    have YT:∀d,F d->M1 d/\((∀b,σ b≠some d)\/∃b,σ b=some d/\Ro V' b):=λd hd=>⟨e9 d (hF d hd).1,by
     rcases(hF d hd).2 with y|⟨b,x,y⟩
     .refine .inl λb hb=>?_
      rcases k_ b d hb with x|x
      .exact y b x
      .have:=Zh d hd;omega
     .refine .inr ⟨b,e3 _ _ x,?_⟩;have h1:=YI b y;obtain⟨c1,c2,c3⟩:=y;exact⟨c1,c2,h1.trans c3⟩⟩
    have hb:th (fr.finish v) cs:=by
     have:th fr cs:=λg hg=>a6 g hg
     exact this.swap (by cases fr with|mk fn tmps todo defers mode kind roundOf=>cases todo with
      |nil=>rfl
      |cons x l=>cases x<;>first|rfl|(rename_i ops l2;cases l2<;>rfl))
    have hG:oC P0 P ok σ [c] [] (G (fr.finish v) (cs++[c])) (G (r0.finish v') (rest++[])):=.inside ((b1.mono e3).finish e4) (b2.mono e3) hb;rw[List.append_nil]at hG;obtain⟨N2,Oy,W2,PA,t2,q2,BC,M2,Nh,s2,fr2,i1,i2,i3,i4,i5,i6,i7,i8,i9⟩:=ih v V' e7 (sl:=Ye) (hK.trans (e8.mono λd hd=>(hF d hd).1)) hG e5 e6 e2 YT;exact⟨N+N2,Oy,W2,PA,t2,q2,BC,M2,Nh,s2,fr2,fF i1 _ _ _ e1,i2,e3.trans i3,i4,i5,i6,i7,(e8.mono λd hd=>(hF d hd).1).trans i8,i9⟩
 |@ext fr cs V hi hk hA Be ih=>
  intro ρ a gs M W sl t q ax hK hg hw ho hl hF;generalize hz:G fr (cs++[c])=z at hg;cases hg with
  |@inside fr0 eA g_ cs' a1 a2 a3=>
   have z1:=congrArg Goroutine.frame hz;have z2:=congrArg Goroutine.callers hz;simp only[G]at z1 z2;replace z2:=acI z2;subst z1 z2;obtain⟨b,ac,ops,i,r,k,o,x,y,ts,p,q',la,ca,lb,cb,c1,c2,t1,t2,e00,e0,Lj,hw',bf,hx,hy,hne,g1,n1,g2,n2⟩:=hA;obtain⟨a_,k',e',ht⟩:∃a_ k',eA=eA.at a_ (.inRegion ops (i::r)::k')/\aA ok ρ ac.tmps a_.tmps:=by
    have h1:=a1.todo;have h2:=a1.tmps;have h3:=a1.mode;have h4:=a1.round;rw[e0]at h1 h2 h3 h4;obtain⟨dv,de,jN,cO,po,eT,aY⟩:=eA;simp only[Frame.at]at h1 h2 h3 h4;cases h3;cases h4;cases h1 with
    |cons h5 h6=>
     cases h5;exact⟨⟨de,cO⟩,_,rfl,h2⟩
   obtain⟨x',dB,rx⟩:=ht.get hx;obtain⟨y',E8,ry⟩:=ht.get hy;obtain⟨p',rfl,rp⟩:∃p',x'=.slice (some p') la ca/\dC ρ p p':=by cases rx with|slice _ _ r=>exact⟨_,rfl,r⟩
   obtain⟨r',rfl,rq⟩:∃r',y'=.slice (some r') lb cb/\dC ρ q' r':=by cases ry with|slice _ _ r=>exact⟨_,rfl,r⟩
   have plain:∀{ai:World} {d d':Nat} {cc:Array Value} {tt:TypeId},bJ ok true ρ (re V ai.tape ai.drawn) ai->ρ d=some d'->V.heap[d]?=some (.cells cc tt (0,0))->cc.size≠0->∃cc',ai.heap[d']?=some (.cells cc' tt (0,0))/\cc'.size≠0:=by
    intro ai d d' cc tt ug hd hg hn;obtain⟨o1,o2,i1,i2,i3⟩:=ug.heap d d' hd;replace i1:V.heap[d]?=some o1:=i1;rw[hg]at i1;obtain rfl:=acr i1;cases i3 with
    |@cells _ c' _ _ z' K7 hz=>
     have JV:z'=(0,0):=by
      rcases hz with h|⟨_,h,h'⟩
      .simpa using h
      .simp at h;omega
     subst JV;exact⟨c',i2,by rw[<-K7.size];exact hn⟩
   have OQ:p'.block≠r'.block:=λe=>hne (ρ.inj _ _ _ rp.blk (by rw[e];exact rq.blk))
   have hE:ET P true (λ_=>True) Ph.mU iR (λM' g W'=>g=G (eA.finish false) (cs'++[])/\M'=M/\aO (λb=>M b\/iR b) W W') M (G eA (cs'++[])) W:=by
    rw[e'];refine ET.val false Lj (by rw[xr ht];exact hw') (by rw[a1.eT];simp) (λai ab3 _=>?_) (ET.stop λai ab3 _=>⟨?_,rfl,ab3⟩)
    .have ug:=hw.others ho ab3;obtain⟨Nj,j1,j2⟩:=plain ug rp.blk g1 n1;obtain⟨Qd,j3,j4⟩:=plain ug rq.blk g2 n2;have dW:=I_ e00 p' r' la ca lb cb Nj Qd t1 t2 ai OQ j1 j2 j3 j4;rw[Ij bf dB E8];refine⟨dW.1,λe he=>?_⟩;obtain⟨f,rfl⟩:=dW.2 e he;exact .inr (.inr (.inl ⟨_,rfl,rfl⟩))
    .rw[<-e'];conv=>rhs;rw[e']
     rw[Frame.finish_at,Lj];rfl
   obtain⟨r,hr⟩:=hE;obtain⟨N,jw,M',a',w',jU,t',q2,h1,_,h3,h4,_⟩:=jf (λ_=>trivial) r _ gs M _ W sl t q (ack _) hl hr;obtain⟨rfl,rfl,h5⟩:=h3 w' (aO.refl _ _) trivial;have hb:th (fr.finish false) cs:=a3.swap (by cases fr with|mk fn tmps todo defers mode kind roundOf=>cases todo with
    |nil=>rfl
    |cons x l=>cases x<;>first|rfl|(rename_i ops l2;cases l2<;>rfl))
   have hG:oC P0 P ok ρ [c] [] (G (fr.finish (.bool false)) (cs++[c])) (G (eA.finish (.bool false)) (cs'++[])):=.inside (a1.finish (.bool _)) a2 hb;obtain⟨N2,Oy,W2,PA,t2,q2,BC,M2,Nh,s2,fr2,i1,i2,i3,i4,i5,i6,i7,i8,i9⟩:=ih (sl:=jU) (hK.trans (h5.mono λd hd=>.inl (hF d hd).1)) hG (hw.others ho h5) ho h4 hF;exact⟨N+N2,Oy,W2,PA,t2,q2,BC,M2,Nh,s2,fr2,fF i1 _ _ _ h1,i2,i3,i4,i5,i6,i7,(h5.mono λd hd=>.inl (hF d hd).1).trans i8,i9⟩
  |door a1 a2=>
   have z1:=congrArg Goroutine.frame hz;simp only[G]at z1;rw[z1]at hi;simp only[Frame.enter]at hi;rw[hi]at a2;cases a2
end
end
section
open Conc
section
variable [Gl]{P0:Program}{ok:Ctx}{c:Frame}{Dr:FuncId->Array Value->World->(Value->World->Prop)->Prop}{Q:Value->World->Prop}
def Shut (P0:Program)(ok:Ctx):Prop:=∀f xs cs V,ok.fn f=true->ok.bI f=false->∃o w es,stepG P0 true (G (Frame.enter P0 f xs .normal) cs) V=.ended o w es
def J4 (P0:Program)(ok:Ctx)(s:St):Prop:=∃ρ f xs,s.fr=Frame.enter P0 f xs .normal/\ok.fn f=true/\ok.bI f=false/\aA ok ρ xs xs/\iL P0 ok ρ s.cs s.cs/\bJ ok true ρ s.V s.V/\∀f,s.cs.getLast?=some f->f.roundOf=none
theorem rr (hP:dE P0 P0 ok){s:St}(hs:fu P0 ok s)(he:¬xC s){g2:Goroutine}{V2:World}{es:Array Event}(h:stepG P0 true (G s.fr (s.cs++[c])) s.V=.go g2 V2 es):
  ∃s':St,g2=G s'.fr (s'.cs++[c])/\V2=s'.V/\(fu P0 ok s'\/J4 P0 ok s'):=by
 obtain⟨ρ,h1,h2,h3,h4⟩:=hs;obtain⟨σ,VC,W2,xF,e,hg,hw,_,_⟩:=sY (lb:=[c]) (rb:=[c]) (ab5:=true) hP h1 h2 h3 h4 (λa b=>λd=>he ⟨a,b,d⟩) h;rw[h]at e;simp only[GStep.go.injEq]at e;obtain⟨rfl,rfl,_⟩:=e;generalize oR:g2=VC at hg;have rV:oC P0 P0 ok σ [c] [c] g2 VC:=by rw[oR]at*;exact hg
 clear hg;cases rV with
 |@inside fr eA cs cs' a1 a2 a3=>
  have e1:=congrArg Goroutine.frame oR;have e2:=congrArg Goroutine.callers oR;simp only[G]at e1 e2;have e2:cs=cs':=acI e2;subst e1 e2;exact⟨⟨fr,cs,V2⟩,rfl,rfl,.inl ⟨σ,a1,a2,a3,hw⟩⟩
 |@door f xs xs' cs cs' a1 a2 a3 a4 a5 a6=>
  have e1:=congrArg Goroutine.frame oR;have e2:=congrArg Goroutine.callers oR;simp only[G]at e1 e2;have e2:cs=cs':=acI e2;subst e2;refine⟨⟨Frame.enter P0 f xs .normal,cs,V2⟩,by rw[e1],rfl,.inr ⟨σ,f,xs,rfl,a1,a2,?_,a4,hw,a6⟩⟩;have et:=congrArg Frame.tmps e1;simp only[Frame.enter]at et;rw[<-a3.size]at et;have:xs=xs':=(Array.append_inj et (by first|exact a3.size|exact a3.size.symm)).1|>λh=>by first|exact h|exact h.symm
  rw[<-this]at a3;exact a3
section
variable {Tgt:St->Prop}
def uG (P0:Program)(c:Frame)(Tgt:St->Prop):Nat->St->Prop
 |0,s=>Tgt s
 |n+1,s=>¬Tgt s/\∃s',fd P0 c s s'/\uG P0 c Tgt n s'
theorem uG.Tx (Bd:Shut P0 ok)(hI:∀s,Tgt s->ok.bI s.fr.fn=true){n:Nat}{s:St}(h:uG P0 c Tgt n s)(hd:J4 P0 ok s):False:=by
 obtain⟨ρ,f,xs,e,h1,h2,_⟩:=hd;cases n with
 |zero=>
  have:=hI s h;rw[e]at this;simp only[Frame.enter]at this;rw[h2]at this;cases this
 |succ n=>
  obtain⟨_,s',⟨es,hg⟩,_⟩:=h;obtain⟨o,w,ju,hx⟩:=Bd f xs (s.cs++[c]) s.V h1 h2;rw[e,hx]at hg;cases hg
theorem fd.Q1 (hP:dE P0 P0 ok)(Bd:Shut P0 ok)(hI:∀s,Tgt s->ok.bI s.fr.fn=true){s s':St}(hs:fu P0 ok s)(h:fd P0 c s s'){n:Nat}(hf:∃τ d,uG P0 c Tgt n (s'.re τ d)):fu P0 ok s':=by
 have hi:=h.inside hP hs;obtain⟨es,h⟩:=h;obtain⟨s2,e1,e2,h2⟩:=rr hP hs hi h;obtain⟨fr,cs,V⟩:=s';obtain⟨fr2,Bc,V2⟩:=s2;have e3:=congrArg Goroutine.frame e1;have e4:=congrArg Goroutine.callers e1;simp only[G]at e3 e4 e2;have e4:cs=Bc:=acI e4;subst e3 e4 e2;rcases h2 with h2|h2
 .exact h2
 .obtain⟨τ,d,hf⟩:=hf;exfalso;refine hf.Tx Bd hI ?_;obtain⟨ρ,f,xs,a1,a2,a3,a4,a5,a6,a7⟩:=h2;exact⟨ρ,f,xs,a1,a2,a3,a4,a5,⟨a6.heap,rfl,rfl,a6.gV,a6.gW⟩,a7⟩
theorem uG.shift (hP:dE P0 P0 ok)(Bd:Shut P0 ok)(hI:∀s,Tgt s->ok.bI s.fr.fn=true)(hT:∀s τ d,Tgt s->Tgt (s.re τ d)):∀(n:Nat) {s:St},fu P0 ok s->uG P0 c Tgt n s->∀τ d,(∀i q,s.V.tape (s.V.drawn+i) q=τ (d+i) q)->uG P0 c Tgt n (s.re τ d):=by
 intro n;induction n with
 |zero=>intro s hs h τ d _;exact hT s τ d h
 |succ n ih=>
  intro s hs h τ d hA;obtain⟨h0,s',h1,h2⟩:=h;obtain⟨k1,k2,k3⟩:=h1.sh hP hs;refine⟨λh=>h0 (hT (s.re τ d) s.V.tape s.V.drawn h),_,k3 τ d (λi _ q=>hA i q),ih (h1.Q1 hP Bd hI hs ⟨s'.V.tape,s'.V.drawn,h2⟩) h2 τ _ λi q=>?_⟩;rw[k2];have:=hA (s'.V.drawn-s.V.drawn+i) q;rw[show s.V.drawn+(s'.V.drawn-s.V.drawn+i)=s'.V.drawn+i by omega]at this;rw[this];congr 1;omega
def HT (P0:Program)(c:Frame)(Tgt:St->Prop)(s:St):Prop:=∀τ d,∃n,uG P0 c Tgt n (s.re τ d)
theorem HT.succ (hP:dE P0 P0 ok)(Bd:Shut P0 ok)(hI:∀s,Tgt s->ok.bI s.fr.fn=true)(hT:∀s τ d,Tgt s->Tgt (s.re τ d)){s s':St}(hs:fu P0 ok s)(hH:HT P0 c Tgt s)(h0:¬Tgt s){τ:Nat->Question->Nat}{d:Nat}(h:fd P0 c (s.re τ d) s'):HT P0 c Tgt s'/\fu P0 ok s':=by
 have IB:=hs.re τ d;obtain⟨k1,k2,k3⟩:=h.sh hP IB;have XC:d<=s'.V.drawn:=k1;have key:∀(τ':Nat->Question->Nat) (d':Nat),∃n t2,uG P0 c Tgt n (s'.re t2 s'.V.drawn)/\∀i q,t2 (s'.V.drawn+i) q=τ' (d'+i) q:=by
  intro τ' d';let t2:Nat->Question->Nat:=λi q=>if i<s'.V.drawn then τ i q else τ' (d'+(i-s'.V.drawn)) q
  have hA:kw (s.re τ d).V.tape (s.re τ d).V.drawn t2 d (s'.V.drawn-(s.re τ d).V.drawn):=by
   intro i hi q;show τ (d+i) q=t2 (d+i) q;simp only[t2];have ox:i<s'.V.drawn-d:=hi;rw[if_pos ab]
  have h2:=k3 t2 d hA;obtain⟨n,hn⟩:=hH t2 d;have e1:(s.re τ d).re t2 d=s.re t2 d:=rfl;rw[e1]at h2;cases n with
  |zero=>exact absurd (hT (s.re t2 d) s.V.tape s.V.drawn hn) h0
  |succ n=>
   obtain⟨_,s2,g1,g2⟩:=hn;have:=g1.YG h2;subst this;have e2:d+(s'.V.drawn-(s.re τ d).V.drawn)=s'.V.drawn:=by show d+(s'.V.drawn-d)=_;omega
   rw[e2]at g2;refine⟨n,t2,g2,λi q=>?_⟩;simp only[t2];rw[if_neg ab];congr 1;omega
 have my:fu P0 ok s':=by
  obtain⟨n,t2,h2,_⟩:=key τ d;exact h.Q1 hP Bd hI IB ⟨_,_,h2⟩
 refine⟨λτ' d'=>?_,my⟩;obtain⟨n,t2,h2,h3⟩:=key τ' d';exact⟨n,uG.shift hP Bd hI hT n (my.re t2 s'.V.drawn) h2 τ' d' h3⟩
def Vi (P0:Program)(c:Frame)(Tgt:St->Prop)(s' s:St):Prop:=¬Tgt s/\∃τ d,fd P0 c (s.re τ d) s'
omit [Gl] in
theorem Ku {α:Type}{r:α->α->Prop}{s:α}(h:¬Acc r s):∃f:Nat->α,f 0=s/\∀n,r (f (n+1)) (f n):=by
 have step:∀s:{s:α //¬Acc r s},∃s':{s:α //¬Acc r s},r s'.1 s.1:=by
  intro ⟨s,hs⟩;apply acK;intro hn;apply hs;refine⟨_,λy hy=>?_⟩;apply acK;intro E8;exact hn ⟨⟨y,E8⟩,hy⟩
 let g:Nat->{s:α //¬Acc r s}:=λn=>Nat.rec ⟨s,h⟩ (λ_ x=>(step x).choose) n
 exact⟨λn=>(g n).1,rfl,λn=>(step (g n)).choose_spec⟩
theorem Hw (hP:dE P0 P0 ok)(Bd:Shut P0 ok)(hI:∀s,Tgt s->ok.bI s.fr.fn=true)(hT:∀s τ d,Tgt s->Tgt (s.re τ d)){s:St}(hs:fu P0 ok s)(hH:HT P0 c Tgt s):Acc (Vi P0 c Tgt) s:=by
 apply acK;intro hn;obtain⟨f,f0,hf⟩:=Ku hn;have all:∀n,HT P0 c Tgt (f n)/\fu P0 ok (f n):=by
  intro n;induction n with
  |zero=>rw[f0];exact⟨hH,hs⟩
  |succ n ih=>obtain⟨h0,τ,d,h⟩:=hf n;exact HT.succ hP Bd hI hT ih.2 ih.1 h0 h
 let τ:Nat->Nat->Question->Nat:=λn=>(hf n).2.choose
 let d:Nat->Nat:=λn=>(hf n).2.choose_spec.choose
 have g:∀n,fd P0 c ((f n).re (τ n) (d n)) (f (n+1)):=λn=>(hf n).2.choose_spec.choose_spec
 let D:Nat->Nat:=λn=>Nat.rec 0 (λn x=>x+((f (n+1)).V.drawn-d n)) n
 have hD:∀n,D (n+1)=D n+((f (n+1)).V.drawn-d n):=λn=>rfl
 obtain⟨T,Sv⟩:=CR D (λn=>by rw[hD];omega) (λn j q=>τ n (d n+j) q);have go:∀n,fd P0 c ((f n).re T (D n)) ((f (n+1)).re T (D (n+1))):=by
  intro n;obtain⟨_,_,k3⟩:=(g n).sh hP ((all n).2.re (τ n) (d n));have:=k3 T (D n) (λi hi q=>by
   show τ n (d n+i) q=T (D n+i) q;have ox:i<(f (n+1)).V.drawn-d n:=hi;rw[Sv n i q (by rw[hD];omega)])
  rw[hD];exact this
 have none_:∀N n,¬uG P0 c Tgt N ((f n).re T (D n)):=by
  intro N;induction N with
  |zero=>intro n h;exact(hf n).1 (hT ((f n).re T (D n)) (f n).V.tape (f n).V.drawn h)
  |succ N ih=>
   intro n h;obtain⟨_,s',h1,h2⟩:=h;have:=h1.YG (go n);subst this;exact ih (n+1) h2
 obtain⟨N,hN⟩:=hH T 0;rw[<-f0]at hN;exact none_ N 0 hN
theorem Nc (hP:dE P0 P0 ok)(Bd:Shut P0 ok)(hI:∀s,Tgt s->ok.bI s.fr.fn=true)(hT:∀s τ d,Tgt s->Tgt (s.re τ d))(hW:∀s,Tgt s->fu P0 ok s->Wk P0 ok c Dr Q s){s:St}(hs:fu P0 ok s)(hH:HT P0 c Tgt s):Wk P0 ok c Dr Q s:=by
 have ha:=Hw hP Bd hI hT hs hH;induction ha with
 |intro s _ ih=>
  by_cases h0:Tgt s
  .exact hW s h0 hs
  have key:∀τ d,∃s',fd P0 c (s.re τ d) s':=by
   intro τ d;obtain⟨n,hn⟩:=hH τ d;cases n with
   |zero=>exact absurd (hT (s.re τ d) s.V.tape s.V.drawn hn) h0
   |succ n=>obtain⟨_,s',h1,_⟩:=hn;exact⟨s',h1⟩
  have hk:ok.bI s.fr.fn=true/\s.fr.kind=.normal:=by obtain⟨ρ,h1,_⟩:=hs;exact⟨h1.bI,h1.kind⟩
  refine .step (λτ d=>(key τ d).choose) hk.1 hk.2 (λτ d=>(key τ d).choose_spec) λτ d=>?_
  have:=HT.succ hP Bd hI hT hs hH h0 (key τ d).choose_spec;exact ih _ ⟨h0,τ,d,(key τ d).choose_spec⟩ this.2 this.1
theorem BR (hP:dE P0 P0 ok)(Bd:Shut P0 ok)(hI:∀s,Tgt s->ok.bI s.fr.fn=true)(hF:jl P0 c){s1:St}(ht:Tgt s1):
  ∀(n:Nat) {s:St},fu P0 ok s->runN P0 n (lone s.fr (s.cs++[c]) s.V)=.next (lone s1.fr (s1.cs++[c]) s1.V)->∃k,uG P0 c Tgt k s:=by
 intro n;induction n with
 |zero=>
  intro s hs h;simp only[runN,Stepped.next.injEq]at h;obtain⟨e1,e2,e3⟩:=pm h;have e2:s.cs=s1.cs:=acI e2;have:s=s1:=by
   obtain⟨a,b,d⟩:=s;obtain⟨a1,b1,d1⟩:=s1;simp only at e1 e2 e3;rw[e1,e2,e3]
  exact⟨0,this▸ht⟩
 |succ n ih=>
  intro s hs h;by_cases h0:Tgt s
  .exact⟨0,h0⟩
  obtain⟨ρ,h1,h2,h3,h4⟩:=hs;have hs:fu P0 ok s:=⟨ρ,h1,h2,h3,h4⟩;have hk:(∃g2 V2 es,stepG P0 true (G s.fr (s.cs++[c])) s.V=.go g2 V2 es)\/∃o w es,stepG P0 true (G s.fr (s.cs++[c])) s.V=.ended o w es:=by
   cases hcs:s.cs++[c]with
   |nil=>simp at hcs
   |cons a l=>exact(A3 (m:=true) (c:=a) (cs:=l) hP h1 h4).1
  simp only[runN]at h;rcases hk with⟨g2,V2,es,hg⟩|⟨o,w,es,hg⟩
  .by_cases he:xC s
   .exfalso;have fin:∀fr2,g2=G fr2 []->(∀w,∃o w' es,stepG P0 true (G fr2 []) w=.ended o w' es)->False:=by
     intro fr2 e Ce;subst e;rw[nT hg]at h;simp only at h;cases n with
     |zero=>
      simp only[runN,Stepped.next.injEq]at h;obtain⟨_,e2,_⟩:=pm h;simp at e2
     |succ n=>
      obtain⟨o,w',ju,hh⟩:=Ce V2;simp only[runN,gw hh]at h;cases h
    rcases tw hP hs he hg with⟨v,e⟩|⟨ch,e⟩
    .exact fin _ e (hF.ret v)
    .exact fin _ e (hF.pan ch)
   .obtain⟨s',e1,e2,h5⟩:=rr hP hs he hg;subst e1 e2;rw[nT hg]at h;rcases h5 with h5|h5
    .obtain⟨k,hk⟩:=ih h5 h;exact⟨k+1,h0,s',⟨es,hg⟩,hk⟩
    .exfalso;obtain⟨ρ',f,xs,x1,x2,x3,_⟩:=h5;simp only at h;cases n with
     |zero=>
      simp only[runN,Stepped.next.injEq]at h;obtain⟨y1,_,_⟩:=pm h;have:=hI s1 ht;rw[<-y1,x1]at this;simp only[Frame.enter]at this;rw[x3]at this;cases this
     |succ n=>
      obtain⟨o,w',ju,hh⟩:=Bd f xs (s'.cs++[c]) s'.V x2 x3;rw[x1]at h;simp only[runN,gw hh]at h;cases h
  .rw[gw hg]at h;cases h
end
variable (P0 ok c Dr Q)in
def aF (s:St):Prop:=∀τ d,fu P0 ok (s.re τ d)->Wk P0 ok c Dr Q (s.re τ d)
def oB (ok:Ctx)(Dr:FuncId->Array Value->World->(Value->World->Prop)->Prop):Prop:=∀{f:FuncId} {xs:Array Value} {V V':World} {v:Value} {ρ:Ren} {R:Value->World->Prop},Dr f xs V R->R v V'->aA ok ρ xs xs->bJ ok true ρ V V->∃σ,ρ.le σ/\ar ok σ v v/\bJ ok true σ V' V'
theorem aF.of_steps (hP:dE P0 P0 ok)(Bd:Shut P0 ok)(hF:jl P0 c){s:St}(Good:St->Prop)(hI:∀s1,Good s1->ok.bI s1.fr.fn=true)
  (h:∀τ d,∃s1,Good s1/\Steps P0 (lone s.fr (s.cs++[c]) (re s.V τ d)) (lone s1.fr (s1.cs++[c]) s1.V))(hW:∀s1,Good s1->aF P0 ok c Dr Q s1):aF P0 ok c Dr Q s:=by
 intro τ d hs;refine Nc (Tgt:=λs1=>∃s0 τ d,Good s0/\s1=s0.re τ d) hP Bd ?_ ?_ ?_ hs ?_
 .rintro _ ⟨s0,τ,d,hg,rfl⟩;exact hI s0 hg
 .rintro _ τ' d' ⟨s0,τ,d,hg,rfl⟩;exact⟨s0,τ',d',hg,rfl⟩
 .rintro _ ⟨s0,τ,d,hg,rfl⟩ hs;exact hW s0 hg τ d hs
 .intro τ' d';obtain⟨s1,hg,n,hn⟩:=h τ' d';exact BR (s1:=s1) hP Bd (by rintro _ ⟨s0,τ,d,hg,rfl⟩;exact hI s0 hg) hF ⟨s1,s1.V.tape,s1.V.drawn,hg,rfl⟩ n (hs.re τ' d') hn
theorem aF.door (hP:dE P0 P0 ok)(hDS:oB ok Dr){s:St}{f:FuncId}{xs:Array Value}(hf:ok.bI f=false)(hgo:∀τ d,fd P0 c (s.re τ d) ⟨Frame.enter P0 f xs .normal,s.fr::s.cs,re s.V τ d⟩)
  {R:(Nat->Question->Nat)->Nat->Value->World->Prop}(hp:∀τ d,Dr f xs (re s.V τ d) (R τ d))(h:∀τ d v V',R τ d v V'->aF P0 ok c Dr Q ⟨s.fr.finish v,s.cs,V'⟩):aF P0 ok c Dr Q s:=by
 intro τ d hs;have hk:ok.bI s.fr.fn=true/\s.fr.kind=.normal:=by obtain⟨ρ,h1,_⟩:=hs;exact⟨h1.bI,h1.kind⟩
 refine .step (s:=s.re τ d) (λτ' d'=>⟨Frame.enter P0 f xs .normal,s.fr::s.cs,re s.V τ' d'⟩) hk.1 hk.2 hgo λτ' d'=>.door hf (hp τ' d') λv V' hD=>?_
 have lZ:=hs.re τ' d';obtain⟨es,hg⟩:=hgo τ' d';obtain⟨s2,e1,e2,h2⟩:=rr (s:=s.re τ' d') (c:=c) hP lZ (fd.inside hP lZ ⟨es,hg⟩) hg;obtain⟨fr2,Bc,V2⟩:=s2;have e3:=congrArg Goroutine.frame e1;have e4:=congrArg Goroutine.callers e1;simp only[G]at e3 e4 e2;have e4:s.fr::s.cs=Bc:=acI e4;subst e3 e4 e2;refine h τ' d' v V' hD V'.tape V'.drawn ?_;rcases h2 with⟨ρ,x1,_⟩|⟨ρ,f',xs',x1,x2,x3,x4,x5,x6,x7⟩
 .exfalso;have:=x1.bI;simp only[Frame.enter]at this;rw[hf]at this;cases this
 .have x1:Frame.enter P0 f xs .normal=Frame.enter P0 f' xs' .normal:=x1;have hff:=congrArg Frame.fn x1;simp only[Frame.enter]at hff;subst hff;obtain⟨xs2,y1,y2⟩:=vP (ok:=ok) (ρ:=ρ) rfl x1 x4;have hxx:aA ok ρ xs xs:=by
   have et:=congrArg Frame.tmps (y2.trans x1.symm);simp only[Frame.enter]at et;rw[<-y1.size]at et;have:xs2=xs:=(Array.append_inj et y1.size.symm).1;rw[this]at y1;exact y1
  obtain⟨σ,z1,z2,z3⟩:=hDS (hp τ' d') hD hxx x6;cases x5 with
  |cons b1 b2=>
   refine⟨σ,(b1.mono z1).finish z2,b2.mono z1,?_,z3⟩;have:th s.fr s.cs:=λg hg=>x7 g hg
   exact this.swap (by
    show(s.fr.finish v).roundOf=s.fr.roundOf;cases s.fr with|mk fn tmps todo defers mode kind roundOf=>cases todo with
     |nil=>rfl
     |cons x l=>cases x<;>first|rfl|(rename_i ops l2;cases l2<;>rfl))
theorem aF.ends {s:St}(h:∀τ d,xB P0 Q (s.re τ d))(hr:∃fn t,P0.funcs[s.fr.fn]?=some fn/\fn.results=#[.tmp t]):aF P0 ok c Dr Q s:=λ_ _ _=>.ends h hr
end
end
