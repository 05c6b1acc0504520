import Derived.Test.YtlmcblcijndipabGreatDoorAd14
import Derived.Test.YtlmcblcijndipabGreatDoorAd12
set_option linter.unusedSimpArgs false
set_option linter.unusedVariables false
set_option maxHeartbeats 4000000
set_option maxRecDepth 100000
namespace Go.Proofs.YtlmcblcijndipabGreatDoor
section
open Go Go.Conc Go.RowKit Go.Conc.Lib Go.ConcR.Gen
theorem wD {w:World}{b:Nat}{v u:Value}{e:TypeId}(h:w.heap[b]?=some (.cells #[v] e (0,0))):(w.setCell ⟨b,0,none⟩ u).heap[b]?=some (.cells #[u] e (0,0)):=by
 rw[setCell_eq_setRow w b 0 _ _ _ u h,setRow_heap _ _ _ _ _ _ h];rfl
noncomputable def body24:Code:=Tryz.f181.body.getD .skip
noncomputable def fV:Code:=(ft body24).getD .skip
def cM:Code->Code
 |.seq _ b=>b
 |c=>c
noncomputable def eo:Code:=cM (cM (cM (cM (cM body24))))
noncomputable def mN:Array Oper:=(gU 10 body24).getD #[]
noncomputable def EU:Array Oper:=(gU 8 body24).getD #[]
section
variable [Gl]{J:Jb}{P0:Program}{p:Ph}{ok:Ctx}{c:Frame}{M' Ro0:Nat->Prop}{Wst:World}{cs:List Frame}{r4:Nat}{t0 t1:Value}
structure BT (J:Jb)(P0:Program)(p:Ph)(ok:Ctx)(M' Ro0:Nat->Prop)(Wst:World)(Ro M:Nat->Prop)(W:World):Prop where
 job:gX J P0 p ok Ro W
 sub:∀b,M' b\/Ro0 b->M b\/Ro b
 keep:ax (λb=>M' b\/Ro0 b) Wst W
 sp:∀b,p.Sp b->¬M b/\¬Ro b/\b<W.heap.size
 lt:∀b,M b\/Ro b->b<W.heap.size
 mr:∀b,M b->¬Ro b
 gl:Gl.n<=W.heap.size
 wb:p.Wg≠p.Bs
section
variable {Ro M:Nat->Prop}{W Fe:World}
theorem BT.rely (h:BT J P0 p ok M' Ro0 Wst Ro M W)(k:ax (λb=>M b\/Ro b) W Fe):BT J P0 p ok M' Ro0 Wst Ro M Fe:=
 ⟨h.job.mono (λ_ h=>h) (k.mono λ_ x=>.inr x),h.sub,h.keep.trans (k.mono h.sub),λb hb=>⟨(h.sp b hb).1,(h.sp b hb).2.1,Gn (h.sp b hb).2.2 k.size⟩,λb hb=>Gn (h.lt b hb) k.size,h.mr,Gq h.gl k.size,h.wb⟩
theorem BT.alloc (h:BT J P0 p ok M' Ro0 Wst Ro M W)(o:Obj):BT J P0 p ok M' Ro0 Wst Ro (grow M W (W.alloc o)) (W.alloc o):=by
 have z:(W.alloc o).heap.size=W.heap.size+1:=by show(W.heap.push o).size=_;simp
 have hb:∀b,b<W.heap.size->(W.alloc o).heap[b]?=W.heap[b]?:=λb hb=>Below.heap_alloc _ _ _ hb
 have hk:ax (λb=>M b\/Ro b) W (W.alloc o):=⟨λb x=>hb b (h.lt b x),by rw[z];omega,rfl,rfl⟩;refine⟨h.job.mono (λ_ h=>h) (hk.mono λ_ x=>.inr x),λb x=>(h.sub b x).imp .inl id,h.keep.trans (hk.mono h.sub),λb x=>?_,λb x=>?_,λb x=>?_,by rw[z];have:=h.gl;omega,h.wb⟩
 .obtain⟨h1,h2,h3⟩:=h.sp b x;exact⟨λy=>y.elim h1 λy=>by omega,h2,by rw[z];omega⟩
 .rw[z];rcases x with(x|⟨_,x⟩)|x
  .have:=h.lt b (.inl x);omega
  .rw[z]at x;exact x
  .have:=h.lt b (.inr x);omega
 .rcases x with x|⟨x,_⟩
  .exact h.mr b x
  .exact λy=>by have:=h.lt b (.inr y);omega
theorem BT.set (h:BT J P0 p ok M' Ro0 Wst Ro M W){a:Addr}(v:Value)(ha:¬(M' a.block\/Ro0 a.block))(hr:¬Ro a.block):BT J P0 p ok M' Ro0 Wst Ro M (W.setCell a v):=by
 have z:(W.setCell a v).heap.size=W.heap.size:=(aside_setCell W a v).size;have hb:∀b,b≠a.block->(W.setCell a v).heap[b]?=W.heap[b]?:=λb hb=>Below.heap_setCell _ _ _ _ hb
 have hkr:ax Ro W (W.setCell a v):=⟨λb x=>hb b (λe=>hr (e▸x)),by rw[z];omega,rfl,rfl⟩;exact⟨h.job.mono (λ_ h=>h) hkr,h.sub,h.keep.trans ⟨λb x=>hb b (λe=>ha (e▸x)),by rw[z];omega,rfl,rfl⟩,λb x=>by rw[z];exact h.sp b x,λb x=>by rw[z];exact h.lt b x,h.mr,by rw[z];exact h.gl,h.wb⟩
theorem BT.go (h:BT J P0 p ok M' Ro0 Wst Ro M W){bi:Nat}(hM:M bi):BT J P0 p ok M' Ro0 Wst (λb=>Ro b\/b=bi) (λb=>M b/\¬(Ro b\/b=bi)) W:=by
 refine⟨h.job.mono (λ_ h=>.inl h) (ax.refl _ _),λb x=>?_,h.keep,λb x=>?_,λb x=>?_,λb x=>x.2,h.gl,h.wb⟩
 .rcases h.sub b x with y|y
  .by_cases e:b=bi
   .exact .inr (.inr e)
   .exact .inl ⟨y,λz=>z.elim (h.mr b y) e⟩
  .exact .inr (.inl y)
 .obtain⟨h1,h2,h3⟩:=h.sp b x;exact⟨λy=>h1 y.1,λy=>y.elim h2 λe=>h1 (e▸hM),h3⟩
 .rcases x with x|x|rfl
  .exact h.lt b (.inl x.1)
  .exact h.lt b (.inr x)
  .exact h.lt _ (.inl hM)
end
def DX (J:Jb)(P0:Program)(p:Ph)(ok:Ctx)(M' Ro0:Nat->Prop)(Wst:World)(r4:Nat)(t0 t1:Value)(a:Act)(Ro M:Nat->Prop)(W:World):Prop:=
 (∃v8 v9 v10 v12 v13 v14 v15 v16 v17 v18 v19 v20:Value,a=⟨#[t0,t1,.pointer (some ⟨J.bl,0,none⟩),.pointer (some ⟨J.bn,0,none⟩),.pointer (some ⟨r4,0,none⟩),.pointer (some ⟨J.tb,0,none⟩),.pointer (some ⟨p.Wg,0,none⟩),.pointer (some ⟨J.bb,0,none⟩),v8,v9,v10,.int .i64 4,v12,v13,v14,v15,v16,v17,v18,v19,v20],[]⟩)/\BT J P0 p ok M' Ro0 Wst Ro M W
omit [Gl] in
theorem xL (Anch:(Nat->Prop)->(Nat->Prop)->Goroutine->World->Prop)(r:Nat)(Ro:Nat->Prop):∃Stop,∀M g W,p.Spawns Anch r Ro M g W=ET p.P true p.I p.saidX Ro Stop M g W:=by
 cases r<;>exact⟨_,λ_ _ _=>rfl⟩
theorem zA (hP0:bq P0 P0 ok)(hP:bq P0 Tryz.prog ok)(hin:∀f,ok.fn f=true->ok.inn f=true)(hFl:ff P0 c)(hL:p.L<4611686018427387904)(hpr:p.P=Tryz.prog)(hn4:p.n=4)(r:Nat):
  ∀(j:Nat) (v8 v9 v10 v13 v14 v15 v16 v17 v18 v19 v20:Value) (Ro M:Nat->Prop) (W:World),j+r=4->BT J P0 p ok M' Ro0 Wst Ro M W->
   p.Spawns (p.AnW link (DX J P0 p ok M' Ro0 Wst r4 t0 t1) (base 181) mN 0 [] [.code (cM eo)] cs) r Ro M (G ((base 181).at ⟨#[t0,t1,.pointer (some ⟨J.bl,0,none⟩),.pointer (some ⟨J.bn,0,none⟩),.pointer (some ⟨r4,0,none⟩),.pointer (some ⟨J.tb,0,none⟩),.pointer (some ⟨p.Wg,0,none⟩),.pointer (some ⟨J.bb,0,none⟩),v8,v9,v10,.int .i64 4,.int .i64 j,v13,v14,v15,v16,v17,v18,v19,v20],[]⟩ [.code fV,.inLoop fV,.inBlock 0,.code eo]) cs) W:=by
 have H:WgLib p.P link:=hpr▸qe;obtain⟨An,hAn⟩:∃An,An=p.AnW link (DX J P0 p ok M' Ro0 Wst r4 t0 t1) (base 181) mN 0 [] [.code (cM eo)] cs:=⟨_,rfl⟩;rw[<-hAn];induction r with
 |zero=>
  intro j v8 v9 v10 v13 v14 v15 v16 v17 v18 v19 v20 Ro M W hj hb;obtain rfl:j=4:=by omega
  show ET p.P true p.I p.saidX Ro (p.AtKd An Ro) M _ W;simp only[fV,eo,body24,Tryz.f181,Option.getD_some,ft,cM,Option.or_some,Option.or_none,Option.none_or];rw[hpr];apply ET.sq;apply ET.rg
  (refine ET.o rfl rfl (by k_ne) (λ_ K hK=>?_);go_simp;refine hK _ _ rfl (by simp[go_sem, *]) ?_;clear hK K;try w_num)
  apply ET.rn;apply ET.sq;refine ET.condF rfl ?_;refine ET.c (λ_=>stepG_exit rfl) ?_;apply ET.sq;apply ET.rg;refine ET.k rfl (λ_ _ _=>goes_call rfl rfl (by k_ne) rfl qe.f_wait (nm_wait link) rfl ⟨⟨rfl,λe he=>(by simp at he)⟩,?_⟩);walk_nrmf waitFn
  have hA:=Ph.waitStart (p:=p) (L:=link) (F:=DX J P0 p ok M' Ro0 Wst r4 t0 t1) (Fl:=base 181) (ops0:=mN) (FJ:=0) (rest0:=[]) (FN:=[.code (cM eo)]) (cs:=cs) (Ro:=Ro) (M:=M) (F3:=W) (Fj:=⟨#[t0,t1,.pointer (some ⟨J.bl,0,none⟩),.pointer (some ⟨J.bn,0,none⟩),.pointer (some ⟨r4,0,none⟩),.pointer (some ⟨J.tb,0,none⟩),.pointer (some ⟨p.Wg,0,none⟩),.pointer (some ⟨J.bb,0,none⟩),v8,v9,v10,.int .i64 4,.int .i64 4,.bool false,v14,v15,v16,v17,v18,v19,v20],[]⟩) H (λw k=>⟨⟨v8,v9,v10,_,_,v14,v15,v16,v17,v18,v19,v20,rfl⟩,hb.rely k⟩);rw[<-hAn,hpr]at hA;simp only[body_wait,waitFn,Option.getD_some]at hA;exact hA
 |succ r ih=>
  intro j v8 v9 v10 v13 v14 v15 v16 v17 v18 v19 v20 Ro M W hj hb;show ET p.P true p.I p.saidX Ro (p.AtKdS Ro (p.n-(r+1)) (p.Spawns An r)) M _ W;have ej:p.n-(r+1)=j:=by omega
  rw[ej];have hlt:(j:Int)<4:=by omega
  have hd:decide ((j:Int)<4)=true:=decide_eq_true hlt;simp only[fV,eo,body24,Tryz.f181,Option.getD_some,ft,cM,Option.or_some,Option.or_none,Option.none_or];rw[hpr];apply ET.sq;apply ET.rg
  (refine ET.o rfl rfl (by k_ne) (λ_ K hK=>?_);go_simp;refine hK _ _ rfl (by simp[go_sem, *]) ?_;clear hK K;try w_num)
  apply ET.rn;apply ET.sq;refine ET.condT rfl ?_;apply ET.sk;apply ET.sq;refine ET.c (λ_=>stepG_block) ?_;apply ET.sq;apply ET.rg
  (refine ET.o rfl rfl (by k_ne) (λ_ K hK=>?_);go_simp;refine hK _ _ rfl (by simp[go_sem, *]) ?_;clear hK K;try w_num)
  refine ET.oper rfl rfl (by k_ne) λFe FO _=>⟨.pointer (some ⟨Fe.heap.size,0,none⟩),Fe.alloc (.cells #[.int .i64 0] 3),?_,?_,?_⟩
  .go_simp
  .refine bT.alloc _ λe he=>?_
   have hm:=mem_listed he;simp[go_sem]at hm
  walk_nrm
  have Fr:=hb.rely FO;have z0:(Fe.alloc (.cells #[.int .i64 0] 3)).heap.size=Fe.heap.size+1:=by show(Fe.heap.push _).size=_;simp
  have hbi:grow M Fe (Fe.alloc (.cells #[.int .i64 0] 3)) Fe.heap.size:=.inr ⟨Gm _,by rw[z0];omega⟩;have Fs:=Fr.alloc (.cells #[.int .i64 0] 3);have hni:¬(M' Fe.heap.size\/Ro0 Fe.heap.size):=λe=>by have:=Fr.lt _ (Fr.sub _ e);omega
  have hci:(Fe.alloc (.cells #[.int .i64 0] 3)).heap[Fe.heap.size]?=some (.cells #[.int .i64 0] 3 (0,0)):=heap_alloc_new _ _;generalize Fe.alloc (.cells #[.int .i64 0] 3)=Ff at Fs hbi hci z0⊢;generalize grow M Fe Ff=E4 at Fs hbi⊢;generalize Fe.heap.size=bi at hbi hni hci z0⊢;clear Fr hb;refine ET.none rfl rfl (by k_ne) λFg FQ _=>⟨Fg.setCell ⟨bi,0,none⟩ (.int .i64 j),?_,?_,?_⟩
  .have hc:=cK ((FQ.block _ (.inl hbi)).trans hci);have hz:Fg.frozen? ⟨bi,0,none⟩=false:=by simp[World.frozen?,(FQ.block _ (.inl hbi)).trans hci]
   go_simp
  .have hc:=cK ((FQ.block _ (.inl hbi)).trans hci);have hz:Fg.frozen? ⟨bi,0,none⟩=false:=by simp[World.frozen?,(FQ.block _ (.inl hbi)).trans hci]
   refine bT.set _ hbi λe he=>?_
   have hm:=mem_listed he;simp[go_sem,hc,hz]at hm;subst hm;exact dq hbi
  rw[aW (aside_setCell Fg ⟨bi,0,none⟩ (.int .i64 j)).size];have Ft:=(Fs.rely FQ).set (a:=⟨bi,0,none⟩) (.int .i64 j) hni (Fs.mr _ hbi);have Fu:(Fg.setCell ⟨bi,0,none⟩ (.int .i64 j)).heap[bi]?=some (.cells #[.int .i64 j] 3 (0,0)):=wD ((FQ.block _ (.inl hbi)).trans hci);generalize Fg.setCell ⟨bi,0,none⟩ (.int .i64 j)=W4 at Ft Fu⊢;clear Fs FQ hci;walk_nrm
  apply ET.rn;apply ET.sq;apply ET.rg;refine ET.k rfl (λ_ _ _=>goes_call rfl rfl (by k_ne) rfl qe.f_add (nm_add link) rfl ⟨⟨rfl,λe he=>(by simp at he)⟩,?_⟩);walk_nrmf addFn
  have hA:=@Ph.addPos p E4 Ro link j (p.Spawns An r);simp only[body_add,addFn,Option.getD_some,hpr]at hA;refine hA qe (λe=>e.elim (Ft.sp _ (.inl rfl)).1 (Ft.sp _ (.inl rfl)).2.1) (λw k=>?_);clear hA;replace Ft:=Ft.rely k;replace Fu:=(k.block _ (.inl hbi)).trans Fu;clear k;walk_nrm
  apply ET.rn;apply ET.rg;refine ET.val (.func (.func 199) #[] #[.pointer (some ⟨p.Wg,0,none⟩),.pointer (some ⟨J.bl,0,none⟩),.pointer (some ⟨J.bn,0,none⟩),.pointer (some ⟨J.tb,0,none⟩),.pointer (some ⟨J.bb,0,none⟩),.pointer (some ⟨bi,0,none⟩)]) rfl rfl (by k_ne) (λF8 _ _=>⟨?_,λe he=>?_⟩) ?_
  .go_simp
   rfl
  .simp[go_sem]at he;change e∈#[]at he;simp at he
  walk_nrm
  refine ET.stop λF8 FS FM=>?_
  replace Ft:=Ft.rely FS;replace Fu:=(FS.block _ (.inl hbi)).trans Fu;clear FS;refine⟨rfl,?gx,born Tryz.prog (call47 J p.Wg bi),λb=>Ro b\/b=bi,?_,rfl,λb hb=>.inl hb,λb hb=>hb.elim .inl λe=>.inr (e▸hbi),?_,?_⟩;rotate_left 1
  .rw[hpr,stepG_spawn (d:=call47 J p.Wg bi) (w':=F8) (f:=.func 199) (c:=#[.pointer (some ⟨p.Wg,0,none⟩),.pointer (some ⟨J.bl,0,none⟩),.pointer (some ⟨J.bn,0,none⟩),.pointer (some ⟨J.tb,0,none⟩),.pointer (some ⟨J.bb,0,none⟩),.pointer (some ⟨bi,0,none⟩)]) rfl rfl (by k_ne) (by simp[go_sem,call47,Deferred.ofValue]) rfl];generalize hL:listed _ _ _ _ _=Lx;have hLx:Lx=#[]:=by
    rw[<-hL];simp[listed,go_sem,seen,Deferred.ofValue];rfl
   subst hLx;rfl
  .have hb':=Ft.go hbi;exact Dc hb'.job hP0 hP hin hFl hL (by omega) (.inr rfl) Fu hb'.wb (λb hb=>(hb'.sp b hb).2.1) (λb hb=>hb.elim (λx=>(hb'.sp b x).2.2) λx=>hb'.lt b (.inr x)) hb'.gl
  .have hb':=Ft.go hbi;obtain⟨Stop,hS⟩:=xL (p:=p) An r (λb=>Ro b\/b=bi);have hwr:IntKind.i64.wrap ((j:Int)+1)=((j+1:Nat):Int):=by rw[IntKind.wrap_i64];omega
   rw[hS,hpr];walk_nrm
   apply ET.rn;refine ET.c (λ_=>stepG_inBlock) ?_;apply ET.rg
   iterate 2 (refine ET.o rfl rfl (by k_ne) (λ_ K hK=>?_);go_simp;refine hK _ _ rfl (by simp[go_sem, *]) ?_;clear hK K;try w_num)
   apply ET.rn;refine ET.c (λ_=>stepG_inLoop) ?_;have hI:=ih (j+1) (.pointer (some ⟨bi,0,none⟩)) v9 v10 (.bool true) (.int .i64 j) (.tuple #[]) (.func (.func 199) #[] #[.pointer (some ⟨p.Wg,0,none⟩),.pointer (some ⟨J.bl,0,none⟩),.pointer (some ⟨J.bn,0,none⟩),.pointer (some ⟨J.tb,0,none⟩),.pointer (some ⟨J.bb,0,none⟩),.pointer (some ⟨bi,0,none⟩)]) (.int .i64 ((j+1:Nat):Int)) v18 v19 v20 _ _ F8 (by omega) hb';rw[hS,hpr]at hI;exact hI
end
noncomputable def qh:Array Oper:=(gU 1 body24).getD #[]
noncomputable def qi:Array Oper:=(gU 2 body24).getD #[]
structure EN (E2:Nat->Prop)(Fd:World)(M:Nat->Prop)(W:World):Prop where
 own:∀b,E2 b->M b
 keep:ax E2 Fd W
 lt:∀b,M b->b<W.heap.size
 new:∀b,M b->E2 b\/Fd.heap.size<=b
section
variable {E2 M:Nat->Prop}{Fd W Fe:World}
theorem EN.rely (h:EN E2 Fd M W)(k:ax (λb=>M b\/False) W Fe):EN E2 Fd M Fe:=⟨h.own,h.keep.trans (k.mono λb hb=>.inl (h.own b hb)),λb hb=>Gn (h.lt b hb) k.size,h.new⟩
theorem EN.alloc (h:EN E2 Fd M W)(o:Obj):EN E2 Fd (grow M W (W.alloc o)) (W.alloc o):=by
 have z:(W.alloc o).heap.size=W.heap.size+1:=by show(W.heap.push o).size=_;simp
 refine⟨λb hb=>.inl (h.own b hb),h.keep.trans ⟨λb hb=>Below.heap_alloc _ _ _ (h.lt b (h.own b hb)),by rw[z];omega,rfl,rfl⟩,λb hb=>hb.elim (λx=>by rw[z];have:=h.lt b x;omega) And.right,λb hb=>hb.elim (h.new b) λx=>.inr (Gq h.keep.size x.1)⟩
end
section
variable {rb:List Frame}{M:Nat->Prop}{W:World}{la na:Option Addr}{ln lc nn nc:Nat}
theorem Dd (hM:∀b,M b->b<W.heap.size):
  ET Tryz.prog true (λ_=>True) Ph.noX (λ_=>False) (λM' g W'=>∃bl bn r4,g=G ((base 181).at ⟨#[.slice la ln lc,.slice na nn nc,.pointer (some ⟨bl,0,none⟩),.pointer (some ⟨bn,0,none⟩),.pointer (some ⟨r4,0,none⟩),undef,undef,undef,undef,undef,undef,undef,undef,undef,undef,undef,undef,undef,undef,undef,undef],[]⟩ [.inRegion qh [0],.code (cM (cM body24))]) rb/\EN M W M' W'/\(W.heap.size<=bl/\bl<bn/\bn<r4)/\M' bl/\M' bn/\M' r4/\
    W'.heap[bl]?=some (.cells #[.slice la ln lc] 30 (0,0))/\W'.heap[bn]?=some (.cells #[.slice na nn nc] 224 (0,0))/\W'.heap[r4]?=some (.cells noTry.cells.toArray 222 (0,0)))
   M (G ((base 181).at ⟨#[.slice la ln lc,.slice na nn nc,undef,undef,undef,undef,undef,undef,undef,undef,undef,undef,undef,undef,undef,undef,undef,undef,undef,undef,undef],[]⟩ [.code body24]) rb) W:=by
 have z0:∀(w:World) (o:Obj),(w.alloc o).heap.size=w.heap.size+1:=λw o=>by show(w.heap.push o).size=_;simp
 have hE:EN M W M W:=⟨λ_ h=>h,ax.refl _ _,hM,λ_ h=>.inl h⟩;simp only[body24,Tryz.f181,Option.getD_some];apply ET.sq;apply ET.rg;refine ET.oper rfl rfl (by k_ne) λFe FO _=>⟨.pointer (some ⟨Fe.heap.size,0,none⟩),Fe.alloc (.cells #[.slice la ln lc] 30),?_,?_,?_⟩
 .go_simp
 .refine bT.alloc _ λe he=>?_
  have hm:=mem_listed he;simp[go_sem]at hm
 walk_nrm
 have h1:=(hE.rely FO).alloc (.cells #[.slice la ln lc] 30);have m1:grow M Fe (Fe.alloc (.cells #[.slice la ln lc] 30)) Fe.heap.size:=.inr ⟨Gm _,by rw[z0];omega⟩;have c1:(Fe.alloc (.cells #[.slice la ln lc] 30)).heap[Fe.heap.size]?=some (.cells #[.slice la ln lc] 30 (0,0)):=heap_alloc_new _ _;have s1:=FO.size;have y1:=z0 Fe (.cells #[.slice la ln lc] 30);generalize Fe.alloc (.cells #[.slice la ln lc] 30)=E7 at h1 m1 c1 y1⊢;generalize grow M Fe E7=E3 at h1 m1⊢;generalize Fe.heap.size=bl at m1 c1 s1 y1⊢;refine ET.oper rfl rfl (by k_ne) λFf FP _=>⟨.pointer (some ⟨Ff.heap.size,0,none⟩),Ff.alloc (.cells #[.slice na nn nc] 224),?_,?_,?_⟩
 .go_simp
 .refine bT.alloc _ λe he=>?_
  have hm:=mem_listed he;simp[go_sem]at hm
 walk_nrm
 have h2:=(h1.rely FP).alloc (.cells #[.slice na nn nc] 224);have m2:grow E3 Ff (Ff.alloc (.cells #[.slice na nn nc] 224)) Ff.heap.size:=.inr ⟨Gm _,by rw[z0];omega⟩;have s2:=FP.size;have y2:=z0 Ff (.cells #[.slice na nn nc] 224);have c2:(Ff.alloc (.cells #[.slice na nn nc] 224)).heap[Ff.heap.size]?=some (.cells #[.slice na nn nc] 224 (0,0)):=heap_alloc_new _ _;have c1':(Ff.alloc (.cells #[.slice na nn nc] 224)).heap[bl]?=some (.cells #[.slice la ln lc] 30 (0,0)):=(Below.heap_alloc _ _ _ (by omega)).trans ((FP.block _ (.inl m1)).trans c1);have m1':grow E3 Ff (Ff.alloc (.cells #[.slice na nn nc] 224)) bl:=.inl m1;generalize Ff.alloc (.cells #[.slice na nn nc] 224)=E8 at h2 m2 c2 c1' m1' y2⊢;generalize grow E3 Ff E8=E4 at h2 m2 m1'⊢;generalize Ff.heap.size=bn at m2 c2 s2 y2⊢;refine ET.oper rfl rfl (by k_ne) λFg FQ _=>⟨.pointer (some ⟨Fg.heap.size,0,none⟩),Fg.alloc (.cells #[.bool false,.int .i64 0,.int .i64 0,.slice none 0 0] 222),?_,?_,?_⟩
 .go_simp
 .refine bT.alloc _ λe he=>?_
  have hm:=mem_listed he;simp[go_sem]at hm
 walk_nrm
 have h3:=(h2.rely FQ).alloc (.cells #[.bool false,.int .i64 0,.int .i64 0,.slice none 0 0] 222);have m3:grow E4 Fg (Fg.alloc (.cells #[.bool false,.int .i64 0,.int .i64 0,.slice none 0 0] 222)) Fg.heap.size:=.inr ⟨Gm _,by rw[z0];omega⟩;have s3:=FQ.size;have c3:(Fg.alloc (.cells #[.bool false,.int .i64 0,.int .i64 0,.slice none 0 0] 222)).heap[Fg.heap.size]?=some (.cells noTry.cells.toArray 222 (0,0)):=heap_alloc_new _ _;have c2':(Fg.alloc (.cells #[.bool false,.int .i64 0,.int .i64 0,.slice none 0 0] 222)).heap[bn]?=some (.cells #[.slice na nn nc] 224 (0,0)):=(Below.heap_alloc _ _ _ (by omega)).trans ((FQ.block _ (.inl m2)).trans c2);have c1'':(Fg.alloc (.cells #[.bool false,.int .i64 0,.int .i64 0,.slice none 0 0] 222)).heap[bl]?=some (.cells #[.slice la ln lc] 30 (0,0)):=(Below.heap_alloc _ _ _ (by omega)).trans ((FQ.block _ (.inl m1')).trans c1');have m1'':grow E4 Fg (Fg.alloc (.cells #[.bool false,.int .i64 0,.int .i64 0,.slice none 0 0] 222)) bl:=.inl m1';have m2':grow E4 Fg (Fg.alloc (.cells #[.bool false,.int .i64 0,.int .i64 0,.slice none 0 0] 222)) bn:=.inl m2;generalize Fg.alloc (.cells #[.bool false,.int .i64 0,.int .i64 0,.slice none 0 0] 222)=E9 at h3 m3 c3 c2' c1'' m1'' m2'⊢;generalize grow E4 Fg E9=E5 at h3 m3 m1'' m2'⊢;generalize Fg.heap.size=r4 at m3 c3 s3⊢;apply ET.rn;apply ET.sq;apply ET.rg;refine ET.stop λW4 FR _=>⟨bl,bn,r4,rfl,h3.rely FR,⟨by omega,by omega,by omega⟩,m1'',m2',m3,(FR.block _ (.inl m1'')).trans c1'',(FR.block _ (.inl m2')).trans c2',(FR.block _ (.inl m3)).trans c3⟩
end
section
variable {rb:List Frame}{M:Nat->Prop}{W:World}{la na:Option Addr}{ln lc nn nc bl bn r4 tb wg:Nat}
theorem Bc (w:World):stepG Tryz.prog true (G ((base 181).at ⟨#[.slice la ln lc,.slice na nn nc,.pointer (some ⟨bl,0,none⟩),.pointer (some ⟨bn,0,none⟩),.pointer (some ⟨r4,0,none⟩),undef,undef,undef,undef,undef,undef,undef,undef,undef,undef,undef,undef,undef,undef,undef,undef],[]⟩ [.inRegion qh [0],.code (cM (cM body24))]) rb) w=
  .go (G ((base 181).at ⟨#[.slice la ln lc,.slice na nn nc,.pointer (some ⟨bl,0,none⟩),.pointer (some ⟨bn,0,none⟩),.pointer (some ⟨r4,0,none⟩),.pointer (some ⟨w.heap.size,0,none⟩),undef,undef,undef,undef,undef,undef,undef,undef,undef,undef,undef,undef,undef,undef,undef],[]⟩ [.inRegion qh [],.code (cM (cM body24))]) rb) (w.alloc (.cells #[.int .i64 0] 250)) #[]:=by
 obtain⟨o,ho,hop,hd,hg⟩:∃o,qh[0]?=some o/\o.op=.alloc 250/\o.dst=some 5/\o.guard=none:=⟨_,rfl,rfl,rfl,rfl⟩;have hr:∀f,(execOp f o).run Tryz.prog w=.ok (.value (.pointer (some ⟨w.heap.size,0,none⟩))) (w.alloc (.cells #[.int .i64 0] 250)):=λf=>by
  unfold execOp;simp only[hop];go_simp
 have he:∀f,(execOp f o).events Tryz.prog w #[]=#[]:=λf=>by
  unfold execOp;simp only[hop];simp[go_sem]
 rw[jf ho (by simp[Region.wanted,hg]) (by k_ne) (hr _)];unfold listed;rw[he,seen_none,hd];walk_nrm
theorem Bd (w:World):stepG Tryz.prog true (G ((base 181).at ⟨#[.slice la ln lc,.slice na nn nc,.pointer (some ⟨bl,0,none⟩),.pointer (some ⟨bn,0,none⟩),.pointer (some ⟨r4,0,none⟩),.pointer (some ⟨tb,0,none⟩),undef,undef,undef,undef,undef,undef,undef,undef,undef,undef,undef,undef,undef,undef,undef],[]⟩ [.inRegion qi [0],.code (cM (cM (cM body24)))]) rb) w=
  .go (G ((base 181).at ⟨#[.slice la ln lc,.slice na nn nc,.pointer (some ⟨bl,0,none⟩),.pointer (some ⟨bn,0,none⟩),.pointer (some ⟨r4,0,none⟩),.pointer (some ⟨tb,0,none⟩),.pointer (some ⟨w.heap.size,0,none⟩),undef,undef,undef,undef,undef,undef,undef,undef,undef,undef,undef,undef,undef,undef],[]⟩ [.inRegion qi [],.code (cM (cM (cM body24)))]) rb) (w.alloc (.cells #[.int .u64 0,.int .u32 0] 255)) #[]:=by
 obtain⟨o,ho,hop,hd,hg⟩:∃o,qi[0]?=some o/\o.op=.alloc 255/\o.dst=some 6/\o.guard=none:=⟨_,rfl,rfl,rfl,rfl⟩;have hr:∀f,(execOp f o).run Tryz.prog w=.ok (.value (.pointer (some ⟨w.heap.size,0,none⟩))) (w.alloc (.cells #[.int .u64 0,.int .u32 0] 255)):=λf=>by
  unfold execOp;simp only[hop];go_simp
 have he:∀f,(execOp f o).events Tryz.prog w #[]=#[]:=λf=>by
  unfold execOp;simp only[hop];simp[go_sem]
 rw[jf ho (by simp[Region.wanted,hg]) (by k_ne) (hr _)];unfold listed;rw[he,seen_none,hd];walk_nrm
theorem De:ET Tryz.prog true (λ_=>True) Ph.noX (λ_=>False) (λM' g W'=>M'=M/\ax M W W'/\g=G ((base 181).at ⟨#[.slice la ln lc,.slice na nn nc,.pointer (some ⟨bl,0,none⟩),.pointer (some ⟨bn,0,none⟩),.pointer (some ⟨r4,0,none⟩),.pointer (some ⟨tb,0,none⟩),undef,undef,undef,undef,undef,undef,undef,undef,undef,undef,undef,undef,undef,undef,undef],[]⟩ [.inRegion qi [0],.code (cM (cM (cM body24)))]) rb)
  M (G ((base 181).at ⟨#[.slice la ln lc,.slice na nn nc,.pointer (some ⟨bl,0,none⟩),.pointer (some ⟨bn,0,none⟩),.pointer (some ⟨r4,0,none⟩),.pointer (some ⟨tb,0,none⟩),undef,undef,undef,undef,undef,undef,undef,undef,undef,undef,undef,undef,undef,undef,undef],[]⟩ [.inRegion qh [],.code (cM (cM body24))]) rb) W:=by
 simp only[body24,Tryz.f181,Option.getD_some,cM];apply ET.rn;apply ET.sq;apply ET.rg;exact ET.stop λFe FO _=>⟨rfl,FO.mono λb hb=>.inl hb,rfl⟩
end
theorem Df (w:World):(Instr.makeSlice 256 (.int .i64 4) (.int .i64 4)).run Tryz.prog w=.ok (.slice (some ⟨w.heap.size,0,none⟩) 4 4) (w.alloc (.cells #[.bool false,.int .i64 0,.int .i64 0,.slice none 0 0,.bool false,.int .i64 0,.int .i64 0,.slice none 0 0,.bool false,.int .i64 0,.int .i64 0,.slice none 0 0,.bool false,.int .i64 0,.int .i64 0,.slice none 0 0] 222)):=by kernel_rfl
theorem DY (w:World)(es:Array Event):(Instr.makeSlice 256 (.int .i64 4) (.int .i64 4)).events Tryz.prog w es=es:=by kernel_rfl
section
variable {rb:List Frame}{M:Nat->Prop}{W:World}{la na:Option Addr}{ln lc nn nc bl bn r4 tb wg:Nat}
theorem Dg (hM:∀b,M b->b<W.heap.size):
  ET Tryz.prog true (λ_=>True) Ph.noX (λ_=>False) (λM' g W'=>∃(Bs bb:Nat) (v9 v10:Value),g=G ((base 181).at ⟨#[.slice la ln lc,.slice na nn nc,.pointer (some ⟨bl,0,none⟩),.pointer (some ⟨bn,0,none⟩),.pointer (some ⟨r4,0,none⟩),.pointer (some ⟨tb,0,none⟩),.pointer (some ⟨wg,0,none⟩),.pointer (some ⟨bb,0,none⟩),undef,v9,v10,.int .i64 4,.int .i64 0,undef,undef,undef,undef,undef,undef,undef,undef],[]⟩ [.code fV,.inLoop fV,.inBlock 0,.code eo]) rb/\EN M W M' W'/\(W.heap.size<=Bs/\Bs<bb)/\M' Bs/\M' bb/\
    W'.heap[bb]?=some (.cells #[.slice (some ⟨Bs,0,none⟩) 4 4] 256 (0,0))/\∃cs,W'.heap[Bs]?=some (.cells cs 222 (0,0))/\cs.size=16)
   M (G ((base 181).at ⟨#[.slice la ln lc,.slice na nn nc,.pointer (some ⟨bl,0,none⟩),.pointer (some ⟨bn,0,none⟩),.pointer (some ⟨r4,0,none⟩),.pointer (some ⟨tb,0,none⟩),.pointer (some ⟨wg,0,none⟩),undef,undef,undef,undef,undef,undef,undef,undef,undef,undef,undef,undef,undef,undef],[]⟩ [.inRegion qi [],.code (cM (cM (cM body24)))]) rb) W:=by
 have z0:∀(w:World) (o:Obj),(w.alloc o).heap.size=w.heap.size+1:=λw o=>by show(w.heap.push o).size=_;simp
 have hE:EN M W M W:=⟨λ_ h=>h,ax.refl _ _,hM,λ_ h=>.inl h⟩;simp only[fV,eo,body24,Tryz.f181,Option.getD_some,ft,cM,Option.or_some,Option.or_none,Option.none_or];apply ET.rn;apply ET.sq;apply ET.rg;refine ET.oper rfl rfl (by k_ne) λFe FO _=>⟨.slice (some ⟨Fe.heap.size,0,none⟩) 4 4,Fe.alloc (.cells #[.bool false,.int .i64 0,.int .i64 0,.slice none 0 0,.bool false,.int .i64 0,.int .i64 0,.slice none 0 0,.bool false,.int .i64 0,.int .i64 0,.slice none 0 0,.bool false,.int .i64 0,.int .i64 0,.slice none 0 0] 222),?_,?_,?_⟩
 .go_simp
  rw[Df];rfl
 .refine bT.alloc _ λe he=>?_
  have hm:=mem_listed he;simp[go_sem]at hm;rw[DY]at hm;simp at hm
 walk_nrm
 have h1:=(hE.rely FO).alloc (.cells #[.bool false,.int .i64 0,.int .i64 0,.slice none 0 0,.bool false,.int .i64 0,.int .i64 0,.slice none 0 0,.bool false,.int .i64 0,.int .i64 0,.slice none 0 0,.bool false,.int .i64 0,.int .i64 0,.slice none 0 0] 222);have m1:grow M Fe (Fe.alloc (.cells #[.bool false,.int .i64 0,.int .i64 0,.slice none 0 0,.bool false,.int .i64 0,.int .i64 0,.slice none 0 0,.bool false,.int .i64 0,.int .i64 0,.slice none 0 0,.bool false,.int .i64 0,.int .i64 0,.slice none 0 0] 222)) Fe.heap.size:=.inr ⟨Gm _,by rw[z0];omega⟩;have c1:∃cs:Array Value,(Fe.alloc (.cells #[.bool false,.int .i64 0,.int .i64 0,.slice none 0 0,.bool false,.int .i64 0,.int .i64 0,.slice none 0 0,.bool false,.int .i64 0,.int .i64 0,.slice none 0 0,.bool false,.int .i64 0,.int .i64 0,.slice none 0 0] 222)).heap[Fe.heap.size]?=some (.cells cs 222 (0,0))/\cs.size=16:=⟨_,heap_alloc_new _ _,rfl⟩;have s1:=FO.size;have y1:=z0 Fe (.cells #[.bool false,.int .i64 0,.int .i64 0,.slice none 0 0,.bool false,.int .i64 0,.int .i64 0,.slice none 0 0,.bool false,.int .i64 0,.int .i64 0,.slice none 0 0,.bool false,.int .i64 0,.int .i64 0,.slice none 0 0] 222);generalize Fe.alloc (.cells #[.bool false,.int .i64 0,.int .i64 0,.slice none 0 0,.bool false,.int .i64 0,.int .i64 0,.slice none 0 0,.bool false,.int .i64 0,.int .i64 0,.slice none 0 0,.bool false,.int .i64 0,.int .i64 0,.slice none 0 0] 222)=E7 at h1 m1 c1 y1⊢;generalize grow M Fe E7=E3 at h1 m1⊢;generalize Fe.heap.size=Bs at m1 c1 s1 y1⊢;refine ET.oper rfl rfl (by k_ne) λFf FP _=>⟨.pointer (some ⟨Ff.heap.size,0,none⟩),Ff.alloc (.cells #[.slice none 0 0] 256),?_,?_,?_⟩
 .go_simp
 .refine bT.alloc _ λe he=>?_
  have hm:=mem_listed he;simp[go_sem]at hm
 walk_nrm
 have h2:=(h1.rely FP).alloc (.cells #[.slice none 0 0] 256);have m2:grow E3 Ff (Ff.alloc (.cells #[.slice none 0 0] 256)) Ff.heap.size:=.inr ⟨Gm _,by rw[z0];omega⟩;have s2:=FP.size;have y2:=z0 Ff (.cells #[.slice none 0 0] 256);have c2:(Ff.alloc (.cells #[.slice none 0 0] 256)).heap[Ff.heap.size]?=some (.cells #[.slice none 0 0] 256 (0,0)):=heap_alloc_new _ _;have c1':∃cs:Array Value,(Ff.alloc (.cells #[.slice none 0 0] 256)).heap[Bs]?=some (.cells cs 222 (0,0))/\cs.size=16:=by
  obtain⟨cs,g1,g2⟩:=c1;exact⟨cs,(Below.heap_alloc _ _ _ (by omega)).trans ((FP.block _ (.inl m1)).trans g1),g2⟩
 have m1':grow E3 Ff (Ff.alloc (.cells #[.slice none 0 0] 256)) Bs:=.inl m1;have hbM:¬M Ff.heap.size:=λe=>by have:=(h1.rely FP).lt _ ((h1.rely FP).own _ e);omega
 generalize Ff.alloc (.cells #[.slice none 0 0] 256)=E8 at h2 m2 c2 c1' m1' y2⊢;generalize grow E3 Ff E8=E4 at h2 m2 m1'⊢;generalize Ff.heap.size=bb at m2 c2 s2 y2 hbM⊢;refine ET.none rfl rfl (by k_ne) λFg FQ _=>⟨Fg.setCell ⟨bb,0,none⟩ (.slice (some ⟨Bs,0,none⟩) 4 4),?_,?_,?_⟩
 .have hc:=cK ((FQ.block _ (.inl m2)).trans c2);have hz:Fg.frozen? ⟨bb,0,none⟩=false:=by simp[World.frozen?,(FQ.block _ (.inl m2)).trans c2]
  go_simp
 .have hc:=cK ((FQ.block _ (.inl m2)).trans c2);have hz:Fg.frozen? ⟨bb,0,none⟩=false:=by simp[World.frozen?,(FQ.block _ (.inl m2)).trans c2]
  refine bT.set _ m2 λe he=>?_
  have hm:=mem_listed he;simp[go_sem,hc,hz]at hm;rw[events_store _ _ _ _ _ _ rfl,hc]at hm;simp[hz]at hm;subst hm;exact dq m2
 rw[aW (aside_setCell Fg ⟨bb,0,none⟩ (.slice (some ⟨Bs,0,none⟩) 4 4)).size];have c3:(Fg.setCell ⟨bb,0,none⟩ (.slice (some ⟨Bs,0,none⟩) 4 4)).heap[bb]?=some (.cells #[.slice (some ⟨Bs,0,none⟩) 4 4] 256 (0,0)):=wD ((FQ.block _ (.inl m2)).trans c2);have c1'':∃cs:Array Value,(Fg.setCell ⟨bb,0,none⟩ (.slice (some ⟨Bs,0,none⟩) 4 4)).heap[Bs]?=some (.cells cs 222 (0,0))/\cs.size=16:=by
  obtain⟨cs,g1,g2⟩:=c1';exact⟨cs,(Below.heap_setCell _ _ _ _ (by show Bs≠bb;omega)).trans ((FQ.block _ (.inl m1')).trans g1),g2⟩
 have h3:EN M W E4 (Fg.setCell ⟨bb,0,none⟩ (.slice (some ⟨Bs,0,none⟩) 4 4)):=by
  have h:=h2.rely FQ;have z:=(aside_setCell Fg ⟨bb,0,none⟩ (.slice (some ⟨Bs,0,none⟩) 4 4)).size;exact⟨h.own,h.keep.trans ⟨λb hb=>Below.heap_setCell _ _ _ _ (λe=>hbM (by have e':b=bb:=e;exact e'▸hb)),by rw[z];omega,rfl,rfl⟩,λb hb=>by rw[z];exact h.lt b hb,h.new⟩
 generalize Fg.setCell ⟨bb,0,none⟩ (.slice (some ⟨Bs,0,none⟩) 4 4)=E9 at h3 c3 c1''⊢;walk_nrm
 apply ET.rn;apply ET.sq;apply ET.sq;apply ET.rg;refine ET.val (.slice (some ⟨Bs,0,none⟩) 4 4) rfl rfl (by k_ne) (λW4 FR _=>?_) ?_
 .have hc:=cK ((FR.block _ (.inl m2)).trans c3);refine⟨?_,λe he=>?_⟩
  .go_simp
  .simp[go_sem,hc]at he;subst he;exact dq m2
 walk_nrm
 iterate 2 (refine ET.o rfl rfl (by k_ne) (λ_ K hK=>?_);go_simp;refine hK _ _ rfl (by simp[go_sem, *]) ?_;clear hK K;try w_num)
 apply ET.rn;refine ET.c (λ_=>stepG_block) ?_;refine ET.c (λ_=>stepG_loop) ?_;refine ET.stop λW4 FR _=>⟨Bs,bb,_,_,rfl,h3.rely FR,⟨by omega,by omega⟩,m1',m2,(FR.block _ (.inl m2)).trans c3,?_⟩
 obtain⟨cs,g1,g2⟩:=c1'';exact⟨cs,(FR.block _ (.inl m1')).trans g1,g2⟩
end
theorem cZ {P:Program}{N':Nat}{FV:Machine}{F1:Trace}{r:Stepped×Trace}(h':runNT P N' FV F1=r):∀(N:Nat) (m:Machine) (t:Trace),runNT P N m t=(.next FV,F1)->runNT P (N+N') m t=r:=by
 intro N;induction N with
 |zero=>intro m t h;simp only[runNT,Prod.mk.injEq,Stepped.next.injEq]at h;obtain⟨rfl,rfl⟩:=h;rw[Nat.zero_add];exact h'
 |succ N ih=>
  intro m t h;rw[show N+1+N'=(N+N')+1 by omega];simp only[runNT]at h⊢;generalize stepT P m=s at h⊢;obtain⟨s,ops⟩:=s;cases s with
  |next m'=>exact ih _ _ h
  |_=>simp at h
section
variable {Shun:Loc->Prop}{rb:List Frame}{M:Nat->Prop}{gs:Array Goroutine}{w:World}{sl:Option (Nat×Nat)}{t:Trace}{q:Nat->Nat}{la na:Option Addr}{ln lc nn nc:Nat}
theorem bp.lt' {P:Program}{V:Nat->Prop}{a:Goroutine}(h:bp P Shun V (λ_=>False) M gs a w t q):∀b,M b->b<w.heap.size:=λb hb=>h.lt b (.inl hb)
theorem Bf (h:bp Tryz.prog Shun (λ_=>False) (λ_=>False) M gs (G ((base 181).at ⟨#[.slice la ln lc,.slice na nn nc,undef,undef,undef,undef,undef,undef,undef,undef,undef,undef,undef,undef,undef,undef,undef,undef,undef,undef,undef],[]⟩ [.code body24]) rb) w t q):
  ∃N Fo E3 F4 FZ F1 FY bl bn r4 tb wg Bs bb v9 v10,runNT Tryz.prog N (crowd gs w sl) t=(.next (crowd Fo F4 FZ),F1)/\Fo.size=gs.size/\
   bp Tryz.prog Shun (λb=>(False\/b=tb)\/b=wg) (λ_=>False) E3 Fo (G ((base 181).at ⟨#[.slice la ln lc,.slice na nn nc,.pointer (some ⟨bl,0,none⟩),.pointer (some ⟨bn,0,none⟩),.pointer (some ⟨r4,0,none⟩),.pointer (some ⟨tb,0,none⟩),.pointer (some ⟨wg,0,none⟩),.pointer (some ⟨bb,0,none⟩),undef,v9,v10,.int .i64 4,.int .i64 0,undef,undef,undef,undef,undef,undef,undef,undef],[]⟩ [.code fV,.inLoop fV,.inBlock 0,.code eo]) rb) F4 F1 FY/\
   EN M w E3 F4/\(w.heap.size<=bl/\bl<bn/\bn<r4/\r4<tb/\tb<wg/\wg<Bs/\Bs<bb)/\(E3 bl/\E3 bn/\E3 r4/\E3 Bs/\E3 bb)/\
   F4.heap[bl]?=some (.cells #[.slice la ln lc] 30 (0,0))/\F4.heap[bn]?=some (.cells #[.slice na nn nc] 224 (0,0))/\F4.heap[r4]?=some (.cells noTry.cells.toArray 222 (0,0))/\
   F4.heap[tb]?=some (.cells #[.int .i64 0] 250 (0,0))/\F4.heap[wg]?=some (.cells #[.int .u64 0,.int .u32 0] 255 (0,0))/\
   F4.heap[bb]?=some (.cells #[.slice (some ⟨Bs,0,none⟩) 4 4] 256 (0,0))/\∃cs,F4.heap[Bs]?=some (.cells cs 222 (0,0))/\cs.size=16:=by
 have z0:∀(w:World) (o:Obj),(w.alloc o).heap.size=w.heap.size+1:=λw o=>by show(w.heap.push o).size=_;simp
 obtain⟨r,hr⟩:=Dd (rb:=rb) (la:=la) (ln:=ln) (lc:=lc) (na:=na) (nn:=nn) (nc:=nc) h.lt';obtain⟨N1,gs1,M1,a1,w1,sl1,t1,q1,e1,e2,e3,e4,e5,e6,e7,e8⟩:=eN (λ_=>trivial) r _ gs M _ w sl t q (Gm _) h hr;obtain⟨bl,bn,r4,rfl,hE,⟨o1,o2,o3⟩,m1,m2,m3,c1,c2,c3⟩:=e3 w1 (ax.refl _ _) trivial;have r4lt:=hE.lt _ m3;obtain⟨N2,gs2,a2,w2,sl2,t2,q2,f1,f2,f3,f4,f5,f6⟩:=bp.alloc (w:=w1) (sl:=sl1) (t:=t1) (q:=q1) (gs:=gs1) (d:=w1.drawn) (Q:=λa' w'=>a'=G ((base 181).at ⟨#[.slice la ln lc,.slice na nn nc,.pointer (some ⟨bl,0,none⟩),.pointer (some ⟨bn,0,none⟩),.pointer (some ⟨r4,0,none⟩),.pointer (some ⟨w1.heap.size,0,none⟩),undef,undef,undef,undef,undef,undef,undef,undef,undef,undef,undef,undef,undef,undef,undef],[]⟩ [.inRegion qh [],.code (cM (cM body24))]) rb/\w'.heap[w1.heap.size]?=some (.cells #[.int .i64 0] 250 (0,0))/\w'.os=w1.os/\w'.output=w1.output)
  (λd=>⟨_,_,Bc (w1.at d),z0 _ _,λb hb=>Below.heap_alloc _ _ _ hb,rfl,heap_alloc_new _ _,rfl,rfl⟩) rfl _ (Gm _) e4
 obtain⟨rfl,ctk,os2,ou2⟩:=f3;obtain⟨r',hr'⟩:=De (rb:=rb) (M:=M1) (W:=w2) (la:=la) (ln:=ln) (lc:=lc) (na:=na) (nn:=nn) (nc:=nc) (bl:=bl) (bn:=bn) (r4:=r4) (tb:=w1.heap.size);obtain⟨N3,gs3,M3,a3,w3,sl3,t3,q3,g1,g2,g3,g4,g5,g6,g7,g8⟩:=eN (λ_=>trivial) r' _ gs2 M1 _ w2 sl2 t2 q2 (Gm _) f4 hr';obtain⟨rfl,k3,rfl⟩:=g3 w3 (ax.refl _ _) trivial;obtain⟨N4,gs4,a4,w4,sl4,t4,q4,i1,i2,i3,i4,i5,i6⟩:=bp.alloc (w:=w3) (sl:=sl3) (t:=t3) (q:=q3) (gs:=gs3) (d:=w3.drawn) (Q:=λa' w'=>a'=G ((base 181).at ⟨#[.slice la ln lc,.slice na nn nc,.pointer (some ⟨bl,0,none⟩),.pointer (some ⟨bn,0,none⟩),.pointer (some ⟨r4,0,none⟩),.pointer (some ⟨w1.heap.size,0,none⟩),.pointer (some ⟨w3.heap.size,0,none⟩),undef,undef,undef,undef,undef,undef,undef,undef,undef,undef,undef,undef,undef,undef],[]⟩ [.inRegion qi [],.code (cM (cM (cM body24)))]) rb/\w'.heap[w3.heap.size]?=some (.cells #[.int .u64 0,.int .u32 0] 255 (0,0))/\w'.os=w3.os/\w'.output=w3.output)
  (λd=>⟨_,_,Bd (w3.at d),z0 _ _,λb hb=>Below.heap_alloc _ _ _ hb,rfl,heap_alloc_new _ _,rfl,rfl⟩) rfl _ (Gm _) g4
 obtain⟨rfl,cwg,os4,ou4⟩:=i3;obtain⟨r'',hr''⟩:=Dg (rb:=rb) (la:=la) (ln:=ln) (lc:=lc) (na:=na) (nn:=nn) (nc:=nc) (bl:=bl) (bn:=bn) (r4:=r4) (tb:=w1.heap.size) (wg:=w3.heap.size) i4.lt';obtain⟨N5,gs5,M5,a5,w5,sl5,t5,q5,j1,j2,j3,j4,j5,j6,j7,j8⟩:=eN (λ_=>trivial) r'' _ gs4 M3 _ w4 sl4 t4 q4 (Gm _) i4 hr'';obtain⟨Bs,bb,v9,v10,rfl,hE5,⟨p1,p2⟩,n1,n2,cbb,cBs⟩:=j3 w5 (ax.refl _ _) trivial;have hE':ax M3 w1 w4:=(show ax M3 w1 w2 from⟨λb hb=>f6 b (hE.lt b hb),by omega,os2,ou2⟩).trans (k3.trans ⟨λb hb=>i6 b (by have:=hE.lt b hb;omega),by omega,os4,ou4⟩);have hk5:=hE'.trans hE5.keep;have tn:¬M3 w1.heap.size:=λx=>by have:=hE.lt _ x;omega
 have wn:¬M3 w3.heap.size:=λx=>by have:=hE.lt _ x;omega
 refine⟨N1+(N2+(N3+(N4+N5))),gs5,M5,w5,sl5,t5,q5,bl,bn,r4,w1.heap.size,w3.heap.size,Bs,bb,v9,v10,cZ (cZ (cZ (cZ j1 _ _ _ i1) _ _ _ g1) _ _ _ f1) _ _ _ e1,by omega,j4,⟨λb hb=>hE5.own b (hE.own b hb),hE.keep.trans (hk5.mono hE.own),hE5.lt,λb hb=>?_⟩,⟨o1,o2,o3,r4lt,by omega,by omega,p2⟩,⟨hE5.own _ m1,hE5.own _ m2,hE5.own _ m3,n1,n2⟩,(hk5.block _ m1).trans c1,(hk5.block _ m2).trans c2,(hk5.block _ m3).trans c3,?_,?_,cbb,cBs⟩
 .rcases hE5.new b hb with x|x
  .exact hE.new b x
  .exact .inr (by have:=hE.keep.size;omega)
 .rw[j8 _ (by omega) tn,i6 _ (by omega),g8 _ (by omega) tn];exact ctk
 .rw[j8 _ (by omega) wn];exact cwg
end
end
section
open Go Go.Conc
open Go.ConcN (sumTo)
def Dh [Gl](fr:Frame)(V:World):Prop:=∃(b:Frame) (a:Act) (ops:Array Oper) (i:Nat) (r:List Nat) (k:List Item) (o:Oper) (x y:Nat) (ts:Array TypeId) (p q:Addr) (la ca lb cb:Nat) (c1 c2:Array Value) (t1 t2:TypeId),
 Gl.ov<1000000000/\fr=b.at a (.inRegion ops (i::r)::k)/\ops[i]?=some o/\Region.wanted o (yielded ops a.tmps)=true/\o.op=.call {callee:=.value (.func Gl.ov),args:=#[.tmp x,.tmp y],argTypes:=ts}/\
 a.tmps[x]?=some (.slice (some p) la ca)/\a.tmps[y]?=some (.slice (some q) lb cb)/\p.block≠q.block/\V.heap[p.block]?=some (.cells c1 t1 (0,0))/\c1.size≠0/\V.heap[q.block]?=some (.cells c2 t2 (0,0))/\c2.size≠0
def rB [Gl](P:Program):Prop:=∀(p q:Addr) (la ca lb cb:Nat) (c1 c2:Array Value) (t1 t2:TypeId) (W:World),p.block≠q.block->W.heap[p.block]?=some (.cells c1 t1 (0,0))->c1.size≠0->W.heap[q.block]?=some (.cells c2 t2 (0,0))->c2.size≠0->
 (callFunc Gl.ov #[.slice (some p) la ca,.slice (some q) lb cb]).run P W=.ok (.value (.bool false)) W/\∀e∈(callFunc Gl.ov #[.slice (some p) la ca,.slice (some q) lb cb]).events P W #[],∃f,e=⟨.mark (.extern f),false,true⟩
theorem xM [Gl]{a:Act}{o:Oper}{x y:Nat}{ts:Array TypeId}{u v:Value}(hop:o.op=.call {callee:=.value (.func Gl.ov),args:=#[.tmp x,.tmp y],argTypes:=ts})(hx:a.tmps[x]?=some u)(hy:a.tmps[y]?=some v):execOp a.eval o=callFunc Gl.ov #[u,v]:=by
 have e1:a.eval (.tmp x)=u:=by simp[Act.eval,hx]
 have e2:a.eval (.tmp y)=v:=by simp[Act.eval,hy]
 have e3:a.eval (.func Gl.ov)=.func (.func Gl.ov) #[] #[]:=rfl;unfold execOp;rw[hop];simp[resolve,invoke,e1,e2,e3,Deferred.ofValue]
section
variable [Gl](P:Program)(ok:Ctx)(c:Frame)(Dr:FuncId->Array Value->World->(Value->World->Prop)->Prop)(Q:Value->World->Prop)
inductive Wk:St->Prop
 |ends {s:St}:(∀τ d,pF P Q (s.re τ d))->(∃fn t,P.funcs[s.fr.fn]?=some fn/\fn.results=#[.tmp t])->Wk s
 |step {s:St} (f:(Nat->Question->Nat)->Nat->St):ok.inn s.fr.fn=true->s.fr.kind=.normal->(∀τ d,cI P c (s.re τ d) (f τ d))->(∀τ d,Wk (f τ d))->Wk s
 |door {f:FuncId} {xs:Array Value} {fr:Frame} {cs:List Frame} {V:World} {R:Value->World->Prop}:ok.inn f=false->Dr f xs V R->(∀v V',R v V'->Wk ⟨fr.finish v,cs,V'⟩)->Wk ⟨Frame.enter P f xs .normal,fr::cs,V⟩
 |ext {fr:Frame} {cs:List Frame} {V:World}:ok.inn fr.fn=true->fr.kind=.normal->Dh fr V->Wk ⟨fr.finish (.bool false),cs,V⟩->Wk ⟨fr,cs,V⟩
end
section
variable [Gl]{P0 P:Program}{ok:Ctx}{c:Frame}{Dr:FuncId->Array Value->World->(Value->World->Prop)->Prop}{Q:Value->World->Prop}
set_option linter.unusedSectionVars false in
theorem Bg (hP:Same P0 P ok){s s':St}(hi:ok.inn s.fr.fn=true)(hk:s.fr.kind=.normal)(he:pG s)(h:cI P0 c s s'):False:=by
 obtain⟨fr,cs,V⟩:=s;obtain⟨e1,e2,e3⟩:=he;obtain⟨es,h⟩:=h;simp only at e1 e2 e3 h hi hk;subst e1;rw[eL e2]at h;obtain⟨F,cd,f1,_⟩:=hP.same _ hi;obtain⟨fn,tmps,todo,defers,mode,kind,roundOf⟩:=fr;simp only at e2 e3 hk f1;subst e3 hk;cases mode with
 |run=>exact absurd rfl e2
 |panicking ch=>
  have c1:Frame.catches P0 ⟨fn,tmps,todo,[],.panicking ch,.normal,roundOf⟩=false:=by simp[Frame.catches,f1]
  simp only[unwind,c1,List.nil_append,Bool.false_eq_true,if_false,GStep.go.injEq]at h;have:=congrArg Goroutine.callers h.1;simp[G]at this
 |returning=>
  simp only[unwind,f1,List.nil_append]at h;obtain⟨es3,h3⟩:=fT h;generalize (results F tmps).runT P0 V #[]=x at h3;obtain⟨r,e⟩:=x;cases r with
  |ok v w=>
   simp only[doReturn,GStep.go.injEq]at h3;have:=congrArg Goroutine.callers h3.1;simp[G]at this
  |halt hh w=>cases hh<;>cases h3
def vf (ρ:Ren)(M:Nat->Prop):Prop:=∀b d,ρ b=some d->M d
def none0:Nat->Prop:=λ_=>False
theorem aH.others {ρ:Ren}{M:Nat->Prop}{V W Fe:World}(hw:aH ok true ρ (re V W.tape W.drawn) W)(ho:vf ρ M)(k:ax (λb=>M b\/none0 b) W Fe):aH ok true ρ (re V Fe.tape Fe.drawn) Fe:=by
 refine⟨λb d hb=>?_,rfl,rfl,hw.gV,Gq hw.gW k.size⟩;obtain⟨o,o',h1,h2,h3⟩:=hw.heap b d hb;exact⟨o,o',h1,(k.block d (.inl (ho b d hb))).trans h2,h3⟩
def jg (P:Program)(ok:Ctx)(Inv:(Nat->Prop)->World->Prop)(Dr:FuncId->Array Value->World->(Value->World->Prop)->Prop):Prop:=
 ∀{f:FuncId} {xs:Array Value} {V:World} {ρ:Ren} {xs':Array Value} {W:World} {M:Nat->Prop} {Shun:Loc->Prop} {gs:Array Goroutine} {r0:Frame} {rest:List Frame} {t:Trace} {q:Nat->Nat} {sl:Option (Nat×Nat)} {R:Value->World->Prop},
  Inv M W->Dr f xs V R->am ok ρ xs xs'->aH ok true ρ (re V W.tape W.drawn) W->vf ρ M->bp P Shun none0 none0 M gs (G (Frame.enter P f xs' .normal) (r0::rest)) W t q->
  ∃N gs' W' sl' t' q' Shun' M' v' σ v V',runNT P N (crowd gs W sl) t=(.next (crowd gs' W' sl'),t')/\bp P Shun' none0 none0 M' gs' (G (r0.finish v') rest) W' t' q'/\
   ρ.le σ/\aj ok σ v v'/\aH ok true σ (re V' W'.tape W'.drawn) W'/\vf σ M'/\R v V'/\ax M W W'/\(∀d,M d->M' d)/\(∀b d,σ b=some d->ρ b=some d\/W.heap.size<=d)/\∀b,Ro V b->V'.heap[b]?=V.heap[b]?
omit [Gl] in
theorem zB [Gl]{ρ:Ren}{v:Value}(h:aj ok ρ undef v):v=undef:=by
 unfold undef at h;generalize hu:Value.tuple #[]=u at h;cases h with
 |@tuple xs xs' e h=>
  simp only[Value.tuple.injEq]at hu;subst hu;have:xs'=#[]:=by
   have:=e.symm;simpa using this
  rw[this];rfl
 |_=>cases hu
theorem oh {ρ:Ren}{f:FuncId}{xs ys ys':Array Value}(hn:((P0.funcs[f]?).map (·.ntmps)).getD 0=((P.funcs[f]?).map (·.ntmps)).getD 0)(e:Frame.enter P0 f xs .normal=Frame.enter P0 f ys .normal)(h:am ok ρ ys ys'):∃xs',am ok ρ xs xs'/\Frame.enter P f xs' .normal=Frame.enter P f ys' .normal:=by
 have et:=congrArg Frame.tmps e;simp only[Frame.enter]at et;rw[hn]at et;have hz:=h.size;have hT:am ok ρ (ys++Array.replicate (((P.funcs[f]?).map (·.ntmps)).getD 0-ys.size) undef) (ys'++Array.replicate (((P.funcs[f]?).map (·.ntmps)).getD 0-ys.size) undef):=h.append (am.replicate fO _);rw[<-et]at hT;generalize hm:((P.funcs[f]?).map (·.ntmps)).getD 0=n at et hT;generalize hT':ys'++Array.replicate (n-ys.size) undef=T' at hT;have hs:=hT.size;simp only[Array.size_append,Array.size_replicate]at hs;have hx:am ok ρ xs (T'.extract 0 xs.size):=by
  have:=hT.extract 0 xs.size;rw[Array.extract_append_left]at this;simpa using this
 refine⟨T'.extract 0 xs.size,hx,?_⟩;simp only[Frame.enter,hm,Frame.mk.injEq,true_and,and_true];rw[<-hz,hT',<-hx.size];refine Array.ext (by simp;omega) λi h1 h2=>?_
 by_cases hi:i<xs.size
 .rw[Array.getElem_append_left (by rw[<-hx.size];exact hi)];simp
 .rw[Array.getElem_append_right (by rw[<-hx.size];omega)];simp only[Array.getElem_replicate];have:=hT.at_ i undef T'[i] (by rw[Array.getElem?_append_right (by omega),Array.getElem?_replicate,if_pos (by omega)]) (Gu h2);exact(zB this).symm
theorem Wk.beside (hP:bq P0 P ok)(hN:∀f,ok.inn f=false->((P0.funcs[f]?).map (·.ntmps)).getD 0=((P.funcs[f]?).map (·.ntmps)).getD 0){Inv:(Nat->Prop)->World->Prop}(hOv:Gl.ov<1000000000->rB P)(hD:jg P ok Inv Dr){F:Nat->Prop}{Fd:World}(hInv:∀M W,(∀d,F d->M d)->ax F Fd W->Inv M W){s:St}(h:Wk P0 ok c Dr Q s):∀{ρ:Ren} {a:Goroutine} {gs:Array Goroutine} {M:Nat->Prop} {W:World} {sl:Option (Nat×Nat)} {t:Trace} {q:Nat->Nat} {Shun:Loc->Prop},
  ax F Fd W->jd P0 P ok ρ [c] [] (G s.fr (s.cs++[c])) a->aH ok true ρ (re s.V W.tape W.drawn) W->vf ρ M->bp P Shun none0 none0 M gs a W t q->(∀d,F d->M d/\((∀b,ρ b≠some d)\/∃b,ρ b=some d/\Ro s.V b))->
  ∃N gs' W' sl' t' q' Shun' M' σ,∃(s':St) (fr':Frame),runNT P N (crowd gs W sl) t=(.next (crowd gs' W' sl'),t')/\bp P Shun' none0 none0 M' gs' (G fr' []) W' t' q'/\
   ρ.le σ/\bJ P ok σ s'.fr fr'/\aH ok true σ (re s'.V W'.tape W'.drawn) W'/\vf σ M'/\(∀τ d,pF P0 Q (s'.re τ d))/\ax F W W'/\∃fn t,P0.funcs[s'.fr.fn]?=some fn/\fn.results=#[.tmp t]:=by
 induction h with
 |@ends s he hres=>
  intro ρ a gs M W sl t q Shun hK hg hw ho hl hF;generalize hz:G s.fr (s.cs++[c])=z at hg;cases hg with
  |@inside fr fr' cs cs' a1 a2 a3=>
   have z1:=congrArg Goroutine.frame hz;have z2:=congrArg Goroutine.callers hz;simp only[G]at z1 z2;replace z2:=GJ z2;subst z1 z2;have hc0:s.cs=[]:=(he (λ_ _=>0) 0).1;rw[hc0]at a2;cases a2;exact⟨0,gs,W,sl,t,q,Shun,M,ρ,s,fr',rfl,hl,Ren.le_refl _,a1,hw,ho,he,ax.refl _ _,hres⟩
  |door a1 a2=>
   have z1:=congrArg Goroutine.frame hz;simp only[G]at z1;obtain⟨_,v,hl,_⟩:=he (λ_ _=>0) 0;have:=hl.1;have h2:s.fr.mode=.returning:=this;rw[z1]at h2;simp[Frame.enter]at h2
 |@step s f hi hk hgo hch ih=>
  intro ρ a gs M W sl t q Shun hK hg hw ho hl hF;generalize hz:G s.fr (s.cs++[c])=z at hg;cases hg with
  |@inside fr fr' cs cs' a1 a2 a3=>
   have z1:=congrArg Goroutine.frame hz;have z2:=congrArg Goroutine.callers hz;simp only[G]at z1 z2;replace z2:=GJ z2;subst z1 z2;let Stop:(Nat->Prop)->Goroutine->World->Prop:=λM' a' Fe=>∃σ τ d,ρ.le σ/\jd P0 P ok σ [c] [] (G (f τ d).fr ((f τ d).cs++[c])) a'/\aH ok true σ (re (f τ d).V Fe.tape Fe.drawn) Fe/\vf σ M'/\ax F W Fe/\∀d',F d'->M' d'/\((∀b,σ b≠some d')\/∃b,σ b=some d'/\Ro (f τ d).V b)
   have hPT:PT P true (λ_=>True) Ph.noX none0 Stop (.node λ_=>.leaf) M (G fr' (cs'++[])) W:=by
    refine .inr ⟨rfl,λFe k _=>?_⟩;have FD:=hw.others ho k;obtain⟨es,hes⟩:=hgo Fe.tape Fe.drawn;obtain⟨σ,g2,W2,es2,e,hg2,hw2,hk2,hev⟩:=kT (lb:=[c]) (rb:=[]) (FV:=true) hP a1 a2 a3 FD (λx y z=>Bg (c:=c) (s:=s.re Fe.tape Fe.drawn) hP.toSame hi hk ⟨x,y,z⟩ ⟨es,hes⟩) hes;have hh:kW ρ (re s.V Fe.tape Fe.drawn) M none0:=λb d hb=>.inl (ho b d hb)
    have hlt:∀b d,σ b=some d->d<W2.heap.size:=λb d hb=>(hw2.lt hb).2
    have ho2:vf σ (grow M Fe W2):=λb d hb=>(hh.step hk2 hlt b d hb).elim id λx=>x.1.elim
    have hlF:∀d,F d->d<W.heap.size:=λd hd=>hl.lt d (.inl (hF d hd).1)
    have same:∀d,F d->W2.heap[d]?=Fe.heap[d]?:=λd hd=>by
     rcases(hF d hd).2 with x|⟨b,x,y⟩
     .exact hk2.keep d (Gn (hlF d hd) k.size) x
     .exact(hk2.ro b d x y).2
    have kF:ax F W W2:=⟨λd hd=>(same d hd).trans (k.block d (.inl (hF d hd).1)),Gq k.size hk2.size,hk2.os.trans k.os,hk2.out.trans k.out⟩;have hF2:∀d,F d->grow M Fe W2 d/\((∀b,σ b≠some d)\/∃b,σ b=some d/\Ro (f Fe.tape Fe.drawn).V b):=λd hd=>⟨.inl (hF d hd).1,by
     rcases(hF d hd).2 with y|⟨b,x,y⟩
     .refine .inl λb hb=>?_
      rcases hk2.new b d hb with x|⟨_,x⟩
      .exact y b x
      .have:=hlF d hd;have:=k.size;omega
     .refine .inr ⟨b,hk2.le _ _ x,?_⟩;have h1:=(hk2.ro b d x y).1;obtain⟨c1,c2,c3⟩:=y;exact⟨c1,c2,h1.trans c3⟩⟩
    refine⟨g2,W2,es2,e,hh.priv hk2 hlt hev,λFf FP _=>⟨σ,Fe.tape,Fe.drawn,hk2.le,hg2,?_,ho2,kF.trans (FP.mono λd hd=>.inl (hF2 d hd).1),hF2⟩⟩;have:aH ok true σ (re (f Fe.tape Fe.drawn).V W2.tape W2.drawn) W2:=⟨hw2.heap,rfl,rfl,hw2.gV,hw2.gW⟩;exact this.others ho2 FP
   obtain⟨N,gs',M',a',w',sl',t',q',h1,_,h3,h4,_⟩:=eN (λ_=>trivial) _ _ gs M _ W sl t q (Gm _) hl hPT;obtain⟨σ,τ,d,g1,g2,g3,g4,g5,g6⟩:=h3 w' (ax.refl _ _) trivial;obtain⟨N2,gs2,W2,sl2,t2,q2,Shun2,M2,σ2,s2,fr2,i1,i2,i3,i4,i5,i6,i7,i8,i9⟩:=ih τ d (sl:=sl') (hK.trans g5) g2 g3 g4 h4 g6;exact⟨N+N2,gs2,W2,sl2,t2,q2,Shun2,M2,σ2,s2,fr2,cZ i1 _ _ _ h1,i2,g1.trans i3,i4,i5,i6,i7,g5.trans i8,i9⟩
  |door a1 a2=>
   have z1:=congrArg Goroutine.frame hz;simp only[G]at z1;rw[z1]at hi;simp only[Frame.enter]at hi;rw[hi]at a2;cases a2
 |@door f xs fr cs V R hf hp hch ih=>
  intro ρ a gs M W sl t q Shun hK hg hw ho hl hF;generalize hz:G (Frame.enter P0 f xs .normal) (fr::cs++[c])=z at hg;cases hg with
  |@inside fr1 fr' cs1 cs' a1 a2 a3=>
   have z1:=congrArg Goroutine.frame hz;simp only[G]at z1;have:=a1.inn;rw[<-z1]at this;simp only[Frame.enter]at this;rw[hf]at this;cases this
  |@door f1 ys ys' cs1 cs1' a1 a2 a3 a4 a5 a6=>
   have z1:=congrArg Goroutine.frame hz;have z2:=congrArg Goroutine.callers hz;simp only[G]at z1 z2;replace z2:=GJ z2;subst z2;have z3:=congrArg Frame.fn z1;simp only[Frame.enter]at z3;subst z3;obtain⟨xs',hx,hE⟩:=oh (ok:=ok) (ρ:=ρ) (hN _ hf) z1 a3;cases a4 with
   |@cons _ r0 _ rest b1 b2=>
    simp only[List.append_nil]at hl;rw[<-hE]at hl;obtain⟨N,gs1,W1,sl1,t1,q1,Shun1,M1,v',σ,v,V',e1,e2,e3,e4,e5,e6,e7,e8,e9,e10,e11⟩:=hD (sl:=sl) (hInv M W (λd hd=>(hF d hd).1) hK) hp hx hw ho hl;have hlF:∀d,F d->d<W.heap.size:=λd hd=>hl.lt d (.inl (hF d hd).1)
    have hF2:∀d,F d->M1 d/\((∀b,σ b≠some d)\/∃b,σ b=some d/\Ro V' b):=λd hd=>⟨e9 d (hF d hd).1,by
     rcases(hF d hd).2 with y|⟨b,x,y⟩
     .refine .inl λb hb=>?_
      rcases e10 b d hb with x|x
      .exact y b x
      .have:=hlF d hd;omega
     .refine .inr ⟨b,e3 _ _ x,?_⟩;have h1:=e11 b y;obtain⟨c1,c2,c3⟩:=y;exact⟨c1,c2,h1.trans c3⟩⟩
    have hb:lV (fr.finish v) cs:=by
     have:lV fr cs:=λg hg=>a6 g hg
     exact this.swap (by cases fr with|mk fn tmps todo defers mode kind roundOf=>cases todo with
      |nil=>rfl
      |cons x l=>cases x<;>first|rfl|(rename_i ops l2;cases l2<;>rfl))
    have hG:jd P0 P ok σ [c] [] (G (fr.finish v) (cs++[c])) (G (r0.finish v') (rest++[])):=.inside ((b1.mono e3).finish e4) (b2.mono e3) hb;rw[List.append_nil]at hG;obtain⟨N2,gs2,W2,sl2,t2,q2,Shun2,M2,σ2,s2,fr2,i1,i2,i3,i4,i5,i6,i7,i8,i9⟩:=ih v V' e7 (sl:=sl1) (hK.trans (e8.mono λd hd=>(hF d hd).1)) hG e5 e6 e2 hF2;exact⟨N+N2,gs2,W2,sl2,t2,q2,Shun2,M2,σ2,s2,fr2,cZ i1 _ _ _ e1,i2,e3.trans i3,i4,i5,i6,i7,(e8.mono λd hd=>(hF d hd).1).trans i8,i9⟩
 |@ext fr cs V hi hk hA hch ih=>
  intro ρ a gs M W sl t q Shun hK hg hw ho hl hF;generalize hz:G fr (cs++[c])=z at hg;cases hg with
  |@inside fr0 fr' cs0 cs' a1 a2 a3=>
   have z1:=congrArg Goroutine.frame hz;have z2:=congrArg Goroutine.callers hz;simp only[G]at z1 z2;replace z2:=GJ z2;subst z1 z2;obtain⟨b,ac,ops,i,r,k,o,x,y,ts,p,q',la,ca,lb,cb,c1,c2,t1,t2,e00,e0,ho',hw',hop,hx,hy,hne,g1,n1,g2,n2⟩:=hA;obtain⟨ac',k',e',ht⟩:∃ac' k',fr'=fr'.at ac' (.inRegion ops (i::r)::k')/\am ok ρ ac.tmps ac'.tmps:=by
    have h1:=a1.todo;have h2:=a1.tmps;have h3:=a1.mode;have h4:=a1.round;rw[e0]at h1 h2 h3 h4;obtain⟨fn',tmps',todo',defers',mode',kind',roundOf'⟩:=fr';simp only[Frame.at]at h1 h2 h3 h4;cases h3;cases h4;cases h1 with
    |cons h5 h6=>
     cases h5;exact⟨⟨tmps',defers'⟩,_,rfl,h2⟩
   obtain⟨x',hx',rx⟩:=ht.get hx;obtain⟨y',hy',ry⟩:=ht.get hy;obtain⟨p',rfl,rp⟩:∃p',x'=.slice (some p') la ca/\bm ρ p p':=by cases rx with|slice _ _ r=>exact⟨_,rfl,r⟩
   obtain⟨r',rfl,rq⟩:∃r',y'=.slice (some r') lb cb/\bm ρ q' r':=by cases ry with|slice _ _ r=>exact⟨_,rfl,r⟩
   have plain:∀{Fe:World} {d d':Nat} {cc:Array Value} {tt:TypeId},aH ok true ρ (re V Fe.tape Fe.drawn) Fe->ρ d=some d'->V.heap[d]?=some (.cells cc tt (0,0))->cc.size≠0->∃cc',Fe.heap[d']?=some (.cells cc' tt (0,0))/\cc'.size≠0:=by
    intro Fe d d' cc tt FD hd hg hn;obtain⟨o1,o2,i1,i2,i3⟩:=FD.heap d d' hd;replace i1:V.heap[d]?=some o1:=i1;rw[hg]at i1;obtain rfl:=Gt i1;cases i3 with
    |@cells _ c' _ _ z' hcc hz=>
     have hz':z'=(0,0):=by
      rcases hz with h|⟨_,h,h'⟩
      .simpa using h
      .simp at h;omega
     subst hz';exact⟨c',i2,by rw[<-hcc.size];exact hn⟩
   have hne':p'.block≠r'.block:=λe=>hne (ρ.inj _ _ _ rp.blk (by rw[e];exact rq.blk))
   have hE:ET P true (λ_=>True) Ph.noX none0 (λM' g W'=>g=G (fr'.finish (.bool false)) (cs'++[])/\M'=M/\ax (λb=>M b\/none0 b) W W') M (G fr' (cs'++[])) W:=by
    rw[e'];refine ET.val (.bool false) ho' (by rw[nZ ht];exact hw') (by rw[a1.kind'];simp) (λFe FO _=>?_) (ET.stop λFe FO _=>⟨?_,rfl,FO⟩)
    .have FD:=hw.others ho FO;obtain⟨c1',j1,j2⟩:=plain FD rp.blk g1 n1;obtain⟨c2',j3,j4⟩:=plain FD rq.blk g2 n2;have hrun:=hOv e00 p' r' la ca lb cb c1' c2' t1 t2 Fe hne' j1 j2 j3 j4;rw[xM hop hx' hy'];refine⟨hrun.1,λe he=>?_⟩;obtain⟨f,rfl⟩:=hrun.2 e he;exact .inr (.inr (.inl ⟨_,rfl,rfl⟩))
    .rw[<-e'];conv=>rhs;rw[e']
     rw[Frame.finish_at,ho'];rfl
   obtain⟨r,hr⟩:=hE;obtain⟨N,gs',M',a',w',sl',t',q2,h1,_,h3,h4,_⟩:=eN (λ_=>trivial) r _ gs M _ W sl t q (Gm _) hl hr;obtain⟨rfl,rfl,h5⟩:=h3 w' (ax.refl _ _) trivial;have hb:lV (fr.finish (.bool false)) cs:=a3.swap (by cases fr with|mk fn tmps todo defers mode kind roundOf=>cases todo with
    |nil=>rfl
    |cons x l=>cases x<;>first|rfl|(rename_i ops l2;cases l2<;>rfl))
   have hG:jd P0 P ok ρ [c] [] (G (fr.finish (.bool false)) (cs++[c])) (G (fr'.finish (.bool false)) (cs'++[])):=.inside (a1.finish (.bool _)) a2 hb;obtain⟨N2,gs2,W2,sl2,t2,q2,Shun2,M2,σ2,s2,fr2,i1,i2,i3,i4,i5,i6,i7,i8,i9⟩:=ih (sl:=sl') (hK.trans (h5.mono λd hd=>.inl (hF d hd).1)) hG (hw.others ho h5) ho h4 hF;exact⟨N+N2,gs2,W2,sl2,t2,q2,Shun2,M2,σ2,s2,fr2,cZ i1 _ _ _ h1,i2,i3,i4,i5,i6,i7,(h5.mono λd hd=>.inl (hF d hd).1).trans i8,i9⟩
  |door a1 a2=>
   have z1:=congrArg Goroutine.frame hz;simp only[G]at z1;rw[z1]at hi;simp only[Frame.enter]at hi;rw[hi]at a2;cases a2
end
end
section
open Go Go.Conc
section
variable [Gl]{P0:Program}{ok:Ctx}{c:Frame}{Dr:FuncId->Array Value->World->(Value->World->Prop)->Prop}{Q:Value->World->Prop}
def Shut (P0:Program)(ok:Ctx):Prop:=∀f xs cs V,ok.fn f=true->ok.inn f=false->∃o w es,stepG P0 true (G (Frame.enter P0 f xs .normal) cs) V=.ended o w es
def zC (P0:Program)(ok:Ctx)(s:St):Prop:=∃ρ f xs,s.fr=Frame.enter P0 f xs .normal/\ok.fn f=true/\ok.inn f=false/\am ok ρ xs xs/\eH P0 ok ρ s.cs s.cs/\aH ok true ρ s.V s.V/\∀f,s.cs.getLast?=some f->f.roundOf=none
theorem kz (hP:bq P0 P0 ok){s:St}(hs:cU P0 ok s)(he:¬pG s){g2:Goroutine}{V2:World}{es:Array Event}(h:stepG P0 true (G s.fr (s.cs++[c])) s.V=.go g2 V2 es):
  ∃s':St,g2=G s'.fr (s'.cs++[c])/\V2=s'.V/\(cU P0 ok s'\/zC P0 ok s'):=by
 obtain⟨ρ,h1,h2,h3,h4⟩:=hs;obtain⟨σ,g2',W2,es2,e,hg,hw,_,_⟩:=kT (lb:=[c]) (rb:=[c]) (FV:=true) hP h1 h2 h3 h4 (λa b=>λd=>he ⟨a,b,d⟩) h;rw[h]at e;simp only[GStep.go.injEq]at e;obtain⟨rfl,rfl,_⟩:=e;generalize hg2:g2=g2' at hg;have hg':jd P0 P0 ok σ [c] [c] g2 g2':=by rw[hg2]at*;exact hg
 clear hg;cases hg' with
 |@inside fr fr' cs cs' a1 a2 a3=>
  have e1:=congrArg Goroutine.frame hg2;have e2:=congrArg Goroutine.callers hg2;simp only[G]at e1 e2;have e2:cs=cs':=GJ e2;subst e1 e2;exact⟨⟨fr,cs,V2⟩,rfl,rfl,.inl ⟨σ,a1,a2,a3,hw⟩⟩
 |@door f xs xs' cs cs' a1 a2 a3 a4 a5 a6=>
  have e1:=congrArg Goroutine.frame hg2;have e2:=congrArg Goroutine.callers hg2;simp only[G]at e1 e2;have e2:cs=cs':=GJ e2;subst e2;refine⟨⟨Frame.enter P0 f xs .normal,cs,V2⟩,by rw[e1],rfl,.inr ⟨σ,f,xs,rfl,a1,a2,?_,a4,hw,a6⟩⟩;have et:=congrArg Frame.tmps e1;simp only[Frame.enter]at et;rw[<-a3.size]at et;have:xs=xs':=(Array.append_inj et (by first|exact a3.size|exact a3.size.symm)).1|>λh=>by first|exact h|exact h.symm
  rw[<-this]at a3;exact a3
section
variable {Tgt:St->Prop}
def m9 (P0:Program)(c:Frame)(Tgt:St->Prop):Nat->St->Prop
 |0,s=>Tgt s
 |n+1,s=>¬Tgt s/\∃s',cI P0 c s s'/\m9 P0 c Tgt n s'
theorem m9.nodoor (hSh:Shut P0 ok)(hI:∀s,Tgt s->ok.inn s.fr.fn=true){n:Nat}{s:St}(h:m9 P0 c Tgt n s)(hd:zC P0 ok s):False:=by
 obtain⟨ρ,f,xs,e,h1,h2,_⟩:=hd;cases n with
 |zero=>
  have:=hI s h;rw[e]at this;simp only[Frame.enter]at this;rw[h2]at this;cases this
 |succ n=>
  obtain⟨_,s',⟨es,hg⟩,_⟩:=h;obtain⟨o,w,es',hx⟩:=hSh f xs (s.cs++[c]) s.V h1 h2;rw[e,hx]at hg;cases hg
theorem cI.self2 (hP:bq P0 P0 ok)(hSh:Shut P0 ok)(hI:∀s,Tgt s->ok.inn s.fr.fn=true){s s':St}(hs:cU P0 ok s)(h:cI P0 c s s'){n:Nat}(hf:∃τ d,m9 P0 c Tgt n (s'.re τ d)):cU P0 ok s':=by
 have hi:=h.inside hP hs;obtain⟨es,h⟩:=h;obtain⟨s2,e1,e2,h2⟩:=kz hP hs hi h;obtain⟨fr,cs,V⟩:=s';obtain⟨fr2,cs2,V2⟩:=s2;have e3:=congrArg Goroutine.frame e1;have e4:=congrArg Goroutine.callers e1;simp only[G]at e3 e4 e2;have e4:cs=cs2:=GJ e4;subst e3 e4 e2;rcases h2 with h2|h2
 .exact h2
 .obtain⟨τ,d,hf⟩:=hf;exfalso;refine hf.nodoor hSh hI ?_;obtain⟨ρ,f,xs,a1,a2,a3,a4,a5,a6,a7⟩:=h2;exact⟨ρ,f,xs,a1,a2,a3,a4,a5,⟨a6.heap,rfl,rfl,a6.gV,a6.gW⟩,a7⟩
theorem m9.shift (hP:bq P0 P0 ok)(hSh:Shut P0 ok)(hI:∀s,Tgt s->ok.inn s.fr.fn=true)(hT:∀s τ d,Tgt s->Tgt (s.re τ d)):∀(n:Nat) {s:St},cU P0 ok s->m9 P0 c Tgt n s->∀τ d,(∀i q,s.V.tape (s.V.drawn+i) q=τ (d+i) q)->m9 P0 c Tgt n (s.re τ d):=by
 intro n;induction n with
 |zero=>intro s hs h τ d _;exact hT s τ d h
 |succ n ih=>
  intro s hs h τ d hA;obtain⟨h0,s',h1,h2⟩:=h;obtain⟨k1,k2,k3⟩:=h1.sh hP hs;refine⟨λh=>h0 (hT (s.re τ d) s.V.tape s.V.drawn h),_,k3 τ d (λi _ q=>hA i q),ih (h1.self2 hP hSh hI hs ⟨s'.V.tape,s'.V.drawn,h2⟩) h2 τ _ λi q=>?_⟩;rw[k2];have:=hA (s'.V.drawn-s.V.drawn+i) q;rw[show s.V.drawn+(s'.V.drawn-s.V.drawn+i)=s'.V.drawn+i by omega]at this;rw[this];congr 1;omega
def HT (P0:Program)(c:Frame)(Tgt:St->Prop)(s:St):Prop:=∀τ d,∃n,m9 P0 c Tgt n (s.re τ d)
theorem HT.succ (hP:bq P0 P0 ok)(hSh:Shut P0 ok)(hI:∀s,Tgt s->ok.inn s.fr.fn=true)(hT:∀s τ d,Tgt s->Tgt (s.re τ d)){s s':St}(hs:cU P0 ok s)(hH:HT P0 c Tgt s)(h0:¬Tgt s){τ:Nat->Question->Nat}{d:Nat}(h:cI P0 c (s.re τ d) s'):HT P0 c Tgt s'/\cU P0 ok s':=by
 have hs1:=hs.re τ d;obtain⟨k1,k2,k3⟩:=h.sh hP hs1;have k1':d<=s'.V.drawn:=k1;have key:∀(τ':Nat->Question->Nat) (d':Nat),∃n t2,m9 P0 c Tgt n (s'.re t2 s'.V.drawn)/\∀i q,t2 (s'.V.drawn+i) q=τ' (d'+i) q:=by
  intro τ' d';let t2:Nat->Question->Nat:=λi q=>if i<s'.V.drawn then τ i q else τ' (d'+(i-s'.V.drawn)) q
  have hA:fU (s.re τ d).V.tape (s.re τ d).V.drawn t2 d (s'.V.drawn-(s.re τ d).V.drawn):=by
   intro i hi q;show τ (d+i) q=t2 (d+i) q;simp only[t2];have hi':i<s'.V.drawn-d:=hi;rw[if_pos (by omega)]
  have h2:=k3 t2 d hA;obtain⟨n,hn⟩:=hH t2 d;have e1:(s.re τ d).re t2 d=s.re t2 d:=rfl;rw[e1]at h2;cases n with
  |zero=>exact absurd (hT (s.re t2 d) s.V.tape s.V.drawn hn) h0
  |succ n=>
   obtain⟨_,s2,g1,g2⟩:=hn;have:=g1.det h2;subst this;have e2:d+(s'.V.drawn-(s.re τ d).V.drawn)=s'.V.drawn:=by show d+(s'.V.drawn-d)=_;omega
   rw[e2]at g2;refine⟨n,t2,g2,λi q=>?_⟩;simp only[t2];rw[if_neg (by omega)];congr 1;omega
 have hself:cU P0 ok s':=by
  obtain⟨n,t2,h2,_⟩:=key τ d;exact h.self2 hP hSh hI hs1 ⟨_,_,h2⟩
 refine⟨λτ' d'=>?_,hself⟩;obtain⟨n,t2,h2,h3⟩:=key τ' d';exact⟨n,m9.shift hP hSh hI hT n (hself.re t2 s'.V.drawn) h2 τ' d' h3⟩
def DZ (P0:Program)(c:Frame)(Tgt:St->Prop)(s' s:St):Prop:=¬Tgt s/\∃τ d,cI P0 c (s.re τ d) s'
omit [Gl] in
theorem zD {α:Type}{r:α->α->Prop}{s:α}(h:¬Acc r s):∃f:Nat->α,f 0=s/\∀n,r (f (n+1)) (f n):=by
 have step:∀s:{s:α //¬Acc r s},∃s':{s:α //¬Acc r s},r s'.1 s.1:=by
  intro ⟨s,hs⟩;apply GL;intro hn;apply hs;refine⟨_,λy hy=>?_⟩;apply GL;intro hy';exact hn ⟨⟨y,hy'⟩,hy⟩
 let g:Nat->{s:α //¬Acc r s}:=λn=>Nat.rec ⟨s,h⟩ (λ_ x=>(step x).choose) n
 exact⟨λn=>(g n).1,rfl,λn=>(step (g n)).choose_spec⟩
theorem xN (hP:bq P0 P0 ok)(hSh:Shut P0 ok)(hI:∀s,Tgt s->ok.inn s.fr.fn=true)(hT:∀s τ d,Tgt s->Tgt (s.re τ d)){s:St}(hs:cU P0 ok s)(hH:HT P0 c Tgt s):Acc (DZ P0 c Tgt) s:=by
 apply GL;intro hn;obtain⟨f,f0,hf⟩:=zD hn;have all:∀n,HT P0 c Tgt (f n)/\cU P0 ok (f n):=by
  intro n;induction n with
  |zero=>rw[f0];exact⟨hH,hs⟩
  |succ n ih=>obtain⟨h0,τ,d,h⟩:=hf n;exact HT.succ hP hSh hI hT ih.2 ih.1 h0 h
 let τ:Nat->Nat->Question->Nat:=λn=>(hf n).2.choose
 let d:Nat->Nat:=λn=>(hf n).2.choose_spec.choose
 have g:∀n,cI P0 c ((f n).re (τ n) (d n)) (f (n+1)):=λn=>(hf n).2.choose_spec.choose_spec
 let D:Nat->Nat:=λn=>Nat.rec 0 (λn x=>x+((f (n+1)).V.drawn-d n)) n
 have hD:∀n,D (n+1)=D n+((f (n+1)).V.drawn-d n):=λn=>rfl
 obtain⟨T,hT'⟩:=tz D (λn=>by rw[hD];omega) (λn j q=>τ n (d n+j) q);have go:∀n,cI P0 c ((f n).re T (D n)) ((f (n+1)).re T (D (n+1))):=by
  intro n;obtain⟨_,_,k3⟩:=(g n).sh hP ((all n).2.re (τ n) (d n));have:=k3 T (D n) (λi hi q=>by
   show τ n (d n+i) q=T (D n+i) q;have hi':i<(f (n+1)).V.drawn-d n:=hi;rw[hT' n i q (by rw[hD];omega)])
  rw[hD];exact this
 have none_:∀N n,¬m9 P0 c Tgt N ((f n).re T (D n)):=by
  intro N;induction N with
  |zero=>intro n h;exact(hf n).1 (hT ((f n).re T (D n)) (f n).V.tape (f n).V.drawn h)
  |succ N ih=>
   intro n h;obtain⟨_,s',h1,h2⟩:=h;have:=h1.det (go n);subst this;exact ih (n+1) h2
 obtain⟨N,hN⟩:=hH T 0;rw[<-f0]at hN;exact none_ N 0 hN
theorem zE (hP:bq P0 P0 ok)(hSh:Shut P0 ok)(hI:∀s,Tgt s->ok.inn s.fr.fn=true)(hT:∀s τ d,Tgt s->Tgt (s.re τ d))(hW:∀s,Tgt s->cU P0 ok s->Wk P0 ok c Dr Q s){s:St}(hs:cU P0 ok s)(hH:HT P0 c Tgt s):Wk P0 ok c Dr Q s:=by
 have ha:=xN hP hSh hI hT hs hH;induction ha with
 |intro s _ ih=>
  by_cases h0:Tgt s
  .exact hW s h0 hs
  have key:∀τ d,∃s',cI P0 c (s.re τ d) s':=by
   intro τ d;obtain⟨n,hn⟩:=hH τ d;cases n with
   |zero=>exact absurd (hT (s.re τ d) s.V.tape s.V.drawn hn) h0
   |succ n=>obtain⟨_,s',h1,_⟩:=hn;exact⟨s',h1⟩
  have hk:ok.inn s.fr.fn=true/\s.fr.kind=.normal:=by obtain⟨ρ,h1,_⟩:=hs;exact⟨h1.inn,h1.kind⟩
  refine .step (λτ d=>(key τ d).choose) hk.1 hk.2 (λτ d=>(key τ d).choose_spec) λτ d=>?_
  have:=HT.succ hP hSh hI hT hs hH h0 (key τ d).choose_spec;exact ih _ ⟨h0,τ,d,(key τ d).choose_spec⟩ this.2 this.1
theorem tC (hP:bq P0 P0 ok)(hSh:Shut P0 ok)(hI:∀s,Tgt s->ok.inn s.fr.fn=true)(hF:ff P0 c){s1:St}(ht:Tgt s1):
  ∀(n:Nat) {s:St},cU P0 ok s->runN P0 n (lone s.fr (s.cs++[c]) s.V)=.next (lone s1.fr (s1.cs++[c]) s1.V)->∃k,m9 P0 c Tgt k s:=by
 intro n;induction n with
 |zero=>
  intro s hs h;simp only[runN,Stepped.next.injEq]at h;obtain⟨e1,e2,e3⟩:=je h;have e2:s.cs=s1.cs:=GJ e2;have:s=s1:=by
   obtain⟨a,b,d⟩:=s;obtain⟨a1,b1,d1⟩:=s1;simp only at e1 e2 e3;rw[e1,e2,e3]
  exact⟨0,this▸ht⟩
 |succ n ih=>
  intro s hs h;by_cases h0:Tgt s
  .exact⟨0,h0⟩
  obtain⟨ρ,h1,h2,h3,h4⟩:=hs;have hs:cU P0 ok s:=⟨ρ,h1,h2,h3,h4⟩;have hk:(∃g2 V2 es,stepG P0 true (G s.fr (s.cs++[c])) s.V=.go g2 V2 es)\/∃o w es,stepG P0 true (G s.fr (s.cs++[c])) s.V=.ended o w es:=by
   cases hcs:s.cs++[c]with
   |nil=>simp at hcs
   |cons a l=>exact(ru (m:=true) (c:=a) (cs:=l) hP h1 h4).1
  simp only[runN]at h;rcases hk with⟨g2,V2,es,hg⟩|⟨o,w,es,hg⟩
  .by_cases he:pG s
   .exfalso;have fin:∀fr2,g2=G fr2 []->(∀w,∃o w' es,stepG P0 true (G fr2 []) w=.ended o w' es)->False:=by
     intro fr2 e hend;subst e;rw[iz hg]at h;simp only at h;cases n with
     |zero=>
      simp only[runN,Stepped.next.injEq]at h;obtain⟨_,e2,_⟩:=je h;simp at e2
     |succ n=>
      obtain⟨o,w',es',hh⟩:=hend V2;simp only[runN,dv hh]at h;cases h
    rcases lY hP hs he hg with⟨v,e⟩|⟨ch,e⟩
    .exact fin _ e (hF.ret v)
    .exact fin _ e (hF.pan ch)
   .obtain⟨s',e1,e2,h5⟩:=kz hP hs he hg;subst e1 e2;rw[iz hg]at h;rcases h5 with h5|h5
    .obtain⟨k,hk⟩:=ih h5 h;exact⟨k+1,h0,s',⟨es,hg⟩,hk⟩
    .exfalso;obtain⟨ρ',f,xs,x1,x2,x3,_⟩:=h5;simp only at h;cases n with
     |zero=>
      simp only[runN,Stepped.next.injEq]at h;obtain⟨y1,_,_⟩:=je h;have:=hI s1 ht;rw[<-y1,x1]at this;simp only[Frame.enter]at this;rw[x3]at this;cases this
     |succ n=>
      obtain⟨o,w',es',hh⟩:=hSh f xs (s'.cs++[c]) s'.V x2 x3;rw[x1]at h;simp only[runN,dv hh]at h;cases h
  .rw[dv hg]at h;cases h
end
variable (P0 ok c Dr Q)in
def ap (s:St):Prop:=∀τ d,cU P0 ok (s.re τ d)->Wk P0 ok c Dr Q (s.re τ d)
def jh (ok:Ctx)(Dr:FuncId->Array Value->World->(Value->World->Prop)->Prop):Prop:=∀{f:FuncId} {xs:Array Value} {V V':World} {v:Value} {ρ:Ren} {R:Value->World->Prop},Dr f xs V R->R v V'->am ok ρ xs xs->aH ok true ρ V V->∃σ,ρ.le σ/\aj ok σ v v/\aH ok true σ V' V'
theorem ap.of_steps (hP:bq P0 P0 ok)(hSh:Shut P0 ok)(hF:ff P0 c){s:St}(Good:St->Prop)(hI:∀s1,Good s1->ok.inn s1.fr.fn=true)
  (h:∀τ d,∃s1,Good s1/\Steps P0 (lone s.fr (s.cs++[c]) (re s.V τ d)) (lone s1.fr (s1.cs++[c]) s1.V))(hW:∀s1,Good s1->ap P0 ok c Dr Q s1):ap P0 ok c Dr Q s:=by
 intro τ d hs;refine zE (Tgt:=λs1=>∃s0 τ d,Good s0/\s1=s0.re τ d) hP hSh ?_ ?_ ?_ hs ?_
 .rintro _ ⟨s0,τ,d,hg,rfl⟩;exact hI s0 hg
 .rintro _ τ' d' ⟨s0,τ,d,hg,rfl⟩;exact⟨s0,τ',d',hg,rfl⟩
 .rintro _ ⟨s0,τ,d,hg,rfl⟩ hs;exact hW s0 hg τ d hs
 .intro τ' d';obtain⟨s1,hg,n,hn⟩:=h τ' d';exact tC (s1:=s1) hP hSh (by rintro _ ⟨s0,τ,d,hg,rfl⟩;exact hI s0 hg) hF ⟨s1,s1.V.tape,s1.V.drawn,hg,rfl⟩ n (hs.re τ' d') hn
theorem ap.door (hP:bq P0 P0 ok)(hDS:jh ok Dr){s:St}{f:FuncId}{xs:Array Value}(hf:ok.inn f=false)(hgo:∀τ d,cI P0 c (s.re τ d) ⟨Frame.enter P0 f xs .normal,s.fr::s.cs,re s.V τ d⟩)
  {R:(Nat->Question->Nat)->Nat->Value->World->Prop}(hp:∀τ d,Dr f xs (re s.V τ d) (R τ d))(h:∀τ d v V',R τ d v V'->ap P0 ok c Dr Q ⟨s.fr.finish v,s.cs,V'⟩):ap P0 ok c Dr Q s:=by
 intro τ d hs;have hk:ok.inn s.fr.fn=true/\s.fr.kind=.normal:=by obtain⟨ρ,h1,_⟩:=hs;exact⟨h1.inn,h1.kind⟩
 refine .step (s:=s.re τ d) (λτ' d'=>⟨Frame.enter P0 f xs .normal,s.fr::s.cs,re s.V τ' d'⟩) hk.1 hk.2 hgo λτ' d'=>.door hf (hp τ' d') λv V' hD=>?_
 have hs':=hs.re τ' d';obtain⟨es,hg⟩:=hgo τ' d';obtain⟨s2,e1,e2,h2⟩:=kz (s:=s.re τ' d') (c:=c) hP hs' (cI.inside hP hs' ⟨es,hg⟩) hg;obtain⟨fr2,cs2,V2⟩:=s2;have e3:=congrArg Goroutine.frame e1;have e4:=congrArg Goroutine.callers e1;simp only[G]at e3 e4 e2;have e4:s.fr::s.cs=cs2:=GJ e4;subst e3 e4 e2;refine h τ' d' v V' hD V'.tape V'.drawn ?_;rcases h2 with⟨ρ,x1,_⟩|⟨ρ,f',xs',x1,x2,x3,x4,x5,x6,x7⟩
 .exfalso;have:=x1.inn;simp only[Frame.enter]at this;rw[hf]at this;cases this
 .have x1:Frame.enter P0 f xs .normal=Frame.enter P0 f' xs' .normal:=x1;have hff:=congrArg Frame.fn x1;simp only[Frame.enter]at hff;subst hff;obtain⟨xs2,y1,y2⟩:=oh (ok:=ok) (ρ:=ρ) rfl x1 x4;have hxx:am ok ρ xs xs:=by
   have et:=congrArg Frame.tmps (y2.trans x1.symm);simp only[Frame.enter]at et;rw[<-y1.size]at et;have:xs2=xs:=(Array.append_inj et y1.size.symm).1;rw[this]at y1;exact y1
  obtain⟨σ,z1,z2,z3⟩:=hDS (hp τ' d') hD hxx x6;cases x5 with
  |cons b1 b2=>
   refine⟨σ,(b1.mono z1).finish z2,b2.mono z1,?_,z3⟩;have:lV s.fr s.cs:=λg hg=>x7 g hg
   exact this.swap (by
    show(s.fr.finish v).roundOf=s.fr.roundOf;cases s.fr with|mk fn tmps todo defers mode kind roundOf=>cases todo with
     |nil=>rfl
     |cons x l=>cases x<;>first|rfl|(rename_i ops l2;cases l2<;>rfl))
theorem ap.ends {s:St}(h:∀τ d,pF P0 Q (s.re τ d))(hr:∃fn t,P0.funcs[s.fr.fn]?=some fn/\fn.results=#[.tmp t]):ap P0 ok c Dr Q s:=λ_ _ _=>.ends h hr
end
end
