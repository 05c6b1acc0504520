import Derived.Test.YthppgbjejomdiaaGreatDoorj14
set_option linter.all false
set_option maxHeartbeats 4000000
set_option maxRecDepth 100000
open Go renaming World->au,undef->az,Value->aE,execOp->aL,runNT->aV,heap_alloc_new->a0,Program->a7,Trace->a8,Goroutine->bk
open Go.Conc renaming base->av,aside_setCell->be,mem_listed->bm
open Go.RowKit.Below renaming heap_alloc->aI,heap_setCell->a9
open Go.Value renaming slice->aa,pointer->ac,int->ax,bool->a6
open Or renaming inl->ad,inr->ao
namespace Go.Proofs.YthppgbjejomdiaaGreatDoor
open Conc Conc.Lib ConcR.Gen RowKit
variable {gs:Array bk}{ok:Ctx}{c r0:Frame}{a:bk}{J:Jb}{rb rest:List Frame}{C:Loc->Prop}{bb bl bn s ln nb nc nn no r4 tb wg:Nat}{q:Nat->Nat}{S:Nat->Nat->Prop}{M V v:Nat->Prop}{iF:Nat->aE}{Is:Nat->aX->Prop}{sl:Option (Nat×Nat)}{u y:Option Addr}{P af8:a7}{t:a8}{t0 t1 v10 v9:aE}{W aj w:au}{lt:aX->aX->Bool}
def Lg {b:Nat}{v u:aE}{e:TypeId}(h:w.heap[b]?=some (.cells #[v] e (0,0))):(w.setCell b u).heap[b]?=some (.cells #[u] e (0,0)):=by rw[setCell_eq_setRow w b 0 _ _ _ u h,setRow_heap _ _ _ _ _ _ h];rfl
noncomputable def eJ:Code:=Tryz.f173.body.getD .skip
noncomputable def mn:Code:=(kV eJ).getD .skip
def f9:Code->Code
 |.seq _ b=>b
 |c=>c
noncomputable def jy:Code:=f9<|f9<|f9<|f9<|f9 eJ
noncomputable def xy:Array Oper:=(od 10 eJ).getD #[]
noncomputable def af6:Array Oper:=(od 8 eJ).getD #[]
section
variable [Gl]{p:Ph}{M' A:Nat->Prop}{B:au}{cs:List Frame}
structure BT (J af8 p ok)(M' A:Nat->Prop)(B)(Ro M:Nat->Prop)(W):Prop where
 job:pN J af8 p ok Ro W
 sub:∀b,M' b\/A b->M b\/Ro b
 keep:aU (λb=>M' b\/A b) B W
 sp:∀b,p.Sp b->¬M b/\¬Ro b/\b<W
 lt:∀b,M b\/Ro b->b<W
 mr:∀b,M b->¬Ro b
 gl:Gl.n<=W
 wb:p.Wg≠p.Bs
section
variable {Ro:Nat->Prop}
def BT.rely (h:BT J af8 p ok M' A B Ro M W)(k:aU (λb=>M b\/Ro b) W aj):BT J af8 p ok M' A B Ro M aj:=
 ⟨h.job.mono (λ_ h=>h)<|k.mono λ_ x=>ao x,h.sub,h.keep.trans<|k.mono h.sub,λb f=>⟨(h.sp b f).1,(h.sp b f).2.1,agx (h.sp b f).2.2 k.size⟩,λb f=>agx (h.lt b f) k.size,h.mr,agz h.gl k.size,h.wb⟩
def BT.alloc (h:BT J af8 p ok M' A B Ro M W)(o):BT J af8 p ok M' A B Ro (grow M W<|W.alloc o) (W.alloc o):=by (have z:(W.alloc o).heap.size=(W:Nat)+1:=by show(W.heap.push o).size=_;simp);have f:∀b,b<(W:Nat)->(W.alloc o).heap[b]?=W.heap[b]?:=λb f=>aI _ _ _ f;have hk:aU (λb=>M b\/Ro b) W (W.alloc o):=⟨λb x=>f b<|h.lt b x,ab,rfl,rfl⟩;refine⟨h.job.mono (λ_ h=>h)<|hk.mono λ_ x=>ao x,λb x=>(h.sub b x).imp ad id,h.keep.trans<|hk.mono h.sub,λb x=>?_,λb x=>?_,λb x=>?_,by rw[z];have:=h.gl;omega,h.wb⟩;let⟨g,j,l⟩:=h.sp b x;exact⟨λy=>y.elim g λy=>ab,j,ab⟩;rw[z];rcases x with(x|⟨_,x⟩)|x;have:=h.lt b<|ad x;omega;omega;have:=h.lt b<|ao x;omega;rcases x with x|⟨x,_⟩;exact h.mr b x;exact λy=>by have:=h.lt b<|ao y;omega
def BT.set (h:BT J af8 p ok M' A B Ro M W){a} v (g:¬(M' a.block\/A a.block))(j:¬Ro a.block):BT J af8 p ok M' A B Ro M (W.setCell a v):=by have z:=(be W a v).size;have f:∀b,b≠a.block->(W.setCell a v).heap[b]?=W.heap[b]?:=λb f=>a9 _ _ _ _ f;exact⟨h.job.mono (λ_ h=>h)<|⟨λb x=>f b λe=>j<|e▸x,ab,rfl,rfl⟩,h.sub,h.keep.trans ⟨λb x=>f b λe=>g<|e▸x,ab,rfl,rfl⟩,λb x=>by rw[z];exact h.sp b x,λb x=>by rw[z];exact h.lt b x,h.mr,by rw[z];exact h.gl,h.wb⟩
def BT.go (h:BT J af8 p ok M' A B Ro M W){f}(r:M f):BT J af8 p ok M' A B (λb=>Ro b\/b=f) (λb=>M b/\¬(Ro b\/b=f)) W:=by refine⟨h.job.mono (λ_ h=>ad h)<|aU.refl _ _,λb x=>?_,h.keep,λb x=>?_,λb x=>?_,λb x=>x.2,h.gl,h.wb⟩;(.rcases h.sub b x with y|y;all_goals grind);let⟨z,D,N⟩:=h.sp b x;grind;rcases x with x|x|rfl;exact h.lt b<|ad x.1;exact h.lt b<|ao x;exact h.lt _<|ad r
end
def F24 (J:Jb)(af8:a7)(p:Ph)(ok:Ctx)(M' A:Nat->Prop)(B:au)(r4:Nat)(t0 t1:aE)(a:Act)(Ro M:Nat->Prop)(W:au):Prop:=
 (∃n v9 v10 b f g h i j k l m,a=⟨#[t0,t1,ac J.bl,ac J.bn,ac r4,ac J.tb,ac p.Wg,ac J.bb,n,v9,v10,(4:Int),b,f,g,h,i,j,k,l,m],[]⟩)/\BT J af8 p ok M' A B Ro M W
omit [Gl] in
def Od (Anch:(Nat->Prop)->(Nat->Prop)->bk->au->Prop) r (Ro:Nat->Prop):∃Stop,∀M g W,p.Spawns Anch r Ro M g W=ET p.P true p.I p.dO Ro Stop M g W:=by cases r<;>exact⟨_,λ_ _ _=>rfl⟩
def RX (fd:dV af8 af8 ok)(hP:dV af8 Tryz.prog ok)(jp:∀f,ok.fn f->ok.aP f)(BF:kw af8 c)(hL:p.L<4611686018427387904)(pZ:p.P=Tryz.prog)(hn4:p.n=4) r:
  ∀(j:Nat) (v8 v9 v10 v13 v14 v15 v16 v17 v18 v19 v20:Value) (Ro M:Nat->Prop) (W:World),j+r=4->BT J af8 p ok M' A B Ro M W->
   p.Spawns (p.AnW link (F24 J af8 p ok M' A B r4 t0 t1) (base 173) xy 0 [] [.code (f9 jy)] cs) r Ro M (G ((base 173).at ⟨#[t0,t1,.pointer J.bl,.pointer J.bn,.pointer r4,.pointer J.tb,.pointer p.Wg,.pointer J.bb,v8,v9,v10,(4:Int),.int .i64 j,v13,v14,v15,v16,v17,v18,v19,v20],[]⟩ [.code mn,.inLoop mn,.inBlock 0,.code jy]) cs) W:=by
 obtain⟨An,Xo⟩:∃An,An=p.AnW link (F24 J af8 p ok M' A B r4 t0 t1) (base 173) xy 0 [] [.code (f9 jy)] cs:=⟨_,rfl⟩;rw[<-Xo];induction r with
 |zero=>
  intro j v8 v9 v10 v13 v14 v15 v16 v17 v18 v19 v20 Ro M W hj hb;obtain rfl:j=4:=ab;show ET p.P true p.I p.dO Ro (p.AtKd An Ro) M _ W;simp[mn,jy,eJ,Tryz.f173,Option.getD_some,kV,f9,Option.or_some,Option.or_none,Option.none_or];rw[pZ];apply ET.sr;refine ET.z ?_;apply ET.rn;apply ET.sq;refine ET.iu rfl ?_;refine ET.c (λ_=>stepG_exit rfl) ?_;apply ET.sr;refine ET.k rfl (λ_ _ _=>goes_call rfl rfl (by k_ne) rfl DO.f_wait (nm_wait link) rfl ⟨⟨rfl,λe he=>ji⟩,?_⟩);walk_nrmf waitFn
  have hA:=Ph.waitStart (L:=link) (F:=F24 J af8 p ok M' A B r4 t0 t1) (agb:=base 173) (ops0:=xy) (agd:=0) (rest0:=[]) (age:=[.code (f9 jy)]) (cs:=cs) (Ro:=Ro) (M:=M) (agl:=W) (af9:=⟨#[t0,t1,.pointer J.bl,.pointer J.bn,.pointer r4,.pointer J.tb,.pointer p.Wg,.pointer J.bb,v8,v9,v10,.int .i64 4,.int .i64 4,false,v14,v15,v16,v17,v18,v19,v20],[]⟩) (pZ▸DO) (λw k=>⟨⟨v8,v9,v10,_,_,v14,v15,v16,v17,v18,v19,v20,rfl⟩,hb.rely k⟩);rw[<-Xo,pZ]at hA;simp only[body_wait,waitFn,Option.getD_some]at hA;exact hA
 |succ r ih=>
  intro j v8 v9 v10 v13 v14 v15 v16 v17 v18 v19 v20 Ro M W hj hb;show ET p.P true p.I p.dO Ro (p.AtKdS Ro (p.n-(r+1)) (p.Spawns An r)) M _ W;have ej:p.n-(r+1)=j:=ab;rw[ej];have aG:(j:Int)<4:=ab;have hd:=decide_eq_true aG;simp only[mn,jy,eJ,Tryz.f173,Option.getD_some,kV,f9,Option.or_some,Option.or_none,Option.none_or];rw[pZ];apply ET.sr;refine ET.z ?_;apply ET.rn;apply ET.sq;refine ET.mc rfl ?_;apply ET.sk;apply ET.sq;refine ET.c (λ_=>stepG_block) ?_;apply ET.sr;refine ET.z ?_;refine ET.oper rfl rfl (by k_ne) λaj agf _=>⟨.pointer (some ⟨aj.heap.size,0,none⟩),aj.alloc (.cells #[.int .i64 0] 3),?_,?_,?_⟩
  .go_simp
  .exact Ss
  walk_nrm
  have Qh:=hb.rely agf;have z0:(aj.alloc (.cells #[.int .i64 0] 3)).heap.size=aj.heap.size+1:=by show(aj.heap.push _).size=_;simp
  have wY:grow M aj (aj.alloc (.cells #[.int .i64 0] 3)) aj.heap.size:=.inr ⟨agw _,ab⟩;have Lo:=Qh.alloc (.cells #[.int .i64 0] 3);have Ew:¬(M' aj.heap.size\/A aj.heap.size):=λe=>by have:=Qh.lt _ (Qh.sub _ e);omega
  have UP:(aj.alloc (.cells #[.int .i64 0] 3)).heap[aj.heap.size]?=some (.cells #[.int .i64 0] 3 (0,0)):=heap_alloc_new _ _;generalize aj.alloc (.cells #[.int .i64 0] 3)=dD at Lo wY UP z0⊢;generalize grow M aj dD=sQ at Lo wY⊢;generalize aj.heap.size=bi at wY Ew UP z0⊢;refine ET.none rfl rfl (by k_ne) λdX eb _=>⟨dX.setCell ⟨bi,0,none⟩ (.int .i64 j),?_,?_,?_⟩
  .have hc:=fR ((eb.block _ (.inl wY)).trans UP);have hz:dX.frozen? bi=false:=by simp[World.frozen?,(eb.block _ (.inl wY)).trans UP]
   go_simp
  .have hz:dX.frozen? bi=false:=by simp[World.frozen?,(eb.block _ (.inl wY)).trans UP]
   refine fM.set _ wY λe he=>?_
   have hm:=mem_listed he;simp[go_sem,(fR ((eb.block _ (.inl wY)).trans UP)),hz]at hm;subst hm;exact ip wY
  rw[cU (aside_setCell dX ⟨bi,0,none⟩ (.int .i64 j)).size];have uw:=(Lo.rely eb).set (a:=⟨bi,0,none⟩) (.int .i64 j) Ew (Lo.mr _ wY);have CU:(dX.setCell ⟨bi,0,none⟩ (.int .i64 j)).heap[bi]?=some (.cells #[.int .i64 j] 3 (0,0)):=Lg ((eb.block _ (.inl wY)).trans UP);generalize dX.setCell ⟨bi,0,none⟩ (.int .i64 j)=ui at uw CU⊢;walk_nrm
  apply ET.ns;refine ET.k rfl (λ_ _ _=>goes_call rfl rfl (by k_ne) rfl DO.f_add (nm_add link) rfl ⟨⟨rfl,λe he=>ji⟩,?_⟩);walk_nrmf addFn
  have hA:=@Ph.addPos p sQ Ro link j (p.Spawns An r);simp only[body_add,addFn,Option.getD_some,pZ]at hA;refine hA DO (λe=>e.elim (uw.sp _ (.inl rfl)).1 (uw.sp _ (.inl rfl)).2.1) (λw k=>?_);replace uw:=uw.rely k;replace CU:=(k.block _ (.inl wY)).trans CU;clear k;walk_nrm
  apply ET.rn;apply ET.rg;refine ET.val (.func (.func 185) #[] #[.pointer p.Wg,.pointer J.bl,.pointer J.bn,.pointer J.tb,.pointer J.bb,.pointer bi]) rfl rfl (by k_ne) (λSM _ _=>⟨?_,λe he=>?_⟩) ?_
  .go_simp
   rfl
  .simp[go_sem]at he;change e∈#[]at he;grind
  walk_nrm
  refine ET.stop λSM EP af4=>?_
  replace uw:=uw.rely EP;replace CU:=(EP.block _ (.inl wY)).trans CU;clear EP;refine⟨rfl,?gx,born Tryz.prog (call47 J p.Wg bi),λb=>Ro b\/b=bi,?_,rfl,λb hb=>.inl hb,λb hb=>hb.elim .inl λe=>.inr (e▸wY),?_,?_⟩;rotate_left 1
  .rw[pZ,stepG_spawn (d:=call47 J p.Wg bi) (w':=SM) (f:=.func 185) rfl rfl (by k_ne) (by simp[go_sem,call47,Deferred.ofValue]) rfl];generalize hL:listed _ _ _ _ _=Lx;have hLx:Lx=#[]:=by
    rw[<-hL];simp[listed,go_sem,seen,Deferred.ofValue];rfl
   subst hLx;rfl
  .have dr:=uw.go wY;exact Y1 dr.job fd hP jp BF hL ab (.inr rfl) CU dr.wb (λb hb=>(dr.sp b hb).2.1) (λb hb=>hb.elim (λx=>(dr.sp b x).2.2) λx=>dr.lt b (.inr x)) dr.gl
  have dr:=uw.go wY;obtain⟨Stop,hS⟩:=Od An r (λb=>Ro b\/b=bi);have CY:IntKind.i64.wrap ((j:Int)+1)=((j+1:Nat):Int):=jh;rw[hS,pZ];walk_nrm
  apply ET.rn;refine ET.c (λ_=>stepG_inBlock) ?_;apply ET.rg;refine ET.z ?_;refine ET.z ?_;apply ET.rn;refine ET.c (λ_=>stepG_inLoop) ?_;have hI:=ih (j+1) (.pointer (some ⟨bi,0,none⟩)) v9 v10 (.bool true) (.int .i64 j) (.tuple #[]) (.func (.func 185) #[] #[.pointer (some ⟨p.Wg,0,none⟩),.pointer (some ⟨J.bl,0,none⟩),.pointer (some ⟨J.bn,0,none⟩),.pointer (some ⟨J.tb,0,none⟩),.pointer (some ⟨J.bb,0,none⟩),.pointer (some ⟨bi,0,none⟩)]) (.int .i64 ((j+1:Nat):Int)) v18 v19 v20 _ _ SM ab dr;rw[hS,pZ]at hI;exact hI
end
noncomputable def Db:Array Oper:=(od 1 eJ).getD #[]
noncomputable def Dc:Array Oper:=(od 2 eJ).getD #[]
structure EN (d:Nat->Prop)(e)(M:Nat->Prop)(W):Prop where
 own:∀b,d b->M b
 keep:aU d e W
 lt:∀b,M b->b<W
 new:∀b,M b->d b\/e<=b
section
variable {d:Nat->Prop}{e:au}
def EN.rely (h:EN d e M W)(k:aU (λb=>M b\/False) W aj):EN d e M aj:=⟨h.own,h.keep.trans<|k.mono λb f=>ad<|h.own b f,λb f=>agx (h.lt b f) k.size,h.new⟩
def EN.alloc (h:EN d e M W)(o):EN d e (grow M W<|W.alloc o) (W.alloc o):=by
 have z:(W.alloc o).heap.size=(W:Nat)+1:=by show(W.heap.push o).size=_;simp
 refine⟨λb f=>ad<|h.own b f,h.keep.trans ⟨λb f=>aI _ _ _<|h.lt b<|h.own b f,ab,rfl,rfl⟩,λb f=>f.elim (λx=>by rw[z];have:=h.lt b x;omega) And.right,λb f=>f.elim (h.new b) λx=>ao<|agz h.keep.size x.1⟩
end
def ZG (hM:∀b,M b->b<W): ET Tryz.prog true (λ_=>True) Ph.oD (λ_=>False) (λM' g W'=>∃bl bn r4,g=G ((av 173).at ⟨#[aa u ln s,aa y nn nc,ac<|some ⟨bl,0,none⟩,ac<|some ⟨bn,0,none⟩,ac<|some ⟨r4,0,none⟩,ud,ud,ud,ud,ud,ud,ud,ud,ud,ud,ud,ud,ud,ud,ud,ud],[]⟩ [.inRegion Db [0],.code (f9<|f9 eJ)]) rb/\EN M W M' W'/\(W<=bl/\bl<bn/\bn<r4)/\M' bl/\M' bn/\M' r4/\W'.heap[bl]?=some (.cells #[aa u ln s] 39 (0,0))/\W'.heap[bn]?=some (.cells #[aa y nn nc] 219 (0,0))/\W'.heap[r4]?=some (.cells ff.cells.toArray 217 (0,0))) M (G ((av 173).at ⟨#[aa u ln s,aa y nn nc,ud,ud,ud,ud,ud,ud,ud,ud,ud,ud,ud,ud,ud,ud,ud,ud,ud,ud,ud],[]⟩ [.code eJ]) rb) W:=by (have z0:∀(w:au) (o:Obj),(w.alloc o).heap.size=(w:Nat)+1:=λw o=>by show(w.heap.push o).size=_;simp);have hE:EN M W M W:=⟨λ_ h=>h,aU.refl _ _,hM,λ_ h=>ad h⟩;apply ET.sr;refine ET.oper rfl rfl (by k_ne) λaj r _=>⟨ac<|some ⟨aj,0,none⟩,aj.alloc<|.cells #[aa u ln s] 39,?_,?_,?_⟩;(.go_simp);exact Ss;walk_nrm;have O:=(hE.rely r).alloc<|.cells #[aa u ln s] 39;have x:grow M aj (aj.alloc<|.cells #[aa u ln s] 39) (aj:Nat):=ao ⟨agw _,cQ⟩;have Q:(aj.alloc<|.cells #[aa u ln s] 39).heap[(aj:Nat)]?=some (.cells #[aa u ln s] 39 (0,0)):=a0 _ _;have s1:=r.size;have y1:=z0 aj<|.cells #[aa u ln s] 39;generalize aj.alloc (.cells #[aa u ln s] 39)=Pb at O x Q y1⊢;generalize grow M aj Pb=v at O x⊢;generalize (aj:Nat)=bl at x Q s1 y1⊢;refine ET.oper rfl rfl (by k_ne) λj l _=>⟨ac<|some ⟨j,0,none⟩,j.alloc<|.cells #[aa y nn nc] 219,?_,?_,?_⟩;(.go_simp);exact Ss;walk_nrm;have R:=(O.rely l).alloc<|.cells #[aa y nn nc] 219;have z:grow v j (j.alloc<|.cells #[aa y nn nc] 219) (j:Nat):=ao ⟨agw _,cQ⟩;have s2:=l.size;have y2:=z0 j<|.cells #[aa y nn nc] 219;have T:(j.alloc<|.cells #[aa y nn nc] 219).heap[(j:Nat)]?=some (.cells #[aa y nn nc] 219 (0,0)):=a0 _ _;have SR:(j.alloc<|.cells #[aa y nn nc] 219).heap[bl]?=some (.cells #[aa u ln s] 39 (0,0)):=(aI _ _ _ ab).trans<|(l.block _<|ad x).trans Q;have E:grow v j (j.alloc<|.cells #[aa y nn nc] 219) bl:=ad x;generalize j.alloc (.cells #[aa y nn nc] 219)=TJ at R z T SR E y2⊢;generalize grow v j TJ=U at R z E⊢;generalize (j:Nat)=bn at z T s2 y2⊢;refine ET.oper rfl rfl (by k_ne) λf F _=>⟨ac<|some ⟨f,0,none⟩,f.alloc<|.cells #[false,(0:Int),(0:Int),()] 217,?_,?_,?_⟩;(.go_simp);exact Ss;walk_nrm;have h3:=(R.rely F).alloc<|.cells #[false,(0:Int),(0:Int),()] 217;have L:grow U f (f.alloc<|.cells #[false,(0:Int),(0:Int),()] 217) (f:Nat):=ao ⟨agw _,cQ⟩;have s3:=F.size;have Y:(f.alloc<|.cells #[false,(0:Int),(0:Int),()] 217).heap[(f:Nat)]?=some (.cells ff.cells.toArray 217 (0,0)):=a0 _ _;have D:(f.alloc<|.cells #[false,(0:Int),(0:Int),()] 217).heap[bn]?=some (.cells #[aa y nn nc] 219 (0,0)):=(aI _ _ _ ab).trans<|(F.block _<|ad z).trans T;have Pw:(f.alloc<|.cells #[false,(0:Int),(0:Int),()] 217).heap[bl]?=some (.cells #[aa u ln s] 39 (0,0)):=(aI _ _ _ ab).trans<|(F.block _<|ad E).trans SR;have Z:grow U f (f.alloc<|.cells #[false,(0:Int),(0:Int),()] 217) bl:=ad E;have n:grow U f (f.alloc<|.cells #[false,(0:Int),(0:Int),()] 217) bn:=ad z;generalize f.alloc (.cells #[a6 false,(0:Int),(0:Int),aa none 0 0] 217)=ay at h3 L Y D Pw Z n⊢;generalize (f:Nat)=r4 at L Y s3⊢;apply ET.ns;refine ET.stop λui N _=>⟨bl,bn,r4,rfl,h3.rely N,⟨ab,ab,ab⟩,Z,n,L,(N.block _<|ad Z).trans Pw,(N.block _<|ad n).trans D,(N.block _<|ad L).trans Y⟩
def Wr (w:au):stepG Tryz.prog true (G ((av 173).at ⟨#[aa u ln s,aa y nn nc,ac bl,ac bn,ac r4,ud,ud,ud,ud,ud,ud,ud,ud,ud,ud,ud,ud,ud,ud,ud,ud],[]⟩ [.inRegion Db [0],.code (f9<|f9 eJ)]) rb) w=.go (G ((av 173).at ⟨#[aa u ln s,aa y nn nc,ac bl,ac bn,ac r4,ac w,ud,ud,ud,ud,ud,ud,ud,ud,ud,ud,ud,ud,ud,ud,ud],[]⟩ [.inRegion Db [],.code (f9<|f9 eJ)]) rb) (w.alloc<|.cells #[(0:Int)] 244) #[]:=by
 obtain⟨o,ho,r,x,hg⟩:∃o,Db[0]?=some o/\o.op=.alloc 244/\o.dst=some 5/\o.guard=none:=⟨_,rfl,rfl,rfl,rfl⟩;have D:∀f,(aL f o).run Tryz.prog w=.ok (.value<|ac w) (w.alloc<|.cells #[(0:Int)] 244):=λf=>by unfold aL;go_simp
 have he:∀f,(aL f o).events Tryz.prog w #[]=#[]:=λf=>by unfold aL;simp[r];simp[go_sem]
 rw[stepG_value ho ma (by k_ne) (D _)];unfold listed;rw[he,seen_none,x];walk_nrm
def Ws (w:au):stepG Tryz.prog true (G ((av 173).at ⟨#[aa u ln s,aa y nn nc,ac bl,ac bn,ac r4,ac tb,ud,ud,ud,ud,ud,ud,ud,ud,ud,ud,ud,ud,ud,ud,ud],[]⟩ [.inRegion Dc [0],.code (f9<|f9<|f9 eJ)]) rb) w=.go (G ((av 173).at ⟨#[aa u ln s,aa y nn nc,ac bl,ac bn,ac r4,ac tb,ac w,ud,ud,ud,ud,ud,ud,ud,ud,ud,ud,ud,ud,ud,ud],[]⟩ [.inRegion Dc [],.code (f9<|f9<|f9 eJ)]) rb) (w.alloc<|.cells #[ax .u64 0,ax .u32 0] 249) #[]:=by
 obtain⟨o,ho,r,x,hg⟩:∃o,Dc[0]?=some o/\o.op=.alloc 249/\o.dst=some 6/\o.guard=none:=⟨_,rfl,rfl,rfl,rfl⟩;have D:∀f,(aL f o).run Tryz.prog w=.ok (.value<|ac w) (w.alloc<|.cells #[ax .u64 0,ax .u32 0] 249):=λf=>by unfold aL;go_simp
 have he:∀f,(aL f o).events Tryz.prog w #[]=#[]:=λf=>by unfold aL;simp[r];simp[go_sem]
 rw[stepG_value ho ma (by k_ne) (D _)];unfold listed;rw[he,seen_none,x];walk_nrm
def ZH:ET Tryz.prog true (λ_=>True) Ph.oD (λ_=>False) (λM' g W'=>M'=M/\aU M W W'/\g=G ((av 173).at ⟨#[aa u ln s,aa y nn nc,ac bl,ac bn,ac r4,ac tb,ud,ud,ud,ud,ud,ud,ud,ud,ud,ud,ud,ud,ud,ud,ud],[]⟩ [.inRegion Dc [0],.code (f9<|f9<|f9 eJ)]) rb) M (G ((av 173).at ⟨#[aa u ln s,aa y nn nc,ac bl,ac bn,ac r4,ac tb,ud,ud,ud,ud,ud,ud,ud,ud,ud,ud,ud,ud,ud,ud,ud],[]⟩ [.inRegion Db [],.code (f9<|f9 eJ)]) rb) W:=by apply ET.ns;exact ET.stop λaj f _=>⟨rfl,f.mono λb h=>ad h,rfl⟩
def Y2 (w:au):(Instr.makeSlice 250 (ax .i64 4)<|ax .i64 4).run Tryz.prog w=.ok (aa w 4 4) (w.alloc<|.cells #[false,(0:Int),(0:Int),(),false,(0:Int),(0:Int),(),false,(0:Int),(0:Int),(),false,(0:Int),(0:Int),()] 217):=aO
def abb (w:au)(es:Array Event):(Instr.makeSlice 250 (ax .i64 4)<|ax .i64 4).events Tryz.prog w es=es:=aO
def ZI (hM:∀b,M b->b<W): ET Tryz.prog true (λ_=>True) Ph.oD (λ_=>False) (λM' g W'=>∃(Bs bb:Nat) (v9 v10:aE),g=G ((av 173).at ⟨#[aa u ln s,aa y nn nc,ac bl,ac bn,ac r4,ac tb,ac wg,ac bb,az,v9,v10,(4:Int),(0:Int),ud,ud,ud,ud,ud,ud,ud,ud],[]⟩ [.code mn,.inLoop mn,.inBlock 0,.code jy]) rb/\EN M W M' W'/\(W<=Bs/\Bs<bb)/\M' Bs/\M' bb/\W'.heap[bb]?=some (.cells #[aa Bs 4 4] 250 (0,0))/\∃cs,W'.heap[Bs]?=some (.cells cs 217 (0,0))/\cs.size=16) M (G ((av 173).at ⟨#[aa u ln s,aa y nn nc,ac bl,ac bn,ac r4,ac tb,ac wg,ud,ud,ud,ud,ud,ud,ud,ud,ud,ud,ud,ud,ud,ud],[]⟩ [.inRegion Dc [],.code (f9<|f9<|f9 eJ)]) rb) W:=by
 have z0:∀(w:au) (o:Obj),(w.alloc o).heap.size=(w:Nat)+1:=λw o=>by show(w.heap.push o).size=_;simp
 have hE:EN M W M W:=⟨λ_ h=>h,aU.refl _ _,hM,λ_ h=>ad h⟩;simp only[mn,jy,eJ,Tryz.f173,Option.getD_some,kV,f9,Option.or_some,Option.or_none,Option.none_or];apply ET.ns;refine ET.oper rfl rfl (by k_ne) λaj R _=>⟨aa (some ⟨aj,0,none⟩) 4 4,aj.alloc<|.cells #[false,(0:Int),(0:Int),(),false,(0:Int),(0:Int),(),false,(0:Int),(0:Int),(),false,(0:Int),(0:Int),()] 217,?_,?_,?_⟩
 .go_simp;rw[Y2];rfl
 .refine fM.alloc _ λe he=>?_;have hm:=bm he;simp[go_sem]at hm;rw[abb]at hm;simp at hm
 walk_nrm;have T:=(hE.rely R).alloc<|.cells #[false,(0:Int),(0:Int),(),false,(0:Int),(0:Int),(),false,(0:Int),(0:Int),(),false,(0:Int),(0:Int),()] 217;have U:grow M aj (aj.alloc<|.cells #[false,(0:Int),(0:Int),(),false,(0:Int),(0:Int),(),false,(0:Int),(0:Int),(),false,(0:Int),(0:Int),()] 217) (aj:Nat):=ao ⟨agw _,by rw[z0];omega⟩;have c1:∃cs:Array aE,(aj.alloc<|.cells #[false,(0:Int),(0:Int),(),false,(0:Int),(0:Int),(),false,(0:Int),(0:Int),(),false,(0:Int),(0:Int),()] 217).heap[(aj:Nat)]?=some (.cells cs 217 (0,0))/\cs.size=16:=⟨_,a0 _ _,rfl⟩;have s1:=R.size;have y1:=z0 aj<|.cells #[false,(0:Int),(0:Int),(),false,(0:Int),(0:Int),(),false,(0:Int),(0:Int),(),false,(0:Int),(0:Int),()] 217;generalize aj.alloc (.cells #[a6 false,(0:Int),(0:Int),aa none 0 0,a6 false,(0:Int),(0:Int),aa none 0 0,a6 false,(0:Int),(0:Int),aa none 0 0,a6 false,(0:Int),(0:Int),aa none 0 0] 217)=Pb at T U c1 y1⊢;generalize grow M aj Pb=v at T U⊢;generalize (aj:Nat)=Bs at U c1 s1 y1⊢;refine ET.oper rfl rfl (by k_ne) λf x _=>⟨ac<|some ⟨f,0,none⟩,f.alloc<|.cells #[()] 250,?_,?_,?_⟩
 .go_simp
 exact Ss;walk_nrm;have h2:=(T.rely x).alloc<|.cells #[()] 250;have r:grow v f (f.alloc<|.cells #[()] 250) (f:Nat):=ao ⟨agw _,by rw[z0];omega⟩;have s2:=x.size;have y2:=z0 f<|.cells #[()] 250;have N:(f.alloc<|.cells #[()] 250).heap[(f:Nat)]?=some (.cells #[()] 250 (0,0)):=a0 _ _;have SR:∃cs:Array aE,(f.alloc<|.cells #[()] 250).heap[Bs]?=some (.cells cs 217 (0,0))/\cs.size=16:=by let⟨cs,Y,Z⟩:=c1;exact⟨cs,(aI _ _ _ ab).trans<|(x.block _<|ad U).trans Y,Z⟩
 have Tn:grow v f (f.alloc<|.cells #[()] 250) Bs:=ad U;have ay:¬M (f:Nat):=λe=>by have:=(T.rely x).lt _<|(T.rely x).own _ e;omega
 generalize f.alloc (.cells #[aa none 0 0] 250)=TJ at h2 r N SR Tn y2⊢;generalize grow v f TJ=sQ at h2 r Tn⊢;generalize (f:Nat)=bb at r N s2 y2 ay⊢;refine ET.none rfl rfl (by k_ne) λD O _=>⟨D.setCell bb<|aa Bs 4 4,?_,?_,?_⟩
 .have hc:=fR<|(O.block _<|ad r).trans N;have hz:D.frozen? bb=false:=by simp[World.frozen?,(O.block _<|ad r).trans N]
  go_simp
 .have hc:=fR<|(O.block _<|ad r).trans N;have hz:D.frozen? bb=false:=by simp[World.frozen?,(O.block _<|ad r).trans N]
  refine fM.set _ r λe he=>?_;have hm:=bm he;simp[go_sem,hc,hz]at hm;rw[events_store _ _ _ _ _ _ rfl,hc]at hm;simp[hz]at hm;subst hm;exact ip r
 rw[cU (be D bb<|aa Bs 4 4).size];have c3:(D.setCell bb<|aa Bs 4 4).heap[bb]?=some (.cells #[aa Bs 4 4] 250 (0,0)):=Lg<|(O.block _<|ad r).trans N;have Pw:∃cs:Array aE,(D.setCell bb<|aa Bs 4 4).heap[Bs]?=some (.cells cs 217 (0,0))/\cs.size=16:=by let⟨cs,Y,Z⟩:=SR;exact⟨cs,(a9 _ _ _ _ (by show Bs≠bb;omega)).trans<|(O.block _<|ad Tn).trans Y,Z⟩
 have h3:EN M W sQ (D.setCell bb<|aa Bs 4 4):=by have h:=h2.rely O;have z:=(be D bb<|aa Bs 4 4).size;exact⟨h.own,h.keep.trans ⟨λb hb=>a9 _ _ _ _ λe=>ay (by have e':b=bb:=e;exact e'▸hb),by rw[z];omega,rfl,rfl⟩,λb hb=>by rw[z];exact h.lt b hb,h.new⟩
 generalize D.setCell ⟨bb,0,none⟩ (aa (some ⟨Bs,0,none⟩) 4 4)=aG at h3 c3 Pw⊢;walk_nrm;apply ET.rn;apply ET.sq;apply ET.sr;refine ET.val (aa Bs 4 4) rfl rfl (by k_ne) (λui mj _=>?_) ?_
 .have hc:=fR<|(mj.block _<|ad r).trans c3;refine⟨?_,λe he=>?_⟩
  .go_simp
  simp[go_sem,hc]at he;subst he;exact ip r
 walk_nrm;refine ET.z ?_;refine ET.z ?_;apply ET.rn;refine ET.c (λ_=>stepG_block) ?_;refine ET.c (λ_=>stepG_loop) ?_;refine ET.stop λui mj _=>⟨Bs,bb,_,_,rfl,h3.rely mj,⟨ab,ab⟩,Tn,r,(mj.block _<|ad r).trans c3,?_⟩;let⟨cs,Y,Z⟩:=Pw;exact⟨cs,(mj.block _<|ad Tn).trans Y,Z⟩
def runNT_add {f:Nat}{b:Machine}{g:a8}{r:Stepped×a8}(h:aV P f b g=r):∀N (m:Machine) (t:a8),aV P N m t=(.next b,g)->aV P (N+f) m t=r:=by intro N;induction N with|zero=>simp_all [aV]|succ N i=>grind [aV]
def dR.H_ (h:dR P C V (λ_=>False) M gs a w t q):∀b,M b->b<w:=λb f=>h.lt b<|ad f
def VJ (h:dR Tryz.prog C (λ_=>False) (λ_=>False) M gs (G ((av 173).at ⟨#[aa u ln s,aa y nn nc,ud,ud,ud,ud,ud,ud,ud,ud,ud,ud,ud,ud,ud,ud,ud,ud,ud,ud,ud],[]⟩ [.code eJ]) rb) w t q): ∃N D v f E Oz F bl bn r4 tb wg Bs bb v9 v10,aV Tryz.prog N (crowd gs w sl) t=(.next<|crowd D f E,Oz)/\D.size=gs.size/\dR Tryz.prog C (λb=>(False\/b=tb)\/b=wg) (λ_=>False) v D (G ((av 173).at ⟨#[aa u ln s,aa y nn nc,ac<|some ⟨bl,0,none⟩,ac<|some ⟨bn,0,none⟩,ac<|some ⟨r4,0,none⟩,ac tb,ac wg,ac<|some ⟨bb,0,none⟩,az,v9,v10,(4:Int),(0:Int),ud,ud,ud,ud,ud,ud,ud,ud],[]⟩ [.code mn,.inLoop mn,.inBlock 0,.code jy]) rb) f Oz F/\EN M w v f/\(w<=bl/\bl<bn/\bn<r4/\r4<tb/\tb<wg/\wg<Bs/\Bs<bb)/\(v bl/\v bn/\v r4/\v Bs/\v bb)/\f.heap[bl]?=some (.cells #[aa u ln s] 39 (0,0))/\f.heap[bn]?=some (.cells #[aa y nn nc] 219 (0,0))/\f.heap[r4]?=some (.cells ff.cells.toArray 217 (0,0))/\f.heap[tb]?=some (.cells #[(0:Int)] 244 (0,0))/\f.heap[wg]?=some (.cells #[ax .u64 0,ax .u32 0] 249 (0,0))/\f.heap[bb]?=some (.cells #[aa Bs 4 4] 250 (0,0))/\∃cs,f.heap[Bs]?=some (.cells cs 217 (0,0))/\cs.size=16:=by
 have z0:∀(w:au) (o:Obj),(w.alloc o).heap.size=(w:Nat)+1:=λw o=>by show(w.heap.push o).size=_;simp
 obtain⟨r,hr⟩:=ZG h.H_;obtain⟨N1,L,M1,a1,w1,O,t1,q1,e1,e2,e3,e4,e5,e6,e7,e8⟩:=jW (λ_=>trivial) r _ gs M _ w sl t q (agw _) h hr;obtain⟨bl,bn,r4,rfl,j,⟨o1,o2,o3⟩,m1,m2,R,c1,c2,c3⟩:=e3 w1 (aU.refl _ _) trivial;obtain⟨N2,Uu,a2,w2,VT,t2,q2,f1,f2,f3,f4,f5,f6⟩:=dR.alloc (sl:=O) (t:=t1) (q:=q1) (gs:=L) (d:=w1.drawn) (Q:=λa' w'=>a'=G ((av 173).at ⟨#[aa u ln s,aa y nn nc,ac<|some ⟨bl,0,none⟩,ac<|some ⟨bn,0,none⟩,ac<|some ⟨r4,0,none⟩,ac<|some ⟨w1,0,none⟩,ud,ud,ud,ud,ud,ud,ud,ud,ud,ud,ud,ud,ud,ud,ud],[]⟩ [.inRegion Db [],.code (f9<|f9 eJ)]) rb/\w'.heap[(w1:Nat)]?=some (.cells #[(0:Int)] 244 (0,0))/\w'.os=w1.os/\w'.output=w1.output)
  (λd=>⟨_,_,Wr<|w1.at d,z0 _ _,λb g=>aI _ _ _ g,rfl,a0 _ _,rfl,rfl⟩) rfl _ (agw _) e4
 obtain⟨rfl,T,U,Y⟩:=f3;obtain⟨r',gm⟩:=ZH;obtain⟨N3,Z,z,a3,w3,ay,t3,q3,g1,g2,g3,g4,g5,g6,g7,g8⟩:=jW (λ_=>trivial) r' _ Uu M1 _ w2 VT t2 q2 (agw _) f4 gm;obtain⟨rfl,k3,rfl⟩:=g3 w3 (aU.refl _ _) trivial;obtain⟨N4,aG,a4,w4,aP,t4,q4,i1,i2,i3,i4,i5,i6⟩:=dR.alloc (sl:=ay) (t:=t3) (q:=q3) (gs:=Z) (d:=w3.drawn) (Q:=λa' w'=>a'=G ((av 173).at ⟨#[aa u ln s,aa y nn nc,ac<|some ⟨bl,0,none⟩,ac<|some ⟨bn,0,none⟩,ac<|some ⟨r4,0,none⟩,ac<|some ⟨w1,0,none⟩,ac<|some ⟨w3,0,none⟩,ud,ud,ud,ud,ud,ud,ud,ud,ud,ud,ud,ud,ud,ud],[]⟩ [.inRegion Dc [],.code (f9<|f9<|f9 eJ)]) rb/\w'.heap[(w3:Nat)]?=some (.cells #[ax .u64 0,ax .u32 0] 249 (0,0))/\w'.os=w3.os/\w'.output=w3.output)
  (λd=>⟨_,_,Ws<|w3.at d,z0 _ _,λb g=>aI _ _ _ g,rfl,a0 _ _,rfl,rfl⟩) rfl _ (agw _) g4
 obtain⟨rfl,aZ,bi,bj⟩:=i3;obtain⟨bo,bp⟩:=ZI i4.H_;obtain⟨N5,bq,M5,a5,w5,br,t5,q5,j1,j2,j3,j4,j5,j6,j7,j8⟩:=jW (λ_=>trivial) bo _ aG z _ w4 aP t4 q4 (agw _) i4 bp;obtain⟨Bs,bb,v9,v10,rfl,n,⟨p1,p2⟩,n1,n2,bs,bt⟩:=j3 w5 (aU.refl _ _) trivial;have l:=((show aU z w1 w2 from⟨λb g=>f6 b<|j.lt b g,ab,U,Y⟩).trans<|k3.trans ⟨λb g=>i6 b (by have:=j.lt b g;omega),ab,bi,bj⟩).trans n.keep;have tn:¬z (w1:Nat):=λx=>by have:=j.lt _ x;omega
 have wn:¬z (w3:Nat):=λx=>by have:=j.lt _ x;omega
 refine⟨N1+(N2+(N3+(N4+N5))),bq,M5,w5,br,t5,q5,bl,bn,r4,w1,w3,Bs,bb,v9,v10,runNT_add (runNT_add (runNT_add (runNT_add j1 _ _ _ i1) _ _ _ g1) _ _ _ f1) _ _ _ e1,ab,j4,⟨λb g=>n.own b<|j.own b g,j.keep.trans<|l.mono j.own,n.lt,λb g=>(n.new b g).elim (λx=>j.new b x) λx=>ao (by have:=j.keep.size;omega)⟩,⟨o1,o2,o3,(j.lt _ R),ab,ab,p2⟩,⟨n.own _ m1,n.own _ m2,n.own _ R,n1,n2⟩,(l.block _ m1).trans c1,(l.block _ m2).trans c2,(l.block _ R).trans c3,?_,?_,bs,bt⟩;rw[j8 _ ab tn,i6 _ ab,g8 _ ab tn];exact T;rw[j8 _ ab wn];exact aZ
section
variable [Gl]
structure MA (af8:a7)(ok:Ctx)(M:Nat->Prop)(w:au)(u:Option Addr)(ln s nb no nn:Nat)(iF:Nat->aE)(S:Nat->Nat->Prop)(Is:Nat->aX->Prop)(lt:aX->aX->Bool):Prop where
 I_:M nb
 iO:∀i,i<nn->w.cell? ⟨nb,no+i,none⟩=some (iF i)
 sm:∀i b,S i b->M b
 closed:∀i,i<nn->∀aj,aU (λb=>b=nb\/∃i,S i b) w aj->Closed ok (S i) aj
 Pg:∀i,i<nn->ar ok (uD<|S i) (aa u ln s) (aa u ln s)
 Pi:∀i,i<nn->ar ok (uD<|S i) (iF i) (iF i)
 Sw:∀i,i<nn->∀(F:Nat->Prop) aj,aU (λb=>b=nb\/∃i,S i b) w aj->∀τ d,Calls af8 208 #[aa u ln s,iF i] (re (froze F aj) τ d) λe w'=>∃x,e=.returned x.val/\Is i x/\lj w' (λb=>aj<=b) x
 ren:∀i x a',Is i x->(x.a=none<->a'=none)->Is i {x with a:=a'}
 least:∀V (b:Nat) (xs:List aX) (z:Nat×Nat),xs.length<=1048576->V.heap[b]?=some (.cells (xs.flatMap aX.cells).toArray 217 z)->(∀x∈xs,eX V x.a x.n x.g/\x.n<=1048576)->
  Calls af8 189 #[aa b xs.length xs.length,.func (.func 190) #[] #[]] V λe w'=>e=.returned (Jb.dB ⟨0,0,0,0,0,0,0,.nilFunc,iF,S,Is,lt,0⟩ xs).val/\Below V V w'
 Yg:ok.aP 208/\ok.aP 189/\ok.fn 190
omit [Gl] in
def dR.split {R:Nat->Prop}(h:dR P C V (λ_=>False) M gs a w t q)(hR:∀b,R b->M b):dR P C V R (λb=>M b/\¬R b) gs a w t q:=
 ⟨h.main,h.quit,h.past,h.who,λb hb=>h.lt b<|ad<|hb.elim And.left<|hR b,λb hb=>h.ly b<|ad<|hb.elim And.left<|hR b,h.low,h.un,h.OZ,λb hb=>⟨λx=>(h.vm b hb).1 x.1,λx=>(h.vm b hb).1<|hR b x⟩⟩
omit [Gl] in
def xp (J b:Jb)(h:J.lt=b.lt)(xs:List aX):J.dB xs=b.dB xs:=by
 have:J.pick=b.pick:=by funext x y;grind [Jb.pick]
 simp_all [Jb.dB]
noncomputable def ph (J:Jb)(wg tb Bs nn b T:Nat):Ph:={P:=Tryz.prog,ty:=249,Wg:=wg,tk:=tb,Bs:=Bs,bty:=217,wd:=4,n:=4,L:=nn,J:=b,jB:=T,Ze:=Le J,pl:=⟨0⟩}
omit [Gl] in
def Y' (J:Jb)(wg tb Bs nn f T:Nat):(ph J wg tb Bs nn f T).kz:=by rintro seq m M w n ⟨x,g,i,b,j⟩ k;exact⟨x,g,i,b.keep (λ_ h=>h) λa l=>k.block _ (b.blk a l).2.1,j⟩
def VE (fd:dV af8 af8 ok)(hP:dV af8 Tryz.prog ok)(jp:∀f,ok.fn f->ok.aP f)(BF:kw af8 c)(hn:nn+4<4611686018427387904){Bs:Nat} (h:dR Tryz.prog C (λb=>(False\/b=tb)\/b=wg) (λ_=>False) v gs (G ((av 173).at ⟨#[aa u ln s,aa (some ⟨nb,no,none⟩) nn nc,ac bl,ac bn,ac r4,ac tb,ac wg,ac bb,az,v9,v10,(4:Int),(0:Int),ud,ud,ud,ud,ud,ud,ud,ud],[]⟩ [.code mn,.inLoop mn,.inBlock 0,.code jy]) rb) w t q) (r:MA af8 ok v w u ln s nb no nn iF S Is lt)(Et:Gl.n<=w)(ho:bl<bn/\bn<r4/\r4<tb/\tb<wg/\wg<Bs/\Bs<bb)(O:v bl/\v bn/\v r4/\v Bs/\v bb)(UW:nb<bl)(ay:∀i b,S i b->b<bl) (cl:w.heap[bl]?=some (.cells #[aa u ln s] 39 (0,0)))(cn:w.heap[bn]?=some (.cells #[aa (some ⟨nb,no,none⟩) nn nc] 219 (0,0))) (ct:w.heap[tb]?=some (.cells #[(0:Int)] 244 (0,0)))(cw:w.heap[wg]?=some (.cells #[ax .u64 0,ax .u32 0] 249 (0,0))) (cb:w.heap[bb]?=some (.cells #[aa Bs 4 4] 250 (0,0)))(cB:∃cs,w.heap[Bs]?=some (.cells cs 217 (0,0))/\cs.size=16): ∃J,J.lt=lt/\J.Is=Is/\J.bb=bb/\J.base=(w:Nat)/\∃p,p=ph J wg tb Bs nn gs.size t.size/\∃N Z w' oE t' a' sv sQ seq vs Mr,∃M' A,aV Tryz.prog N (crowd gs w sl) t=(.next<|crowd Z w' oE,t')/\p.Out C (p.Za (F24 J af8 p ok M' A w r4 (aa u ln s)<|aa (some ⟨nb,no,none⟩) nn nc) (av 173) xy 0 [] [.code (f9 jy)] rb) Z w' t' a' sv sQ seq vs Mr/\∀b,v b->b≠Bs->M' b\/A b:=by
 let J:Jb:=⟨bl,bn,bb,nb,no,nc,tb,aa u ln s,iF,S,Is,lt,w⟩;let p:=ph J wg tb Bs nn gs.size t.size;let R:Nat->Prop:=λb=>b=bl\/b=bn\/b=bb\/b=nb\/∃i,S i b;let M':Nat->Prop:=λb=>(v b/\¬R b)/\b≠Bs;have D:∀b,R b->v b:=by rintro b (rfl|rfl|rfl|rfl|⟨i,hs⟩);exact O.1;exact O.2.1;exact O.2.2.2.2;exact r.I_;exact r.sm i b hs
 have U:∀b,(b=nb\/∃i,S i b)->R b:=λb hb=>ao<|ao<|ao hb;have LD:∀b,p.Sp b->¬M' b/\¬R b:=by rintro b (e|e|e);rw[show b=wg from e];have Y:=(h.vm wg<|ao rfl).1;exact⟨λx=>Y x.1.1,λx=>Y<|D _ x⟩;rw[show b=tb from e];have Y:=(h.vm tb<|ad<|ao rfl).1;exact⟨λx=>Y x.1.1,λx=>Y<|D _ x⟩;rw[show b=Bs from e];refine⟨λx=>x.2 rfl,?_⟩;rintro(x|x|x|x|⟨i,x⟩);omega;omega;omega;omega;have:=ay i _ x;omega
 have Ju:∀b,p.Sp b->b<w:=by rintro b (e|e|e);rw[show b=wg from e];exact h.OZ wg<|ao rfl;rw[show b=tb from e];exact h.OZ tb<|ad<|ao rfl;rw[show b=Bs from e];exact h.lt Bs<|ad O.2.2.2.1
 obtain⟨N,Z,w',oE,t',a',sv,sQ,seq,vs,Mr,fT,EA⟩:=Ph.phase (Fin:=p.Za (F24 J af8 p ok M' R w r4 (aa u ln s)<|aa (some ⟨nb,no,none⟩) nn nc) (av 173) xy 0 [] [.code (f9 jy)] rb)
  (Y' J wg tb Bs nn gs.size t.size) (⟨by show wg≠tb;omega,by show wg≠Bs;omega,by show tb≠Bs;omega,λa ha=>h.ly Bs (ad O.2.2.2.1) (.cell a) ha,((agy.1 h.main).1)⟩) (by show 4<2147483647;omega) (by show 1<=4;omega) (show nn+4<4611686018427387904 from hn) (by rintro _ _ _ _ ⟨T,aZ,rfl,_⟩;rfl)
  (λRo M g W hA _=>Ph.waitRound DO (λa Ro M w a1 hF k=>⟨hF.1,hF.2.rely k⟩) (λa Ro M w hF e=>e.elim (hF.2.sp _<|ad rfl).1 (hF.2.sp _<|ad rfl).2.1) Ro M g W hA)
  (h.split D) rfl rfl (ao rfl) (ad<|ao rfl) (Ju _<|ao<|ao rfl) (λb hb=>hb.1) LD (λb hb=>hb.1.2) cw ⟨fR ct,by show w.frozen? tb=false;simp[World.frozen?,ct]⟩ zc (RX fd hP jp BF (show nn<4611686018427387904 by omega) rfl rfl 4 0 az v9 v10 az az az az az az az az R M' w rfl<|⟨(⟨rfl,rfl,rfl,rfl,rfl,rfl,rfl,agw _,cl,cn,cb,ad rfl,ao<|ad rfl,ao<|ao<|ad rfl,ao<|ao<|ao<|ad rfl,r.iO,λi b hs=>ao<|ao<|ao<|ao ⟨i,hs⟩,λi hi aj k=>r.closed i hi aj<|k.mono U,r.Pg,r.Pi,λi hi F aj k τ d=>r.Sw i hi F aj (k.mono U) τ d,r.ren,λV b xs z h1 h2 h3=>by rw[xp J _ rfl];exact r.least V b xs z h1 h2 h3,r.Yg⟩),λb x=>x,aU.refl _ _,λb hb=>⟨(LD b hb).1,(LD b hb).2,Ju b hb⟩,λb hb=>h.lt b<|ad<|hb.elim (λx=>x.1.1)<|D b,λb hb=>hb.1.2,Et,by show wg≠Bs;omega⟩)
 exact⟨J,rfl,rfl,rfl,rfl,p,rfl,N,Z,w',oE,t',a',sv,sQ,seq,vs,Mr,M',R,fT,EA,λb hb aG=>by by_cases x:R b;exact ao x;exact ad ⟨⟨hb,x⟩,aG⟩⟩
end
section
variable [Gl]
def MF (fd:dV af8 af8 ok)(hP:dV af8 Tryz.prog ok)(jp:∀f,ok.fn f->ok.aP f)(BF:kw af8 c)(eK:ok.aP 189/\ok.fn 190)
  (r_:∀V (b:Nat) (xs:List aX) (z:Nat×Nat),xs.length<=1048576->V.heap[b]?=some (.cells (xs.flatMap aX.cells).toArray 217 z)->(∀x∈xs,eX V x.a x.n x.g/\x.n<=1048576)->
   Calls af8 189 #[.slice b xs.length xs.length,.func (.func 190) #[] #[]] V λe w'=>e=.returned (J.dB xs).val/\Below V V w')
  (th:∀xs,xs≠[]->J.dB xs∈xs){xs:List aX}(h4:xs.length=4){v8 v12 v13 v14 v15 v16 v17 v18 v19 v20:Value}{Bs:Nat}
  (hM:∀b,M b->b<W)(Et:Gl.n<=W)(m4:M r4)(mb:M bb)(mB:M Bs)(n1:r4≠Bs)(n2:bb≠Bs)(n3:r4≠bb)(c4:∃cs,W.heap[r4]?=some (.cells cs 217 (0,0))/\cs.size=4)
  (cb:W.heap[bb]?=some (.cells #[.slice Bs 4 4] 250 (0,0)))(cB:W.heap[Bs]?=some (.cells (xs.flatMap aX.cells).toArray 217 (0,0)))(hx:∀x∈xs,lj W (λb=>M b/\b≠r4/\b≠bb) x):
  ET Tryz.prog true (λ_=>True) Ph.oD (λ_=>False) (λM' g W'=>g=G (r0.finish (J.dB xs).val) rest/\(∀b,M b->M' b)/\aU (λb=>M b/\b≠r4/\b≠Bs) W W'/\∀x∈xs,lj W' M' x) M
   (G ((base 173).at (Act.put ⟨#[t0,t1,.pointer bl,.pointer bn,.pointer r4,.pointer tb,.pointer wg,.pointer bb,v8,v9,v10,(4:Int),v12,v13,v14,v15,v16,v17,v18,v19,v20],[]⟩ ((xy[0]?).bind (·.dst)) (.tuple #[])) (.inRegion xy []::[.code (f9 jy)])) (r0::rest)) W:=by
 have e10:(xy[0]?).bind (·.dst)=some 18:=aO;rw[e10];simp[jy,eJ,f9];walk_nrm
 apply ET.ns;refine ET.val (.slice Bs 4 4) rfl rfl (by k_ne) (λaj agf _=>?_) ?_
 .have hc:=fR ((agf.block _ (.inl mb)).trans cb);refine⟨by go_simp,λe he=>?_⟩;simp[go_sem,hc]at he;subst he;exact ip mb
 walk_nrm
 have hne:xs≠[]:=λe=>by rw[e]at h4;simp at h4
 have hm:=th xs hne;have hSx:∀x∈xs,∀a,x.a=some a->(λb=>b=Bs\/∃x,x∈xs/\∃a,x.a=some a/\a.block=b) a.block:=λx hx a ha=>.inr ⟨x,hx,a,ha,rfl⟩
 have Ti:∀z∈xs,∀v∈z.cells,ar ok (uD (λb=>b=Bs\/∃x,x∈xs/\∃a,x.a=some a/\a.block=b)) v v:=by
  intro z hz v hv;simp[aX.cells]at hv;rcases hv with rfl|rfl|rfl|rfl
  .exact .bool _
  .exact .int _ _
  .exact .int _ _
  cases hza:z.a with
  |none=>exact .dj _ _
  |some a=>exact .slice _ _ ⟨gn.2 ⟨hSx z hz a hza,rfl⟩,rfl,rfl⟩
 refine ET.I6 fd hP jp BF rfl rfl (by k_ne) rfl Tryz.func189 aO rfl eK.1 (λ_ _ _ _=>trivial) (λb hb=>hb) ⟨λb hb=>hb.elim,λb hb=>hb.elim⟩ hM Et (λb=>b=Bs\/∃x,x∈xs/\∃a,x.a=some a/\a.block=b)
  (λdX v w=>v=(J.dB xs).val/\∀b,b<dX.heap.size->w.heap[b]?=(froze (λ_=>False) dX).heap[b]?) (λW v w τ d h=>h) ?_ ?_ ?_ ?_ ?_
 .rintro b (rfl|⟨x,h1,a,ha,rfl⟩)
  .exact .inl mB
  exact .inl ((hx x h1).blk a ha).2.1.1
 .refine λdX eb=>⟨?_⟩
  rintro b (rfl|⟨x,h1,a,ha,rfl⟩)
  .refine⟨_,_,(eb.block _ (.inl mB)).trans cB,λv hv=>?_⟩;simp[List.mem_flatMap]at hv;obtain⟨z,h1,h2⟩:=hv;exact Ti z h1 v h2
  obtain⟨_,h2,cs,e,h3,h4⟩:=(hx x h1).blk a ha;exact aaC
 .intro v hv;simp[Act.eval]at hv;rcases hv with rfl|rfl
  .exact .slice _ _ ⟨gn.2 ⟨.inl rfl,rfl⟩,rfl,rfl⟩
  .exact .func (.func eK.2) rfl (λi x x' h=>by simp at h) rfl (λi x x' h=>by simp at h)
 .intro dX eb _ τ d;walk_nrm
  obtain⟨z',h1,_⟩:=gL ((eb.block _ (.inl mB)).trans cB);have hc:=r_ (re (froze (λ_=>False) dX) τ d) Bs xs z' ab h1 (λx fe=>⟨tv ((hx x fe).keep (λ_ _=>trivial) λa ha=>eb.block _ (.inl ((hx x fe).blk a ha).2.1.1)).row,(hx x fe).small⟩);rw[h4]at hc;apply hc.mono;rintro e w' ⟨rfl,hb⟩;exact⟨_,rfl,rfl,λb dr=>hb.block b (by show b<(froze (λ_=>False) dX).heap.size;rw[jP];exact dr)⟩
 intro dX v' M' W' eb aeB i' hB;have QD:∀x∈xs,lj dX (λb=>M b/\b≠r4/\b≠bb) x:=λx fe=>(hx x fe).keep (λ_ h=>h) λa ha=>eb.block _ (.inl ((hx x fe).blk a ha).2.1.1)
 obtain⟨σ,v,V',hv,⟨rfl,hbe⟩,hw,hS,zN,f_⟩:=hB.res;obtain⟨a',rfl,hn,ha⟩:=A3 hv;have ea:a'=(J.dB xs).a:=by
  cases e:(J.dB xs).a with
  |none=>exact hn.1 e
  |some a=>
   obtain⟨d,h1,h2⟩:=ha a e;have h3:=h2.blk;rw[hS _ (hSx _ hm a e)]at h3;simp[Option.some.injEq]at h3;rw[h1];obtain⟨d1,d2,d3⟩:=d;have h4:=h2.off;have h5:=h2.spot;obtain⟨a1,a2,a3⟩:=a;simp at h3 h4 h5;rw[h3,h4,h5]
 have ev:aX.val {J.dB xs with a:=a'}=(J.dB xs).val:=by rw[ea]
 rw[ev];have same:∀b cs e,M b->σ b=some b->dX.heap[b]?=some (.cells cs e (0,0))->(∀v∈cs,∃n:Int,v=.int .i64 n)->W'.heap[b]?=dX.heap[b]?:=by
  intro b cs e hm hs h3 h4;obtain⟨o,o',g1,g2,g3⟩:=hw.heap _ _ hs;obtain⟨z',f1,_⟩:=gL h3;rw[hbe b (agx (hM b hm) eb.size),f1]at g1;exact acW
 have Lu:∀b,M b->b≠Bs->W'.heap[b]?=dX.heap[b]?:=by
  intro b hb hne;by_cases hs:(λb=>b=Bs\/∃x,x∈xs/\∃a,x.a=some a/\a.block=b) b
  .have pd:=hS b hs;rcases hs with e|⟨x,h1,a,ha,rfl⟩
   .omega
   .obtain⟨_,_,cs,e,h3,h4⟩:=(QD x h1).blk a ha;exact same _ cs e hb pd h3 h4
  .exact hB.rest.block b ⟨hb,hs⟩
 have nx:∀x∈xs,∀a,x.a=some a->a.block≠Bs:=λx h1 a ha e=>by
  obtain⟨_,_,cs,e',h3,h4⟩:=(hx x h1).blk a ha;rw[e,cB]at h3;cases h3;obtain⟨n,hn⟩:=h4 (.bool x.ok) (by simp[List.mem_flatMap];exact⟨x,h1,by simp[aX.cells]⟩);cases hn
 have fe:∀x∈xs,lj W' (λb=>M' b/\b≠r4) x:=λx h1=>(QD x h1).keep (λb hb=>⟨hB.own _ hb.1,hb.2.1⟩) λa ha=>Lu _ ((QD x h1).blk a ha).2.1.1 (nx x h1 a ha)
 have vU:aU (λb=>M b/\b≠r4/\b≠Bs) W W':=⟨λb hb=>(Lu b hb.1 hb.2.2).trans (eb.block b (.inl hb.1)),agz eb.size hB.ro.size,hB.ro.os.trans eb.os,hB.ro.out.trans eb.out⟩;have c4':∃cs:Array Value,W'.heap[r4]?=some (.cells cs 217 (0,0))/\cs.size=4:=by
  obtain⟨cs,g1,g2⟩:=c4;exact⟨cs,(Lu _ m4 n1).trans ((eb.block _ (.inl m4)).trans g1),g2⟩
 have m4':=hB.own _ m4;have bj:=hB.own;walk_nrm
 refine ET.none rfl rfl (by k_ne) λui mj _=>?_
 obtain⟨cs,g1,g2⟩:=c4';have Xm:=(mj.block _ (.inl m4')).trans g1;refine⟨ui.setRow r4 (J.dB xs).cells.toArray,(gd rfl rfl rfl Xm g2).1,?_,?_⟩
 .refine fM.row _ m4' λe he=>?_
  obtain⟨j,rfl⟩:=(gd rfl rfl rfl Xm g2).2 e (mem_listed he);exact ip m4'
 rw[cU (setRow_size _ _ _)];have h6:(ui.setRow r4 (J.dB xs).cells.toArray).heap[r4]?=some (.cells (J.dB xs).cells.toArray 217 (0,0)):=setRow_heap _ _ _ _ _ _ Xm;have ho:∀b,b≠r4->(ui.setRow r4 (J.dB xs).cells.toArray).heap[b]?=ui.heap[b]?:=λb hb=>setRow_other _ _ _ _ hb
 have hx4:∀x∈xs,lj (ui.setRow r4 (J.dB xs).cells.toArray) (λb=>M' b/\b≠r4) x:=λx h1=>(fe x h1).keep (λ_ h=>h) λa ha=>(ho _ ((fe x h1).blk a ha).2.1.2).trans (mj.block _ (.inl ((fe x h1).blk a ha).2.1.1))
 have Ta:=vU.trans ⟨λb hb=>(ho b hb.2.1).trans (mj.block b (.inl (bj b hb.1))),by rw[setRow_size];exact mj.size,mj.os,mj.out⟩;generalize ui.setRow r4 (J.dB xs).cells.toArray=afo at h6 hx4 Ta⊢;walk_nrm
 apply ET.rn;apply ET.rt;refine ET.ES (J.dB xs).val rfl rfl Tryz.func173 (λPc BW _=>?_) (ET.stop λPc BW _=>⟨rfl,bj,Ta.trans (BW.mono λb hb=>.inl (bj b hb.1)),λx h1=>(hx4 x h1).keep (λb hb=>hb.1) λa ha=>BW.block _ (.inl ((hx4 x h1).blk a ha).2.1.1)⟩);have h6':=(BW.block _ (.inl m4')).trans h6;have q0:Pc.cell? r4=some (.bool (J.dB xs).ok):=FP;have q1:Pc.cell? ⟨r4,1,none⟩=some (.int .i64 (J.dB xs).sum):=FP;have q2:Pc.cell? ⟨r4,2,none⟩=some (.int .i64 (J.dB xs).most):=FP;have q3:Pc.cell? ⟨r4,3,none⟩=some (.slice (J.dB xs).a (J.dB xs).n (J.dB xs).cap):=FP;refine⟨by simp[results,go_sem,aX.val,q0,q1,q2,q3],λe he=>?_⟩;simp[results,go_sem,q0,q1,q2,q3]at he;rcases he with rfl|rfl|rfl|rfl<;>exact ip m4'
end
section
variable [Gl]
def Ans (lt:aX->aX->Bool)(Is:Nat->aX->Prop)(nn:Nat)(x:aX):Prop:=
 ∃(J:Jb) (b:List aX) (seq:Nat->List Nat),J.lt=lt/\J.Is=Is/\b.length=4/\(∀i y,b[i]?=some y->yL J (seq i) y)/\(∀k,k<nn->∃i,i<4/\k∈seq i)/\(∀i,i<4->∀k∈seq i,k<nn)/\x=J.dB b
omit [Gl] in
def Ah (J:Jb):∀xs,xs≠[]->J.dB xs∈xs:=by intro xs h;rcases xs with _|⟨x,xs⟩;exact absurd rfl h;simp only[Jb.dB];clear h;induction xs generalizing x with|nil=>simp|cons y f b=>simp only[List.foldl_cons];have:=b<|J.pick x y;rcases J.pk x y with e|e<;>rw[e]at this⊢<;>simp at this⊢<;>rcases this with h|h<;>simp[h]
def MA.mono {f}(h:MA af8 ok M w u ln s nb no nn iF S Is lt)(m:∀b,M b->v b)(j:aU M w f):MA af8 ok v f u ln s nb no nn iF S Is lt:=by have n:∀b,(b=nb\/∃i,S i b)->M b:=λb o=>o.elim (λe=>e▸h.I_) λ⟨i,l⟩=>h.sm i b l;exact⟨m _ h.I_,λi g=>by rw[<-h.iO i g];simp[World.cell?,j.block _ h.I_],λi b l=>m _<|h.sm i b l,λi g aj k=>h.closed i g aj<|(j.mono n).trans k,h.Pg,h.Pi,λi g F aj k τ d=>h.Sw i g F aj ((j.mono n).trans k) τ d,h.ren,h.least,h.Yg⟩
omit [Gl] in
def four {xs:Nat->aX}{cs:Array aE}(hs:cs.size=16)(h:∀i,i<4->∀o,o<4->cs[i*4+o]?=(xs i).cells[o]?):cs=([xs 0,xs 1,xs 2,xs 3].flatMap aX.cells).toArray:=by
 refine Array.ext (by simp[aX.cells,hs]) λj x D=>?_;have N:j<16:=by omega
 have r:=h (j/4) (by omega) (j%4) (by omega);rw[show j/4*4+j%4=j by omega,agD x]at r;have:([xs 0,xs 1,xs 2,xs 3].flatMap aX.cells).toArray[j]?=some cs[j]:=by rw[r];(obtain rfl|rfl|rfl|rfl|rfl|rfl|rfl|rfl|rfl|rfl|rfl|rfl|rfl|rfl|rfl|rfl:j=0\/j=1\/j=2\/j=3\/j=4\/j=5\/j=6\/j=7\/j=8\/j=9\/j=10\/j=11\/j=12\/j=13\/j=14\/j=15:=by omega);all_goals rfl
 grind
def ZA (fd:dV af8 af8 ok)(hP:dV af8 Tryz.prog ok)(jp:∀f,ok.fn f->ok.aP f)(BF:kw af8 c)(hn:nn+4<4611686018427387904) (h:dR Tryz.prog C (λ_=>False) (λ_=>False) M gs (G ((av 173).at ⟨#[aa u ln s,aa (some ⟨nb,no,none⟩) nn nc,ud,ud,ud,ud,ud,ud,ud,ud,ud,ud,ud,ud,ud,ud,ud,ud,ud,ud,ud],[]⟩ [.code eJ])<|r0::rest) w t q) (hf:MA af8 ok M w u ln s nb no nn iF S Is lt)(Et:Gl.n<=w): ∃N kR w' oE t' q' uh M' x,aV Tryz.prog N (crowd gs w sl) t=(.next<|crowd kR w' oE,t')/\dR Tryz.prog uh (λ_=>False) (λ_=>False) M' kR (G (r0.finish x.val) rest) w' t' q'/\EN M w M' w'/\lj w' (λb=>M' b/\w<=b) x/\Ans lt Is nn x:=by
 obtain⟨N1,a1,M1,w1,bt,t1,q1,bl,bn,r4,tb,wg,Bs,bb,v9,v10,e1,e2,e3,U,ho,hm,cl,cn,c4,ct,cw,cb,cB⟩:=VJ h;have aG:=h.H_;obtain⟨J,j1,j2,j3,j4,p,hp,N2,Uu,w2,VT,t2,a2,bv,M2,seq,vs,Mr,M',R,f1,Y,f3⟩:=VE fd hP jp BF hn e3 (hf.mono U.own U.keep) (agz Et U.keep.size) ⟨ho.2.1,ho.2.2.1,ho.2.2.2.1,ho.2.2.2.2.1,ho.2.2.2.2.2.1,ho.2.2.2.2.2.2⟩ hm (by have:=aG _ hf.I_;omega) (λi b hs=>by have:=aG _<|hf.sm i b hs;omega) cl cn ct cw cb cB;obtain⟨bx,⟨⟨u8,u9,Tq,Ts,Tt,Tu,Tv,a4,Tw,a5,Tx,Ty,rfl⟩,SZ⟩,hT⟩:=Y.fin;subst hp;have hX:∀i,∃x:aX,i<4->vs i=x.cells/\yL J (seq i) x/\lj w2 (Mr i) x/\∀b,Mr i b->(w1:Nat)<=b:=λi=>by by_cases O:i<4;obtain⟨x,h1,h2,h3,h4⟩:=Y.res i O;exact⟨x,λ_=>⟨h1,h2,h3,λb hb=>j4▸h4 b hb⟩⟩;exact⟨ff,λx=>absurd x O⟩
 let X:Nat->aX:=λi=>(hX i).choose;have T:∀i,i<4->vs i=(X i).cells/\yL J (seq i) (X i)/\lj w2 (Mr i) (X i)/\∀b,Mr i b->(w1:Nat)<=b:=λi O=>(hX i).choose_spec O;obtain⟨cs,ay,aZ⟩:=Y.bs;have bi:=four aZ λi O o JA=>by rw[<-(T i O).1];exact(Y.slot i O).2 cs ⟨ay,aZ⟩ o JA
 have iV:=SZ.keep.size;have bz:=U.keep.size;have m_:∀b,M1 b->b≠Bs->w2.heap[b]?=w1.heap[b]?:=λb hb bj=>SZ.keep.block b<|f3 b hb bj;let M3:Nat->Prop:=λb=>(M b\/(w:Nat)<=b)/\b<w2/\∀l,fU (·=b) l->¬(ph J wg tb Bs nn a1.size t1.size).Sh C l;obtain⟨q2,hL⟩:=Y.lone (M':=M3) (λl hl=>Loc.low_mono iV<|e3.low l hl) λb hb=>⟨hb.2.1,hb.2.2⟩;have UD:∀b,M1 b->M3 b:=λb hb=>⟨U.new b hb,agx (U.lt b hb) iV,λl hl D=>by rcases D with D|⟨a,rfl,D⟩;exact e3.ly b (ad hb) l hl D;have Iz:=hl;rcases D with D|D;have fe:a.block=wg:=D;exact(e3.vm wg<|ao rfl).1 (by rw[<-fe,Iz];exact hb);have fe:a.block=tb:=D;exact(e3.vm tb<|ad<|ao rfl).1<|by rw[<-fe,Iz];exact hb⟩;have bo:∀i,i<4->∀b,Mr i b->M3 b/\b≠r4/\b≠bb:=λi O b hb=>by have h1:=(T i O).2.2.2 b hb;have h2:=Y.own i O b hb;have h3:=U.lt _ hm.2.2.1;have h4:=U.lt _ hm.2.2.2.2;refine⟨⟨ao ab,h2.1,λl hl D=>?_⟩,ab,ab⟩;rcases D with D|⟨a,rfl,D⟩;exact Y.ly i O b hb l hl D;exact h2.2.2.2 (by rw[<-hl];exact D.elim ad λy=>ao<|ad y)
 have vD:∀x∈[X 0,X 1,X 2,X 3],∃i,i<4/\x=X i:=by intro x D;simp[or_false]at D;rcases D with rfl|rfl|rfl|rfl;exact⟨0,ab,rfl⟩;exact⟨1,ab,rfl⟩;exact⟨2,ab,rfl⟩;exact⟨3,ab,rfl⟩
 have hA:=MF (r0:=r0) (rest:=rest) (M:=M3) (W:=w2) (r4:=r4) (bb:=bb) (Bs:=Bs) (bl:=J.bl) (bn:=J.bn) (tb:=J.tb) (wg:=wg) (t0:=aa u ln s) (t1:=aa (some ⟨nb,no,none⟩) nn nc) (v8:=u8) (v9:=u9) (v10:=Tq) (v12:=Ts) (v13:=Tt) (v14:=Tu) (v15:=Tv) (v16:=a4) (v17:=Tw) (v18:=a5) (v19:=Tx) (v20:=Ty)
  fd hP jp BF hf.Yg.2 (λV b xs z h1 h2 h3=>by rw[xp J ⟨0,0,0,0,0,0,0,.nilFunc,iF,S,Is,lt,0⟩ j1];exact hf.least V b xs z h1 h2 h3) (Ah J) rfl (λb hb=>hb.2.1) ab (UD _ hm.2.2.1) (UD _ hm.2.2.2.2) (UD _ hm.2.2.2.1) ab ab ab
  ⟨_,(m_ _ hm.2.2.1 ab).trans c4,rfl⟩ ((m_ _ hm.2.2.2.2 ab).trans cb) (by rw[<-bi];exact ay)
  (λx D=>by obtain⟨i,O,rfl⟩:=vD x D;exact(T i O).2.2.1.keep (bo i O) λ_ _=>rfl)
 rw[<-j3]at hA;obtain⟨r,hr⟩:=hT _ _ _ _ _ hA;obtain⟨N3,bp,M4,a3,w3,bq,t3,q3,i1,i2,i3,i4,i5,i6,i7,i8⟩:=jW (λ_=>trivial) r _ Uu M3 _ w2 VT t2 q2 (agw _) hL hr;obtain⟨rfl,g1,g2,g3⟩:=i3 w3 (aU.refl _ _) trivial;have th:=Ah J [X 0,X 1,X 2,X 3] aN;obtain⟨i,O,br⟩:=vD _ th;have Z:=g3 _ th;refine⟨N1+(N2+N3),bp,w3,bq,t3,q3,_,M4,J.dB [X 0,X 1,X 2,X 3],runNT_add (runNT_add i1 _ _ _ f1) _ _ _ e1,i4,⟨λb hb=>g1 b<|UD b<|U.own b hb,?_,i4.H_,λb hb=>(i7 b hb).elim (λx=>x.1) λx=>ao ab⟩,⟨Z.row,Z.small,λa ha=>?_,Z.full⟩,J,_,seq,j1,j2,rfl,?_,Y.all,Y.aeS,rfl⟩;refine U.keep.trans ⟨λb hb=>?_,ab,g2.os.trans SZ.keep.os,g2.out.trans SZ.keep.out⟩;have dr:=aG b hb;rw[g2.block b ⟨UD b<|U.own b hb,ab,ab⟩,m_ b (U.own b hb) ab];obtain⟨h1,h2,h3⟩:=Z.blk a ha;refine⟨h1,⟨h2,?_⟩,h3⟩;rw[br]at ha;have:=(T i O).2.2.2 _ ((T i O).2.2.1.blk a ha).2.1;omega;intro i y hy;have O:i<4:=by have:=(agF.1 hy).1;simpa using this
 have:y=X i:=by obtain rfl|rfl|rfl|rfl:i=0\/i=1\/i=2\/i=3:=ab;all_goals(simp at hy;exact hy.symm)
 rw[this];exact(T i O).2.1
end
