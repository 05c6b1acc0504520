import Derived.Test.YtjoalkgmgmmedaaGreatDoorj18
set_option linter.defProp false
set_option linter.unusedSimpArgs false
set_option linter.unusedVariables false
set_option maxHeartbeats 4000000
set_option maxRecDepth 100000
open Go renaming heap_alloc_new->av,World->aB,Value->a0,undef->a6,execOp->bk,runNT->bm,Program->br,Goroutine->bt,Trace->bz,setRow_heap->bA,setRow_size->bB
open Go.Conc renaming base->aL,aside_setCell->a7,mem_listed->bp,listed->bv,stepG_block->bE
open Go.RowKit.Below renaming heap_alloc->ao,heap_setCell->aV
open Go.Value renaming pointer->aa,slice->ac,int->aI,bool->bo
open Go.World renaming frozen?->aE
open Option renaming getD_some->ax,or_some->a8,or_none->a9,none_or->be
open Or renaming inl->ad,inr->au
namespace Go.Proofs.YtjoalkgmgmmedaaGreatDoor
open Conc Conc.Lib ConcR.Gen RowKit
variable {gs:Array bt}{ok:Ctx}{c r0:Frame}{a:bt}{J:Jb}{rb rest:List Frame}{D:Loc->Prop}{bb bl bn u ln nb nc s no r4 tb wg:Nat}{q:Nat->Nat}{S:Nat->Nat->Prop}{M V y:Nat->Prop}{iB:Nat->a0}{Is:Nat->aX->Prop}{sl:Option (Nat×Nat)}{v A:Option Addr}{P afn:br}{t:bz}{t0 t1 v10 v9:a0}{W ai w:aB}{lt:aX->aX->Bool}
def KG {b:Nat}{v u e}(h:w.heap[b]?=some (.cells #[v] e (0,0))):(w.setCell b u).heap[b]?=some (.cells #[u] e (0,0)):=by
 rw[setCell_eq_setRow w b 0 _ _ _ u h,bA _ _ _ _ _ _ h];rfl
noncomputable def eD:Code:=Tryz.f166.body.getD .skip
noncomputable def me:Code:=(kN eD).getD .skip
def fW:Code->Code
 |.seq _ b=>b
 |c=>c
noncomputable def jp:Code:=fW<|fW<|fW<|fW<|fW eD
noncomputable def wU:Array Oper:=(nW 10 eD).getD #[]
noncomputable def afm:Array Oper:=(nW 8 eD).getD #[]
section
variable [Gl]{p:Ph}{M' B:Nat->Prop}{C:aB}{cs:List Frame}
structure BT (J afn p ok)(M' B:Nat->Prop)(C)(Ro M:Nat->Prop)(W):Prop where
 job:pE J afn p ok Ro W
 sub:∀b,M' b\/B b->M b\/Ro b
 keep:aU (λb=>M' b\/B b) C W
 sp:∀b,p.Sp b->¬M b/\¬Ro b/\b<W
 lt:∀b,M b\/Ro b->b<W
 mr:∀b,M b->¬Ro b
 gl:Gl.n<=W
 wb:p.Wg≠p.Bs
section
variable {Ro:Nat->Prop}
def BT.rely (h:BT J afn p ok M' B C Ro M W)(k:aU (λb=>M b\/Ro b) W ai):BT J afn p ok M' B C Ro M ai:=
 ⟨h.job.mono (λ_ h=>h)<|k.mono λ_ x=>au x,h.sub,h.keep.trans<|k.mono h.sub,λb f=>⟨(h.sp b f).1,(h.sp b f).2.1,afL (h.sp b f).2.2 k.size⟩,λb f=>afL (h.lt b f) k.size,h.mr,afN h.gl k.size,h.wb⟩
def BT.alloc (h:BT J afn p ok M' B C Ro M W)(o):BT J afn p ok M' B C Ro (grow M W<|W.alloc o) (W.alloc o):=by
 have z:(W.alloc o).heap.size=W.heap.size+1:=by show(W.heap.push o).size=_;simp
 have f:∀b,b<W.heap.size->(W.alloc o).heap[b]?=W.heap[b]?:=λb f=>ao _ _ _ f
 have hk:aU (λb=>M b\/Ro b) W (W.alloc o):=⟨λb x=>f b<|h.lt b x,ab,rfl,rfl⟩;refine⟨h.job.mono (λ_ h=>h)<|hk.mono λ_ x=>au x,λb x=>(h.sub b x).imp ad id,h.keep.trans<|hk.mono h.sub,λb x=>?_,λb x=>?_,λb x=>?_,by rw[z];have:=h.gl;omega,h.wb⟩
 .let⟨g,j,l⟩:=h.sp b x;exact⟨λy=>y.elim g λy=>ab,j,ab⟩
 .rw[z];rcases x with(x|⟨_,x⟩)|x
  .have:=h.lt b<|ad x;omega
  .omega
  have:=h.lt b<|au x;omega
 rcases x with x|⟨x,_⟩
 .exact h.mr b x
 exact λy=>by have:=h.lt b<|au y;omega
def BT.set (h:BT J afn p ok M' B C Ro M W){a} v (g:¬(M' a.block\/B a.block))(j:¬Ro a.block):BT J afn p ok M' B C Ro M (W.setCell a v):=by
 have z:=(a7 W a v).size;have f:∀b,b≠a.block->(W.setCell a v).heap[b]?=W.heap[b]?:=λb f=>aV _ _ _ _ f
 exact⟨h.job.mono (λ_ h=>h)<|⟨λb x=>f b λe=>j<|e▸x,ab,rfl,rfl⟩,h.sub,h.keep.trans ⟨λb x=>f b λe=>g<|e▸x,ab,rfl,rfl⟩,λb x=>by rw[z];exact h.sp b x,λb x=>by rw[z];exact h.lt b x,h.mr,by rw[z];exact h.gl,h.wb⟩
def BT.go (h:BT J afn p ok M' B C Ro M W){f}(r:M f):BT J afn p ok M' B C (λb=>Ro b\/b=f) (λb=>M b/\¬(Ro b\/b=f)) W:=by
 refine⟨h.job.mono (λ_ h=>ad h)<|aU.refl _ _,λb x=>?_,h.keep,λb x=>?_,λb x=>?_,λb x=>x.2,h.gl,h.wb⟩
 .rcases h.sub b x with y|y;all_goals grind
 .let⟨z,N,O⟩:=h.sp b x;grind
 rcases x with x|x|rfl
 .exact h.lt b (ad x.1)
 .exact h.lt b (au x)
 exact h.lt _<|ad r
end
def F24 (J:Jb)(afn:br)(p:Ph)(ok:Ctx)(M' B:Nat->Prop)(C:aB)(r4:Nat)(t0 t1:a0)(a:Act)(Ro M:Nat->Prop)(W:aB):Prop:=
 (∃n v9 v10 b f g h i j k l m,a=⟨#[t0,t1,aa J.bl,aa J.bn,aa r4,aa J.tb,aa p.Wg,aa J.bb,n,v9,v10,(4:Int),b,f,g,h,i,j,k,l,m],[]⟩)/\BT J afn p ok M' B C Ro M W
omit [Gl] in
def Nt (Anch:(Nat->Prop)->(Nat->Prop)->bt->aB->Prop) r (Ro:Nat->Prop):∃Stop,∀M g W,p.Spawns Anch r Ro M g W=ET p.P true p.I p.dM Ro Stop M g W:=by
 cases r<;>exact⟨_,λ_ _ _=>rfl⟩
def Re (eV:dQ afn afn ok)(hP:dQ afn Tryz.prog ok)(jq:∀f,ok.fn f->ok.aN f)(A2:j9 afn c)(hL:p.L<4611686018427387904)(R:p.P=Tryz.prog)(a1:p.n=4) r:
  ∀(j:Nat) (v8 v9 v10 v13 v14 v15 v16 v17 v18 v19 v20:a0) (Ro M:Nat->Prop) (W:aB),j+r=4->BT J afn p ok M' B C Ro M W->
   p.Spawns (p.AnW link (F24 J afn p ok M' B C r4 t0 t1) (aL 166) wU 0 [] [.code (fW jp)] cs) r Ro M (G ((aL 166).at ⟨#[t0,t1,aa J.bl,aa J.bn,aa r4,aa J.tb,aa p.Wg,aa J.bb,v8,v9,v10,(4:Int),aI .i64 j,v13,v14,v15,v16,v17,v18,v19,v20],[]⟩ [.code me,.inLoop me,.inBlock 0,.code jp]) cs) W:=by
 obtain⟨Y,Wn⟩:∃Y,Y=p.AnW link (F24 J afn p ok M' B C r4 t0 t1) (aL 166) wU 0 [] [.code (fW jp)] cs:=⟨_,rfl⟩;rw[<-Wn];induction r with
 |zero=>
  intro j v8 v9 v10 v13 v14 v15 v16 v17 v18 v19 v20 Ro M W hj hb;obtain rfl:j=4:=ab;show ET p.P true p.I p.dM Ro (p.AtKd Y Ro) M _ W;simp[me,jp,eD,Tryz.f166,ax,kN,fW,a8,a9,be];rw[R];apply ET.sr;refine ET.z ?_;apply ET.rn;apply ET.sq;refine ET.ip rfl ?_;refine ET.c (λ_=>stepG_exit rfl) ?_;apply ET.sr;refine ET.k rfl λ_ _ _=>goes_call rfl rfl (by k_ne) rfl Dq.f_wait (nm_wait link) rfl ⟨⟨rfl,λe he=>jc⟩,?_⟩;walk_nrmf waitFn
  have hA:=Ph.waitStart (L:=link) (F:=F24 J afn p ok M' B C r4 t0 t1) (afq:=aL 166) (ops0:=wU) (afs:=0) (rest0:=[]) (aft:=[.code (fW jp)]) (cs:=cs) (Ro:=Ro) (M:=M) (afz:=W) (afo:=⟨#[t0,t1,aa J.bl,aa J.bn,aa r4,aa J.tb,aa p.Wg,aa J.bb,v8,v9,v10,(4:Int),(4:Int),false,v14,v15,v16,v17,v18,v19,v20],[]⟩) (R▸Dq) λw k=>⟨⟨v8,v9,v10,_,_,v14,v15,v16,v17,v18,v19,v20,rfl⟩,hb.rely k⟩;rw[<-Wn,R]at hA;simp only[body_wait,waitFn,ax]at hA;exact hA
 |succ r ih=>
  intro j v8 v9 v10 v13 v14 v15 v16 v17 v18 v19 v20 Ro M W hj hb;show ET p.P true p.I p.dM Ro (p.AtKdS Ro (p.n-(r+1))<|p.Spawns Y r) M _ W;have ej:p.n-(r+1)=j:=ab;rw[ej];have aF:(j:Int)<4:=ab;have hd:=decide_eq_true aF;simp only[me,jp,eD,Tryz.f166,ax,kN,fW,a8,a9,be];rw[R];apply ET.sr;refine ET.z ?_;apply ET.rn;apply ET.sq;refine ET.lR rfl ?_;apply ET.sk;apply ET.sq;refine ET.c (λ_=>bE) ?_;apply ET.sr;refine ET.z ?_;refine ET.oper rfl rfl (by k_ne) λai ay _=>⟨aa<|some ⟨ai.heap.size,0,none⟩,ai.alloc<|.cells #[(0:Int)] 3,?_,?_,?_⟩
  .go_simp
  .exact RI
  walk_nrm
  have PB:=hb.rely ay;have z0:(ai.alloc<|.cells #[(0:Int)] 3).heap.size=ai.heap.size+1:=by show(ai.heap.push _).size=_;simp
  have N:grow M ai (ai.alloc<|.cells #[(0:Int)] 3) ai.heap.size:=au ⟨afK _,ab⟩;have KO:=PB.alloc<|.cells #[(0:Int)] 3;have D6:¬(M' ai.heap.size\/B ai.heap.size):=λe=>by have:=PB.lt _<|PB.sub _ e;omega
  have U:(ai.alloc<|.cells #[(0:Int)] 3).heap[ai.heap.size]?=some (.cells #[(0:Int)] 3 (0,0)):=av _ _;generalize ai.alloc (.cells #[(0:Int)] 3)=dN at KO N U z0⊢;generalize grow M ai dN=sG at KO N⊢;generalize ai.heap.size=bi at N D6 U z0⊢;refine ET.none rfl rfl (by k_ne) λZ d8 _=>⟨Z.setCell ⟨bi,0,none⟩<|aI .i64 j,?_,?_,?_⟩
  .have hc:=fM<|(d8.block _<|ad N).trans U;have hz:Z.frozen? bi=false:=by simp[aE,(d8.block _<|ad N).trans U]
   go_simp
  .have hz:Z.frozen? bi=false:=by simp[aE,(d8.block _<|ad N).trans U]
   refine fH.set _ N λe he=>?_
   have hm:=bp he;simp[go_sem,(fM<|(d8.block _<|ad N).trans U),hz]at hm;subst hm;exact il N
  rw[cR (a7 Z ⟨bi,0,none⟩<|aI .i64 j).size];have O:=(KO.rely d8).set (a:=⟨bi,0,none⟩) (aI .i64 j) D6<|KO.mr _ N;have Cw:(Z.setCell ⟨bi,0,none⟩<|aI .i64 j).heap[bi]?=some (.cells #[aI .i64 j] 3 (0,0)):=KG<|(d8.block _<|ad N).trans U;generalize Z.setCell ⟨bi,0,none⟩ (aI .i64 j)=tV at O Cw⊢;walk_nrm
  apply ET.ns;refine ET.k rfl λ_ _ _=>goes_call rfl rfl (by k_ne) rfl Dq.f_add (nm_add link) rfl ⟨⟨rfl,λe he=>jc⟩,?_⟩;walk_nrmf addFn
  have hA:=@Ph.addPos p sG Ro link j<|p.Spawns Y r;simp only[body_add,addFn,ax,R]at hA;refine hA Dq (λe=>e.elim (O.sp _<|ad rfl).1 (O.sp _<|ad rfl).2.1) λw k=>?_;replace O:=O.rely k;replace Cw:=(k.block _<|ad N).trans Cw;clear k;walk_nrm
  apply ET.rn;apply ET.rg;refine ET.val (.func (.func 178) #[] #[aa p.Wg,aa J.bl,aa J.bn,aa J.tb,aa J.bb,aa bi]) rfl rfl (by k_ne) (λR6 _ _=>⟨?_,λe he=>?_⟩) ?_
  .go_simp
   rfl
  .simp[go_sem]at he;change e∈#[]at he;grind
  walk_nrm
  refine ET.stop λR6 Eo a2=>?_
  replace O:=O.rely Eo;replace Cw:=(Eo.block _<|ad N).trans Cw;clear Eo;refine⟨rfl,?gx,born Tryz.prog<|call47 J p.Wg bi,λb=>Ro b\/b=bi,?_,rfl,λb hb=>ad hb,λb hb=>hb.elim ad λe=>au<|e▸N,?_,?_⟩;rotate_left 1
  .rw[R,stepG_spawn (d:=call47 J p.Wg bi) (w':=R6) (f:=.func 178) rfl rfl (by k_ne) (by simp[go_sem,call47,Deferred.ofValue]) rfl];generalize hL:bv _ _ _ _ _=Lx;have aZ:Lx=#[]:=by
    rw[<-hL];simp[bv,go_sem,seen,Deferred.ofValue];rfl
   subst aZ;rfl
  .have T:=O.go N;exact X9 T.job eV hP jq A2 hL ab (au rfl) Cw T.wb (λb hb=>(T.sp b hb).2.1) (λb hb=>hb.elim (λx=>(T.sp b x).2.2) λx=>T.lt b<|au x) T.gl
  have T:=O.go N;obtain⟨Stop,hS⟩:=Nt Y r λb=>Ro b\/b=bi;have H5:IntKind.i64.wrap ((j:Int)+1)=((j+1:Nat):Int):=kw;rw[hS,R];walk_nrm
  apply ET.rn;refine ET.c (λ_=>stepG_inBlock) ?_;apply ET.rg;refine ET.z ?_;refine ET.z ?_;apply ET.rn;refine ET.c (λ_=>stepG_inLoop) ?_;have hI:=ih (j+1) (aa<|some ⟨bi,0,none⟩) v9 v10 (bo true) (aI .i64 j) (.tuple #[]) (.func (.func 178) #[] #[aa<|some ⟨p.Wg,0,none⟩,aa<|some ⟨J.bl,0,none⟩,aa<|some ⟨J.bn,0,none⟩,aa<|some ⟨J.tb,0,none⟩,aa<|some ⟨J.bb,0,none⟩,aa<|some ⟨bi,0,none⟩]) (aI .i64 ((j+1:Nat):Int)) v18 v19 v20 _ _ R6 ab T;rw[hS,R]at hI;exact hI
end
noncomputable def CL:Array Oper:=(nW 1 eD).getD #[]
noncomputable def CM:Array Oper:=(nW 2 eD).getD #[]
structure EN (d:Nat->Prop)(e)(M:Nat->Prop)(W):Prop where
 own:∀b,d b->M b
 keep:aU d e W
 lt:∀b,M b->b<W
 new:∀b,M b->d b\/e<=b
section
variable {d:Nat->Prop}{e:aB}
def EN.rely (h:EN d e M W)(k:aU (λb=>M b\/False) W ai):EN d e M ai:=⟨h.own,h.keep.trans<|k.mono λb f=>ad<|h.own b f,λb f=>afL (h.lt b f) k.size,h.new⟩
def EN.alloc (h:EN d e M W)(o):EN d e (grow M W<|W.alloc o) (W.alloc o):=by
 have z:(W.alloc o).heap.size=W.heap.size+1:=by show(W.heap.push o).size=_;simp
 refine⟨λb f=>ad<|h.own b f,h.keep.trans ⟨λb f=>ao _ _ _<|h.lt b<|h.own b f,ab,rfl,rfl⟩,λb f=>f.elim (λx=>by rw[z];have:=h.lt b x;omega) And.right,λb f=>f.elim (h.new b) λx=>au<|afN h.keep.size x.1⟩
end
def YM (hM:∀b,M b->b<W):
  ET Tryz.prog true (λ_=>True) Ph.oq (λ_=>False) (λM' g W'=>∃bl bn r4,g=G ((aL 166).at ⟨#[ac v ln u,ac A s nc,aa<|some ⟨bl,0,none⟩,aa<|some ⟨bn,0,none⟩,aa<|some ⟨r4,0,none⟩,ud,ud,ud,ud,ud,ud,ud,ud,ud,ud,ud,ud,ud,ud,ud,ud],[]⟩ [.inRegion CL [0],.code (fW<|fW eD)]) rb/\EN M W M' W'/\(W<=bl/\bl<bn/\bn<r4)/\M' bl/\M' bn/\M' r4/\
    W'.heap[bl]?=some (.cells #[ac v ln u] 26 (0,0))/\W'.heap[bn]?=some (.cells #[ac A s nc] 210 (0,0))/\W'.heap[r4]?=some (.cells eY.cells.toArray 208 (0,0)))
   M (G ((aL 166).at ⟨#[ac v ln u,ac A s nc,ud,ud,ud,ud,ud,ud,ud,ud,ud,ud,ud,ud,ud,ud,ud,ud,ud,ud,ud],[]⟩ [.code eD]) rb) W:=by
 have z0:∀(w:aB) (o:Obj),(w.alloc o).heap.size=w.heap.size+1:=λw o=>by show(w.heap.push o).size=_;simp
 have hE:EN M W M W:=⟨λ_ h=>h,aU.refl _ _,hM,λ_ h=>ad h⟩;apply ET.sr;refine ET.oper rfl rfl (by k_ne) λai r _=>⟨aa<|some ⟨ai.heap.size,0,none⟩,ai.alloc<|.cells #[ac v ln u] 26,?_,?_,?_⟩
 .go_simp
 .exact RI
 walk_nrm
 have O:=(hE.rely r).alloc<|.cells #[ac v ln u] 26;have x:grow M ai (ai.alloc<|.cells #[ac v ln u] 26) ai.heap.size:=au ⟨afK _,cO⟩;have Q:(ai.alloc<|.cells #[ac v ln u] 26).heap[ai.heap.size]?=some (.cells #[ac v ln u] 26 (0,0)):=av _ _;have s1:=r.size;have y1:=z0 ai<|.cells #[ac v ln u] 26;generalize ai.alloc (.cells #[ac v ln u] 26)=OB at O x Q y1⊢;generalize grow M ai OB=y at O x⊢;generalize ai.heap.size=bl at x Q s1 y1⊢;refine ET.oper rfl rfl (by k_ne) λj l _=>⟨aa<|some ⟨j.heap.size,0,none⟩,j.alloc<|.cells #[ac A s nc] 210,?_,?_,?_⟩
 .go_simp
 .exact RI
 walk_nrm
 have R:=(O.rely l).alloc<|.cells #[ac A s nc] 210;have z:grow y j (j.alloc<|.cells #[ac A s nc] 210) j.heap.size:=au ⟨afK _,cO⟩;have s2:=l.size;have y2:=z0 j<|.cells #[ac A s nc] 210;have T:(j.alloc<|.cells #[ac A s nc] 210).heap[j.heap.size]?=some (.cells #[ac A s nc] 210 (0,0)):=av _ _;have Sb:(j.alloc<|.cells #[ac A s nc] 210).heap[bl]?=some (.cells #[ac v ln u] 26 (0,0)):=(ao _ _ _ ab).trans<|(l.block _<|ad x).trans Q;have E:grow y j (j.alloc<|.cells #[ac A s nc] 210) bl:=ad x;generalize j.alloc (.cells #[ac A s nc] 210)=SX at R z T Sb E y2⊢;generalize grow y j SX=U at R z E⊢;generalize j.heap.size=bn at z T s2 y2⊢;refine ET.oper rfl rfl (by k_ne) λf F _=>⟨aa<|some ⟨f.heap.size,0,none⟩,f.alloc<|.cells #[false,(0:Int),(0:Int),()] 208,?_,?_,?_⟩
 .go_simp
 .exact RI
 walk_nrm
 have h3:=(R.rely F).alloc<|.cells #[false,(0:Int),(0:Int),()] 208;have L:grow U f (f.alloc<|.cells #[false,(0:Int),(0:Int),()] 208) f.heap.size:=au ⟨afK _,cO⟩;have s3:=F.size;have Y:(f.alloc<|.cells #[false,(0:Int),(0:Int),()] 208).heap[f.heap.size]?=some (.cells eY.cells.toArray 208 (0,0)):=av _ _;have U':(f.alloc<|.cells #[false,(0:Int),(0:Int),()] 208).heap[bn]?=some (.cells #[ac A s nc] 210 (0,0)):=(ao _ _ _ ab).trans<|(F.block _<|ad z).trans T;have OS:(f.alloc<|.cells #[false,(0:Int),(0:Int),()] 208).heap[bl]?=some (.cells #[ac v ln u] 26 (0,0)):=(ao _ _ _ ab).trans<|(F.block _<|ad E).trans Sb;have Z:grow U f (f.alloc<|.cells #[false,(0:Int),(0:Int),()] 208) bl:=ad E;have n:grow U f (f.alloc<|.cells #[false,(0:Int),(0:Int),()] 208) bn:=ad z;generalize f.alloc (.cells #[bo false,(0:Int),(0:Int),ac none 0 0] 208)=ay at h3 L Y U' OS Z n⊢;generalize f.heap.size=r4 at L Y s3⊢;apply ET.ns;refine ET.stop λtV N _=>⟨bl,bn,r4,rfl,h3.rely N,⟨ab,ab,ab⟩,Z,n,L,(N.block _<|ad Z).trans OS,(N.block _<|ad n).trans U',(N.block _<|ad L).trans Y⟩
def Vx (w):stepG Tryz.prog true (G ((aL 166).at ⟨#[ac v ln u,ac A s nc,aa bl,aa bn,aa r4,ud,ud,ud,ud,ud,ud,ud,ud,ud,ud,ud,ud,ud,ud,ud,ud],[]⟩ [.inRegion CL [0],.code (fW<|fW eD)]) rb) w=
  .go (G ((aL 166).at ⟨#[ac v ln u,ac A s nc,aa bl,aa bn,aa r4,aa w,ud,ud,ud,ud,ud,ud,ud,ud,ud,ud,ud,ud,ud,ud,ud],[]⟩ [.inRegion CL [],.code (fW<|fW eD)]) rb) (w.alloc<|.cells #[(0:Int)] 235) #[]:=by
 obtain⟨o,ho,r,x,hg⟩:∃o,CL[0]?=some o/\o.op=.alloc 235/\o.dst=some 5/\o.guard=none:=⟨_,rfl,rfl,rfl,rfl⟩;have N:∀f,(bk f o).run Tryz.prog w=.ok (.value<|aa w.heap.size) (w.alloc<|.cells #[(0:Int)] 235):=λf=>by
  unfold bk;go_simp
 have he:∀f,(bk f o).events Tryz.prog w #[]=#[]:=λf=>by
  unfold bk;simp[r];simp[go_sem]
 rw[stepG_value ho lQ (by k_ne) (N _)];unfold bv;rw[he,seen_none,x];walk_nrm
def Vy (w:aB):stepG Tryz.prog true (G ((aL 166).at ⟨#[ac v ln u,ac A s nc,aa bl,aa bn,aa r4,aa tb,ud,ud,ud,ud,ud,ud,ud,ud,ud,ud,ud,ud,ud,ud,ud],[]⟩ [.inRegion CM [0],.code (fW<|fW<|fW eD)]) rb) w=
  .go (G ((aL 166).at ⟨#[ac v ln u,ac A s nc,aa bl,aa bn,aa r4,aa tb,aa w,ud,ud,ud,ud,ud,ud,ud,ud,ud,ud,ud,ud,ud,ud],[]⟩ [.inRegion CM [],.code (fW<|fW<|fW eD)]) rb) (w.alloc<|.cells #[aI .u64 0,aI .u32 0] 240) #[]:=by
 obtain⟨o,ho,r,x,hg⟩:∃o,CM[0]?=some o/\o.op=.alloc 240/\o.dst=some 6/\o.guard=none:=⟨_,rfl,rfl,rfl,rfl⟩;have N:∀f,(bk f o).run Tryz.prog w=.ok (.value<|aa w.heap.size) (w.alloc<|.cells #[aI .u64 0,aI .u32 0] 240):=λf=>by
  unfold bk;go_simp
 have he:∀f,(bk f o).events Tryz.prog w #[]=#[]:=λf=>by
  unfold bk;simp[r];simp[go_sem]
 rw[stepG_value ho lQ (by k_ne) (N _)];unfold bv;rw[he,seen_none,x];walk_nrm
def YN:ET Tryz.prog true (λ_=>True) Ph.oq (λ_=>False) (λM' g W'=>M'=M/\aU M W W'/\g=G ((aL 166).at ⟨#[ac v ln u,ac A s nc,aa bl,aa bn,aa r4,aa tb,ud,ud,ud,ud,ud,ud,ud,ud,ud,ud,ud,ud,ud,ud,ud],[]⟩ [.inRegion CM [0],.code (fW<|fW<|fW eD)]) rb)
  M (G ((aL 166).at ⟨#[ac v ln u,ac A s nc,aa bl,aa bn,aa r4,aa tb,ud,ud,ud,ud,ud,ud,ud,ud,ud,ud,ud,ud,ud,ud,ud],[]⟩ [.inRegion CL [],.code (fW<|fW eD)]) rb) W:=by
 apply ET.ns;exact ET.stop λai f _=>⟨rfl,f.mono λb h=>ad h,rfl⟩
def Ya (w:aB):(Instr.makeSlice 241 (aI .i64 4)<|aI .i64 4).run Tryz.prog w=.ok (ac w 4 4) (w.alloc<|.cells #[false,(0:Int),(0:Int),(),false,(0:Int),(0:Int),(),false,(0:Int),(0:Int),(),false,(0:Int),(0:Int),()] 208):=aO
def aat (w:aB)(es:Array Event):(Instr.makeSlice 241 (aI .i64 4)<|aI .i64 4).events Tryz.prog w es=es:=aO
def YO (hM:∀b,M b->b<W):
  ET Tryz.prog true (λ_=>True) Ph.oq (λ_=>False) (λM' g W'=>∃(Bs bb:Nat) (v9 v10:a0),g=G ((aL 166).at ⟨#[ac v ln u,ac A s nc,aa bl,aa bn,aa r4,aa tb,aa wg,aa bb,a6,v9,v10,(4:Int),(0:Int),ud,ud,ud,ud,ud,ud,ud,ud],[]⟩ [.code me,.inLoop me,.inBlock 0,.code jp]) rb/\EN M W M' W'/\(W<=Bs/\Bs<bb)/\M' Bs/\M' bb/\
    W'.heap[bb]?=some (.cells #[ac Bs 4 4] 241 (0,0))/\∃cs,W'.heap[Bs]?=some (.cells cs 208 (0,0))/\cs.size=16)
   M (G ((aL 166).at ⟨#[ac v ln u,ac A s nc,aa bl,aa bn,aa r4,aa tb,aa wg,ud,ud,ud,ud,ud,ud,ud,ud,ud,ud,ud,ud,ud,ud],[]⟩ [.inRegion CM [],.code (fW<|fW<|fW eD)]) rb) W:=by
 have z0:∀(w:aB) (o:Obj),(w.alloc o).heap.size=w.heap.size+1:=λw o=>by show(w.heap.push o).size=_;simp
 have hE:EN M W M W:=⟨λ_ h=>h,aU.refl _ _,hM,λ_ h=>ad h⟩;simp only[me,jp,eD,Tryz.f166,ax,kN,fW,a8,a9,be];apply ET.ns;refine ET.oper rfl rfl (by k_ne) λai T _=>⟨ac (some ⟨ai.heap.size,0,none⟩) 4 4,ai.alloc<|.cells #[false,(0:Int),(0:Int),(),false,(0:Int),(0:Int),(),false,(0:Int),(0:Int),(),false,(0:Int),(0:Int),()] 208,?_,?_,?_⟩
 .go_simp
  rw[Ya];rfl
 .refine fH.alloc _ λe he=>?_
  have hm:=bp he;simp[go_sem]at hm;rw[aat]at hm;simp at hm
 walk_nrm
 have U:=(hE.rely T).alloc<|.cells #[false,(0:Int),(0:Int),(),false,(0:Int),(0:Int),(),false,(0:Int),(0:Int),(),false,(0:Int),(0:Int),()] 208;have Y:grow M ai (ai.alloc<|.cells #[false,(0:Int),(0:Int),(),false,(0:Int),(0:Int),(),false,(0:Int),(0:Int),(),false,(0:Int),(0:Int),()] 208) ai.heap.size:=au ⟨afK _,by rw[z0];omega⟩;have c1:∃cs:Array a0,(ai.alloc<|.cells #[false,(0:Int),(0:Int),(),false,(0:Int),(0:Int),(),false,(0:Int),(0:Int),(),false,(0:Int),(0:Int),()] 208).heap[ai.heap.size]?=some (.cells cs 208 (0,0))/\cs.size=16:=⟨_,av _ _,rfl⟩;have s1:=T.size;have y1:=z0 ai<|.cells #[false,(0:Int),(0:Int),(),false,(0:Int),(0:Int),(),false,(0:Int),(0:Int),(),false,(0:Int),(0:Int),()] 208;generalize ai.alloc (.cells #[bo false,(0:Int),(0:Int),ac none 0 0,bo false,(0:Int),(0:Int),ac none 0 0,bo false,(0:Int),(0:Int),ac none 0 0,bo false,(0:Int),(0:Int),ac none 0 0] 208)=OB at U Y c1 y1⊢;generalize grow M ai OB=y at U Y⊢;generalize ai.heap.size=Bs at Y c1 s1 y1⊢;refine ET.oper rfl rfl (by k_ne) λf x _=>⟨aa<|some ⟨f.heap.size,0,none⟩,f.alloc<|.cells #[()] 241,?_,?_,?_⟩
 .go_simp
 .exact RI
 walk_nrm
 have h2:=(U.rely x).alloc<|.cells #[()] 241;have r:grow y f (f.alloc<|.cells #[()] 241) f.heap.size:=au ⟨afK _,by rw[z0];omega⟩;have s2:=x.size;have y2:=z0 f<|.cells #[()] 241;have O:(f.alloc<|.cells #[()] 241).heap[f.heap.size]?=some (.cells #[()] 241 (0,0)):=av _ _;have Sb:∃cs:Array a0,(f.alloc<|.cells #[()] 241).heap[Bs]?=some (.cells cs 208 (0,0))/\cs.size=16:=by
  let⟨cs,Z,g2⟩:=c1;exact⟨cs,(ao _ _ _ ab).trans<|(x.block _<|ad Y).trans Z,g2⟩
 have SB:grow y f (f.alloc<|.cells #[()] 241) Bs:=ad Y;have ay:¬M f.heap.size:=λe=>by have:=(U.rely x).lt _<|(U.rely x).own _ e;omega
 generalize f.alloc (.cells #[ac none 0 0] 241)=SX at h2 r O Sb SB y2⊢;generalize grow y f SX=sG at h2 r SB⊢;generalize f.heap.size=bb at r O s2 y2 ay⊢;refine ET.none rfl rfl (by k_ne) λN R _=>⟨N.setCell bb<|ac Bs 4 4,?_,?_,?_⟩
 .have hc:=fM<|(R.block _<|ad r).trans O;have hz:N.frozen? bb=false:=by simp[aE,(R.block _<|ad r).trans O]
  go_simp
 .have hc:=fM<|(R.block _<|ad r).trans O;have hz:N.frozen? bb=false:=by simp[aE,(R.block _<|ad r).trans O]
  refine fH.set _ r λe he=>?_
  have hm:=bp he;simp[go_sem,hc,hz]at hm;rw[events_store _ _ _ _ _ _ rfl,hc]at hm;simp[hz]at hm;subst hm;exact il r
 rw[cR (a7 N bb<|ac Bs 4 4).size];have c3:(N.setCell bb<|ac Bs 4 4).heap[bb]?=some (.cells #[ac Bs 4 4] 241 (0,0)):=KG<|(R.block _<|ad r).trans O;have OS:∃cs:Array a0,(N.setCell bb<|ac Bs 4 4).heap[Bs]?=some (.cells cs 208 (0,0))/\cs.size=16:=by
  let⟨cs,Z,g2⟩:=Sb;exact⟨cs,(aV _ _ _ _ (by show Bs≠bb;omega)).trans<|(R.block _<|ad SB).trans Z,g2⟩
 have h3:EN M W sG (N.setCell bb<|ac Bs 4 4):=by
  have h:=h2.rely R;have z:=(a7 N bb<|ac Bs 4 4).size;exact⟨h.own,h.keep.trans ⟨λb hb=>aV _ _ _ _ λe=>ay (by have e':b=bb:=e;exact e'▸hb),by rw[z];omega,rfl,rfl⟩,λb hb=>by rw[z];exact h.lt b hb,h.new⟩
 generalize N.setCell ⟨bb,0,none⟩ (ac (some ⟨Bs,0,none⟩) 4 4)=aF at h3 c3 OS⊢;walk_nrm
 apply ET.rn;apply ET.sq;apply ET.sr;refine ET.val (ac Bs 4 4) rfl rfl (by k_ne) (λtV ma _=>?_) ?_
 .have hc:=fM<|(ma.block _<|ad r).trans c3;refine⟨?_,λe he=>?_⟩
  .go_simp
  .simp[go_sem,hc]at he;subst he;exact il r
 walk_nrm
 refine ET.z ?_;refine ET.z ?_;apply ET.rn;refine ET.c (λ_=>bE) ?_;refine ET.c (λ_=>stepG_loop) ?_;refine ET.stop λtV ma _=>⟨Bs,bb,_,_,rfl,h3.rely ma,⟨ab,ab⟩,SB,r,(ma.block _<|ad r).trans c3,?_⟩
 let⟨cs,Z,g2⟩:=OS;exact⟨cs,(ma.block _<|ad SB).trans Z,g2⟩
def runNT_add {f:Nat}{b:Machine}{g:bz}{r:Stepped×bz}(h:bm P f b g=r):∀N (m:Machine) (t:bz),bm P N m t=(.next b,g)->bm P (N+f) m t=r:=by
 intro N;induction N with
 |zero=>simp_all [bm]
 |succ N i=>
  grind [bm]
def dP.ZP (h:dP P D V (λ_=>False) M gs a w t q):∀b,M b->b<w:=λb f=>h.lt b<|ad f
def U3 (h:dP Tryz.prog D (λ_=>False) (λ_=>False) M gs (G ((aL 166).at ⟨#[ac v ln u,ac A s nc,ud,ud,ud,ud,ud,ud,ud,ud,ud,ud,ud,ud,ud,ud,ud,ud,ud,ud,ud],[]⟩ [.code eD]) rb) w t q):
  ∃N E y f F RM L bl bn r4 tb wg Bs bb v9 v10,bm Tryz.prog N (crowd gs w sl) t=(.next<|crowd E f F,RM)/\E.size=gs.size/\
   dP Tryz.prog D (λb=>(False\/b=tb)\/b=wg) (λ_=>False) y E (G ((aL 166).at ⟨#[ac v ln u,ac A s nc,aa<|some ⟨bl,0,none⟩,aa<|some ⟨bn,0,none⟩,aa<|some ⟨r4,0,none⟩,aa tb,aa wg,aa<|some ⟨bb,0,none⟩,a6,v9,v10,(4:Int),(0:Int),ud,ud,ud,ud,ud,ud,ud,ud],[]⟩ [.code me,.inLoop me,.inBlock 0,.code jp]) rb) f RM L/\
   EN M w y f/\(w<=bl/\bl<bn/\bn<r4/\r4<tb/\tb<wg/\wg<Bs/\Bs<bb)/\(y bl/\y bn/\y r4/\y Bs/\y bb)/\
   f.heap[bl]?=some (.cells #[ac v ln u] 26 (0,0))/\f.heap[bn]?=some (.cells #[ac A s nc] 210 (0,0))/\f.heap[r4]?=some (.cells eY.cells.toArray 208 (0,0))/\
   f.heap[tb]?=some (.cells #[(0:Int)] 235 (0,0))/\f.heap[wg]?=some (.cells #[aI .u64 0,aI .u32 0] 240 (0,0))/\
   f.heap[bb]?=some (.cells #[ac Bs 4 4] 241 (0,0))/\∃cs,f.heap[Bs]?=some (.cells cs 208 (0,0))/\cs.size=16:=by
 have z0:∀(w:aB) (o:Obj),(w.alloc o).heap.size=w.heap.size+1:=λw o=>by show(w.heap.push o).size=_;simp
 obtain⟨r,hr⟩:=YM h.ZP;obtain⟨N1,O,M1,a1,w1,R,t1,q1,e1,e2,e3,e4,e5,e6,e7,e8⟩:=jR (λ_=>trivial) r _ gs M _ w sl t q (afK _) h hr;obtain⟨bl,bn,r4,rfl,j,⟨o1,o2,o3⟩,m1,m2,T,c1,c2,c3⟩:=e3 w1 (aU.refl _ _) trivial;obtain⟨N2,TP,a2,w2,Ve,t2,q2,f1,f2,f3,f4,f5,f6⟩:=dP.alloc (sl:=R) (t:=t1) (q:=q1) (gs:=O) (d:=w1.drawn) (Q:=λa' w'=>a'=G ((aL 166).at ⟨#[ac v ln u,ac A s nc,aa<|some ⟨bl,0,none⟩,aa<|some ⟨bn,0,none⟩,aa<|some ⟨r4,0,none⟩,aa<|some ⟨w1.heap.size,0,none⟩,ud,ud,ud,ud,ud,ud,ud,ud,ud,ud,ud,ud,ud,ud,ud],[]⟩ [.inRegion CL [],.code (fW<|fW eD)]) rb/\w'.heap[w1.heap.size]?=some (.cells #[(0:Int)] 235 (0,0))/\w'.os=w1.os/\w'.output=w1.output)
  (λd=>⟨_,_,Vx<|w1.at d,z0 _ _,λb g=>ao _ _ _ g,rfl,av _ _,rfl,rfl⟩) rfl _ (afK _) e4
 obtain⟨rfl,U,Y,Z⟩:=f3;obtain⟨r',gh⟩:=YN;obtain⟨N3,ay,z,a3,w3,aF,t3,q3,g1,g2,g3,g4,g5,g6,g7,g8⟩:=jR (λ_=>trivial) r' _ TP M1 _ w2 Ve t2 q2 (afK _) f4 gh;obtain⟨rfl,k3,rfl⟩:=g3 w3 (aU.refl _ _) trivial;obtain⟨N4,aN,a4,w4,aZ,t4,q4,i1,i2,i3,i4,i5,i6⟩:=dP.alloc (sl:=aF) (t:=t3) (q:=q3) (gs:=ay) (d:=w3.drawn) (Q:=λa' w'=>a'=G ((aL 166).at ⟨#[ac v ln u,ac A s nc,aa<|some ⟨bl,0,none⟩,aa<|some ⟨bn,0,none⟩,aa<|some ⟨r4,0,none⟩,aa<|some ⟨w1.heap.size,0,none⟩,aa<|some ⟨w3.heap.size,0,none⟩,ud,ud,ud,ud,ud,ud,ud,ud,ud,ud,ud,ud,ud,ud],[]⟩ [.inRegion CM [],.code (fW<|fW<|fW eD)]) rb/\w'.heap[w3.heap.size]?=some (.cells #[aI .u64 0,aI .u32 0] 240 (0,0))/\w'.os=w3.os/\w'.output=w3.output)
  (λd=>⟨_,_,Vy<|w3.at d,z0 _ _,λb g=>ao _ _ _ g,rfl,av _ _,rfl,rfl⟩) rfl _ (afK _) g4
 obtain⟨rfl,bi,bj,bq⟩:=i3;obtain⟨bs,bx⟩:=YO i4.ZP;obtain⟨N5,bF,M5,a5,w5,bH,t5,q5,j1,j2,j3,j4,j5,j6,j7,j8⟩:=jR (λ_=>trivial) bs _ aN z _ w4 aZ t4 q4 (afK _) i4 bx;obtain⟨Bs,bb,v9,v10,rfl,n,⟨p1,p2⟩,n1,n2,bI,bL⟩:=j3 w5 (aU.refl _ _) trivial;have l:=((show aU z w1 w2 from⟨λb g=>f6 b<|j.lt b g,ab,Y,Z⟩).trans<|k3.trans ⟨λb g=>i6 b (by have:=j.lt b g;omega),ab,bj,bq⟩).trans n.keep;have tn:¬z w1.heap.size:=λx=>by have:=j.lt _ x;omega
 have wn:¬z w3.heap.size:=λx=>by have:=j.lt _ x;omega
 refine⟨N1+(N2+(N3+(N4+N5))),bF,M5,w5,bH,t5,q5,bl,bn,r4,w1.heap.size,w3.heap.size,Bs,bb,v9,v10,runNT_add (runNT_add (runNT_add (runNT_add j1 _ _ _ i1) _ _ _ g1) _ _ _ f1) _ _ _ e1,ab,j4,⟨λb g=>n.own b<|j.own b g,j.keep.trans<|l.mono j.own,n.lt,λb g=>(n.new b g).elim (λx=>j.new b x) λx=>au (by have:=j.keep.size;omega)⟩,⟨o1,o2,o3,(j.lt _ T),ab,ab,p2⟩,⟨n.own _ m1,n.own _ m2,n.own _ T,n1,n2⟩,(l.block _ m1).trans c1,(l.block _ m2).trans c2,(l.block _ T).trans c3,?_,?_,bI,bL⟩
 .rw[j8 _ ab tn,i6 _ ab,g8 _ ab tn];exact U
 .rw[j8 _ ab wn];exact bi
section
variable [Gl]
structure LP (afn ok)(M:Nat->Prop)(w:aB)(v ln u nb no s)(iB:Nat->a0)(S:Nat->Nat->Prop)(Is:Nat->aX->Prop)(lt):Prop where
 ZR:M nb
 iJ:∀i,i<s->w.cell? ⟨nb,no+i,none⟩=some (iB i)
 sm:∀i b,S i b->M b
 closed:∀i,i<s->∀ai,aU (λb=>b=nb\/∃i,S i b) w ai->Closed ok (S i) ai
 OG:∀i,i<s->aq ok (ul<|S i) (ac v ln u) (ac v ln u)
 OH:∀i,i<s->aq ok (ul<|S i) (iB i) (iB i)
 RL:∀i,i<s->∀(F:Nat->Prop) ai,aU (λb=>b=nb\/∃i,S i b) w ai->∀τ d,Calls afn 201 #[ac v ln u,iB i] (re (froze F ai) τ d) λe w'=>∃x,e=.returned x.val/\Is i x/\kV w' (λb=>ai<=b) x
 ren:∀i x a',Is i x->(x.a=none<->a'=none)->Is i {x with a:=a'}
 least:∀V (b:Nat) (xs:List aX) (z:Nat×Nat),xs.length<=1048576->V.heap[b]?=some (.cells (xs.flatMap aX.cells).toArray 208 z)->(∀x∈xs,eR V x.a x.n x.g/\x.n<=1048576)->
  Calls afn 182 #[ac b xs.length xs.length,.func (.func 183) #[] #[]] V λe w'=>e=.returned (Jb.dA ⟨0,0,0,0,0,0,0,.nilFunc,iB,S,Is,lt,0⟩ xs).val/\Below V V w'
 Xq:ok.aN 201/\ok.aN 182/\ok.fn 183
omit [Gl] in
def dP.split {R:Nat->Prop}(h:dP P D V (λ_=>False) M gs a w t q)(hR:∀b,R b->M b):dP P D V R (λb=>M b/\¬R b) gs a w t q:=
 ⟨h.main,h.quit,h.past,h.who,λb hb=>h.lt b<|ad<|hb.elim And.left<|hR b,λb hb=>h.lg b<|ad<|hb.elim And.left<|hR b,h.low,h.un,h.Om,λb hb=>⟨λx=>(h.vm b hb).1 x.1,λx=>(h.vm b hb).1<|hR b x⟩⟩
omit [Gl] in
def wO (J b:Jb)(h:J.lt=b.lt)(xs:List aX):J.dA xs=b.dA xs:=by
 have:J.pick=b.pick:=by funext x y;grind [Jb.pick]
 simp_all [Jb.dA]
noncomputable def ph (J:Jb)(wg tb Bs s b T:Nat):Ph:={P:=Tryz.prog,ty:=240,Wg:=wg,tk:=tb,Bs:=Bs,bty:=208,wd:=4,n:=4,L:=s,J:=b,jt:=T,Yl:=KE J,pl:=⟨0⟩}
omit [Gl] in
def b_ (J:Jb)(wg tb Bs s f T:Nat):(ph J wg tb Bs s f T).kh:=by
 rintro seq m M w n ⟨x,g,i,b,j⟩ k;exact⟨x,g,i,b.keep (λ_ h=>h) λa l=>k.block _ (b.blk a l).2.1,j⟩
def UZ (eV:dQ afn afn ok)(hP:dQ afn Tryz.prog ok)(jq:∀f,ok.fn f->ok.aN f)(A2:j9 afn c)(hn:s+4<4611686018427387904){Bs:Nat}
  (h:dP Tryz.prog D (λb=>(False\/b=tb)\/b=wg) (λ_=>False) y gs (G ((aL 166).at ⟨#[ac v ln u,ac (some ⟨nb,no,none⟩) s nc,aa bl,aa bn,aa r4,aa tb,aa wg,aa bb,a6,v9,v10,(4:Int),(0:Int),ud,ud,ud,ud,ud,ud,ud,ud],[]⟩ [.code me,.inLoop me,.inBlock 0,.code jp]) rb) w t q)
  (O:LP afn ok y w v ln u nb no s iB S Is lt)(E4:Gl.n<=w)(ho:bl<bn/\bn<r4/\r4<tb/\tb<wg/\wg<Bs/\Bs<bb)(r:y bl/\y bn/\y r4/\y Bs/\y bb)(Uj:nb<bl)(ay:∀i b,S i b->b<bl)
  (cl:w.heap[bl]?=some (.cells #[ac v ln u] 26 (0,0)))(cn:w.heap[bn]?=some (.cells #[ac (some ⟨nb,no,none⟩) s nc] 210 (0,0)))
  (ct:w.heap[tb]?=some (.cells #[(0:Int)] 235 (0,0)))(cw:w.heap[wg]?=some (.cells #[aI .u64 0,aI .u32 0] 240 (0,0)))
  (cb:w.heap[bb]?=some (.cells #[ac Bs 4 4] 241 (0,0)))(cB:∃cs,w.heap[Bs]?=some (.cells cs 208 (0,0))/\cs.size=16):
  ∃J,J.lt=lt/\J.Is=Is/\J.bb=bb/\J.base=w.heap.size/\∃p,p=ph J wg tb Bs s gs.size t.size/\∃N kJ w' ot t' a' rV sG seq vs Mr,∃M' B,bm Tryz.prog N (crowd gs w sl) t=(.next<|crowd kJ w' ot,t')/\
   p.Out D (p.Yh (F24 J afn p ok M' B w r4 (ac v ln u)<|ac (some ⟨nb,no,none⟩) s nc) (aL 166) wU 0 [] [.code (fW jp)] rb) kJ w' t' a' rV sG seq vs Mr/\∀b,y b->b≠Bs->M' b\/B b:=by
 let J:Jb:=⟨bl,bn,bb,nb,no,nc,tb,ac v ln u,iB,S,Is,lt,w.heap.size⟩
 let p:=ph J wg tb Bs s gs.size t.size
 let R:Nat->Prop:=λb=>b=bl\/b=bn\/b=bb\/b=nb\/∃i,S i b
 let M':Nat->Prop:=λb=>(y b/\¬R b)/\b≠Bs
 have U:∀b,R b->y b:=by
  rintro b (rfl|rfl|rfl|rfl|⟨i,hs⟩)
  .exact r.1
  .exact r.2.1
  .exact r.2.2.2.2
  .exact O.ZR
  exact O.sm i b hs
 have Y:∀b,(b=nb\/∃i,S i b)->R b:=λb hb=>au<|au<|au hb
 have KY:∀b,p.Sp b->¬M' b/\¬R b:=by
  rintro b (e|e|e)
  .rw[show b=wg from e];have Z:=(h.vm wg<|au rfl).1;exact⟨λx=>Z x.1.1,λx=>Z<|U _ x⟩
  .rw[show b=tb from e];have Z:=(h.vm tb<|ad<|au rfl).1;exact⟨λx=>Z x.1.1,λx=>Z<|U _ x⟩
  rw[show b=Bs from e];refine⟨λx=>x.2 rfl,?_⟩;rintro(x|x|x|x|⟨i,x⟩)
  .omega
  .omega
  .omega
  .omega
  have:=ay i _ x;omega
 have IU:∀b,p.Sp b->b<w:=by
  rintro b (e|e|e)
  .rw[show b=wg from e];exact h.Om wg<|au rfl
  .rw[show b=tb from e];exact h.Om tb<|ad<|au rfl
  rw[show b=Bs from e];exact h.lt Bs<|ad r.2.2.2.1
 obtain⟨N,kJ,w',ot,t',a',rV,sG,seq,vs,Mr,fO,Ea⟩:=Ph.phase (Fin:=p.Yh (F24 J afn p ok M' R w r4 (ac v ln u)<|ac (some ⟨nb,no,none⟩) s nc) (aL 166) wU 0 [] [.code (fW jp)] rb)
  (b_ J wg tb Bs s gs.size t.size) (⟨by show wg≠tb;omega,by show wg≠Bs;omega,by show tb≠Bs;omega,λa ha=>h.lg Bs (ad r.2.2.2.1) (.cell a) ha,((afM.1 h.main).1)⟩) (by show 4<2147483647;omega) (by show 1<=4;omega) (show s+4<4611686018427387904 from hn) (by rintro _ _ _ _ ⟨T,aZ,rfl,_⟩;rfl)
  (λRo M g W hA _=>Ph.waitRound Dq (λa Ro M w a1 hF k=>⟨hF.1,hF.2.rely k⟩) (λa Ro M w hF e=>e.elim (hF.2.sp _<|ad rfl).1 (hF.2.sp _<|ad rfl).2.1) Ro M g W hA)
  (h.split U) rfl rfl (au rfl) (ad<|au rfl) (IU _<|au<|au rfl) (λb hb=>hb.1) KY (λb hb=>hb.1.2) cw ⟨fM ct,by show w.frozen? tb=false;simp[aE,ct]⟩ yO (Re eV hP jq A2 (show s<4611686018427387904 by omega) rfl rfl 4 0 a6 v9 v10 a6 a6 a6 a6 a6 a6 a6 a6 R M' w rfl<|⟨(⟨rfl,rfl,rfl,rfl,rfl,rfl,rfl,afK _,cl,cn,cb,ad rfl,au<|ad rfl,au<|au<|ad rfl,au<|au<|au<|ad rfl,O.iJ,λi b hs=>au<|au<|au<|au ⟨i,hs⟩,λi hi ai k=>O.closed i hi ai<|k.mono Y,O.OG,O.OH,λi hi F ai k τ d=>O.RL i hi F ai (k.mono Y) τ d,O.ren,λV b xs z h1 h2 h3=>by rw[wO J _ rfl];exact O.least V b xs z h1 h2 h3,O.Xq⟩),λb x=>x,aU.refl _ _,λb hb=>⟨(KY b hb).1,(KY b hb).2,IU b hb⟩,λb hb=>h.lt b<|ad<|hb.elim (λx=>x.1.1)<|U b,λb hb=>hb.1.2,E4,by show wg≠Bs;omega⟩)
 exact⟨J,rfl,rfl,rfl,rfl,p,rfl,N,kJ,w',ot,t',a',rV,sG,seq,vs,Mr,M',R,fO,Ea,λb hb aF=>by
  by_cases x:R b
  .exact au x
  .exact ad ⟨⟨hb,x⟩,aF⟩⟩
end
section
variable [Gl]
def LV (eV:dQ afn afn ok)(hP:dQ afn Tryz.prog ok)(jq:∀f,ok.fn f->ok.aN f)(A2:j9 afn c)(eF:ok.aN 182/\ok.fn 183)
  (Zv:∀V (b:Nat) (xs:List aX) (z:Nat×Nat),xs.length<=1048576->V.heap[b]?=some (.cells (xs.flatMap aX.cells).toArray 208 z)->(∀x∈xs,eR V x.a x.n x.g/\x.n<=1048576)->
   Calls afn 182 #[.slice b xs.length xs.length,.func (.func 183) #[] #[]] V λe w'=>e=.returned (J.dA xs).val/\Below V V w')
  (sS:∀xs,xs≠[]->J.dA xs∈xs){xs:List aX}(h4:xs.length=4){v8 v12 v13 v14 v15 v16 v17 v18 v19 v20:a0}{Bs:Nat}
  (hM:∀b,M b->b<W)(E4:Gl.n<=W)(m4:M r4)(mb:M bb)(mB:M Bs)(n1:r4≠Bs)(n2:bb≠Bs)(n3:r4≠bb)(c4:∃cs,W.heap[r4]?=some (.cells cs 208 (0,0))/\cs.size=4)
  (cb:W.heap[bb]?=some (.cells #[.slice Bs 4 4] 241 (0,0)))(cB:W.heap[Bs]?=some (.cells (xs.flatMap aX.cells).toArray 208 (0,0)))(R:∀x∈xs,kV W (λb=>M b/\b≠r4/\b≠bb) x):
  ET Tryz.prog true (λ_=>True) Ph.oq (λ_=>False) (λM' g W'=>g=G (r0.finish (J.dA xs).val) rest/\(∀b,M b->M' b)/\aU (λb=>M b/\b≠r4/\b≠Bs) W W'/\∀x∈xs,kV W' M' x) M
   (G ((aL 166).at (Act.put ⟨#[t0,t1,.pointer bl,.pointer bn,.pointer r4,.pointer tb,.pointer wg,.pointer bb,v8,v9,v10,(4:Int),v12,v13,v14,v15,v16,v17,v18,v19,v20],[]⟩ ((wU[0]?).bind (·.dst))<|.tuple #[])<|.inRegion wU []::[.code (fW jp)]) (r0::rest)) W:=by
 have a4:(wU[0]?).bind (·.dst)=some 18:=aO;rw[a4];simp[jp,eD,fW];walk_nrm
 apply ET.ns;refine ET.val (.slice Bs 4 4) rfl rfl (by k_ne) (λai a5 _=>?_) ?_
 .have hc:=fM<|(a5.block _<|.inl mb).trans cb;refine⟨by go_simp,λe he=>?_⟩;simp[go_sem,hc]at he;subst he;exact il mb
 walk_nrm
 have ay:xs≠[]:=λe=>by rw[e]at h4;simp at h4
 have hm:=sS xs ay;have aF:∀x∈xs,∀a,x.a=some a->(λb=>b=Bs\/∃x,x∈xs/\∃a,x.a=some a/\a.block=b) a.block:=λx R a r=>.inr ⟨x,R,a,r,rfl⟩
 have Oj:∀z∈xs,∀v∈z.cells,aq ok (ul λb=>b=Bs\/∃x,x∈xs/\∃a,x.a=some a/\a.block=b) v v:=by
  intro z hz v hv;simp[aX.cells]at hv;rcases hv with rfl|rfl|rfl|rfl
  .exact .bool _
  .exact .int _ _
  .exact .int _ _
  cases bi:z.a with
  |none=>exact .dr _ _
  |some a=>exact .slice _ _ ⟨gi.2 ⟨aF z hz a bi,rfl⟩,rfl,rfl⟩
 refine ET.Iy eV hP jq A2 rfl rfl (by k_ne) rfl Tryz.func182 aO rfl eF.1 (λ_ _ _ _=>trivial) (λb hb=>hb) ⟨λb hb=>hb.elim,λb hb=>hb.elim⟩ hM E4 (λb=>b=Bs\/∃x,x∈xs/\∃a,x.a=some a/\a.block=b)
  (λN v w=>v=(J.dA xs).val/\∀b,b<N.heap.size->w.heap[b]?=(froze (λ_=>False) N).heap[b]?) (λW v w τ d h=>h) ?_ ?_ ?_ ?_ ?_
 .rintro b (rfl|⟨x,h1,a,r,rfl⟩)
  .exact .inl mB
  exact .inl ((R x h1).blk a r).2.1.1
 .refine λN d8=>⟨?_⟩
  rintro b (rfl|⟨x,h1,a,r,rfl⟩)
  .refine⟨_,_,(d8.block _<|.inl mB).trans cB,λv hv=>?_⟩;simp[List.mem_flatMap]at hv;obtain⟨z,h1,h2⟩:=hv;exact Oj z h1 v h2
  obtain⟨_,h2,cs,e,h3,h4⟩:=(R x h1).blk a r;exact F_
 .intro v hv;simp[Act.eval]at hv;rcases hv with rfl|rfl
  .exact .slice _ _ ⟨gi.2 ⟨.inl rfl,rfl⟩,rfl,rfl⟩
  .exact .func (.func eF.2) rfl (λi x x' h=>by simp at h) rfl (λi x x' h=>by simp at h)
 .intro N d8 _ τ d;walk_nrm
  obtain⟨z',h1,_⟩:=gI<|(d8.block _<|.inl mB).trans cB;have hc:=Zv (re (froze (λ_=>False) N) τ d) Bs xs z' ab h1 λx T=>⟨sX ((R x T).keep (λ_ _=>trivial) λa r=>d8.block _<|.inl ((R x T).blk a r).2.1.1).row,(R x T).small⟩;rw[h4]at hc;apply hc.mono;rintro e w' ⟨rfl,hb⟩;exact⟨_,rfl,rfl,λb dl=>hb.block b (by show b<(froze (λ_=>False) N).heap.size;rw[jK];exact dl)⟩
 intro N v' M' W' d8 bx i' U;have P1:∀x∈xs,kV N (λb=>M b/\b≠r4/\b≠bb) x:=λx T=>(R x T).keep (λ_ h=>h) λa r=>d8.block _<|.inl ((R x T).blk a r).2.1.1
 obtain⟨σ,v,V',hv,⟨rfl,bq⟩,hw,hS,vz,Zi⟩:=U.res;obtain⟨a',rfl,hn,r⟩:=AK hv;have ea:a'=(J.dA xs).a:=by
  cases e:(J.dA xs).a with
  |none=>exact hn.1 e
  |some a=>
   obtain⟨d,h1,h2⟩:=r a e;have h3:=h2.blk;rw[hS _ (aF _ hm a e)]at h3;simp[Option.some.injEq]at h3;rw[h1];obtain⟨d1,d2,d3⟩:=d;have h4:=h2.off;have h5:=h2.spot;obtain⟨a1,a2,a3⟩:=a;simp at h3 h4 h5;rw[h3,h4,h5]
 have ev:aX.val {J.dA xs with a:=a'}=(J.dA xs).val:=by rw[ea]
 rw[ev];have aZ:∀b cs e,M b->σ b=some b->N.heap[b]?=some (.cells cs e (0,0))->(∀v∈cs,∃n:Int,v=.int .i64 n)->W'.heap[b]?=N.heap[b]?:=by
  intro b cs e hm hs h3 h4;obtain⟨o,o',g1,g2,g3⟩:=hw.heap _ _ hs;obtain⟨z',f1,_⟩:=gI h3;rw[bq b (afL (hM b hm) d8.size),f1]at g1;exact ab5
 have Og:∀b,M b->b≠Bs->W'.heap[b]?=N.heap[b]?:=by
  intro b hb ay;by_cases hs:(λb=>b=Bs\/∃x,x∈xs/\∃a,x.a=some a/\a.block=b) b
  .have nQ:=hS b hs;rcases hs with e|⟨x,h1,a,r,rfl⟩
   .omega
   .obtain⟨_,_,cs,e,h3,h4⟩:=(P1 x h1).blk a r;exact aZ _ cs e hb nQ h3 h4
  .exact U.rest.block b ⟨hb,hs⟩
 have nx:∀x∈xs,∀a,x.a=some a->a.block≠Bs:=λx h1 a r e=>by
  obtain⟨_,_,cs,e',h3,h4⟩:=(R x h1).blk a r;rw[e,cB]at h3;cases h3;obtain⟨n,hn⟩:=h4 (.bool x.ok) (by simp[List.mem_flatMap];exact⟨x,h1,by simp[aX.cells]⟩);cases hn
 have T:∀x∈xs,kV W' (λb=>M' b/\b≠r4) x:=λx h1=>(P1 x h1).keep (λb hb=>⟨U.own _ hb.1,hb.2.1⟩) λa r=>Og _ ((P1 x h1).blk a r).2.1.1<|nx x h1 a r
 have wD:aU (λb=>M b/\b≠r4/\b≠Bs) W W':=⟨λb hb=>(Og b hb.1 hb.2.2).trans<|d8.block b<|.inl hb.1,afN d8.size U.ro.size,U.ro.os.trans d8.os,U.ro.out.trans d8.out⟩;have bs:∃cs:Array a0,W'.heap[r4]?=some (.cells cs 208 (0,0))/\cs.size=4:=by
  obtain⟨cs,g1,g2⟩:=c4;exact⟨cs,(Og _ m4 n1).trans<|(d8.block _<|.inl m4).trans g1,g2⟩
 have O:=U.own _ m4;have bj:=U.own;walk_nrm
 refine ET.none rfl rfl (by k_ne) λZ ma _=>?_
 obtain⟨cs,g1,g2⟩:=bs;have Wj:=(ma.block _<|.inl O).trans g1;refine⟨Z.setRow r4 (J.dA xs).cells.toArray,(f9 rfl rfl rfl Wj g2).1,?_,?_⟩
 .refine fH.row _ O λe he=>?_
  obtain⟨j,rfl⟩:=(f9 rfl rfl rfl Wj g2).2 e<|mem_listed he;exact il O
 rw[cR (bB _ _ _)];have h6:(Z.setRow r4 (J.dA xs).cells.toArray).heap[r4]?=some (.cells (J.dA xs).cells.toArray 208 (0,0)):=bA _ _ _ _ _ _ Wj;have ho:∀b,b≠r4->(Z.setRow r4 (J.dA xs).cells.toArray).heap[b]?=Z.heap[b]?:=λb hb=>setRow_other _ _ _ _ hb
 have Y:∀x∈xs,kV (Z.setRow r4 (J.dA xs).cells.toArray) (λb=>M' b/\b≠r4) x:=λx h1=>(T x h1).keep (λ_ h=>h) λa r=>(ho _ ((T x h1).blk a r).2.1.2).trans<|ma.block _<|.inl ((T x h1).blk a r).2.1.1
 have Sr:=wD.trans ⟨λb hb=>(ho b hb.2.1).trans<|ma.block b<|.inl<|bj b hb.1,by rw[bB];exact ma.size,ma.os,ma.out⟩;generalize Z.setRow r4 (J.dA xs).cells.toArray=bF at h6 Y Sr⊢;walk_nrm
 apply ET.rn;apply ET.rt;refine ET.Er (J.dA xs).val rfl rfl Tryz.func166 (λOC Bd _=>?_)<|ET.stop λOC Bd _=>⟨rfl,bj,Sr.trans<|Bd.mono λb hb=>.inl<|bj b hb.1,λx h1=>(Y x h1).keep (λb hb=>hb.1) λa r=>Bd.block _<|.inl ((Y x h1).blk a r).2.1.1⟩;have h6':=(Bd.block _<|.inl O).trans h6;have q0:OC.cell? r4=some (.bool (J.dA xs).ok):=Fp;have q1:OC.cell? ⟨r4,1,none⟩=some (.int .i64 (J.dA xs).sum):=Fp;have q2:OC.cell? ⟨r4,2,none⟩=some (.int .i64 (J.dA xs).most):=Fp;have q3:OC.cell? ⟨r4,3,none⟩=some (.slice (J.dA xs).a (J.dA xs).n (J.dA xs).cap):=Fp;refine⟨by simp[results,go_sem,aX.val,q0,q1,q2,q3],λe he=>?_⟩;simp[results,go_sem,q0,q1,q2,q3]at he;rcases he with rfl|rfl|rfl|rfl<;>exact il O
end
section
variable [Gl]
def Ans (lt:aX->aX->Bool)(Is:Nat->aX->Prop)(s:Nat)(x:aX):Prop:=
 ∃(J:Jb) (b:List aX) (seq:Nat->List Nat),J.lt=lt/\J.Is=Is/\b.length=4/\(∀i y,b[i]?=some y->yw J (seq i) y)/\(∀k,k<s->∃i,i<4/\k∈seq i)/\(∀i,i<4->∀k∈seq i,k<s)/\x=J.dA b
omit [Gl] in
def zK (J:Jb):∀xs,xs≠[]->J.dA xs∈xs:=by
 intro xs h;cases xs with
 |nil=>exact absurd rfl h
 |cons x xs=>
  simp only[Jb.dA];clear h;induction xs generalizing x with
  |nil=>simp
  |cons y f b=>
   simp only[List.foldl_cons];have:=b<|J.pick x y;rcases J.pk x y with e|e<;>rw[e]at this⊢<;>simp at this⊢<;>rcases this with h|h<;>simp[h]
def LP.mono {f}(h:LP afn ok M w v ln u nb no s iB S Is lt)(m:∀b,M b->y b)(j:aU M w f):LP afn ok y f v ln u nb no s iB S Is lt:=by
 have n:∀b,(b=nb\/∃i,S i b)->M b:=λb o=>o.elim (λe=>e▸h.ZR) λ⟨i,l⟩=>h.sm i b l
 exact⟨m _ h.ZR,λi g=>by rw[<-h.iJ i g];simp[World.cell?,j.block _ h.ZR],λi b l=>m _<|h.sm i b l,λi g ai k=>h.closed i g ai<|(j.mono n).trans k,h.OG,h.OH,λi g F ai k τ d=>h.RL i g F ai ((j.mono n).trans k) τ d,h.ren,h.least,h.Xq⟩
omit [Gl] in
def four {xs:Nat->aX}{cs:Array a0}(hs:cs.size=16)(h:∀i,i<4->∀o,o<4->cs[i*4+o]?=(xs i).cells[o]?):cs=([xs 0,xs 1,xs 2,xs 3].flatMap aX.cells).toArray:=by
 refine Array.ext (by simp[aX.cells,hs]) λj x N=>?_
 have O:j<16:=by omega
 have r:=h (j/4) (by omega) (j%4) (by omega);rw[show j/4*4+j%4=j by omega,afR x]at r;have:([xs 0,xs 1,xs 2,xs 3].flatMap aX.cells).toArray[j]?=some cs[j]:=by
  rw[r];obtain rfl|rfl|rfl|rfl|rfl|rfl|rfl|rfl|rfl|rfl|rfl|rfl|rfl|rfl|rfl|rfl:j=0\/j=1\/j=2\/j=3\/j=4\/j=5\/j=6\/j=7\/j=8\/j=9\/j=10\/j=11\/j=12\/j=13\/j=14\/j=15:=by omega
  all_goals rfl
 grind
def YG (eV:dQ afn afn ok)(hP:dQ afn Tryz.prog ok)(jq:∀f,ok.fn f->ok.aN f)(A2:j9 afn c)(hn:s+4<4611686018427387904)
  (h:dP Tryz.prog D (λ_=>False) (λ_=>False) M gs (G ((aL 166).at ⟨#[ac v ln u,ac (some ⟨nb,no,none⟩) s nc,ud,ud,ud,ud,ud,ud,ud,ud,ud,ud,ud,ud,ud,ud,ud,ud,ud,ud,ud],[]⟩ [.code eD])<|r0::rest) w t q)
  (hf:LP afn ok M w v ln u nb no s iB S Is lt)(E4:Gl.n<=w):
  ∃N kJ w' ot t' q' tU M' x,bm Tryz.prog N (crowd gs w sl) t=(.next<|crowd kJ w' ot,t')/\dP Tryz.prog tU (λ_=>False) (λ_=>False) M' kJ (G (r0.finish x.val) rest) w' t' q'/\
   EN M w M' w'/\kV w' (λb=>M' b/\w<=b) x/\Ans lt Is s x:=by
 obtain⟨N1,a4,M1,w1,bI,t1,q1,bl,bn,r4,tb,wg,Bs,bb,v9,v10,e1,e2,e3,Y,ho,hm,cl,cn,c4,ct,cw,cb,cB⟩:=U3 h;have aF:=h.ZP;obtain⟨J,j1,j2,j3,j4,p,hp,N2,TP,w2,Ve,t2,a2,bL,M2,seq,vs,Mr,M',R,f1,Z,f3⟩:=UZ eV hP jq A2 hn e3 (hf.mono Y.own Y.keep) (afN E4 Y.keep.size) ⟨ho.2.1,ho.2.2.1,ho.2.2.2.1,ho.2.2.2.2.1,ho.2.2.2.2.2.1,ho.2.2.2.2.2.2⟩ hm (by have:=aF _ hf.ZR;omega) (λi b hs=>by have:=aF _<|hf.sm i b hs;omega) cl cn ct cw cb cB;obtain⟨bM,⟨⟨u8,u9,SE,SF,SG,SH,SI,a5,SJ,M_,SK,SL,rfl⟩,Si⟩,hT⟩:=Z.fin;subst hp;have hX:∀i,∃x:aX,i<4->vs i=x.cells/\yw J (seq i) x/\kV w2 (Mr i) x/\∀b,Mr i b->w1.heap.size<=b:=λi=>by
  by_cases T:i<4
  .obtain⟨x,h1,h2,h3,h4⟩:=Z.res i T;exact⟨x,λ_=>⟨h1,h2,h3,λb hb=>j4▸h4 b hb⟩⟩
  .exact⟨eY,λx=>absurd x T⟩
 let X:Nat->aX:=λi=>(hX i).choose
 have U:∀i,i<4->vs i=(X i).cells/\yw J (seq i) (X i)/\kV w2 (Mr i) (X i)/\∀b,Mr i b->w1.heap.size<=b:=λi T=>(hX i).choose_spec T
 obtain⟨cs,aZ,a1⟩:=Z.bs;have bi:=four a1 λi T o I0=>by
  rw[<-(U i T).1];exact(Z.slot i T).2 cs ⟨aZ,a1⟩ o I0
 have iP:=Si.keep.size;have bN:=Y.keep.size;have Zq:∀b,M1 b->b≠Bs->w2.heap[b]?=w1.heap[b]?:=λb hb bj=>Si.keep.block b<|f3 b hb bj
 let M3:Nat->Prop:=λb=>(M b\/w.heap.size<=b)/\b<w2/\∀l,fP (·=b) l->¬(ph J wg tb Bs s a4.size t1.size).Sh D l
 obtain⟨q2,hL⟩:=Z.lone (M':=M3) (λl hl=>Loc.low_mono iP<|e3.low l hl) λb hb=>⟨hb.2.1,hb.2.2⟩;have TY:∀b,M1 b->M3 b:=λb hb=>⟨Y.new b hb,afL (Y.lt b hb) iP,λl hl O=>by
  rcases O with O|⟨a,rfl,O⟩
  .exact e3.lg b (ad hb) l hl O
  .have HU:=hl;rcases O with O|O
   .have eX:a.block=wg:=O;exact(e3.vm wg<|au rfl).1 (by rw[<-eX,HU];exact hb)
   .have eX:a.block=tb:=O;exact(e3.vm tb<|ad<|au rfl).1<|by rw[<-eX,HU];exact hb⟩
 have bq:∀i,i<4->∀b,Mr i b->M3 b/\b≠r4/\b≠bb:=λi T b hb=>by
  have h1:=(U i T).2.2.2 b hb;have h2:=Z.own i T b hb;have h3:=Y.lt _ hm.2.2.1;have h4:=Y.lt _ hm.2.2.2.2;refine⟨⟨au ab,h2.1,λl hl O=>?_⟩,ab,ab⟩;rcases O with O|⟨a,rfl,O⟩
  .exact Z.lg i T b hb l hl O
  exact h2.2.2.2 (by rw[<-hl];exact O.elim ad λy=>au<|ad y)
 have vh:∀x∈[X 0,X 1,X 2,X 3],∃i,i<4/\x=X i:=by
  intro x O;simp[or_false]at O;rcases O with rfl|rfl|rfl|rfl
  .exact⟨0,ab,rfl⟩
  .exact⟨1,ab,rfl⟩
  .exact⟨2,ab,rfl⟩
  exact⟨3,ab,rfl⟩
 have hA:=LV (r0:=r0) (rest:=rest) (M:=M3) (W:=w2) (r4:=r4) (bb:=bb) (Bs:=Bs) (bl:=J.bl) (bn:=J.bn) (tb:=J.tb) (wg:=wg) (t0:=ac v ln u) (t1:=ac (some ⟨nb,no,none⟩) s nc) (v8:=u8) (v9:=u9) (v10:=SE) (v12:=SF) (v13:=SG) (v14:=SH) (v15:=SI) (v16:=a5) (v17:=SJ) (v18:=M_) (v19:=SK) (v20:=SL)
  eV hP jq A2 hf.Xq.2 (λV b xs z h1 h2 h3=>by rw[wO J ⟨0,0,0,0,0,0,0,.nilFunc,iB,S,Is,lt,0⟩ j1];exact hf.least V b xs z h1 h2 h3) (zK J) rfl (λb hb=>hb.2.1) ab (TY _ hm.2.2.1) (TY _ hm.2.2.2.2) (TY _ hm.2.2.2.1) ab ab ab
  ⟨_,(Zq _ hm.2.2.1 ab).trans c4,rfl⟩ ((Zq _ hm.2.2.2.2 ab).trans cb) (by rw[<-bi];exact aZ)
  (λx O=>by obtain⟨i,T,rfl⟩:=vh x O;exact(U i T).2.2.1.keep (bq i T) λ_ _=>rfl)
 rw[<-j3]at hA;obtain⟨r,hr⟩:=hT _ _ _ _ _ hA;obtain⟨N3,bx,M4,a3,w3,bF,t3,q3,i1,i2,i3,i4,i5,i6,i7,i8⟩:=jR (λ_=>trivial) r _ TP M3 _ w2 Ve t2 q2 (afK _) hL hr;obtain⟨rfl,g1,g2,g3⟩:=i3 w3 (aU.refl _ _) trivial;have sS:=zK J [X 0,X 1,X 2,X 3] aP;obtain⟨i,T,bH⟩:=vh _ sS;have ay:=g3 _ sS;refine⟨N1+(N2+N3),bx,w3,bF,t3,q3,_,M4,J.dA [X 0,X 1,X 2,X 3],runNT_add (runNT_add i1 _ _ _ f1) _ _ _ e1,i4,⟨λb hb=>g1 b<|TY b<|Y.own b hb,?_,i4.ZP,λb hb=>(i7 b hb).elim (λx=>x.1) λx=>au ab⟩,⟨ay.row,ay.small,λa ha=>?_,ay.full⟩,J,_,seq,j1,j2,rfl,?_,Z.all,Z.ad6,rfl⟩
 .refine Y.keep.trans ⟨λb hb=>?_,ab,g2.os.trans Si.keep.os,g2.out.trans Si.keep.out⟩;have dl:=aF b hb;rw[g2.block b ⟨TY b<|Y.own b hb,ab,ab⟩,Zq b (Y.own b hb) ab]
 .obtain⟨h1,h2,h3⟩:=ay.blk a ha;refine⟨h1,⟨h2,?_⟩,h3⟩;rw[bH]at ha;have:=(U i T).2.2.2 _ ((U i T).2.2.1.blk a ha).2.1;omega
 intro i y hy;have T:i<4:=by
  have:=(afT.1 hy).1;simpa using this
 have:y=X i:=by
  obtain rfl|rfl|rfl|rfl:i=0\/i=1\/i=2\/i=3:=ab;all_goals(simp at hy;exact hy.symm)
 rw[this];exact(U i T).2.1
end
