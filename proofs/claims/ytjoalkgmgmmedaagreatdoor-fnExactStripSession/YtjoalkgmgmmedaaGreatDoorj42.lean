import Derived.Test.YtjoalkgmgmmedaaGreatDoorj38
import Derived.Test.YtjoalkgmgmmedaaGreatDoorj40
set_option linter.defProp false
set_option linter.unusedVariables false
set_option linter.unusedSimpArgs false
set_option linter.unusedSectionVars false
set_option maxHeartbeats 4000000
set_option maxRecDepth 100000
open Go renaming heap_alloc_new->ai,World->ay,wpAnyH_done->a7,Calls->a9,Value->be
open Go.Act renaming put->aL
open Go.Frame renaming enter->au
open Go.RowKit renaming Below->av
open Go.Value renaming slice->aa,agg->ac,int->aV,tuple->a8
namespace Go.Proofs.YtjoalkgmgmmedaaGreatDoor
variable {ok:Ctx}{c r0:Frame}{now shift:Int}{cs:List Frame}{q:Mv}{B cp s m n p:Nat}{t:Nat->Int}{f:Nat->Mv}{ao bo:Option Addr}{Q:be->ay->Prop}{V w:ay}
open Conc RowKit
section
variable [g:Gl]{r:Frame}
def Hu (E:dB Tz.prog ok r aS)(R:ok.aN 257=true)(a2:ok.aN 258=true)(AV:g.ov=259)(eN:ok.aN r0.fn=true)
  {b cap:Nat}(hn:n<=6)(bN:b<V)(aB:aK V b 0 n f)
  (aE:∀D J T,T.ownsRow V.heap.size 55 6 (aa (some ⟨D,0,none⟩) (n+1) J) (n+1) (bc (ee f (Ai f n q) q)<|n+1)->Bl V V T->ae Tz.prog ok r aS Q ⟨r0.finish<|aa (some ⟨D,0,none⟩) (n+1) J,cs,T⟩):
  ae Tz.prog ok r aS Q ⟨au Tz.prog 257 #[aa b n cap,ac #[q.name,q.ax,q.aI,q.cE,q.late,q.prom]] .normal,r0::cs,V⟩:=by
 have hE:=enter_at #[aa b n cap,ac #[q.name,q.ax,q.aI,q.cE,q.late,q.prom]] Tz.func257 rfl;simp[Tryz.ntmps257,List.size_toArray,List.length_cons,List.length_nil,Nat.reduceAdd,Nat.reduceSub,Array.replicate_succ,Array.replicate_zero,List.push_toArray,List.append_toArray,List.nil_append,List.cons_append]at hE;rw[hE];clear hE;obtain⟨N,vd⟩:∃x,x=V.heap.size:=⟨_,rfl⟩;refine ae.DF E R [_,_,_] _ (λa' w'=>∃k:Nat,k<=n/\(∀j,j<k->cr (f j).name q.name=true)/\(k<n->cr (f k).name q.name=false)/\Bl V V w'/\fy w' N q/\jI a' (rW 28 [(0,aa b n cap),(3,.pointer N),(5,aV .i64 k)])) (λ_ _=>False) ?_ ?_ λ_ _ _ h=>h.elim
 .intro τ d;have a3:aK (re V τ d) b 0 n f:=dJ aB rfl;have a4:b<(re V τ d).heap.size:=bN;have zk:∀W,av (re V τ d).heap.size (re V τ d) W->Bl V V W:=λW h=>Bl.kH h
  have oN:N=(re V τ d).heap.size:=vd;clear aE aB bN vd;revert a3 a4 zk oN;generalize re V τ d=w;intro aB bN zk vd;have bA:av w w (w.alloc<|.cells #[q.name,q.ax,q.aI,q.cE,q.late,q.prom] 55):=(afB _ w).alloc ab _;have mA:fy (w.alloc<|.cells #[q.name,q.ax,q.aI,q.cE,q.late,q.prom] 55) w.heap.size q:=ai _ _;simp[ak];go_wp2;go_loopw [5] (λx W=>∃k:Nat,x=aV .i64 k/\k<=n/\av w w W/\fy W w.heap.size q/\∀j,j<k->cr (f j).name q.name=true) (λx _=>n-(intOf x).toNat)
  case atStart=>exact⟨0,rfl,afP _,bA,mA,λj hj=>absurd hj ab⟩
  clear bA mA;obtain⟨k,rfl,hk,hB,hm,nz⟩:=hrel;have lb:=afL bN hB.size;have lm:w.heap.size<wr:=(afM.1 hm).1;have ad:=aM wr;have x1:=λx:an wr=>x.cell (fS hm).c0
  by_cases aZ:k<n/\cr (f k).name q.name=true
  .let⟨aF,hL⟩:=aZ;have dV:(k:Int)<n:=ab;have a5:Op.bytesLess (f k).name.toList q.name.toList=true:=hL;exact ab8
  have dZ:k<n->cr (f k).name q.name=false:=λh=>by
   cases hL:cr (f k).name q.name with
   |false=>rfl
   |true=>exact absurd ⟨h,hL⟩ aZ
  by_cases aF:k<n;focus
   have dV:(k:Int)<n:=ab;have a5:Op.bytesLess (f k).name.toList q.name.toList=false:=dZ aF;have c0:=(aB.below hB bN k aF).c0;simp only[Nat.zero_add]at c0;have x0:=λx:an wr=>x.cell c0
   go_wp2;refine nl ?_;intro w2 dg;go_wp2;all_goals try omega
  rotate_left;focus
   have dV:¬(k:Int)<n:=ab;have hz:decide (k<n)=false:=by simpa using aF
   go_wp2;refine nl ?_;intro w2 dg;go_wp2;all_goals try omega
  all_goals exact⟨k,hk,nz,dZ,zk _<|hB.trans<|dg.mono hB.size,by rw[vd];exact hm.keep<|dg.block _ lm,by rw[vd];exact⟨rfl,rfl⟩⟩
 rintro a' O ⟨k,hk,nz,dZ,bL,lw,U⟩;obtain⟨u,rfl⟩:=U.open;clear U;have a0:=ye hk nz dZ;have eO:=bL.size;have BD:aK O b 0 n f:=dJ aB<|bL.block b bN;have a1:N<O:=(afM.1 lw).1;have Zp:∀D J T,T.ownsRow V.heap.size 55 6 (aa (some ⟨D,0,none⟩) (n+1) J) (n+1) (bc (ee f k q)<|n+1)->Bl V V T->ae Tz.prog ok r aS Q ⟨r0.finish<|aa (some ⟨D,0,none⟩) (n+1) J,cs,T⟩:=by
  rw[<-a0];exact aE
 clear aE nz dZ a0 aB vd;refine ae.seq E R (ae.Tu E R aO #[{dst:=some 22,op:=.move<|.tmp 0,type:=26,pos:= "l5_book.go:310",after:=#[],guard:=none},{dst:=some 23,op:=.call {callee:=.value<|.func 141,args:=#[.tmp 22],argTypes:=#[26]},type:=26,pos:= "l5_book.go:310",after:=#[{on:=0,ground:=.data}],guard:=none},{dst:=some 24,op:=.move<|.tmp 5,type:=3,pos:= "l5_book.go:310",after:=#[],guard:=none},{dst:=some 25,op:=.load 55<|.tmp 3,type:=55,pos:= "l5_book.go:310",after:=#[],guard:=none},{dst:=some 26,op:=.buildSlice 26 1 #[(0,.tmp 25)],type:=26,pos:= "l5_book.go:310",after:=#[{on:=3,ground:=.data}],guard:=none}] [5,6] (λi hi=>by
  have hi:i<5:=hi;match i,hi with
  |0,_=>rfl
  |1,_=>rfl
  |2,_=>rfl
  |3,_=>rfl
  |4,_=>rfl) aP aO (λa' w'=>∃A Y BV,w'.ownsRow V.heap.size 55 6 (aa (some ⟨A,0,none⟩) n Y) n (bc f n)/\w'.heap[BV]?=some (.cells q.cells 55 (0,0))/\BV≠A/\V.heap.size<=A/\Bl V.heap.size V w'/\jI a' (rW 28 [(23,aa (some ⟨A,0,none⟩) n Y),(24,aV .i64 k),(26,aa (some ⟨BV,0,none⟩) 1 1)])) ?_ ?_)
 .intro τ d;have Z:fy (re O τ d) N q:=lw;have pR:aK (re O τ d) b 0 n f:=dJ BD rfl;have lb:b<(re O τ d).heap.size:=afL bN eO;have lm:N<(re O τ d).heap.size:=a1;have oO:Bl V V (re O τ d):=⟨bL.size,bL.block⟩;clear Zp lw BD bL bN a1 eO;revert Z pR lb lm oO;generalize re O τ d=w;intro Z pR lb lm oO;refine wpAny_of_held (S:=At6 N q) _ _ _ _ ?_;have y:At6 N q w:=fS Z;have HC:=λW (h:av w w W)=>yR b n cap f W ab (afL lb h.size) (pR.below h lb)
  refine aj 0 (aa b n cap) 22 rfl NJ y ?_;refine aj 2 (aV .i64 (k:Int)) 24 rfl NJ y ?_;refine aj 3 (ac #[q.name,q.ax,q.aI,q.cE,q.late,q.prom]) 25 rfl NJ y ?_;refine Ls 1 4 rfl rfl (λK hK=>?_) λK hK=>?_
  .go_simp
   go_at_call 141
   refine(HC w<|afB _ _).mono ?_;clear HC;rintro e w2 ⟨A,Y,rfl,ho,_,C⟩;go_wp2_with fail
   refine hK.out _ _ (fS<|Z.keep<|C.block _ lm) λy=>?_;clear hK K;refine f8 4 rfl λK hK=>?_;go_simp
   have hz:=oO.size;have lC:=(ho.lt A rfl);have bo:av w2 w2 (w2.alloc<|.cells #[q.name,q.ax,q.aI,q.cE,q.late,q.prom] 55):=(afB _ _).alloc (afK _) _;refine hK.out _ _ (fS<|(Z.keep<|C.block _ lm).keep<|bo.block _<|afL lm C.size) λy=>?_;refine a7 aO ?_ _;exact⟨rfl,A,Y,w2.heap.size,cg (ff ho<|bo.block A lC.2) hz,ai _ _,ab,ab,oO.trans ⟨(C.trans<|bo.mono C.size).size,(C.trans<|bo.mono C.size).block⟩ hz,rfl,rfl⟩
  go_simp
  have bo:av w w (w.alloc<|.cells #[q.name,q.ax,q.aI,q.cE,q.late,q.prom] 55):=(afB _ _).alloc ab _;refine hK.out _ _ (fS<|Z.keep<|bo.block _ lm) λy=>?_;clear hK K;refine f8 1 rfl λK hK=>?_;go_simp
  go_at_call 141
  refine(HC _ bo).mono ?_;clear HC;rintro e w2 ⟨A,Y,rfl,ho,_,C⟩;go_wp2_with fail
  have hz:=oO.size;have lC:=(ho.lt A rfl);have zo:(w.alloc<|.cells #[q.name,q.ax,q.aI,q.cE,q.late,q.prom] 55).heap.size=w.heap.size+1:=afG _ _;refine hK.out _ _ (fS<|(Z.keep<|bo.block _ lm).keep<|C.block _ ab) λy=>a7 aO ?_ _;exact⟨rfl,A,Y,w.heap.size,cg ho ab,(C.block _ ab).trans<|heap_alloc_new _ _,ab,ab,oO.trans ⟨(bo.trans<|C.mono bo.size).size,(bo.trans<|C.mono bo.size).block⟩ hz,rfl,rfl⟩
 rintro a' w2 ⟨A,Y,BV,ho,hv,ad,a6,dg,U⟩;clear u;obtain⟨u,rfl⟩:=U.open;clear U;have fZ:=dg.size;refine ae.Qd E a2 AV R rfl rfl (λw=>od) ab hk fZ ho ad hv ?_;intro D J V3 o3 FP h3;have lu:Bl V V V3:=⟨ab,λi hi=>(h3 i ab ab).trans<|dg.block i hi⟩;clear ho hv dg h3;refine ae.Ab E R [6] [] (λa' w'=>(∃τ d,w'=re V3 τ d)/\jI a' (rW 28 [(4,aa D (n+1) J)])) ?_ ?_
 .intro τ d;clear Zp;simp[aL,wpOps_cons];refine wpOp_step rfl λK hK=>?_;go_simp
  exact hK _ _ ⟨rfl,⟨τ,d,rfl⟩,rfl,rfl⟩
 rintro a' w' ⟨⟨On,d3,rfl⟩,U⟩;clear u;obtain⟨u,rfl⟩:=U.open;refine ae.regionEnd E R<|ae.ret E R<|ae.leave E eN (λτ d=>⟨rfl,rfl,rfl,_,Tz.func257,?_⟩)<|Zp D J _ (ff o3 rfl) ⟨lu.size,lu.block⟩;show Sem.run Tz.prog (results Tryz.f257<|(rW 28 [(4,aa D (n+1) J)]) u) _=_;simp[results,Tryz.f257,go_sem]
end
def Cd (w):a9 Tz.prog 141 #[()] w λe w'=>e=.returned ()/\av w w w':=by
 have a:=Go.Lib.run_eql_slice_nil w 26 55 none 0 0 0 0 aT;go_wp2;go_ret;exact RJ
def H8 (N v:Nat)(f m)(w:ay)(A:N<=w)(C:w.heap[v]?=some (.cells m.cells 55 (0,0))):
  a9 Tz.prog 258 #[(),(0:Int),aa v 1 1] w λe w'=>(∃u c',e=.returned (aa (some ⟨u,0,none⟩) 1 c')/\w'.ownsRow N 55 6 (aa (some ⟨u,0,none⟩) 1 c') 1 (bc (ee f 0 m) 1))/\w.grownBy w' none:=by
 let⟨D,J,O,R,T⟩:=fe;have U:=vF C;go_enter Tz.func258,Tryz.ntmps258
 go_wp2_with(at_builtin;refine wpList_append_own _ rfl (.tmp 23) (.tmp 24) 26 rfl N 55 D _ 6 56 aT J O R T rfl bh () 0 [] bQ (⟨rfl,.inl ⟨rfl,rfl⟩⟩) v 1 1 m.cells.toList bQ rfl U (gu m) iN ab A ?_;intro Y w2 y Z xS)
 all_goals
  have x:Y≠():=λe=>by have:=xS.1 e;omega
  obtain⟨u,c',rfl⟩:=ml y x;go_ret;have hE:=GW f 0 m;simp at y;exact⟨⟨u,c',rfl,yO⟩,Z⟩
def EV (f q w):a9 Tz.prog 257 #[(),ac #[q.name,q.ax,q.aI,q.cE,q.late,q.prom]] w λe w'=>(∃B' c',e=.returned (aa (some ⟨B',0,none⟩) 1 c')/\w'.ownsRow w.heap.size 55 6 (aa (some ⟨B',0,none⟩) 1 c') 1 (bc (ee f 0 q) 1))/\av w w w':=by
 go_enter Tz.func257,Tryz.ntmps257
 go_wp2;go_loopw [5] (λx W=>x=aV .i64 0/\av w w W/\fy W w.heap.size q) (λ_ _=>0)
 case atStart=>exact⟨rfl,((afB _ w).alloc ab _),(ai _ _)⟩
 obtain⟨rfl,hB,hm⟩:=hrel;have aF:=aM wr;have x1:=λx:an wr=>x.cell (fS hm).c0
 go_wp2;refine nl ?_;intro U dg;go_wp2;have Y:=hm.keep<|dg.block _<|(afM.1 hm).1;have aB:w.heap.size<U:=(afM.1 Y).1;have B2:=hB.trans<|dg.mono hB.size;have aE:av w w U.drew:=B2.drew;have Z:fy U.drew w.heap.size q:=Y;have ld:w.heap.size<U.drew:=aB;refine wp_region_held_drew aO (fS Z) λu=>?_;revert aE Z ld u;generalize U.drew=w3;refine λO y l3 u=>aj 0 () 22 rfl NJ u<|aj 2 (aV .i64 0) 24 rfl NJ u<|aj 3 (ac #[q.name,q.ax,q.aI,q.cE,q.late,q.prom]) 25 rfl NJ u ?_
 refine Ls 1 4 rfl rfl (λK hK=>?_) λK hK=>?_;focus
  go_simp
  go_at_call 141
  refine(Cd _).mono ?_;rintro e C ⟨rfl,b4⟩;go_wp2_with fail
  have A:=y.keep<|b4.block _ l3;have D:=O.trans<|b4.mono O.size;refine hK.out _ _ (fS A) λu=>?_;clear hK K;refine f8 4 rfl λK hK=>?_;go_simp
  have bo:av C C (C.alloc<|.cells #[q.name,q.ax,q.aI,q.cE,q.late,q.prom] 55):=(afB _ _).alloc (afK _) _;have J:=A.keep<|bo.block _<|afL l3 b4.size;have R:(C.alloc<|.cells #[q.name,q.ax,q.aI,q.cE,q.late,q.prom] 55).heap[C.heap.size]?=some (.cells q.cells 55 (0,0)):=ai _ _;have T:=D.trans<|bo.mono D.size;refine hK.out _ _ (fS J) λu=>?_;clear hK K;revert J R T u;generalize C.alloc (.cells #[q.name,q.ax,q.aI,q.cE,q.late,q.prom] 55)=W5;generalize C.heap.size=BV;intro J R T u;clear A D bo b4 y l3 O
 rotate_left;focus
  go_simp
  have bo:av w3 w3 (w3.alloc<|.cells #[q.name,q.ax,q.aI,q.cE,q.late,q.prom] 55):=(afB _ _).alloc (afK _) _;have A:=y.keep<|bo.block _ l3;have N:(w3.alloc<|.cells #[q.name,q.ax,q.aI,q.cE,q.late,q.prom] 55).heap[w3.heap.size]?=some (.cells q.cells 55 (0,0)):=ai _ _;have lv:=(afM.1 N).1;have D:=O.trans<|bo.mono O.size;have l4:=(afM.1 A).1;refine hK.out _ _ (fS A) λu=>?_;clear hK K;refine f8 1 rfl λK hK=>?_;go_simp
  go_at_call 141
  refine(Cd _).mono ?_;rintro e W5 ⟨rfl,b5⟩;go_wp2_with fail
  have J:=A.keep<|b5.block _ l4;have R:=(b5.block _ lv).trans N;have T:=D.trans<|b5.mono D.size;refine hK.out _ _ (fS J) λu=>?_;clear hK K;revert R;generalize w3.heap.size=BV;intro R;clear A D bo b5 y l3 O N lv l4
 all_goals
  have l5:=(afM.1 J).1;refine f8 5 rfl λK hK=>?_;go_simp
  go_at_call 258
  refine(H8 w.heap.size BV f q W5 T.size R).mono ?_;rintro e w6 ⟨⟨B',c',rfl,ho⟩,hg⟩;go_wp2_with fail
  have ad:=J.keep<|hg.block _ l5 (λe=>nomatch e);have B6:=T.grown hg T.size (λq hq=>nomatch hq);refine hK.out _ _ (fS ad) λu=>?_;clear hK K;refine f8 6 rfl λK hK=>?_;go_simp
  refine hK.out _ _ (fS ad) λu=>?_;clear hK K;refine a7 aO ?_ _;go_wp2;go_ret;exact⟨⟨B',c',rfl,ho⟩,B6⟩
section
variable [g:Gl]
def Ng:Ai f 0 q=0:=ye (afK _) (λj u=>absurd u<|afO _) λh=>absurd h<|Nat.lt_irrefl _
def R5 (E:dB Tz.prog ok c aS)(T:ok.aN 257=true)(A:ok.aN 258=true)(U:g.ov=259)(D:ok.aN r0.fn=true)(Y:n<=6)(J:qe V ao n cp f)
  (C:∀N O y,y.ownsRow V.heap.size 55 6 (aa (some ⟨N,0,none⟩) (n+1) O) (n+1) (bc (ee f (Ai f n q) q)<|n+1)->Bl V V y->ae Tz.prog ok c aS Q ⟨r0.finish<|aa (some ⟨N,0,none⟩) (n+1) O,cs,y⟩):
  ae Tz.prog ok c aS Q ⟨au Tz.prog 257 #[aa ao n cp,ac #[q.name,q.ax,q.aI,q.cE,q.late,q.prom]] .normal,r0::cs,V⟩:=by
 cases ao with
 |some ad=>
  obtain⟨b,rfl,hb,Z⟩:=J.2 _ rfl;exact Hu E T A U D Y hb Z C
 |none=>
  obtain⟨rfl,rfl⟩:=J.1 rfl;rw[Ng]at C;refine ae.calls E D (R:=λv W=>∃u x,v=aa (some ⟨u,0,none⟩) 1 x/\W.ownsRow V.heap.size 55 6 (aa (some ⟨u,0,none⟩) 1 x) 1 (bc (ee f 0 q) 1)/\Bl V V W) (λτ d=>(EV f q<|re V τ d).mono ?_) ?_
  .rintro e w' ⟨⟨u,x,rfl,h⟩,hb⟩;exact⟨_,rfl,u,x,rfl,h,Bl.kH hb⟩
  rintro v y ⟨u,x,rfl,h,hb⟩;exact C u x y h hb
def xv (w:ay)(B:Nat)(q:Mv):Prop:=w.heap[B]?=some (.cells q.cells 120 (0,0))
def xv.same {w'}(h:xv w B q)(e:w'.heap[B]?=w.heap[B]?):xv w' B q:=e.trans h
theorem xv.cells (h:xv w B q):w.cell? B=some (.string q.name)/\w.cell? ⟨B,1,none⟩=some (.bool q.ax)/\w.cell? ⟨B,2,none⟩=some (aV .i64 q.aI)/\w.cell? ⟨B,3,none⟩=some (aV .i64 q.cE)/\w.cell? ⟨B,4,none⟩=some (aV .i64 q.late)/\w.cell? ⟨B,5,none⟩=some (aV .i64 q.prom):=by
 simp_all [xv,World.cell?]
def xv.lt (h:xv w B q):B<w:=(afM.1 h).1
def MPa (now shift:Int)(f:Nat->Mv)(n:Nat)(q:Mv)(N:Nat)(y e:be)(W:ay):Prop:=match AY f n now shift q with
 |.no x=>y=ac #[(0:Int),(0:Int),(),()]/\e=.iface 143 (ac #[aV .i64 x])
 |.yes p T=>e=.nilIface/\∃u A BT v,y=ac #[aV .i64 now,aV .i64 shift,aa (some ⟨u,0,none⟩) (n+1) A,aa (some ⟨BT,0,none⟩) (n+1) v]/\N<=u/\N<=BT/\Dw W u (n+1) (ee f p q)/\aC W BT (n+1) T/\n+1<=v
structure InC (ok:Ctx):Prop where
 md:ok.aN 255=true
 wm:ok.aN 257=true
 ins:ok.aN 258=true
 pl:ok.aN 108=true
 sb:ok.aN 142=true
 bt:ok.aN 166=false
def ZY (h:aY now shift f n t m=true):0<=now/\now<=10000:=by
 unfold aY at h;simp at h;exact eJ.1 h.1.1.1
def RY (E:dB Tz.prog ok c aS)(hA:InC ok)(AV:g.ov=259)(eN:ok.aN r0.fn=true)(hB:Bq V now shift ao n cp f bo m s t)(p7:aY now shift f n t m=true)(hq:q.Fits)
  (aE:∀y e W',Bl V V W'->MPa now shift f n q V.heap.size y e W'->ae Tz.prog ok c aS Q ⟨r0.finish<|a8 #[y,e],cs,W'⟩):
  ae Tz.prog ok c aS Q ⟨au Tz.prog 255 #[ac #[q.name,q.ax,q.aI,q.cE,q.late,q.prom],ac #[now,shift,aa ao n cp,aa bo m s]] .normal,r0::cs,V⟩:=by
 let⟨hm,A5,hf⟩:=bK p7;subst A5;replace aE:Hid _:=aE;have h6:=hB.n6;have x:=hA.md;have kY:∀cd W,AY f m now shift q=.no cd->MPa now shift f m q V.heap.size (ac #[(0:Int),(0:Int),(),()]) (.iface 143<|ac #[aV .i64 cd]) W:=λcd W h=>by unfold MPa;rw[h];exact⟨rfl,rfl⟩
 replace kY:Hid _:=kY;refine ae.en Tz.func255 rfl Tryz.ntmps255 iE ?_;refine ae.ck E x [_,_] _ λK R ad mC hK hR=>?_
 let⟨W1,e1,k1,b1⟩:=DB (re V ad mC) #[q.name,q.ax,q.aI,q.cE,q.late,q.prom] 120;obtain⟨W2,e2,k2,b2,-⟩:=boxed W1 now shift ao m cp bo m s;obtain⟨W3,e3,k3,b3,-⟩:=boxed W2 0 0 none 0 0 none 0 0;have bW:=Bl.kH<|(b1.trans<|b2.mono b1.size).trans<|b3.mono<|afN b1.size b2.size;have l1:=(afM.1 k1).1;have O:xv W3 (re V ad mC).heap.size q:=(b3.block _<|afL l1 b2.size).trans<|(b2.block _ l1).trans k1;have C:=k2.same<|b3.block _ k2.lt;have o2:V.heap.size<=W1:=b1.size;have o3:W1.heap.size<W2:=k2.lt;have HM:=zC q W3;let⟨s0,s1,s2,s3,s4,s5⟩:=O.cells;have back:∀{w4 U:ay},Bl V V w4->U.heap.size=w4.heap.size->(∀k,k≠W2.heap.size->U.heap[k]?=w4.heap[k]?)->Bl V V U:=λh h1 h2=>⟨by rw[h1];exact h.size,λk hk=>(h2 k ab).trans<|h.block k hk⟩
 replace back:Hid _:=@back;have aB:q.ok=false\/(q.ok=true/\¬q.prom<0/\(q.prom==-1)=false)\/q.ok=true/\q.prom<0/\(q.prom==-1)=true:=by
  cases D:q.ok with
  |false=>exact .inl rfl
  |true=>
   have Oc:=Mv.gj D;by_cases hp:q.prom<0
   .exact .inr (.inr ⟨rfl,hp,dj⟩)
   .exact .inr (.inl ⟨rfl,hp,dj⟩)
 simp only[ak];rcases aB with D|⟨D,hp,hd⟩|⟨D,hp,hd⟩;all_goals rw[D]at HM
 .replace D:Hid _:=D;go_wp2_with(go_at_call 137;refine HM.mono ?_;clear HM;rintro e w4 ⟨rfl,Z⟩;have j3:=k3.same<|Z.block _ k3.lt;let⟨z0,z1,z2,z3,z4⟩:=j3.cells;obtain⟨U,e8,k8,-,u,o8⟩:=aJ j3 (afB 0 _) (afP _) 0 0 none 0 0 none 0 0;replace u:Hid _:=u)
  exact hR.out _ _ λY=>ae.lv E eN Tz.func255 (λτ d=>cH rfl rfl rfl<|k8.r τ d)<|aE.out _ _ _ (back.out (bW.trans (Bl.of Z) bW.size) u.out o8)<|kY.out 2 U<|KA<|.inl D.out
 .replace D:Hid _:=D;replace hp:Hid _:=hp;go_wp2_with(go_at_call 137;refine HM.mono ?_;clear HM;rintro e w4 ⟨rfl,Z⟩;have j3:=k3.same<|Z.block _ k3.lt;let⟨z0,z1,z2,z3,z4⟩:=j3.cells;let⟨r0,r1,r2,r3,r4,r5⟩:=(O.same<|Z.block _ O.lt).cells;obtain⟨U,e8,k8,-,u,o8⟩:=aJ j3 (afB 0 _) (afP _) 0 0 none 0 0 none 0 0;replace u:Hid _:=u)
  exact hR.out _ _ λY=>ae.lv E eN Tz.func255 (λτ d=>cH rfl rfl rfl<|k8.r τ d)<|aE.out _ _ _ (back.out (bW.trans (Bl.of Z) bW.size) u.out o8)<|kY.out 2 U<|KA<|.inr hp.out
 have Oc:=Mv.gj D;replace D:Hid _:=D;replace hp:Hid _:=hp;go_wp2_with(go_at_call 137;refine HM.mono ?_;clear HM;rintro e w4 ⟨rfl,Z⟩;let⟨r0,r1,r2,r3,r4,r5⟩:=(O.same<|Z.block _ O.lt).cells)
 refine hK.out _ _ ?_;have N:Bl V V w4:=bW.trans (Bl.of Z) bW.size;replace O:=O.same<|Z.block _ O.lt;replace C:=C.same<|Z.block _ C.lt;have A:=k3.same<|Z.block _ k3.lt;clear hK hR K R e1 e2 e3 k1 k2 k3 b1 b2 b3 Z s0 s1 s2 s3 s4 s5 r0 r1 r2 r3 r4 r5 bW l1 hd;refine ae.ck E x [_] _ λK R τ d hK hR=>?_
 have H1:=qJ ao m cp f q.name (re w4 τ d) h6 (hB.bl (show Bl V V (re w4 τ d) from⟨N.size,N.block⟩)).sm;let⟨y0,y1,y2,y3,y4⟩:=C.rc τ d;let⟨s0,s1,s2,s3,s4,s5⟩:=(show xv (re w4 τ d) _ q from O).cells;simp only[ak];rcases KD f m q.name with⟨J,hJ,im,TW⟩|im
 .have AT:∀k,ew f m q.name k->0<=k:=λk hk=>by have:=ik.yes hJ im TW hk;omega
  go_wp2_with(go_at_call 247;refine H1.mono ?_;clear H1;rintro e w5 ⟨⟨kk,rfl,Mx⟩,b5⟩;have xQ:=AT kk Mx;have j3:=(A.r τ d).same<|b5.block _ A.lt;let⟨z0,z1,z2,z3,z4⟩:=j3.cells;obtain⟨U,e8,k8,-,u,o8⟩:=aJ j3 (afB 0 _) (afP _) 0 0 none 0 0 none 0 0;replace u:Hid _:=u)
  all_goals try omega
  exact hR.out _ _ λY=>ae.lv E eN Tz.func255 (λτ d=>cH rfl rfl rfl<|k8.r τ d)<|aE.out _ _ _ (back.out (N.trans (Bl.kH b5) N.size) u.out o8)<|kY.out 3 U<|VY D.out hp.out ⟨J,hJ,im⟩
 have AT:∀k,ew f m q.name k->k<0:=λk hk=>by have:=ik.no im hk;omega
 go_wp2_with(go_at_call 247;refine H1.mono ?_;clear H1;rintro e w5 ⟨⟨kk,rfl,Mx⟩,b5⟩;have xQ:=AT kk Mx)
 all_goals try omega
 refine hK.out _ _ ?_;have N:Bl V V w5:=N.trans (Bl.kH b5) N.size;replace O:xv w5 _ q:=O.same<|b5.block _ O.lt;replace C:aR w5 _ _ _ _ _:=C.same<|b5.block _ C.lt;replace A:aR w5 _ _ _ _ _:=A.same<|b5.block _ A.lt;clear hK hR K R b5 y0 y1 y2 y3 y4 s0 s1 s2 s3 s4 s5 AT Mx xQ;refine ae.ck E x [_] _ λK R τ d hK hR=>?_
 let⟨y0,y1,y2,y3,y4⟩:=C.rc τ d;simp only[ak];by_cases aF:m<6;rotate_left
 .obtain rfl:m=6:=ab;let⟨z0,z1,z2,z3,z4⟩:=A.rc τ d;obtain⟨U,e8,k8,-,u,o8⟩:=aJ (A.r τ d) (afB 0 _) (afP _) 0 0 none 0 0 none 0 0;replace u:Hid _:=u;go_wp2;exact hR.out _ _ λY=>ae.lv E eN Tz.func255 (λτ d=>cH rfl rfl rfl<|k8.r τ d)<|aE.out _ _ _ (back.out N u.out o8)<|kY.out 4 U<|VZ D.out hp.out im ab
 have dV:((m:Int)==6)=false:=dj;go_wp2;refine hK.out _ _<|ae.un ?_;clear hK hR K R y0 y1 y2 y3 y4 dV;refine ae.seq E x<|ae.rg E x<|ae.oc E x 0 4 λK τ d hK=>?_;let⟨y0,y1,y2,y3,y4⟩:=C.rc τ d;let⟨s0,s1,s2,s3,s4,s5⟩:=(show xv (re w5 τ d) _ q from O).cells;simp only[ap];go_wp2;refine hK.out _ _<|ae.un ?_;clear hK K y0 y1 y2 y3 y4 s0 s1 s2 s3 s4 s5;refine ae.aZ E (i:=4) rfl rfl hA.wm (λw=>od)<|R5 (q:=q) E hA.wm hA.ins AV x h6 (hB.bl N).sm ?_;have a1:=A.lt;intro BN cN V6 o6 b6;rw[ar rfl];have Sg:=o6.lt BN rfl;have rM:Dw V6 BN (m+1) (ee f (Ai f m q) q):=Es o6;have z5:=N.size;have z6:=b6.size;have C:=C.same<|b6.block _ C.lt;have A:=A.same<|b6.block _ A.lt;have N:=N.trans b6 z5;have a0:aG (ee f (Ai f m q) q) (m+1)=true:=by
  let⟨K,Mo,TX,Ws⟩:=tw (λj=>cr (f j).name q.name) m;rw[ye Mo TX Ws];exact CV hm aF Mo D.out TX Ws im
 have tL:=V0 (now:=now) (shift:=shift) D.out hp.out im aF rfl;replace tL:Hid _:=tL;clear o6 O b6;refine ae.oc E x 5 1 λK τ d hK=>?_
 simp only[ap,aL];go_wp2;refine hK.out _ _<|ae.un<|ae.regionEnd E x ?_;clear hK K;refine ae.seq E x<|ae.rg E x<|ae.oc E x 0 5 λK τ d hK=>?_;let⟨y0,y1,y2,y3,y4⟩:=C.rc τ d;simp only[ap];go_wp2;refine hK.out _ _<|ae.un ?_;clear hK K y0 y1 y2 y3 y4;have D7:0<=now/\now<=10000:=ZY p7;refine ae.aZ E (i:=5) rfl rfl hA.pl (λw=>od)<|EW (cap:=cN) (shift:=shift) E hA.pl hA.sb hA.bt x ab (λi hi=>bd a0 i hi) D7.1 ab Sg.2 rM.1 ?_;intro v V7 gt;rw[ar rfl];replace tL:=tL.out;generalize gw (ee f (Ai f m q) q) (m+1) now shift=r at gt tL;obtain⟨v5,rfl,t5,b7⟩:=yd gt;have Zh:Hid (∀a l c,v5=aa a l c->l<=c):=λa l c e=>GK gt e
 clear gt;obtain⟨br,oh⟩:∃br,r.isSome=br:=⟨_,rfl⟩;rw[oh];have z7:=b7.size;have z6:=N.size;have C:=C.same<|b7.block _ C.lt;have A:=A.same<|b7.block _ A.lt;have rM:=rM.same<|b7.block BN Sg.2;have N:=N.trans b7 z6;have n4:BN≠W2.heap.size:=ab;replace tL:Hid _:=tL;replace oh:Hid _:=oh;replace t5:Hid _:=t5;refine ae.oc E x 6 5 λK τ d hK=>?_
 simp only[ap,aL];go_wp2;refine hK.out _ _<|ae.un<|ae.regionEnd E x ?_;clear hK K;cases r with
 |none=>
  have oh:=oh.out;subst oh;refine ae.ck E x [_] _ λK R τ d hK hR=>?_
  let⟨z0,z1,z2,z3,z4⟩:=A.rc τ d;obtain⟨U,e8,k8,-,u,o8⟩:=aJ (A.r τ d) (afB 0 _) (afP _) 0 0 none 0 0 none 0 0;replace u:Hid _:=u;simp only[ak,Option.isSome_none];go_wp2;exact hR.out _ _ λY=>ae.lv E eN Tz.func255 (λτ d=>cH rfl rfl rfl<|k8.r τ d) (aE.out _ _ _ (back.out N u.out o8)<|kY.out 5 U tL.out)
 |some T=>
  have oh:=oh.out;subst oh;obtain⟨BS,cS,a2,rfl,oS⟩:=t5.out;have n5:BS≠W2.heap.size:=ab;refine ae.ck E x [_,_] _ λK R τ d hK hR=>?_
  let⟨y0,y1,y2,y3,y4⟩:=C.rc τ d;let⟨z0,z1,z2,z3,z4⟩:=A.rc τ d;obtain⟨U,e8,k8,-,u,o8⟩:=aJ (A.r τ d) (afB 0 _) (afP _) now shift (some ⟨BN,0,none⟩) (m+1) cN (some ⟨BS,0,none⟩) (m+1) cS;replace u:Hid _:=u;simp only[ak,Option.isSome_some];go_wp2;refine hK.out _ _<|ae.ret E x<|ae.lv E eN Tz.func255 (λτ d=>cH rfl rfl rfl<|k8.r τ d)<|aE.out _ _ _ (back.out N u.out o8) ?_;unfold MPa;rw[tL.out];exact⟨rfl,BN,cN,BS,cS,rfl,ab,ab,rM.same<|o8 BN n4,fT oS<|o8 BS n5,Zh.out _ _ _ rfl⟩
end
def abW (v w):(Instr.typeAssert (.iface 120 v) 122 146 true).run Tz.prog w=.ok (a8 #[.iface 120 v,true]) w:=run_typeAssert_hasB (Tz.al Tryz.underlying146) aO v 122 w
def Ke (q:Mv)(w):a9 Tz.prog 256 #[ac #[q.name,q.ax,q.aI,q.cE,q.late,q.prom]] w λe w'=>e=.returned (.iface 143<|ac #[(6:Int)])/\av w w w':=by
 have d:∀o,av w w (w.alloc o):=λo=>(afB _ w).alloc (afK _) _
 go_enter Tz.func256,Tryz.ntmps256
 exact Ho
section
variable [g:Gl]{bb:Bool}
def Ox (now shift:Int)(f:Nat->Mv)(n:Nat)(q:Mv)(N:Nat)(y e:be)(W:ay):Prop:=match vj f n now shift q with
 |.no x=>y=ac #[(0:Int),(0:Int),(),()]/\e=.iface 143 (ac #[aV .i64 x])
 |.yes p T=>e=.nilIface/\∃u A BT v,y=ac #[aV .i64 now,aV .i64 shift,aa (some ⟨u,0,none⟩) (n+1) A,aa (some ⟨BT,0,none⟩) (n+1) v]/\N<=u/\N<=BT/\Dw W u (n+1) (ee f p q)/\aC W BT (n+1) T/\n+1<=v
def mpb (now shift f n q):Oy (Ox now shift f n q) where
 is:=λh=>by
  unfold Ox at h;cases u:vj f n now shift q with
  |no A=>rw[u]at h;exact .inr ⟨A,SZ u,h.2,h.1⟩
  |yes p T=>rw[u]at h;let⟨v,x,C,BT,D,y,_⟩:=h;exact .inl ⟨v,_,_,_,_,_,_,_,_,y⟩
 to:=λh J e=>by
  unfold Ox at h⊢;cases u:vj f n now shift q with
  |no A=>rw[u]at h;exact h
  |yes p T=>
   rw[u]at h;let⟨v,x,C,BT,D,y,N,O,R,U,Y⟩:=h;exact⟨v,x,C,BT,D,y,afN J N,afN J O,R.same<|e x N R.lt,fT U<|e BT O U.lt,Y⟩
def S6 {T}(h:AY f n now shift q=.yes p T):q.ok=true/\q.prom<0/\(∀j,j<n->de (f j).name q.name=false)/\n<6/\p=Ai f n q/\gw (ee f p q) (n+1) now shift=some T:=by
 unfold AY at h;split at h
 .grind
 split at h;all_goals grind
def QS {P:Mv->Prop}{i}(h:∀i,i<n->P (f i))(hq:P q)(u:i<n+1)(v:p<=n):P (ee f p q i):=by
 grind [ee]
def NV (E:dB Tz.prog ok c aS)(u:ok.aN 94=true)(hA:InC ok)(lq:ok.aN 57=true)(tK:ok.aN 81=true)(AV:g.ov=259)(eN:ok.aN r0.fn=true)(hB:Bq V now shift ao n cp f bo m s t)(hq:q.Fits)
  (aE:∀y e W',Bl V V W'->(aY now shift f n t m=false/\y=ac #[(0:Int),(0:Int),(),()]/\e=.iface 143 (ac #[(1:Int)])\/aY now shift f n t m=true/\Ox now shift f n q V.heap.size y e W')->ae Tz.prog ok c aS Q ⟨r0.finish<|a8 #[y,e],cs,W'⟩):
  ae Tz.prog ok c aS Q ⟨au Tz.prog 94 #[ac #[now,shift,aa ao n cp,aa bo m s],.iface 120<|ac #[q.name,q.ax,q.aI,q.cE,q.late,q.prom]] .normal,r0::cs,V⟩:=by
 replace aE:Hid _:=aE;refine ae.en Tz.func94 rfl Tryz.ntmps94 iE ?_;refine ae.ck E u [_,_] _ λK R τ d hK J=>?_
 obtain⟨W1,e1,k2,b1,-⟩:=boxed (re V τ d) now shift ao n cp bo m s;obtain⟨W2,e2,k4,b2,-⟩:=boxed W1 0 0 none 0 0 none 0 0;have bW:=b1.trans<|b2.mono b1.size;have H1:=(hB.bl<|Bl.kH bW).ib;let⟨y0,y1,y2,y3,y4⟩:=(k2.same<|b2.block _ k2.lt).cells;simp only[ak];rcases Bool.eq_false_or_eq_true (aY now shift f n t m)with hb|hb;all_goals rw[hb]at H1
 rotate_left
 .replace hb:Hid _:=hb;go_wp2_with(go_at_call 80;refine H1.mono ?_;clear H1;rintro e w3 ⟨rfl,b3⟩;have j4:=k4.same<|b3.block _ k4.lt;let⟨z0,z1,z2,z3,z4⟩:=j4.cells;have A:=bW.trans<|b3.mono bW.size;obtain⟨W5,e5,k5,N,-,o5⟩:=aJ j4 A b1.size 0 0 none 0 0 none 0 0)
  refine J.out _ _ λaB=>?_
  exact ae.lv E eN Tz.func94 (λτ d=>cH rfl rfl rfl<|k5.r τ d)<|aE.out _ _ _ (Bl.kH N)<|.inl ⟨hb.out,rfl,rfl⟩
 replace hb:Hid _:=hb;go_wp2_with(go_at_call 80;refine H1.mono ?_;clear H1;rintro e w3 ⟨rfl,b3⟩)
 refine hK.out _ _ ?_;have p2:=(k2.same<|b2.block _ k2.lt).same<|b3.block _<|afL k2.lt b2.size;have x:=k4.same<|b3.block _ k4.lt;have A:=Bl.kH<|bW.trans<|b3.mono bW.size;have o4:V.heap.size<W1:=k2.lt;clear hK J K R k2 k4 b1 b2 b3 bW y0 y1 y2 y3 y4 e1 e2;refine ae.seq E u<|ae.rg E u<|ae.oc E u 0 2 λK τ d hK=>?_;let⟨y0,y1,y2,y3,y4⟩:=p2.rc τ d;simp only[ap];go_wp2;refine hK.out _ _<|ae.un ?_;clear hK K y0 y1 y2 y3 y4;refine ae.aZ E (i:=2) rfl rfl hA.md (λw=>aO)<|RY E hA AV u (hB.bl A) hb.out hq ?_;rintro y e W4 b4 hy;rw[ar rfl];have l3:=x.lt;have x:=x.same<|b4.block _ l3;have l4:=x.lt;have z4:=b4.size;have z0:=A.size;have A:=A.trans b4 z0;unfold MPa at hy;cases O:AY f n now shift q with
 |no cd=>
  rw[O]at hy;obtain⟨rfl,rfl⟩:=hy;have C:=vk O;replace C:Hid _:=C;clear O;refine ae.oc E u 3 6 λK τ d hK=>?_
  simp only[ap,aL];go_wp2;refine hK.out _ _<|ae.regionEnd E u ?_;clear hK K;obtain⟨W5,e5,k5,N,-⟩:=boxed (re W4 τ d) 0 0 none 0 0 none 0 0;rw[e5];clear e5;have x:=x.same<|N.block _ l4;refine ae.ck E u [_] _ λK R τ d hK J=>?_
  let⟨x0,x1,x2,x3,x4⟩:=x.rc τ d;obtain⟨W8,e8,k8,-,D,o8⟩:=aJ (x.r τ d) (afB 0 _) (afP _) 0 0 none 0 0 none 0 0;replace D:Hid _:=D;simp only[ak];go_wp2;have z5:W4.heap.size<=W5:=N.size;have D:W8.heap.size=W5.heap.size:=D.out;exact J.out _ _ λaB=>ae.lv E eN Tz.func94 (λτ d=>cH rfl rfl rfl<|k8.r τ d) (aE.out _ _ _ ⟨ab,λk hk=>(o8 k ab).trans<|(N.block k (by show k<W4.heap.size;omega)).trans<|A.block k hk⟩<|.inr ⟨hb.out,by unfold Ox;rw[C.out];exact⟨rfl,rfl⟩⟩)
 |yes p T=>
  rw[O]at hy;obtain⟨rfl,U,c2,BT,c3,rfl,g1,g2,Y,Z,g5⟩:=hy;replace g5:Hid _:=g5;let⟨a1,a2,a3,a4,a5,a6⟩:=S6 O;have hp:p<=n:=by rw[a5];exact(Classical.choose_spec<|tw (λj=>cr (f j).name q.name) n).1
  have Sj:Bq W4 now shift U (n+1) c2 (ee f p q) BT (n+1) c3 T:=⟨ab,ab,⟨(λh=>nomatch h),λad C=>⟨U,by cases C;rfl,Y.lt,Y.1⟩⟩,⟨(λh=>nomatch h),λad C=>⟨BT,by cases C;rfl,Z.lt,Z.2⟩⟩,(λh=>by rcases h with h|h<;>cases h),λi hi=>QS (P:=Mv.Fits) hB.fit hq hi hp⟩;replace O:Hid _:=O;clear a1 a2 a3 a4 a5 a6 hp;refine ae.oc E u 3 6 λK τ d hK=>?_
  simp only[ap,aL];go_wp2;refine hK.out _ _<|ae.regionEnd E u ?_;clear hK K;obtain⟨W5,e5,k5,N,-⟩:=boxed (re W4 τ d) now shift (some ⟨U,0,none⟩) (n+1) c2 (some ⟨BT,0,none⟩) (n+1) c3;rw[e5];clear e5;have x:=x.same<|N.block _ l4;have z5:W4.heap.size<=W5:=N.size;have B5:Bl W4 W4 W5:=Bl.kH N;replace Sj:=Sj.bl B5;replace Y:=Y.same<|B5.block U Y.lt;replace Z:=fT Z<|B5.block BT Z.lt;replace A:=A.trans B5 A.size;refine ae.ck E u [_] _ λK R τ d hK J=>?_
  simp only[ak];go_wp2;refine hK.out _ _<|ae.un ?_;clear hK J K R;have aF:=abW<|ac #[q.name,q.ax,q.aI,q.cE,q.late,q.prom];refine ae.seq E u<|ae.ck E u [_,_] _ λK R τ d hK J=>?_;simp only[ak];go_wp2;refine hK.out _ _<|ae.un<|ae.cond E u (t:=true) rfl ?_;clear hK J K R aF;refine ae.seq E u<|ae.rg E u<|ae.oc E u 0 1 λK τ d hK=>?_;let⟨y0,y1,y2,y3,y4⟩:=k5.rc τ d;simp only[ap];go_wp2;refine hK.out _ _<|ae.un ?_;clear hK K y0 y1 y2 y3 y4;refine ae.aZ E (i:=1) rfl rfl lq (λw=>od)<|AN E lq tK hA.pl hA.sb hA.bt u Sj ?_;intro V6 b6;rw[ar rfl];have z6:=b6.size;have a0:=A.size;have k5:=k5.same<|b6.block _ k5.lt;have x:=x.same<|b6.block _ x.lt;have Y:=Y.same<|b6.block U Y.lt;have Z:=fT Z<|b6.block BT Z.lt;have A:=A.trans b6 a0;obtain⟨sb,vf⟩:∃sb,fD now shift (ee f p q) (n+1) T (n+1)=sb:=⟨_,rfl⟩;rw[vf];replace vf:Hid _:=vf;refine ae.oc E u 2 1 λK τ d hK=>?_
  simp only[ap,aL];go_wp2;refine hK.out _ _<|ae.un<|ae.regionEnd E u<|ae.cond E u (t:=!sb) rfl ?_;clear hK K;have nN:U≠W1.heap.size:=ab;have nT:BT≠W1.heap.size:=ab;have back:∀{w W8:ay},Bl V V w->W8.heap.size=w.heap.size->(∀k,k≠W1.heap.size->W8.heap[k]?=w.heap[k]?)->Bl V V W8:=λh h1 h2=>⟨by rw[h1];exact h.size,λk hk=>(h2 k ab).trans<|h.block k hk⟩
  replace back:Hid _:=@back;cases sb with
  |false=>
   refine ae.seq E u<|ae.rg E u<|ae.oc E u 0 2 λK τ d hK=>?_;simp only[ap];go_wp2;refine hK.out _ _<|ae.un ?_;clear hK K;refine ae.Xl E u (i:=2) rfl rfl (f:=256) (xs:=#[ac #[q.name,q.ax,q.aI,q.cE,q.late,q.prom]]) (R:=λv V'=>v=.iface 143 (ac #[(6:Int)])/\Bl V6 V6 V') (λw=>aO) (λτ d=>(Ke q<|re V6 τ d).mono (by rintro e w' ⟨rfl,h⟩;exact⟨_,rfl,rfl,Bl.kH h⟩)) ?_;rintro v V7 ⟨rfl,b7⟩;have x:=x.same<|b7.block _ x.lt;have A:=A.trans b7 A.size;refine ae.oc E u 3 2 λK τ d hK=>?_
   let⟨x0,x1,x2,x3,x4⟩:=x.rc τ d;obtain⟨W8,e8,k8,-,D,o8⟩:=aJ (x.r τ d) (afB 0 _) (afP _) 0 0 none 0 0 none 0 0;replace D:Hid _:=D;simp only[ap,aL];go_wp2;exact hK.out _ _ (ae.regionEnd E u<|ae.ret E u<|ae.lv E eN Tz.func94 (λτ d=>cH rfl rfl rfl<|k8.r τ d)<|aE.out _ _ _ (back.out A D.out o8)<|.inr ⟨hb.out,by unfold Ox;rw[VX O.out vf.out];exact⟨rfl,rfl⟩⟩)
  |true=>
   refine ae.skip E u<|ae.ck E u [_] _ λK R τ d hK J=>?_;let⟨y0,y1,y2,y3,y4⟩:=k5.rc τ d;let⟨x0,x1,x2,x3,x4⟩:=x.rc τ d;obtain⟨W8,e8,k8,-,D,o8⟩:=aJ (x.r τ d) (afB 0 _) (afP _) now shift (some ⟨U,0,none⟩) (n+1) c2 (some ⟨BT,0,none⟩) (n+1) c3;replace D:Hid _:=D;simp only[ak];go_wp2;refine hK.out _ _<|ae.ret E u<|ae.lv E eN Tz.func94 (λτ d=>cH rfl rfl rfl<|k8.r τ d)<|aE.out _ _ _ (back.out A D.out o8)<|.inr ⟨hb.out,?_⟩;unfold Ox;rw[VW O.out vf.out];exact⟨rfl,U,c2,BT,c3,rfl,ab,ab,Y.same<|o8 U nN,fT Z<|o8 BT nT,g5.out⟩
end
section
variable [g:Gl]
def Bq.cy (x:Bq V now shift ao n cp f bo m s t)(W)(A:Bl V V W):a9 Tz.prog 96 #[ac #[now,shift,aa ao n cp,aa bo m s]] W λe w'=>(∃y,e=.returned y/\R9 now shift f n t m W.heap.size y w')/\av W W w':=
 (sM now shift ao n cp f bo m s t W x.n6 x.m6 (x.bl A).sm (x.bl A).si (λh=>⟨(x.two h).1,(x.two h).2.1⟩)).mono λe w' ⟨⟨v,u,C,D,J⟩,hb⟩=>⟨⟨_,C,v,u,rfl,D,J⟩,hb⟩
def VN (E:dB Tz.prog ok c aS)(u:ok.aN 69=true)(t8:ok.aN 70=true)(jA:ok.aN 94=true)(Pp:ok.aN 95=false)(hA:InC ok)(lq:ok.aN 57=true)(tK:ok.aN 81=true)(AV:g.ov=259)(eN:ok.aN r0.fn=true)(hB:Bq V now shift ao n cp f bo m s t)(hq:q.Fits)
  (O:∀y cd W',Bl V V W'->EZ (Ox now shift f n q) (R9 now shift f n t m) (aY now shift f n t m) V.heap.size y cd W'->ae Tz.prog ok c aS Q ⟨r0.finish<|a8 #[y,aV .i64 cd],cs,W'⟩):
  ae Tz.prog ok c aS Q ⟨au Tz.prog 69 #[ac #[now,shift,aa ao n cp,aa bo m s],ac #[q.name,q.ax,q.aI,q.cE,q.late,q.prom]] .normal,r0::cs,V⟩:=by
 replace O:Hid _:=O;refine ae.en Tz.func69 rfl Tryz.ntmps69 iE ?_;refine ae.ck E u [_] _ λK R T mC hK hR=>?_
 obtain⟨W1,e1,x,C,-⟩:=boxed (re V T mC) now shift ao n cp bo m s;let⟨W2,e2,U,v⟩:=DB W1 #[q.name,q.ax,q.aI,q.cE,q.late,q.prom] 55;obtain⟨W3,e3,A,D,-⟩:=boxed W2 0 0 none 0 0 none 0 0;have J:=Bl.kH<|(C.trans<|v.mono C.size).trans<|D.mono<|afN C.size v.size;simp only[ak];go_wp2;refine hK.out _ _ ?_;have p2:=(x.same<|v.block _ x.lt).same<|D.block _<|afL x.lt v.size;have p3:fy W3 W1.heap.size q:=(D.block _ (afM.1 U).1).trans U;have o4:V.heap.size<W2:=afL x.lt v.size;clear hK hR K R x U C v D e1 e2 e3;refine ae.seq E u<|ae.rg E u<|ae.oc E u 0 4 λK τ d hK=>?_;let⟨y0,y1,y2,y3,y4⟩:=p2.rc τ d;let⟨s0,s1,s2,s3,s4,s5⟩:=fS (show fy (re W3 τ d) _ q from p3);simp only[ap];go_wp2;refine hK.out _ _<|ae.un ?_;refine ae.aZ E (i:=4) rfl rfl t8 (λw=>od)<|xu (bb:=aY now shift f n t m) E t8 jA Pp u (mpb now shift f n q) (λhr Y h=>NV E jA hA lq tK AV hr ((hB.bl J).bl Y) hq h) (Wd now shift f n t m) (λW Y=>(hB.bl J).cy W Y) ?_;rintro y cd W4 Z hy;rw[ar rfl];obtain⟨a0,a1,s2,l2,c2,s3,l3,c3,rfl⟩:=hy.is (mpb now shift f n q)<|Wd now shift f n t m;have ZM:=A.lt;have A:=A.same<|Z.block _ ZM;have z0:=J.size;have z4:=Z.size;have bV:=J.trans Z z0;refine ae.oc E u 5 4 λK τ d hK=>?_
 let⟨x0,x1,x2,x3,x4⟩:=A.rc τ d;obtain⟨W8,e8,k8,-,N,o8⟩:=aJ (A.r τ d) (afB 0 _) ab a0 a1 s2 l2 c2 s3 l3 c3;replace N:Hid _:=N;simp only[ap,aL];go_wp2;have N:W8.heap.size=W4.heap.size:=N.out;exact hK.out _ _<|ae.regionEnd E u<|ae.ret E u<|ae.lv E eN Tz.func69 (λτ d=>cH rfl rfl rfl<|k8.r τ d)<|O.out _ _ _ ⟨ab,λk hk=>(o8 k ab).trans<|bV.block k hk⟩<|hy.to (mpb now shift f n q) (Wd now shift f n t m) z0 λk g1 g2=>o8 k ab
end
