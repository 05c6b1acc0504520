import Derived.Test.YtjoalkgmgmmedaaGreatDoorj37
import Derived.Lib.AppendZerosOnto
set_option linter.defProp false
set_option linter.unusedVariables false
set_option linter.unusedSimpArgs false
set_option linter.unusedSectionVars false
set_option maxHeartbeats 4000000
set_option maxRecDepth 100000
open Array renaming getD_eq_getD_getElem?->ac,getElem?_setIfInBounds_ne->ao,any_eq_true'->aV
open Bool renaming and_eq_true->aB,not_eq_true'->a8,or_eq_true->bb
open Go renaming Value->ai,undef->aF,World->a2,execOp->a3,Oper->be,Frame->bj,maxLen->bk,heap_alloc_new->bm,Calls->bn,grownCap_ge->bo
open Go.Act renaming put->a5,eval->a7
open Go.Region renaming binds->ad,wanted->av,ready->a6
open Go.Value renaming slice->aa,int->a0
open Go.World renaming cell?->ax,frozen?->aL
open List renaming all_eq_true->ay,mem_range->aI,range->a1,mem_filter->a9
open Nat renaming min->au,min_eq_left->a4,zero_add->bi
namespace Go.Proofs.YtjoalkgmgmmedaaGreatDoor
open Conc RowKit
variable {a:Act}{L:Array Bool}{ops:Array be}{ok:Ctx}{u D:bj}{Dr:FuncId->Array ai->a2->(ai->a2->Prop)->Prop}{l:List (Nat×ai)}{cs:List bj}{F M post r:List Nat}{xs:List ai}{m:Mv}{B C N c d i j k n p:Nat}{t:Nat->Int}{f:Nat->Mv}{o:be}{afn:Program}{T:TypeId}{v:ai}{Q:ai->a2->Prop}{V W w:a2}
def qV {α:Type}(g:Nat->α)(p k):dX g p k=g (rH p k):=by
 grind [dX,rH]
def RQ (e:p<n)(h:i<n-1):rH p i<n:=by unfold rH;split<;>omega
def VK (h:i<j):rH p i<rH p j:=by unfold rH;split<;>split<;>omega
def VM (y:fX f t n)(J:p<n):fX (dX f p) (dX t p) (n-1):=
 ⟨λj x=>by rw[qV,qV];exact y.1 _<|RQ J x,λj k hk x=>by rw[qV,qV,qV,qV];exact y.2 _ _ (VK hk)<|RQ J x⟩
section
variable {w':a2}{base s:Nat}
def Fd (w:a2)(B n:Nat)(t:Nat->Int):Prop:=(∃cs,w.heap[B]?=some (.cells cs 3 (0,0))/\n<=cs.size)/\aD w B 0 n t
def iQ (h:Fd w B n t)(e:w'.heap[B]?=w.heap[B]?):Fd w' B n t:=by
 let⟨⟨cs,q,x⟩,y⟩:=h;exact⟨⟨cs,e.trans q,x⟩,λi z=>(afH e).trans<|y i z⟩
def Fd.lt (h:Fd w B n t):B<w:=by
 let⟨⟨cs,e,q⟩,x⟩:=h;grind
def Qe (h:aC w B n t):Fd w B n t:=by
 let⟨⟨cs,e,x⟩,q⟩:=h;exact⟨⟨cs,e,ab⟩,q⟩
def M8 (h:w.ownsRow base 3 1 (aa B n c) n (eG t n)):Fd w B n t:=by
 let⟨A,q,z,J,x,O,e⟩:=du h;exact⟨⟨A,q,ab⟩,λi y=>by rw[bi];exact e i _<|dW y⟩
def ff (h:w.ownsRow base T s (aa B n c) n xs)(e:w'.heap[B]?=w.heap[B]?):w'.ownsRow base T s (aa B n c) n xs:=by
 obtain⟨x,q|⟨g,y,A,q,z,J,O⟩⟩:=h
 .grind
 cases q;exact⟨x,.inr ⟨_,_,A,rfl,z,e.trans J,O⟩⟩
def CQ (h:w.ownsRow base T s v n xs)(x:0<n):∃B c,v=aa (some ⟨B,0,none⟩) n c/\base<=B/\B<w.heap.size:=by
 obtain⟨y,⟨_,e⟩|⟨g,q,A,e,z,J,O⟩⟩:=h
 .omega
 grind
def UX {A e c' s':Nat}{q x}(h:w.ownsRow N T s (aa A n c) n xs)(y:w.ownsRow N q s' (aa B e c') e x)(z:T≠q):A≠B:=by
 let⟨J,O,_⟩:=du h;let⟨R,U,_⟩:=du y;grind
end
def GW (f n m):bc f n++m.cells.toList=bc (ee f n m) (n+1):=by
 have:=At f n n m ab;simp_all [bc]
def Jf (B n c N C:Nat)(f m)(w:a2)(hn:n<=1048576)(R:N<=w)(ho:w.ownsRow N 55 6 (aa B n c) n (bc f n))(U:w.heap[C]?=some (.cells m.cells 55 (0,0))):
  bn Tz.prog 258 #[aa (some ⟨B,0,none⟩) n c,a0 .i64 n,aa (some ⟨C,0,none⟩) 1 1] w λe w'=>(∃x c',e=.returned (aa (some ⟨x,0,none⟩) (n+1) c')/\w'.ownsRow N 55 6 (aa (some ⟨x,0,none⟩) (n+1) c') (n+1) (bc (ee f n m)<|n+1))/\w.grownBy w' (some B):=by
 let⟨Y,Z,gK,eO,fZ⟩:=fe;let⟨A,hg,Uk,zn,aE,N9,y⟩:=du ho;have aZ:(n:Int)<=c:=ab;go_enter Tz.func258,Tryz.ntmps258
 go_wp2_with(at_builtin;refine wpList_append_own _ rfl (.tmp 23) (.tmp 24) 26 rfl N 55 Y _ 6 56 aT Z gK eO fZ rfl bh (aa B n c) n (bc f n) bQ ho C 1 1 m.cells.toList bQ rfl (vF U) (gu m) iN ab R ?_;intro v2 w2 J jC xS)
 all_goals
  have O:v2≠.slice none 0 0:=λe=>by have:=xS.1 e;omega
  obtain⟨x,c',rfl⟩:=ml J O;go_ret;rw[GW]at J;exact⟨⟨x,c',rfl,J⟩,jC⟩
section
variable {o:Nat}{A:Array ai}
def abH (hk:k<=n)(y:N<=B)(J:W.heap[B]?=some (.cells A 55 (0,0)))(hs:A.size=c*6)(O:n+1<=c)(R:c<=bk)
  (h1:∀j u,(bc f k)[j]?=some u->W.cell? ⟨B,j,none⟩=some u)(U:∀j u,m.cells.toList[j]?=some u->W.cell? ⟨B,k*6+j,none⟩=some u)(Y:∀j u,(bc (λj=>f<|k+j)<|n-k)[j]?=some u->W.cell? ⟨B,(k+1)*6+j,none⟩=some u):
  W.ownsRow N 55 6 (aa B (n+1) c) (n+1) (bc (ee f k m)<|n+1):=by
 have Z:m.cells.toList.length=6:=rfl;have la:(bc f k++m.cells.toList).length=k*6+6:=by rw[List.length_append,bJ,Z]
 refine nt y J hs O R (bJ _ _) λj u x=>?_
 rw[<-At f k n m hk]at x;by_cases c1:j<k*6
 .grind
 by_cases c2:j<k*6+6
 .rw[afV ab,afW cO,bJ]at x;have:=U _ u x;simp_all
 .rw[afW ab,la]at x;have:=Y _ u x;rwa [show(k+1)*6+(j-(k*6+6))=j by omega]at this
def EC (q:w.heap[B]?=some (.cells A T (0,0)))(z:o+xs.length<=A.size):∀j u,xs[j]?=some u->(w.setCells B o xs).cell? ⟨B,o+j,none⟩=some u:=λj u x=>by
 let⟨y,e⟩:=afT.1 x;rw[World.cell?_setCells_in B xs o w (λi E=>by
  have:w.cell? ⟨B,o+i,none⟩=A[o+i]?:=by simp[ax,q]
  rw[this,afR ab];rfl) j y,<-e]
def rC (p)(h:p<o\/o+xs.length<=p):(w.setCells B o xs).cell? ⟨B,p,none⟩=w.cell? ⟨B,p,none⟩:=World.cell?_setCells_out B _ _ _ _ λ_ _=>h
def DU {u}(h:xs[j]?=some u):j<xs.length:=gC
def NY (hn:n<=1048576)(hk:k<n)(hc:c<n+1)(ho:w.ownsRow N 55 6 (aa B n c) n (bc f n)):
  ∃c' W,(∀y,(Builtin.append_ #[26,3] y #[aa B k c,a0 .i64<|(n:Int)+1-k]).run Tz.prog w=.ok (aa w.heap.size (n+1) c') W)/\n+1<=c'/\c'<=bk/\
   (∃A,W.heap[w.heap.size]?=some (.cells A 55 (0,0))/\A.size=c'*6)/\(∀j u,(bc f k)[j]?=some u->W.cell? ⟨w.heap.size,j,none⟩=some u)/\Below w w W/\W.heap.size=w.heap.size+1:=by
 let⟨i,O,R,eO,J⟩:=fe;let⟨A,hg,Uk,zn,U,N9,x⟩:=du ho;have Y:k+(n+1-k)=n+1:=ab;have Z:((n:Int)+1-k)=((n+1-k:Nat):Int):=ab;have aE:c=n:=ab;have aZ:=run_firstCells_some (P:=Tz.prog) (w:=w.drew) 6 k B k c (bc f k) (bJ f k) (λj v hv=>by
  have:=x j v<|(As f ab<|by grind [bJ]).trans hv;rw[qf,bi];exact this)
 have hr:∀y,_:=λy=>by
  have:=Lib.run_append_grow_zeros w 26 3 y 55 i _ .i64 .i64 aT (Tz.al Tryz.underlying3) O R B k c (bc f k) cO (n+1-k) ab ab ab ab (by rw[J];omega) (by rw[J];exact growslice_fits ab ab);rw[Y,<-Z]at this;omega
 refine⟨_,_,hr,bo _ _ _ _,grownCap_le_maxLen _ _ _ _ iN,?_,?_,?_,?_⟩
 .exact⟨_,bm _ _,by simp[Builtin.zeroCells,Value.cells,bJ];have:=bo w (n+1) c 55;omega⟩
 .intro j u hu;have hj:=DU hu;have:∀xs:Array ai,(w.drew.alloc<|.cells ((bc f k).toArray++xs) 55).cell? ⟨w.heap.size,j,none⟩=some u:=λxs=>by
   have h0:=bm w.drew<|.cells ((bc f k).toArray++xs) 55;simp_all [ax,Array.getElem?_append]
  grind
 .exact(afB _ w).drew.alloc (afK _) _
 simp_all
end
def xf (B):∀(e:List ai) (o:Nat) {w w':a2},w.heap=w'.heap->(w.setCells B o e).heap=(w'.setCells B o e).heap
 |[],_,_,_,h=>h
 |v::e,o,w,w',h=>xf B e (o+1) (by simp only[World.setCell];rw[h])
def Nh (hk:k<n)(U:n+1<=c)(ho:W.ownsRow N 55 6 (aa B n c) n (bc f n)):
  ((W.setCells B ((k+1)*6)<|bc (λj=>f<|k+j)<|n-k).setCells B (k*6) m.cells.toList).ownsRow N 55 6 (aa B (n+1) c) (n+1) (bc (ee f k m)<|n+1):=by
 let⟨A,J,Uk,Y,Z,N9,x⟩:=du ho;let⟨nI,O,uk⟩:=dH B _ (bc (λj=>f<|k+j)<|n-k) ((k+1)*6) W A J;let⟨xF,jC,xS⟩:=dH B _ m.cells.toList (k*6) _ nI O;have lm:m.cells.toList.length=6:=rfl;have lr:=bJ (λj=>f<|k+j)<|n-k;refine abH ab N9 jC ab U Y (λj u y=>?_) (EC O ab) λj u y=>?_
 .have R:=DU y;rw[bJ]at R;rw[rC _ (.inl ab),rC _ (.inl ab)];exact x j u<|(As f ab R).trans y
 .rw[rC _ (.inr ab)];exact EC J ab j u y
section
variable [g:Gl]
def Kg (E:dB Tz.prog ok D aS)(J:ok.aN 258=true)(AV:g.ov=259){r0}(eN:ok.aN r0.fn=true)
  (hn:n<=1048576)(hk:k<n)(wG:n+1<=c)(ho:V.ownsRow N 55 6 (aa B n c) n (bc f n))(aZ:C≠B)(hv:V.heap[C]?=some (.cells m.cells 55 (0,0)))
  (aE:∀V',V'.ownsRow N 55 6 (aa B (n+1) c) (n+1) (bc (ee f k m)<|n+1)->V'.heap.size=V.heap.size->(∀i,i≠B->V'.heap[i]?=V.heap[i]?)->ae Tz.prog ok D aS Q ⟨r0.finish<|aa B (n+1) c,cs,V'⟩):
  ae Tz.prog ok D aS Q ⟨Frame.enter Tz.prog 258 #[aa (some ⟨B,0,none⟩) n c,a0 .i64 k,aa (some ⟨C,0,none⟩) 1 1] .normal,r0::cs,V⟩:=by
 have hE:=enter_at (P:=Tz.prog) #[aa (some ⟨B,0,none⟩) n c,a0 .i64 k,aa (some ⟨C,0,none⟩) 1 1] Tz.func258 rfl;simp only[Tryz.ntmps258,List.size_toArray,List.length_cons,List.length_nil,Nat.reduceAdd,Nat.reduceSub,Array.replicate_succ,Array.replicate_zero,List.push_toArray,List.append_toArray,List.nil_append,List.cons_append]at hE;rw[hE];clear hE;let⟨A,Z,Uk,zn,bq,N9,O⟩:=du ho;have e1:(k:Int)<=c:=ab;have e2:(k:Int)<=n:=ab;have e3:¬(k:Int)=n:=ab;have e4:¬((n:Int)+1>c):=ab;have e5:((n:Int)+1)<=c:=ab;have w1:IntKind.i64.wrap ((n:Int)+1)=(n:Int)+1:=by rw[IntKind.wrap_i64];unfold bk at zn;omega
 have w2:IntKind.i64.wrap ((k:Int)+1)=(k:Int)+1:=by rw[IntKind.wrap_i64];unfold bk at zn;omega
 have e6:(k:Int)+1<=c:=ab;have e7:(k:Int)+1<=(n:Int)+1:=ab;have e8:¬c=k+1:=ab;have bv:(0:Int)<=(k:Int)+1:=ab;have U_:(k:Int)<=(n:Int)+1:=ab;have e9:¬c=k:=ab;refine ae.chain E J [_,_,_,_,_,_,_,_] _ (λa' w'=>(∃τ d,w'=re V τ d)/\jI a' (rW 95 [(0,aa (some ⟨B,0,none⟩) (n+1) c),(1,a0 .i64 k),(2,aa (some ⟨C,0,none⟩) 1 1),(7,a0 .i64 1),(8,a0 .i64 n)])) (λ_ _=>False) ?_ ?_ λ_ _ _ h=>h.elim
 .intro τ d;clear aE ho Z O hv;simp only[ak];go_wp2;all_goals try omega
  exact⟨⟨τ,d,rfl⟩,rfl,rfl⟩
 rintro a' w' ⟨⟨bx,d1,rfl⟩,R⟩;obtain⟨u,rfl⟩:=R.open;clear R;refine ae.seq E J<|ae.seq E J<|ae.region E J ?_;rw[mj];refine ae.kZ E J 0 6 aP (λa' w'=>(∃τ d,w'=re V τ d)/\jI a' (rW 95 [(0,aa (some ⟨B,0,none⟩) (n+1) c),(1,a0 .i64 k),(2,aa (some ⟨C,0,none⟩) 1 1),(7,a0 .i64 1),(8,a0 .i64 n),(61,aa (some ⟨C,0,none⟩) 1 1),(66,aa (some ⟨B,(k+1)*6,none⟩) (n-k)<|c-(k+1))])) ?_ ?_
 .intro τ d;clear aE ho Z O hv;simp only[ap];go_wp2;exact⟨⟨_,_,rfl⟩,rfl,rfl⟩
 rintro a' w' ⟨⟨bz,d2,rfl⟩,R⟩;clear u;obtain⟨u,rfl⟩:=R.open;clear R;refine ae.aau J rfl (by rw[AV];decide) (i:=6) rfl rfl (x:=61) (y:=66) (by rw[AV];rfl) (p:=C) (q:=⟨B,(k+1)*6,none⟩) rfl rfl aZ hv (show(6:Nat)≠0 by decide) Z ab ?_;refine ae.kZ E J 7 1 aP (λa' w'=>(∃τ d,w'=re V τ d)/\jI a' (rW 95 [(0,aa (some ⟨B,0,none⟩) (n+1) c),(1,a0 .i64 k),(2,aa (some ⟨C,0,none⟩) 1 1),(7,a0 .i64 1),(8,a0 .i64 n),(68,.bool true)])) ?_ ?_
 .intro τ d;clear aE ho Z O hv;simp only[ap,a5];go_wp2;exact⟨⟨_,_,rfl⟩,rfl,rfl⟩
 rintro a' w' ⟨⟨On,d3,rfl⟩,R⟩;clear u;obtain⟨u,rfl⟩:=R.open;clear R;refine ae.regionEnd E J<|ae.cond E J (t:=true) rfl ?_;refine ae.DF E J [_] _ (λa' w'=>(∃W:a2,W.heap=V.heap/\w'.heap=(W.setCells B ((k+1)*6)<|bc (λj=>f<|k+j)<|n-k).heap)/\jI a' (rW 95 [(0,aa (some ⟨B,0,none⟩) (n+1) c),(1,a0 .i64 k),(2,aa (some ⟨C,0,none⟩) 1 1),(7,a0 .i64 1),(8,a0 .i64 n),(68,.bool true)])) (λ_ _=>False) ?_ ?_ λ_ _ _ hh=>hh.elim
 .intro τ d;let⟨i0,hI,gK,eO,fZ⟩:=fe;have AU:(re (re V On d3) τ d).drew.ownsRow N 55 6 (aa B n c) n (bc f n):=ff ho rfl;have Sy:(re (re V On d3) τ d).drew.heap[C]?=some (.cells m.cells 55 (0,0)):=hv;have U:(re (re V On d3) τ d).drew.heap=V.heap:=rfl;revert AU Sy U;generalize re (re V On d3) τ d=w;intro AU Sy U;clear aE Z O ho hv Sy;let⟨To,qp,_,_,IX,_,Zf⟩:=du AU;obtain⟨xs,vh⟩:∃xs,xs=bc (λj=>f<|k+j) (n-k):=⟨_,rfl⟩;have Y:xs.length=(n-k)*6:=by rw[vh,bJ]
  have zu:Hid (∀u∈xs,u.oneCell'=true):=by rw[vh];exact fh _ _
  have I6:Hid (∀t u,xs[t]?=some u->w.drew.cell? ((⟨B,k*6,none⟩:Addr).add t)=some u):=λt u hu=>by
   rw[vh]at hu;exact ep (nZ (eh AU) (show k<=n by omega)) t u hu
  have D5:Hid (xs.length=au (n+1-k) (n-k)*6):=by have e:au (n+1-k) (n-k)=n-k:=Nat.min_eq_right ab;rw[Y,e];exact rfl
  have uk:Hid (∀t,t<xs.length->(w.drew.cell? ⟨B,(k+1)*6+t,none⟩).isSome=true):=λt ht=>by
   have:w.drew.cell? ⟨B,(k+1)*6+t,none⟩=To[(k+1)*6+t]?:=by simp only[ax,qp];simp
   exact J_
  have ue:Hid (∀t,t<xs.length->w.drew.frozen? ⟨B,(k+1)*6+t,none⟩=false):=λt ht=>by simp only[aL,qp];simp
  have br:Hid (w.drew.heap=V.heap):=U;obtain⟨W1,wA⟩:∃W1,W1=w.drew.setCells B ((k+1)*6) xs:=⟨_,rfl⟩;have pP:Hid (W1.heap=(w.drew.setCells B ((k+1)*6)<|bc (λj=>f<|k+j)<|n-k).heap):=by rw[wA,vh];exact rfl
  have Y5:Hid (W1=w.drew.setCells B ((k+1)*6) xs):=wA;clear wA vh Y qp Zf AU IX U;simp only[ak];go_wp2_with fail
  go_region_law (refine qS rfl (.tmp 73) (.tmp 76) 26 26 rfl 55 i0 6 aT hI eO B ((k+1)*6) (n-k) (c-(k+1)) ⟨B,k*6,none⟩ (n+1-k) (c-k) (by simp[a7,a5]) (by simp[a7,a5]) xs D5.out I6.out zu.out uk.out ue.out ?_;rw[<-Y5.out])
  all_goals exact⟨⟨w.drew,br.out,pP.out⟩,rfl,rfl⟩
 rintro a' w1 ⟨⟨W,Z_,FO⟩,R⟩;clear u;obtain⟨u,rfl⟩:=R.open;clear R;refine ae.last E J [_,_] (λa' w'=>w'.ownsRow N 55 6 (aa B (n+1) c) (n+1) (bc (ee f k m)<|n+1)/\w'.heap.size=V.heap.size/\(∀i:Nat,i≠B->w'.heap[i]?=V.heap[i]?)/\a'.defers=[]/\a'.tmps[6]?=some (aa B (n+1) c)) ?_ ?_
 .intro τ d;let⟨i0,hI,gK,eO,fZ⟩:=fe;have KZ:(re w1 τ d).heap=(W.setCells B ((k+1)*6)<|bc (λj=>f<|k+j)<|n-k).heap:=FO;revert KZ;generalize re w1 τ d=w;intro KZ;have bl:W.ownsRow N 55 6 (aa B n c) n (bc f n):=ff ho (by rw[Z_]);obtain⟨nI,nO,bs⟩:∃nI,w.heap[B]?=some (.cells nI 55 (0,0))/\nI.size=A.size:=by rw[KZ];exact dH B _ _ _ _ _ (by rw[Z_];exact Z)
  have bp:w.heap[C]?=some (.cells m.cells 55 (0,0)):=by rw[KZ,d6 _ _ _ _ _ aZ,Z_];exact hv
  have Xd:Hid (∀t u,m.cells.toList[t]?=some u->w.cell? ((C:Addr).add t)=some u):=vF bp;have xS:Hid (∀t,t<m.cells.toList.length->(w.cell? ⟨B,k*6+t,none⟩).isSome=true):=λt ht=>by
   have bA:t<6:=ht;have:w.cell? ⟨B,k*6+t,none⟩=nI[k*6+t]?:=by simp only[ax,nO];simp
   exact J_
  have WG:Hid (∀t,t<m.cells.toList.length->w.frozen? ⟨B,k*6+t,none⟩=false):=λt ht=>by simp only[aL,nO];simp
  have WQ:Hid (m.cells.toList.length=au 1 (n+1-k)*6):=(show(6:Nat)=au 1 (n+1-k)*6 by have e:au 1 (n+1-k)=1:=a4 ab;rw[e]);obtain⟨W2,oe⟩:∃W2,W2=w.setCells B (k*6) m.cells.toList:=⟨_,rfl⟩;have hp:=Nh (m:=m) hk wG bl;have hq:W2.heap=((W.setCells B ((k+1)*6)<|bc (λj=>f<|k+j)<|n-k).setCells B (k*6) m.cells.toList).heap:=by rw[oe];exact xf B _ _ KZ
  have pP:Hid (W2.ownsRow N 55 6 (aa B (n+1) c) (n+1) (bc (ee f k m)<|n+1)/\W2.heap.size=V.heap.size/\∀i:Nat,i≠B->W2.heap[i]?=V.heap[i]?):=⟨ff hp<|by rw[hq],by rw[hq,eB,eB,Z_],λi hi=>by rw[hq,d6 _ _ _ _ _ hi,d6 _ _ _ _ _ hi,Z_]⟩;have Zh:∀ty,(Builtin.copy_ #[26,26] ty #[aa (some ⟨B,k*6,none⟩) (n+1-k)<|c-k,aa C 1 1]).run Tz.prog w=.ok (goInt<|au 1<|n+1-k) W2:=λty=>by rw[oe];exact nu w _ _ ty _ i0 6 aT hI eO B (k*6) (n+1-k) (c-k) C 1 1 m.cells.toList WQ.out Xd.out (gu m) xS.out WG.out
  clear Xd xS WG WQ;clear oe aE Z O ho hv nO bs bp KZ FO bl hp hq Z_ bq;simp only[ak];go_wp2;exact pP.out
 .rintro a' w' bt ⟨h1,h2,h3,h4,h5⟩;refine ae.leave E eN (v:=aa B (n+1) c) (λτ d=>⟨rfl,h4,rfl,_,Tz.func258,?_⟩)<|aE w' h1 h2 h3;have:=results_tmp (fn:=Tryz.f258) rfl a'.tmps Tz.prog<|re w' τ d;rw[mN h5]at this;exact this
end
def FW (B n c k N C:Nat)(f m)(w:a2)(hn:n<=1048576)(hk:k<n)(hc:c<n+1)(hN:N<=w)(ho:w.ownsRow N 55 6 (aa B n c) n (bc f n))(hv:w.heap[C]?=some (.cells m.cells 55 (0,0))):
  bn Tz.prog 258 #[aa (some ⟨B,0,none⟩) n c,a0 .i64 k,aa (some ⟨C,0,none⟩) 1 1] w λe w'=>(∃y c',e=.returned (aa (some ⟨y,0,none⟩) (n+1) c')/\w'.ownsRow N 55 6 (aa (some ⟨y,0,none⟩) (n+1) c') (n+1) (bc (ee f k m)<|n+1))/\w.heap.size<=w'.heap.size/\∀i,i<w.heap.size->w'.heap[i]?=w.heap[i]?:=by
 let⟨i0,hI,gK,eO,fZ⟩:=fe;let⟨A,hg,Uk,zn,bq,N9,aE⟩:=du ho;let⟨c',W,hr,h1,h2,⟨nI,nO,uk⟩,Eb,bW,ZI⟩:=NY hn hk hc ho;obtain⟨y,Po⟩:∃x,w.heap.size=x:=⟨_,rfl⟩;have lB:B<w:=(afM.1 hg).1;have lv:C<w:=(afM.1 hv).1;have gB:=(bW.block B lB).trans hg;have gv:=(bW.block C lv).trans hv;have oO:=bW.block;rw[Po]at hr nO Eb lB lv ZI hN oO;obtain⟨xs,vh⟩:∃xs,xs=bc (λj=>f<|k+j) (n-k):=⟨_,rfl⟩;have U:xs.length=(n-k)*6:=by rw[vh,bJ]
 have lm:m.cells.toList.length=6:=rfl;have O:∀t,t<c'*6->W.cell? ⟨y,t,none⟩=nI[t]?:=λt ht=>by simp only[ax,nO];simp
 have V9:∀t,t<c'*6->(W.cell? ⟨y,t,none⟩).isSome=true:=λt ht=>by rw[O t ht,afR ab];rfl
 obtain⟨J,Y⟩:∃J,J=W.setCells y (k*6) m.cells.toList:=⟨_,rfl⟩;have Zh:∀ty,(Builtin.copy_ #[26,26] ty #[aa (some ⟨y,k*6,none⟩) (n+1-k)<|c'-k,aa C 1 1]).run Tz.prog W=.ok (goInt<|au 1<|n+1-k) J:=λty=>by
  rw[Y];exact nu W _ _ ty _ i0 6 aT hI eO y (k*6) (n+1-k) (c'-k) C 1 1 m.cells.toList (show(6:Nat)=au 1 (n+1-k)*6 by have e:au 1 (n+1-k)=1:=a4 ab;rw[e]) (vF gv) (gu m) (λt ht=>V9 _<|by rw[lm]at ht;omega) (λt ht=>by simp only[aL,nO];simp)
 let⟨xF,jC,xS⟩:=dH y _ m.cells.toList (k*6) W nI nO;rw[<-Y]at jC;have aZ:J.heap[B]?=some (.cells A 55 (0,0)):=by rw[Y,d6 _ _ _ _ _ ab];exact gB
 have vI:=eh ho;have zu:Hid (∀u∈xs,u.oneCell'=true):=by rw[vh];exact fh _ _
 have I6:Hid (∀t u,xs[t]?=some u->J.drew.cell? ((⟨B,k*6,none⟩:Addr).add t)=some u):=λt u R=>by
  rw[vh]at R;have:=ep (nZ vI (show k<=n by omega)) t u R;rw[qf]at this⊢;exact(afH<|aZ.trans hg.symm).trans this
 have D5:Hid (xs.length=au (n-k) (n+1-(k+1))*6):=by have e:au (n-k) (n+1-(k+1))=n-k:=a4 ab;rw[U,e];exact rfl
 have br:Hid (∀t,t<xs.length->(J.drew.cell? ⟨y,(k+1)*6+t,none⟩).isSome=true):=λt ht=>by
  have:J.drew.cell? ⟨y,(k+1)*6+t,none⟩=xF[(k+1)*6+t]?:=by show J.cell? _=_;simp only[ax,jC];simp
  exact J_
 have ue:Hid (∀t,t<xs.length->J.drew.frozen? ⟨y,(k+1)*6+t,none⟩=false):=λt ht=>by show J.frozen? _=_;simp only[aL,jC];simp
 obtain⟨W3,Z⟩:∃W3,W3=J.drew.setCells y ((k+1)*6) xs:=⟨_,rfl⟩;have Y5:Hid (W3=J.drew.setCells y ((k+1)*6) xs):=Z;have pP:Hid (W3.ownsRow N 55 6 (aa y (n+1) c') (n+1) (bc (ee f k m)<|n+1)/\w.heap.size<=W3/\∀i,i<w.heap.size->W3.heap[i]?=w.heap[i]?):=by
  have bl:J.drew.heap[y]?=some (.cells xF 55 (0,0)):=jC;let⟨bs,bp,bt⟩:=dH y _ xs ((k+1)*6) J.drew xF bl;rw[<-Z]at bp;refine⟨abH ab hN bp ab h1 h2 (λj u R=>?_) (λj u R=>?_) λj u R=>?_,?_⟩
  .have hj:=DU R;rw[bJ]at hj;rw[Z,rC _ (.inl ab)];show J.cell? _=_;rw[Y,rC _ (.inl ab)];exact Eb j u R
  .have hj:=DU R;rw[Z,rC _ (.inl ab)];show J.cell? _=_;rw[Y];exact EC nO ab j u R
  .rw[Z];rw[<-vh]at R;exact EC bl ab j u R
  have z3:W3.heap.size=W.heap.size:=by rw[Z,eB];show J.heap.size=_;rw[Y,eB]
  refine⟨ab,λi hi=>?_⟩;rw[Z,d6 _ _ _ _ _ ab];show J.heap[i]?=_;rw[Y,d6 _ _ _ _ _ ab];exact oO i ab
 have e1:(k:Int)<=c:=ab;have e2:(k:Int)<=n:=ab;have e3:¬(k:Int)=n:=ab;have e4:((n:Int)+1>c):=ab;have w1:IntKind.i64.wrap ((n:Int)+1)=(n:Int)+1:=kw;have w2:IntKind.i64.wrap ((k:Int)+1)=(k:Int)+1:=kw;have w3:IntKind.i64.wrap ((n:Int)+1-k)=(n:Int)+1-k:=kw;have e6:(k:Int)+1<=c':=ab;have e5:(k:Int)<=c':=ab;have e7:(k:Int)+1<=(n:Int)+1:=ab;have e8:¬c'=k+1:=ab;have bv:(0:Int)<=(k:Int)+1:=ab;have U_:(k:Int)<=(n:Int)+1:=ab;have e9:¬c=k:=ab;have bx:¬c'=k:=ab;clear hg aE bq hv nO uk Eb ZI gB gv O V9 Y jC xS aZ vI Z vh U ho oO bW;go_enter Tz.func258,Tryz.ntmps258
 go_wp2_with(at_builtin;refine Lib.wpList_append_run _ rfl (.tmp 34) (.tmp 39) _ _ rfl _ _ rfl rfl _ _ (hr _) ?_)<;>try omega
 go_region_law (refine qS rfl (.tmp 50) (.tmp 53) 26 26 rfl 55 i0 6 aT hI eO y ((k+1)*6) (n+1-(k+1)) (c'-(k+1)) ⟨B,k*6,none⟩ (n-k) (c-k) (by simp[a7,a5]) (by simp[a7,a5]) xs D5.out I6.out zu.out br.out ue.out ?_;rw[<-Y5.out])
 all_goals
  go_wp2;go_ret;exact⟨⟨y,c',rfl,pP.out.1⟩,pP.out.2⟩
section
variable [g:Gl]
def ae.Xl (E:dB afn ok D Dr){k}(hb:ok.aN u.fn=true)(ho:ops[i]?=some o)(hw:av o (yielded ops a.tmps)=true){f xs}(y:∀w,(a3 a.eval o).run afn w=.ok (.enter f xs) w){R:ai->a2->Prop}
  (hc:∀τ d,bn afn f xs (re V τ d) λe w'=>∃v,e=.returned v/\R v w')(J:∀v x,R v x->ae afn ok D Dr Q ⟨u.at (a.put o.dst v)<|.inRegion ops r::k,cs,x⟩):ae afn ok D Dr Q ⟨u.at a<|.inRegion ops (i::r)::k,cs,V⟩:=by
 refine ae.ops E hb i [o] r (λa' w'=>∃v,a'=a.put o.dst v/\R v w') (λj O=>?_) (λτ d=>?_) λa' w' h=>?_
 .grind
 .unfold wpList;rw[if_pos hw];left;unfold Oper.wp;rw[y];apply(hc τ d).mono;rintro e w' ⟨v,rfl,h⟩;exact⟨rfl,v,rfl,h⟩
 obtain⟨v,rfl,h⟩:=h;exact J v w' h
def ae.Qd (E:dB Tz.prog ok D aS)(U:ok.aN 258=true)(AV:g.ov=259){k}(hb:ok.aN u.fn=true)(ho:ops[i]?=some o)(hw:av o (yielded ops a.tmps)=true)
  (hx:∀w,(a3 a.eval o).run Tz.prog w=.ok (.enter 258 #[aa (some ⟨B,0,none⟩) n c,a0 .i64 p,aa (some ⟨C,0,none⟩) 1 1]) w)
  (hn:n<=1048576)(hp:p<=n)(hN:N<=V)(hr:V.ownsRow N 55 6 (aa B n c) n (bc f n))(bl:C≠B)(hv:V.heap[C]?=some (.cells m.cells 55 (0,0)))
  (aE:∀x y J,J.ownsRow N 55 6 (aa (some ⟨x,0,none⟩) (n+1) y) (n+1) (bc (ee f p m)<|n+1)->V.heap.size<=J.heap.size->(∀i,i<V.heap.size->i≠B->J.heap[i]?=V.heap[i]?)->ae Tz.prog ok D aS Q ⟨u.at (a.put o.dst<|aa (some ⟨x,0,none⟩) (n+1) y)<|.inRegion ops r::k,cs,J⟩):ae Tz.prog ok D aS Q ⟨u.at a<|.inRegion ops (i::r)::k,cs,V⟩:=by
 have WN:(∀τ d,bn Tz.prog 258 #[aa _ n c,a0 .i64 p,aa _ 1 1] _ λe w'=>∃v,e=.returned v/\∃x y,v=aa (some ⟨x,0,none⟩) (n+1) y/\w'.ownsRow N 55 6 (aa (some ⟨x,0,none⟩) (n+1) y) (n+1) (bc (ee f p m)<|n+1)/\V.heap.size<=w'.heap.size/\∀i,i<V.heap.size->i≠B->w'.heap[i]?=V.heap[i]?)->ae Tz.prog ok D aS Q ⟨u.at a _,cs,V⟩:=λh=>
  ae.Xl E hb ho hw hx h (by rintro v J ⟨x,y,rfl,O,R,Y⟩;exact aE x y J O R Y)
 by_cases e1:p=n
 .subst e1;refine WN λτ d=>(Jf B p c N C f m (re V τ d) hn hN (ff hr rfl) hv).mono ?_
  rintro e w' ⟨⟨x,y,rfl,O⟩,R⟩;exact⟨_,rfl,x,y,rfl,O,R.size,λi Z hB=>R.block i Z λe=>hB (by cases e;rfl)⟩
 by_cases e2:c<n+1
 .refine WN λτ d=>(FW B n c p N C f m (re V τ d) hn (by omega) e2 hN (ff hr rfl) hv).mono ?_
  rintro e w' ⟨⟨x,y,rfl,O⟩,R,Y⟩;exact⟨_,rfl,x,y,rfl,O,R,λi Z hB=>Y i Z⟩
 exact ae.aZ E ho hw U hx (Kg E U AV (r0:=u.at a _) hb hn (by omega) (by omega) hr bl hv λJ O R Y=>by rw[ar ho];exact aE B c J O (by omega) λi Z hB=>Y i hB)
end
def N7 (l:List (Nat×ai)):Operand->ai
 |.tmp s=>E7 l aF s
 |x=>(⟨#[],[]⟩:Act).eval x
def tX (ops:Array be)(j:Nat):Nat:=((ops[j]?).bind (·.dst)).getD 0
def ux (ops:Array be)(M:List Nat)(j:Nat):Bool:=match ops[j]? with
 |none=>false
 |some o=>o.guard.isNone&&(match o.op with|.select _ _=>false|_=>true)&&o.op.operands.toList.all λx=>match x with
  |.tmp s=>M.contains s||o.after.any λe=>ad .any e&&(tX ops e.on==s&&decide (e.on<ops.size))
  |_=>true
def aam (ops:Array be)(M:List Nat)(F G:List Nat)(i:Nat):Bool:=
 ux ops M i&&F.all (ux ops M)&&!(F++G).contains i&&(a1 ops.size).all λj=>match ops[j]? with
  |none=>false
  |some o=>o.after.all (λe=>!Region.binds .any e||decide (e.on<j))&&(j==i||(F++G).contains j||o.after.any λe=>ad .any e&&(!(F++G).contains e.on&&decide (e.on<ops.size)))
def uN (h:j∈a6 .any ops L):j<ops.size/\L.getD j true=false/\∃o,ops[j]?=some o/\∀e∈o.after,ad .any e=true->L.getD e.on false=true:=by
 let⟨z,x⟩:=a9.1 h;rw[agd]at x;have q:=aI.1 z;refine⟨q,cO,ops[j],afR q,λe he E=>?_⟩;have y:=x.2;rw[afR q]at y;have:=Array.all_eq_true'.1 y e he;grind
def DT (h:L.getD j false=true):L.getD j true=true:=gC
structure Nz (ops:Array be)(M:List Nat)(n l)(F G:List Nat)(a:Act)(L:Array Bool):Prop where
 li:∀j,j<ops.size->L.getD j true=true->j∈F\/j∈G
 gl:∀j∈G,L.getD j true=true
 dc:∀j o,ops[j]?=some o->L.getD j true=true->∀e∈o.after,ad .any e=true->L.getD e.on true=true
 lz:L.size=ops.size
 df:a.defers=[]
 tz:a.tmps.size=n
 dz:∀j,j<ops.size->tX ops j<n
 sl:∀s,s∈M\/(∃j,j<ops.size/\L.getD j true=true/\tX ops j=s)->a.tmps.getD s aF=E7 l aF s
section
variable {G:List Nat}
def Nz.start (h0:a.defers=[])(hn:a.tmps.size=n)(hz:(List.range ops.size).all (λj=>decide (tX ops j<n))=true)(hs:∀s∈M,a.tmps.getD s undef=E7 l undef s:=by(repeat(refine List.forall_mem_cons.2 ⟨?_,?_⟩;rfl));exact λ_ h=>nomatch h):Nz ops M n l F [] a (Array.replicate ops.size false):=by
 have hf:∀j,j<ops.size->(Array.replicate ops.size false).getD j true=false:=λj hj=>cO
 refine⟨λj hj h=>?_,(λj h=>nomatch h),λj o ho h=>?_,cO,h0,hn,λj hj=>cO,λs h=>?_⟩;all_goals grind
def Nz.fr (h:Nz ops M n l F G a L)(x)(R:∀p∈x,(M.contains p.1||G.any λj=>decide (j<ops.size)&&tX ops j==p.1)=true/\E7 l aF p.1=p.2):jI a (rW n x):=by
 have hq:∀p∈x,a.tmps.getD p.1 aF=p.2:=λp U=>by
  let⟨J,Y⟩:=R p U;rw[<-Y];refine h.sl _ ?_;rw[agc,List.contains_iff_mem,List.any_eq_true]at J;refine J.imp id λ⟨j,Z,y⟩=>?_
  rw[agd,decide_eq_true_eq,beq_iff_eq]at y;exact⟨j,y.1,h.gl j Z,y.2⟩
 refine⟨h.df,?_⟩;have hk:∀(x:List (Nat×ai)) i,(∀p∈x,a.tmps.getD p.1 aF=p.2)->E7 x (a.tmps.getD i aF) i=a.tmps.getD i undef:=λx i=>by
  induction x with
  |nil=>intro _;rfl
  |cons p x O=>
   grind [Xk]
 have hw:∀k i,O_ x (λi=>a.tmps.getD i aF) i k=(List.range' i k).map λi=>a.tmps.getD i undef:=λk=>by
  induction k with
  |zero=>intro i;rfl
  |succ k O=>intro i;rw[acA,O,hk x i hq];rfl
 rw[abI,hw];apply Array.ext
 .simp[h.tz]
 simp_all
def Nz.done (h:Nz ops M n l F G a L)(e:EX .any ops L post)(y:(a1 ops.size).all G.contains=true):post=[]:=by
 cases e with
 |nil=>rfl
 |cons q _=>
  let⟨z,x,_⟩:=uN q;rw[h.gl _ cO]at x;grind
theorem Nz.add (h:Nz ops M n l F G a L)(j d v)(E:(!M.contains d&&(F++G).all λj=>tX ops j !=d)=true):Nz ops M n ((d,v)::l) (j::F) G a L:=by
 rw[agd,ay]at E;refine⟨λk q x=>(h.li k q x).imp (af9 _) id,h.gl,h.dc,h.lz,h.df,h.tz,h.dz,λs y=>?_⟩;have z:s≠d:=by
  rcases y with y|⟨k,q,x,e⟩
  .grind
  have:=E.2 k (by rcases h.li k q x with h|h<;>simp[h]);grind
 rw[Xk,if_neg z];exact h.sl s y
def Nz.put (h:Nz ops M n l F G a L)(R:j<ops.size){z x}(J:tX ops j=d)(hv:E7 z aF d=v)(q:∀s,s≠d->E7 z aF s=E7 l aF s)(S:∀k,k∈F\/k∈G->k∈F\/k∈x)(hF:j∈F\/j∈x)(U:∀k∈x,k=j\/k∈G)(Y:∀o,ops[j]?=some o->∀e∈o.after,ad .any e=true->L.getD e.on true=true):Nz ops M n z F x (a.put (some d) v) (L.setIfInBounds j true):=by
 have y:∀k,k≠j->(L.setIfInBounds j true).getD k true=L.getD k true:=λk hk=>by
  rw[ac,ac,ao (by omega)]
 have nQ:(L.setIfInBounds j true).getD j true=true:=by
  simp
 have hz:d<a.tmps.size:=by rw[h.tz];exact J▸h.dz j R
 have E:∀k,L.getD k true=true->(L.setIfInBounds j true).getD k true=true:=λk hk=>by
  grind
 refine⟨λk hk q=>?_,λk hk=>?_,λk o ho q e he Z=>E _ ?_,by simp[h.lz],h.df,by simpa[a5]using h.tz,h.dz,λs xS=>?_⟩
 .by_cases e:k=j
  .grind
  .rw[y k e]at q;exact S k<|h.li k hk q
 .by_cases e:k=j
  .grind
  .rw[y k e];exact h.gl k<|(U k hk).resolve_left e
 .by_cases e2:k=j
  .grind
  .rw[y k e2]at q;exact h.dc k o ho q e he Z
 show(a.tmps.setIfInBounds d v).getD s aF=_;by_cases e:s=d
 .simp_all
 rw[ac,ao (by omega),<-ac,q s e];refine h.sl s<|xS.imp id λ⟨k,hk,q,O⟩=>⟨k,hk,?_,O⟩;rwa [y k (by rintro rfl;exact e<|O.symm.trans J)]at q
def under (ops:Array be)(G:List Nat):Nat->Nat->Bool
 |0,j=>G.contains j
 |n+1,j=>G.contains j||(a1 ops.size).any λk=>(match ops[k]? with|some o=>o.after.any λe=>ad .any e&&e.on==j|none=>false)&&under ops G n k
def Nz.sink (h:Nz ops M n l F G a L)(O:F.all (under ops G 40)=true):Nz ops M n l [] (F++G) a L:=by
 have R:∀n j,under ops G n j=true->L.getD j true=true:=λn=>by
  induction n with
  |zero=>intro j q;exact h.gl j (by grind [under])
  |succ n z=>
   intro j q;simp[under]at q;rcases q with q|⟨k,_,y,E⟩
   .exact h.gl j cO
   cases ho:ops[k]? with
   |none=>grind
   |some o=>
    rw[ho]at y;let⟨e,he,x⟩:=aV.1 y;simp at x;exact x.2▸h.dc k o ho (z k E) e he x.1
 refine⟨λj q J=>.inr (by have:=h.li j q J;simpa using this),λj q=>?_,h.dc,h.lz,h.df,h.tz,h.dz,h.sl⟩;rcases agb.1 q with q|q
 .grind
 exact h.gl j q
def Nz.same (h:Nz ops M n l F G a L)(z:j∈a6 .any ops L)(q:ux ops M j=true)(ho:ops[j]?=some o):a3 a.eval o=a3 (N7 l) o/\o.guard=none:=by
 let⟨E,_,J,O,he⟩:=uN z;unfold ux at q;rw[ho]at q;simp only[aB,ay]at q;refine⟨execOp_congr o (λcs b e=>cO) λx y=>?_,by simpa using q.1.1⟩;have y:=q.2 x cO;cases x with
 |tmp s=>
  simp at y;refine h.sl s<|y.imp id λy=>?_;grind
 |_=>rfl
end
def N0 {p:Prop}(h:p:=by rw[(im.ex _ rfl).1];simp[execOp,resolve,invoke,N7,go_sem]):p:=h
structure AtI (ops:Array be)(M n l F G)(i:Nat)(a:Act)(post):Prop where
 ex:∀o,ops[i]?=some o->a3 a.eval o=a3 (N7 l) o/\o.guard=none
 df:a.defers=[]
 dz:tX ops i<a.tmps.size
 nx:∀d v,tX ops i=d->∃L,EX .any ops L post/\Nz ops M n ((d,v)::l) F (i::G) (a.put (some d) v) L
 en:(match ops[i]? with|some o=>(a1 ops.size).all (λj=>j==i||o.after.any λe=>ad .any e&&e.on==j)|none=>false)=true->post=[]
section
variable [Gl]{c:bj}{b:bj}{k:List Item}
def Nz.go (E:dB afn ok c Dr)(hb:ok.aN b.fn=true){G order}(ho:EX .any ops L order)(h:Nz ops M n l F G a L)(i)(S:a2->Prop)(hS:∀τ d,S<|re V τ d)
  (hA:∀j∈F,∃o d,ops[j]?=some o/\o.dst=some d/\∀w,S w->(a3 (N7 l) o).run afn w=.ok (.value<|E7 l aF d) w)
  (KY:∀a post,AtI ops M n l F G i a post->ae afn ok c Dr Q ⟨b.at a<|.inRegion ops (i::post)::k,cs,V⟩)(hc:aam ops M F G i=true:=by kernel_rfl):ae afn ok c Dr Q ⟨b.at a<|.inRegion ops order::k,cs,V⟩:=by
 simp only[aam,aB,ay,a8,List.contains_eq_mem,decide_eq_false_iff_not,List.mem_append,not_or,aI]at hc;let⟨⟨⟨Ub,hcF⟩,D6⟩,Uc⟩:=hc;induction ho generalizing a with
 |@nil L hr=>
  exfalso;have all:∀j,j<ops.size->L.getD j true=true:=λj=>by
   induction j using Nat.strongRecOn with
   |_ j ihj=>
    intro hj;cases hl:L.getD j true with
    |true=>rfl
    |false=>
     refine absurd (show j∈a6 .any ops L from a9.2 ⟨aI.2 hj,?_⟩) cO;grind
  have hi:i<ops.size:=by
   grind [ux]
  exact(h.li i hi<|all i hi).elim D6.1 D6.2
 |@cons L j rest hr FI ih=>
  let⟨hj,hun,o,ZC,he⟩:=uN hr;have hdc:∀o,ops[j]?=some o->∀e∈o.after,ad .any e=true->L.getD e.on true=true:=λo' I0 e hm hb=>by
   obtain rfl:=afQ<|ZC.symm.trans I0;exact DT<|he e hm hb
  have hx:=Uc j hj;rw[ZC]at hx;simp only[aB,bb,beq_iff_eq]at hx;by_cases hji:j=i
  .subst hji;refine KY a rest ⟨λo ho=>h.same hr Ub ho,h.df,by rw[h.tz];exact h.dz _ hj,λd v hd=>⟨_,FI,h.put hj hd (by simp[E7]) (λs hs=>by simp[E7,hs]) (λk hk=>hk.imp id<|af9 _) (.inr (aga ..)) (λk hk=>List.mem_cons.1 hk) hdc⟩,λhen=>?_⟩;rw[ZC]at hen;simp only[ay,bb,beq_iff_eq,aI]at hen;cases FI with
   |nil=>rfl
   |@cons _ x _ Uq _=>
    let⟨q1,q2,_⟩:=uN Uq;have hxj:x≠j:=by
     rintro rfl;rw[ac,Array.getElem?_setIfInBounds_self]at q2;split at q2<;>cases q2
    let⟨e,hm,h2⟩:=aV.1<|(hen x q1).resolve_left hxj;simp at h2;have:=DT<|he e hm h2.1;rw[h2.2]at this;rw[ac,ao (by omega),<-ac,this]at q2;cases q2
  have hF:j∈F:=by
   rcases hx.2 with(e|hc)|hc
   .exact absurd e hji
   .exact(of_decide_eq_true hc).resolve_right λhg=>by rw[h.gl j hg]at hun;cases hun
   let⟨e,hm,h2⟩:=aV.1 hc;simp only[aB,a8,decide_eq_false_iff_not,decide_eq_true_eq]at h2;exact absurd (h.li e.on h2.2.2<|DT<|he e hm h2.1) h2.2.1
  let⟨o',d,I0,hd,hv⟩:=hA j hF;obtain rfl:=afQ<|ZC.symm.trans I0;let⟨e1,e2⟩:=h.same hr (hcF j hF) ZC;have hdn:tX ops j=d:=by simp[tX,ZC,hd]
  have:=ae.Ab (Q:=Q) (k:=k) (cs:=cs) E hb (ops:=ops) (a:=a) (V:=V) [j] rest (λa' w'=>a'=a.put (some d) (E7 l aF d)/\∃τ d,w'=re V τ d) (λτ d'=>?_) ?_
  .exact this
  .rw[wpOps_cons];exact YieldsIf.wpOp ZC (.inl ⟨by simp[av,e2],λw hw=>by rw[e1];exact hv w hw⟩) (hS τ d') (by rw[hd];exact⟨rfl,rfl,τ,d',rfl⟩)
  rintro a' w' ⟨rfl,τ,d',rfl⟩;exact ae.un<|ih<|h.put hj hdn rfl (λ_ _=>rfl) (λ_ h=>h) (.inl hF) (λk hk=>.inr hk) hdc
def AtI.one (E:dB afn ok c Dr)(hb:ok.aN b.fn=true){G}(h:AtI ops M n l F G i a post)(v)(ho:ops[i]?=some o)(q:o.dst=some d)(x:∀τ d,(a3 (N7 l) o).run afn (re V τ d)=.ok (.value v) (re V τ d))
  (hk:∀a' L,EX .any ops L post->Nz ops M n ((d,v)::l) F (i::G) a' L->ae afn ok c Dr Q ⟨b.at a'<|.inRegion ops post::k,cs,V⟩):ae afn ok c Dr Q ⟨b.at a<|.inRegion ops (i::post)::k,cs,V⟩:=by
 let⟨y,O⟩:=h.ex o ho;let⟨L,z,J⟩:=h.nx d v (by grind [tX]);refine ae.Ab E hb [i] post (λa' w'=>a'=a.put (some d) v/\∃τ d,w'=re V τ d) (λτ e=>?_) ?_
 .exact YieldsIf.wpOp (S:=λw=>w=re V τ e) ho (.inl ⟨by grind [av],λw hw=>by rw[y,hw];exact x τ e⟩) rfl (by rw[q];exact⟨rfl,rfl,τ,e,rfl⟩)
 rintro a' w' ⟨rfl,τ,e,rfl⟩;exact ae.un<|hk _ L z J
def AtI.last (E:dB afn ok c Dr)(hb:ok.aN b.fn=true){G}(h:AtI ops M n l F G i a post)(v)(ho:ops[i]?=some o)(hd:o.dst=some d)(hv:∀w,(a3 (N7 l) o).run afn w=.ok (.value v) w)
  (hk:∀t:Array ai,t.getD d aF=v->ae afn ok c Dr Q ⟨b.at ⟨t,[]⟩ k,cs,V⟩)(hen:(match ops[i]? with|some o=>(a1 ops.size).all (λj=>j==i||o.after.any λe=>ad .any e&&e.on==j)|none=>false)=true:=by kernel_rfl):ae afn ok c Dr Q ⟨b.at a<|.inRegion ops (i::post)::k,cs,V⟩:=by
 obtain rfl:=h.en hen;let⟨e1,e2⟩:=h.ex o ho;have hz:=h.dz;rw[show tX ops i=d by grind [tX]]at hz;refine ae.Ab E hb [i] [] (λa' w'=>a'=a.put (some d) v/\∃τ d,w'=re V τ d) (λτ d'=>?_) ?_
 .exact YieldsIf.wpOp (S:=λ_=>True) ho (.inl ⟨by grind [av],λw _=>by rw[e1];exact hv w⟩) trivial (by rw[hd];exact⟨rfl,rfl,τ,d',rfl⟩)
 rintro a' w' ⟨rfl,τ,d',rfl⟩;refine ae.regionEnd E hb<|ae.un ?_;have:=hk (a.tmps.setIfInBounds d v) cO;let⟨t,ds⟩:=a;obtain rfl:=h.df;exact this
end
