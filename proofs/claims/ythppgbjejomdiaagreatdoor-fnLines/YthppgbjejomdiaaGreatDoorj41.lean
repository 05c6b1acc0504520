import Derived.Test.YthppgbjejomdiaaGreatDoorj37
import Derived.Lib.AppendZerosOnto
set_option linter.all false
set_option maxHeartbeats 4000000
set_option maxRecDepth 100000
open Array renaming getD_eq_getD_getElem?->aV,getElem?_setIfInBounds_ne->a6
open Go renaming Value->ac,undef->aj,World->au,execOp->ax,Oper->ay,Frame->aL,maxLen->a3,Calls->a4,heap_alloc_new->a9,grownCap_ge->bb
open Go.Act renaming put->aG,eval->a2
open Go.Region renaming binds->av,wanted->a0,ready->a7
open Go.Value renaming slice->aa,int->ad
open Go.World renaming cell?->az,frozen?->a1
open List renaming range->aI
open Nat renaming min->ao,min_eq_left->a5,zero_add->a8
namespace Go.Proofs.YthppgbjejomdiaaGreatDoor
open Conc RowKit
variable {a:Act}{L:Array Bool}{ops:Array ay}{ok:Ctx}{u D:aL}{Dr:FuncId->Array ac->au->(ac->au->Prop)->Prop}{l:List (Nat×ac)}{cs:List aL}{F M post r:List Nat}{xs:List ac}{m:Mv}{B C N c d i j k n p:Nat}{t:Nat->Int}{f:Nat->Mv}{o:ay}{af8:Program}{T:TypeId}{v:ac}{Q:ac->au->Prop}{V W w:au}
def rh {α:Type}(g:Nat->α)(p k):d6 g p k=g (rR p k):=by grind [d6,rR]
def SA (e:p<n)(h:i<n-1):rR p i<n:=by unfold rR;split<;>omega
def WJ (h:i<j):rR p i<rR p j:=by unfold rR;split<;>split<;>omega
def WN (y:ga f t n)(J:p<n):ga (d6 f p) (d6 t p) (n-1):=
 ⟨λj x=>by rw[rh,rh];exact y.1 _<|SA J x,λj k hk x=>by rw[rh,rh,rh,rh];exact y.2 _ _ (WJ hk)<|SA J x⟩
section
variable {w':au}{base s:Nat}
def FE (w:au)(B n:Nat)(t:Nat->Int):Prop:=(∃cs,w.heap[B]?=some (.cells cs 3 (0,0))/\n<=cs.size)/\aD w B 0 n t
def iX (h:FE w B n t)(e:w'.heap[B]?=w.heap[B]?):FE w' B n t:=by let⟨⟨cs,q,x⟩,y⟩:=h;exact⟨⟨cs,e.trans q,x⟩,λi z=>(agt e).trans<|y i z⟩
def FE.lt (h:FE w B n t):B<w:=by let⟨⟨cs,e,q⟩,x⟩:=h;grind
def QO (h:aC w B n t):FE w B n t:=by let⟨⟨cs,e,x⟩,q⟩:=h;exact⟨⟨cs,e,ab⟩,q⟩
def NM (h:w.ownsRow base 3 1 (aa B n c) n (eL t n)):FE w B n t:=by let⟨A,q,z,J,x,O,e⟩:=dx h;exact⟨⟨A,q,ab⟩,λi y=>by rw[a8];exact e i _<|dY y⟩
def fj (h:w.ownsRow base T s (aa B n c) n xs)(e:w'.heap[B]?=w.heap[B]?):w'.ownsRow base T s (aa B n c) n xs:=by obtain⟨x,q|⟨g,y,A,q,z,J,O⟩⟩:=h;grind;cases q;exact⟨x,.inr ⟨_,_,A,rfl,z,e.trans J,O⟩⟩
def Dg (h:w.ownsRow base T s v n xs)(x:0<n):∃B c,v=aa (some ⟨B,0,none⟩) n c/\base<=B/\B<w:=by obtain⟨y,⟨_,e⟩|⟨g,q,A,e,z,J,O⟩⟩:=h;omega;grind
def VC {A e c' s':Nat}{q x}(h:w.ownsRow N T s (aa A n c) n xs)(y:w.ownsRow N q s' (aa B e c') e x)(z:T≠q):A≠B:=by let⟨J,O,_⟩:=dx h;let⟨R,U,_⟩:=dx y;grind
end
def Hm (f n m):bd f n++m.cells.toList=bd (er f n m) (n+1):=by have:=AK f n n m ab;simp_all [bd]
def JM (B n c N C:Nat)(f m)(w:au)(hn:n<=1048576)(R:N<=w)(ho:w.ownsRow N 30 6 (aa B n c) n (bd f n))(U:w.heap[C]?=some (.cells m.cells 30 (0,0))): a4 Tz.prog 265 #[aa (some ⟨B,0,none⟩) n c,ad .i64 n,aa (some ⟨C,0,none⟩) 1 1] w λe w'=>(∃x c',e=.returned (aa (some ⟨x,0,none⟩) (n+1) c')/\w'.ownsRow N 30 6 (aa (some ⟨x,0,none⟩) (n+1) c') (n+1) (bd (er f n m)<|n+1))/\w.grownBy w' (some B):=by
 let⟨Y,Z,gE,eI,f8⟩:=fh;let⟨A,hg,UX,zJ,aE,ON,y⟩:=dx ho;have aZ:(n:Int)<=c:=ab;go_enter Tz.func265,Tryz.ntmps265;go_wp2_with(at_builtin;refine wpList_append_own _ rfl (.tmp 23) (.tmp 24) 39 rfl N 30 Y _ 6 56 aT Z gE eI f8 rfl bc (aa B n c) n (bd f n) bQ ho C 1 1 m.cells.toList bQ rfl (we U) (gF m) iR ab R ?_;intro v2 w2 J jI yq)
 all_goals
  have O:v2≠.slice none 0 0:=λe=>by have:=yq.1 e;omega
  obtain⟨x,c',rfl⟩:=mz J O;go_ret;rw[Hm]at J;exact⟨⟨x,c',rfl,J⟩,jI⟩
section
variable {o:Nat}{A:Array ac}
def acz (hk:k<=n)(y:N<=B)(J:W.heap[B]?=some (.cells A 30 (0,0)))(hs:A.size=c*6)(O:n+1<=c)(R:c<=a3) (h1:∀j u,(bd f k)[j]?=some u->W.cell? ⟨B,j,none⟩=some u)(U:∀j u,m.cells.toList[j]?=some u->W.cell? ⟨B,k*6+j,none⟩=some u)(Y:∀j u,(bd (λj=>f<|k+j)<|n-k)[j]?=some u->W.cell? ⟨B,(k+1)*6+j,none⟩=some u): W.ownsRow N 30 6 (aa B (n+1) c) (n+1) (bd (er f k m)<|n+1):=by have Z:m.cells.toList.length=6:=rfl;(have la:(bd f k++m.cells.toList).length=k*6+6:=by rw[List.length_append,bI,Z]);refine nE y J hs O R (bI _ _) λj u x=>?_;rw[<-AK f k n m hk]at x;by_cases c1:j<k*6;grind;by_cases c2:j<k*6+6;rw[agH ab,agI cQ,bI]at x;have:=U _ u x;simp_all;rw[agI ab,la]at x;have:=Y _ u x;rwa [show(k+1)*6+(j-(k*6+6))=j by omega]at this
def E2 (q:w.heap[B]?=some (.cells A T (0,0)))(z:o+xs.length<=A.size):∀j u,xs[j]?=some u->(w.setCells B o xs).cell? ⟨B,o+j,none⟩=some u:=λj u x=>by
 let⟨y,e⟩:=agF.1 x;rw[World.cell?_setCells_in B xs o w (λi E=>by
  have:w.cell? ⟨B,o+i,none⟩=A[o+i]?:=by simp[az,q]
  rw[this,agD ab];rfl) j y,<-e]
def rK (p)(h:p<o\/o+xs.length<=p):(w.setCells B o xs).cell? ⟨B,p,none⟩=w.cell? ⟨B,p,none⟩:=World.cell?_setCells_out B _ _ _ _ λ_ _=>h
def Em {u}(h:xs[j]?=some u):j<xs.length:=f7
def OH (hn:n<=1048576)(hk:k<n)(hc:c<n+1)(ho:w.ownsRow N 30 6 (aa B n c) n (bd f n)): ∃c' W,(∀y,(Builtin.append_ #[39,3] y #[aa B k c,ad .i64<|(n:Int)+1-k]).run Tz.prog w=.ok (aa w (n+1) c') W)/\n+1<=c'/\c'<=a3/\(∃A,W.heap[(w:Nat)]?=some (.cells A 30 (0,0))/\A.size=c'*6)/\(∀j u,(bd f k)[j]?=some u->W.cell? ⟨w,j,none⟩=some u)/\Below w w W/\(W:Nat)=(w:Nat)+1:=by
 let⟨i,O,R,eI,J⟩:=fh;let⟨A,hg,UX,zJ,U,ON,x⟩:=dx ho;have Y:k+(n+1-k)=n+1:=ab;have Z:((n:Int)+1-k)=((n+1-k:Nat):Int):=ab;have aE:c=n:=ab;have aZ:=run_firstCells_some (P:=Tz.prog) (w:=w.drew) 6 k B k c (bd f k) (bI f k) (λj v hv=>by have:=x j v<|(AJ f ab<|by grind [bI]).trans hv;rw[qm,a8];exact this);have hr:∀y,_:=λy=>by have:=Lib.run_append_grow_zeros w 39 3 y 30 i _ .i64 .i64 aT (Tz.al Tryz.underlying3) O R B k c (bd f k) cQ (n+1-k) ab ab ab ab (by rw[J];omega) (by rw[J];exact growslice_fits ab ab);rw[Y,<-Z]at this;omega
 refine⟨_,_,hr,bb _ _ _ _,grownCap_le_maxLen _ _ _ _ iR,?_,?_,?_,?_⟩;exact⟨_,a9 _ _,by simp[Builtin.zeroCells,Value.cells,bI];have:=bb w (n+1) c 30;omega⟩;intro j u hu;have hj:=Em hu;have:∀xs:Array ac,(w.drew.alloc<|.cells ((bd f k).toArray++xs) 30).cell? ⟨w,j,none⟩=some u:=λxs=>by have h0:=a9 w.drew<|.cells ((bd f k).toArray++xs) 30;simp_all [az,Array.getElem?_append]
 grind;exact(agn _ w).drew.alloc (agw _) _;simp_all
end
def xF (B):∀(e:List ac) (o:Nat) {w w':au},w.heap=w'.heap->(w.setCells B o e).heap=(w'.setCells B o e).heap
 |[],_,_,_,h=>h
 |v::e,o,w,w',h=>xF B e (o+1) (by simp only[World.setCell];rw[h])
def NV (hk:k<n)(U:n+1<=c)(ho:W.ownsRow N 30 6 (aa B n c) n (bd f n)): ((W.setCells B ((k+1)*6)<|bd (λj=>f<|k+j)<|n-k).setCells B (k*6) m.cells.toList).ownsRow N 30 6 (aa B (n+1) c) (n+1) (bd (er f k m)<|n+1):=by let⟨A,J,UX,Y,Z,ON,x⟩:=dx ho;let⟨nV,O,uC⟩:=dJ B _ (bd (λj=>f<|k+j)<|n-k) ((k+1)*6) W A J;let⟨xW,jI,yq⟩:=dJ B _ m.cells.toList (k*6) _ nV O;have lm:m.cells.toList.length=6:=rfl;have lr:=bI (λj=>f<|k+j)<|n-k;refine acz ab ON jI ab U Y (λj u y=>?_) (E2 O ab) λj u y=>?_;have R:=Em y;rw[bI]at R;rw[rK _ (.inl ab),rK _ (.inl ab)];exact x j u<|(AJ f ab R).trans y;rw[rK _ (.inr ab)];exact E2 J ab j u y
section
variable [g:Gl]
def KR (E:dC Tz.prog ok D aS)(J:ok.aP 265=true)(Bf:g.ov=266){r0}(eU:ok.aP r0.fn=true) (hn:n<=1048576)(hk:k<n)(xe:n+1<=c)(ho:V.ownsRow N 30 6 (aa B n c) n (bd f n))(aZ:C≠B)(hv:V.heap[C]?=some (.cells m.cells 30 (0,0))) (aE:∀V',V'.ownsRow N 30 6 (aa B (n+1) c) (n+1) (bd (er f k m)<|n+1)->V'.heap.size=V.heap.size->(∀i,i≠B->V'.heap[i]?=V.heap[i]?)->ae Tz.prog ok D aS Q ⟨r0.finish<|aa B (n+1) c,cs,V'⟩): ae Tz.prog ok D aS Q ⟨Frame.enter Tz.prog 265 #[aa (some ⟨B,0,none⟩) n c,ad .i64 k,aa (some ⟨C,0,none⟩) 1 1] .normal,r0::cs,V⟩:=by
 have hE:=enter_at (P:=Tz.prog) #[aa (some ⟨B,0,none⟩) n c,ad .i64 k,aa (some ⟨C,0,none⟩) 1 1] Tz.func265 rfl;simp only[Tryz.ntmps265,List.size_toArray,List.length_cons,List.length_nil,Nat.reduceAdd,Nat.reduceSub,Array.replicate_succ,Array.replicate_zero,List.push_toArray,List.append_toArray,List.nil_append,List.cons_append]at hE;rw[hE];clear hE;let⟨A,hg,UX,zJ,bj,ON,O⟩:=dx ho;have e1:(k:Int)<=c:=ab;have e2:(k:Int)<=n:=ab;have e3:¬(k:Int)=n:=ab;have e4:¬((n:Int)+1>c):=ab;have e5:((n:Int)+1)<=c:=ab;have w1:IntKind.i64.wrap ((n:Int)+1)=(n:Int)+1:=by rw[IntKind.wrap_i64];unfold a3 at zJ;omega
 have w2:IntKind.i64.wrap ((k:Int)+1)=(k:Int)+1:=by rw[IntKind.wrap_i64];unfold a3 at zJ;omega
 have e6:(k:Int)+1<=c:=ab;have e7:(k:Int)+1<=(n:Int)+1:=ab;have e8:¬c=k+1:=ab;have bn:(0:Int)<=(k:Int)+1:=ab;have bo:(k:Int)<=(n:Int)+1:=ab;have e9:¬c=k:=ab;refine ae.chain E J [_,_,_,_,_,_,_,_] _ (λa' w'=>(∃τ d,w'=re V τ d)/\jz a' (rW 95 [(0,aa (some ⟨B,0,none⟩) (n+1) c),(1,ad .i64 k),(2,aa (some ⟨C,0,none⟩) 1 1),(7,ad .i64 1),(8,ad .i64 n)])) (λ_ _=>False) ?_ ?_ λ_ _ _ h=>h.elim
 .intro τ d;clear aE ho hg O hv;simp only[ak];go_wp2;all_goals try omega
  exact⟨⟨τ,d,rfl⟩,rfl,rfl⟩
 rintro a' w' ⟨⟨bp,d1,rfl⟩,U⟩;obtain⟨u,rfl⟩:=U.open;clear U;refine ae.seq E J<|ae.seq E J<|ae.region E J ?_;rw[my];refine ae.lx E J 0 6 aN (λa' w'=>(∃τ d,w'=re V τ d)/\jz a' (rW 95 [(0,aa (some ⟨B,0,none⟩) (n+1) c),(1,ad .i64 k),(2,aa (some ⟨C,0,none⟩) 1 1),(7,ad .i64 1),(8,ad .i64 n),(61,aa (some ⟨C,0,none⟩) 1 1),(66,aa (some ⟨B,(k+1)*6,none⟩) (n-k)<|c-(k+1))])) ?_ ?_
 .intro τ d;clear aE ho hg O hv;simp only[an];go_wp2;exact⟨⟨_,_,rfl⟩,rfl,rfl⟩
 rintro a' w' ⟨⟨bq,d2,rfl⟩,U⟩;clear u;obtain⟨u,rfl⟩:=U.open;clear U;refine ae.abc J rfl (by rw[Bf];decide) (i:=6) rfl rfl (x:=61) (y:=66) (by rw[Bf];rfl) (p:=C) (q:=⟨B,(k+1)*6,none⟩) rfl rfl aZ hv (show(6:Nat)≠0 by decide) hg ab ?_;refine ae.lx E J 7 1 aN (λa' w'=>(∃τ d,w'=re V τ d)/\jz a' (rW 95 [(0,aa (some ⟨B,0,none⟩) (n+1) c),(1,ad .i64 k),(2,aa (some ⟨C,0,none⟩) 1 1),(7,ad .i64 1),(8,ad .i64 n),(68,.bool true)])) ?_ ?_
 .intro τ d;clear aE ho hg O hv;simp only[an,aG];go_wp2;exact⟨⟨_,_,rfl⟩,rfl,rfl⟩
 rintro a' w' ⟨⟨O0,d3,rfl⟩,U⟩;clear u;obtain⟨u,rfl⟩:=U.open;clear U;refine ae.regionEnd E J<|ae.cond E J (t:=true) rfl ?_;refine ae.D8 E J [_] _ (λa' w'=>(∃W:au,W.heap=V.heap/\w'.heap=(W.setCells B ((k+1)*6)<|bd (λj=>f<|k+j)<|n-k).heap)/\jz a' (rW 95 [(0,aa (some ⟨B,0,none⟩) (n+1) c),(1,ad .i64 k),(2,aa (some ⟨C,0,none⟩) 1 1),(7,ad .i64 1),(8,ad .i64 n),(68,.bool true)])) (λ_ _=>False) ?_ ?_ λ_ _ _ hh=>hh.elim
 .intro τ d;let⟨i0,hI,gE,eI,f8⟩:=fh;have Be:(re (re V O0 d3) τ d).drew.ownsRow N 30 6 (aa B n c) n (bd f n):=fj ho rfl;have Tj:(re (re V O0 d3) τ d).drew.heap[C]?=some (.cells m.cells 30 (0,0)):=hv;have Y:(re (re V O0 d3) τ d).drew.heap=V.heap:=rfl;revert Be Tj Y;generalize re (re V O0 d3) τ d=w;intro Be Tj Y;clear aE hg O ho hv Tj;let⟨T6,qw,_,_,Jy,_,c_⟩:=dx Be;obtain⟨xs,vD⟩:∃xs,xs=bd (λj=>f<|k+j) (n-k):=⟨_,rfl⟩;have Z:xs.length=(n-k)*6:=by rw[vD,bI]
  have zU:Hid (∀u∈xs,u.oneCell'=true):=by rw[vD];exact fp _ _
  have JF:Hid (∀t u,xs[t]?=some u->w.drew.cell? ((⟨B,k*6,none⟩:Addr).add t)=some u):=λt u hu=>by rw[vD]at hu;exact ey (oj (eu Be) (show k<=n by omega)) t u hu
  have Eu:Hid (xs.length=ao (n+1-k) (n-k)*6):=by have e:ao (n+1-k) (n-k)=n-k:=Nat.min_eq_right ab;rw[Z,e];exact rfl
  have uC:Hid (∀t,t<xs.length->(w.drew.cell? ⟨B,(k+1)*6+t,none⟩).isSome=true):=λt ht=>by(have:w.drew.cell? ⟨B,(k+1)*6+t,none⟩=T6[(k+1)*6+t]?:=by simp only[az,qw];simp);exact aaI
  have ux:Hid (∀t,t<xs.length->w.drew.frozen? ⟨B,(k+1)*6+t,none⟩=false):=λt ht=>by simp only[a1,qw];simp
  have bk:Hid (w.drew.heap=V.heap):=Y;obtain⟨W1,wX⟩:∃W1,W1=w.drew.setCells B ((k+1)*6) xs:=⟨_,rfl⟩;have lu:Hid (W1.heap=(w.drew.setCells B ((k+1)*6)<|bd (λj=>f<|k+j)<|n-k).heap):=by rw[wX,vD];exact rfl
  have Z0:Hid (W1=w.drew.setCells B ((k+1)*6) xs):=wX;clear wX vD Z qw c_ Be Jy Y;simp only[ak];go_wp2_with fail
  go_region_law (refine qZ rfl (.tmp 73) (.tmp 76) 39 39 rfl 30 i0 6 aT hI eI B ((k+1)*6) (n-k) (c-(k+1)) ⟨B,k*6,none⟩ (n+1-k) (c-k) (by simp[a2,aG]) (by simp[a2,aG]) xs Eu.out JF.out zU.out uC.out ux.out ?_;rw[<-Z0.out])
  all_goals exact⟨⟨w.drew,bk.out,lu.out⟩,rfl,rfl⟩
 rintro a' w1 ⟨⟨W,R,Gi⟩,U⟩;clear u;obtain⟨u,rfl⟩:=U.open;clear U;refine ae.last E J [_,_] (λa' w'=>w'.ownsRow N 30 6 (aa B (n+1) c) (n+1) (bd (er f k m)<|n+1)/\w'.heap.size=V.heap.size/\(∀i:Nat,i≠B->w'.heap[i]?=V.heap[i]?)/\a'.defers=[]/\a'.tmps[6]?=some (aa B (n+1) c)) ?_ ?_
 .intro τ d;let⟨i0,hI,gE,eI,f8⟩:=fh;have LE:(re w1 τ d).heap=(W.setCells B ((k+1)*6)<|bd (λj=>f<|k+j)<|n-k).heap:=Gi;revert LE;generalize re w1 τ d=w;intro LE;have be:W.ownsRow N 30 6 (aa B n c) n (bd f n):=fj ho (by rw[R]);obtain⟨nV,nY,bl⟩:∃nV,w.heap[B]?=some (.cells nV 30 (0,0))/\nV.size=A.size:=by rw[LE];exact dJ B _ _ _ _ _ (by rw[R];exact hg)
  have bi:w.heap[C]?=some (.cells m.cells 30 (0,0)):=by rw[LE,d9 _ _ _ _ _ aZ,R];exact hv
  have X4:Hid (∀t u,m.cells.toList[t]?=some u->w.cell? ((C:Addr).add t)=some u):=we bi;have yq:Hid (∀t,t<m.cells.toList.length->(w.cell? ⟨B,k*6+t,none⟩).isSome=true):=λt ht=>by have br:t<6:=ht;(have:w.cell? ⟨B,k*6+t,none⟩=nV[k*6+t]?:=by simp only[az,nY];simp);exact aaI
  have XF:Hid (∀t,t<m.cells.toList.length->w.frozen? ⟨B,k*6+t,none⟩=false):=λt ht=>by simp only[a1,nY];simp
  have XO:Hid (m.cells.toList.length=ao 1 (n+1-k)*6):=(show(6:Nat)=ao 1 (n+1-k)*6 by have e:ao 1 (n+1-k)=1:=a5 ab;rw[e]);obtain⟨W2,oz⟩:∃W2,W2=w.setCells B (k*6) m.cells.toList:=⟨_,rfl⟩;have hp:=NV (m:=m) hk xe be;have hq:W2.heap=((W.setCells B ((k+1)*6)<|bd (λj=>f<|k+j)<|n-k).setCells B (k*6) m.cells.toList).heap:=by rw[oz];exact xF B _ _ LE
  have lu:Hid (W2.ownsRow N 30 6 (aa B (n+1) c) (n+1) (bd (er f k m)<|n+1)/\W2.heap.size=V.heap.size/\∀i:Nat,i≠B->W2.heap[i]?=V.heap[i]?):=⟨fj hp<|by rw[hq],by rw[hq,eG,eG,R],λi hi=>by rw[hq,d9 _ _ _ _ _ hi,d9 _ _ _ _ _ hi,R]⟩;have e_:∀ty,(Builtin.copy_ #[39,39] ty #[aa (some ⟨B,k*6,none⟩) (n+1-k)<|c-k,aa C 1 1]).run Tz.prog w=.ok (goInt<|ao 1<|n+1-k) W2:=λty=>by rw[oz];exact nF w _ _ ty _ i0 6 aT hI eI B (k*6) (n+1-k) (c-k) C 1 1 m.cells.toList XO.out X4.out (gF m) yq.out XF.out
  clear X4 yq XF XO;clear oz aE hg O ho hv nY bl bi LE Gi be hp hq R bj;simp only[ak];go_wp2;exact lu.out
 rintro a' w' bm ⟨h1,h2,h3,h4,h5⟩;refine ae.leave E eU (v:=aa B (n+1) c) (λτ d=>⟨rfl,h4,rfl,_,Tz.func265,?_⟩)<|aE w' h1 h2 h3;have:=results_tmp (fn:=Tryz.f265) rfl a'.tmps Tz.prog<|re w' τ d;rw[mX h5]at this;exact this
end
def Gr (B n c k N C:Nat)(f m)(w:au)(hn:n<=1048576)(hk:k<n)(hc:c<n+1)(hN:N<=w)(ho:w.ownsRow N 30 6 (aa B n c) n (bd f n))(hv:w.heap[C]?=some (.cells m.cells 30 (0,0))): a4 Tz.prog 265 #[aa (some ⟨B,0,none⟩) n c,ad .i64 k,aa (some ⟨C,0,none⟩) 1 1] w λe w'=>(∃y c',e=.returned (aa (some ⟨y,0,none⟩) (n+1) c')/\w'.ownsRow N 30 6 (aa (some ⟨y,0,none⟩) (n+1) c') (n+1) (bd (er f k m)<|n+1))/\(w:Nat)<=(w':Nat)/\∀i,i<(w:Nat)->w'.heap[i]?=w.heap[i]?:=by
 let⟨i0,hI,gE,eI,f8⟩:=fh;let⟨A,hg,UX,zJ,bj,ON,aE⟩:=dx ho;let⟨c',W,hr,h1,h2,⟨nV,nY,uC⟩,EB,bW,C_⟩:=OH hn hk hc ho;obtain⟨y,P5⟩:∃x,(w:Nat)=x:=⟨_,rfl⟩;have lB:B<w:=(agy.1 hg).1;have lv:C<w:=(agy.1 hv).1;have gB:=(bW.block B lB).trans hg;have gv:=(bW.block C lv).trans hv;have pa:=bW.block;rw[P5]at hr nY EB lB lv C_ hN pa;obtain⟨xs,vD⟩:∃xs,xs=bd (λj=>f<|k+j) (n-k):=⟨_,rfl⟩;have U:xs.length=(n-k)*6:=by rw[vD,bI]
 have lm:m.cells.toList.length=6:=rfl;have O:∀t,t<c'*6->W.cell? ⟨y,t,none⟩=nV[t]?:=λt ht=>by simp only[az,nY];simp
 have Xg:∀t,t<c'*6->(W.cell? ⟨y,t,none⟩).isSome=true:=λt ht=>by rw[O t ht,agD ab];rfl
 obtain⟨J,Y⟩:∃J,J=W.setCells y (k*6) m.cells.toList:=⟨_,rfl⟩;have e_:∀ty,(Builtin.copy_ #[39,39] ty #[aa (some ⟨y,k*6,none⟩) (n+1-k)<|c'-k,aa C 1 1]).run Tz.prog W=.ok (goInt<|ao 1<|n+1-k) J:=λty=>by rw[Y];exact nF W _ _ ty _ i0 6 aT hI eI y (k*6) (n+1-k) (c'-k) C 1 1 m.cells.toList (show(6:Nat)=ao 1 (n+1-k)*6 by have e:ao 1 (n+1-k)=1:=a5 ab;rw[e]) (we gv) (gF m) (λt ht=>Xg _<|by rw[lm]at ht;omega) (λt ht=>by simp only[a1,nY];simp)
 let⟨xW,jI,yq⟩:=dJ y _ m.cells.toList (k*6) W nV nY;rw[<-Y]at jI;have aZ:J.heap[B]?=some (.cells A 30 (0,0)):=by rw[Y,d9 _ _ _ _ _ ab];exact gB
 have wj:=eu ho;have zU:Hid (∀u∈xs,u.oneCell'=true):=by rw[vD];exact fp _ _
 have JF:Hid (∀t u,xs[t]?=some u->J.drew.cell? ((⟨B,k*6,none⟩:Addr).add t)=some u):=λt u R=>by rw[vD]at R;have:=ey (oj wj (show k<=n by omega)) t u R;rw[qm]at this⊢;exact(agt<|aZ.trans hg.symm).trans this
 have Eu:Hid (xs.length=ao (n-k) (n+1-(k+1))*6):=by have e:ao (n-k) (n+1-(k+1))=n-k:=a5 ab;rw[U,e];exact rfl
 have bk:Hid (∀t,t<xs.length->(J.drew.cell? ⟨y,(k+1)*6+t,none⟩).isSome=true):=λt ht=>by(have:J.drew.cell? ⟨y,(k+1)*6+t,none⟩=xW[(k+1)*6+t]?:=by show J.cell? _=_;simp only[az,jI];simp);exact aaI
 have ux:Hid (∀t,t<xs.length->J.drew.frozen? ⟨y,(k+1)*6+t,none⟩=false):=λt ht=>by show J.frozen? _=_;simp only[a1,jI];simp
 obtain⟨W3,Z⟩:∃W3,W3=J.drew.setCells y ((k+1)*6) xs:=⟨_,rfl⟩;have Z0:Hid (W3=J.drew.setCells y ((k+1)*6) xs):=Z;have lu:Hid (W3.ownsRow N 30 6 (aa y (n+1) c') (n+1) (bd (er f k m)<|n+1)/\(w:Nat)<=W3/\∀i,i<(w:Nat)->W3.heap[i]?=w.heap[i]?):=by have be:J.drew.heap[y]?=some (.cells xW 30 (0,0)):=jI;let⟨bl,bi,bm⟩:=dJ y _ xs ((k+1)*6) J.drew xW be;rw[<-Z]at bi;refine⟨acz ab hN bi ab h1 h2 (λj u R=>?_) (λj u R=>?_) λj u R=>?_,?_⟩;have hj:=Em R;rw[bI]at hj;rw[Z,rK _ (.inl ab)];show J.cell? _=_;rw[Y,rK _ (.inl ab)];exact EB j u R;have hj:=Em R;rw[Z,rK _ (.inl ab)];show J.cell? _=_;rw[Y];exact E2 nY ab j u R;rw[Z];rw[<-vD]at R;exact E2 be ab j u R;(have z3:(W3:Nat)=(W:Nat):=by rw[Z,eG];show (J:Nat)=_;rw[Y,eG]);refine⟨ab,λi hi=>?_⟩;rw[Z,d9 _ _ _ _ _ ab];show J.heap[i]?=_;rw[Y,d9 _ _ _ _ _ ab];exact pa i ab
 have e1:(k:Int)<=c:=ab;have e2:(k:Int)<=n:=ab;have e3:¬(k:Int)=n:=ab;have e4:((n:Int)+1>c):=ab;have w1:IntKind.i64.wrap ((n:Int)+1)=(n:Int)+1:=jh;have w2:IntKind.i64.wrap ((k:Int)+1)=(k:Int)+1:=jh;have w3:IntKind.i64.wrap ((n:Int)+1-k)=(n:Int)+1-k:=jh;have e6:(k:Int)+1<=c':=ab;have e5:(k:Int)<=c':=ab;have e7:(k:Int)+1<=(n:Int)+1:=ab;have e8:¬c'=k+1:=ab;have bn:(0:Int)<=(k:Int)+1:=ab;have bo:(k:Int)<=(n:Int)+1:=ab;have e9:¬c=k:=ab;have bp:¬c'=k:=ab;clear hg aE bj hv nY uC EB C_ gB gv O Xg Y jI yq aZ wj Z vD U ho pa bW;go_enter Tz.func265,Tryz.ntmps265;go_wp2_with(at_builtin;refine Lib.wpList_append_run _ rfl (.tmp 34) (.tmp 39) _ _ rfl _ _ rfl rfl _ _ (hr _) ?_)<;>try omega
 go_region_law (refine qZ rfl (.tmp 50) (.tmp 53) 39 39 rfl 30 i0 6 aT hI eI y ((k+1)*6) (n+1-(k+1)) (c'-(k+1)) ⟨B,k*6,none⟩ (n-k) (c-k) (by simp[a2,aG]) (by simp[a2,aG]) xs Eu.out JF.out zU.out bk.out ux.out ?_;rw[<-Z0.out])
 all_goals
  go_wp2;go_ret;exact⟨⟨y,c',rfl,lu.out.1⟩,lu.out.2⟩
section
variable [g:Gl]
def ae.Yb (E:dC af8 ok D Dr){k}(hb:ok.aP u.fn=true)(ho:ops[i]?=some o)(hw:a0 o (yielded ops a.tmps)=true){f xs}(y:∀w,(ax a.eval o).run af8 w=.ok (.enter f xs) w){R:ac->au->Prop} (hc:∀τ d,a4 af8 f xs (re V τ d) λe w'=>∃v,e=.returned v/\R v w')(J:∀v x,R v x->ae af8 ok D Dr Q ⟨u.at (a.put o.dst v)<|.inRegion ops r::k,cs,x⟩):ae af8 ok D Dr Q ⟨u.at a<|.inRegion ops (i::r)::k,cs,V⟩:=by refine ae.ops E hb i [o] r (λa' w'=>∃v,a'=a.put o.dst v/\R v w') (λj O=>?_) (λτ d=>?_) λa' w' h=>?_;grind;unfold wpList;rw[if_pos hw];left;unfold Oper.wp;rw[y];apply(hc τ d).mono;rintro e w' ⟨v,rfl,h⟩;exact⟨rfl,v,rfl,h⟩;obtain⟨v,rfl,h⟩:=h;exact J v w' h
def ae.QN (E:dC Tz.prog ok D aS)(U:ok.aP 265=true)(Bf:g.ov=266){k}(hb:ok.aP u.fn=true)(ho:ops[i]?=some o)(hw:a0 o (yielded ops a.tmps)=true) (hx:∀w,(ax a.eval o).run Tz.prog w=.ok (.enter 265 #[aa (some ⟨B,0,none⟩) n c,ad .i64 p,aa (some ⟨C,0,none⟩) 1 1]) w) (hn:n<=1048576)(hp:p<=n)(hN:N<=V)(hr:V.ownsRow N 30 6 (aa B n c) n (bd f n))(be:C≠B)(hv:V.heap[C]?=some (.cells m.cells 30 (0,0))) (aE:∀x y J,J.ownsRow N 30 6 (aa (some ⟨x,0,none⟩) (n+1) y) (n+1) (bd (er f p m)<|n+1)->V.heap.size<=J.heap.size->(∀i,i<V.heap.size->i≠B->J.heap[i]?=V.heap[i]?)->ae Tz.prog ok D aS Q ⟨u.at (a.put o.dst<|aa (some ⟨x,0,none⟩) (n+1) y)<|.inRegion ops r::k,cs,J⟩):ae Tz.prog ok D aS Q ⟨u.at a<|.inRegion ops (i::r)::k,cs,V⟩:=by have XL:(∀τ d,a4 Tz.prog 265 #[aa _ n c,ad .i64 p,aa _ 1 1] _ λe w'=>∃v,e=.returned v/\∃x y,v=aa (some ⟨x,0,none⟩) (n+1) y/\w'.ownsRow N 30 6 (aa (some ⟨x,0,none⟩) (n+1) y) (n+1) (bd (er f p m)<|n+1)/\V.heap.size<=w'.heap.size/\∀i,i<V.heap.size->i≠B->w'.heap[i]?=V.heap[i]?)->ae Tz.prog ok D aS Q ⟨u.at a _,cs,V⟩:=λh=>ae.Yb E hb ho hw hx h (by rintro v J ⟨x,y,rfl,O,R,Y⟩;exact aE x y J O R Y);by_cases e1:p=n;subst e1;refine XL λτ d=>(JM B p c N C f m (re V τ d) hn hN (fj hr rfl) hv).mono ?_;rintro e w' ⟨⟨x,y,rfl,O⟩,R⟩;exact⟨_,rfl,x,y,rfl,O,R.size,λi Z hB=>R.block i Z λe=>hB (by cases e;rfl)⟩;by_cases e2:c<n+1;refine XL λτ d=>(Gr B n c p N C f m (re V τ d) hn (by omega) e2 hN (fj hr rfl) hv).mono ?_;rintro e w' ⟨⟨x,y,rfl,O⟩,R,Y⟩;exact⟨_,rfl,x,y,rfl,O,R,λi Z hB=>Y i Z⟩;exact ae.aZ E ho hw U hx (KR E U Bf (r0:=u.at a _) hb hn (by omega) (by omega) hr be hv λJ O R Y=>by rw[aq ho];exact aE B c J O (by omega) λi Z hB=>Y i hB)
end
def OL (l:List (Nat×ac)):Operand->ac
 |.tmp s=>Fx l aj s
 |x=>(⟨#[],[]⟩:Act).eval x
def ul (ops:Array ay)(j:Nat):Nat:=((ops[j]?).bind (·.dst)).getD 0
def uM (ops:Array ay)(M:List Nat)(j:Nat):Bool:=match ops[j]? with
 |none=>false
 |some o=>o.guard.isNone&&(match o.op with|.select _ _=>false|_=>true)&&o.op.operands.toList.all λx=>match x with
  |.tmp s=>M.contains s||o.after.any λe=>av .any e&&(ul ops e.on==s&&decide (e.on<ops.size))
  |_=>true
def aa4 (ops:Array ay)(M:List Nat)(F G:List Nat)(i:Nat):Bool:=
 uM ops M i&&F.all (uM ops M)&&!(F++G).contains i&&(aI ops.size).all λj=>match ops[j]? with
  |none=>false
  |some o=>o.after.all (λe=>!Region.binds .any e||decide (e.on<j))&&(j==i||(F++G).contains j||o.after.any λe=>av .any e&&(!(F++G).contains e.on&&decide (e.on<ops.size)))
def vd (h:j∈a7 .any ops L):j<ops.size/\L.getD j true=false/\∃o,ops[j]?=some o/\∀e∈o.after,av .any e=true->L.getD e.on false=true:=by let⟨z,x⟩:=List.mem_filter.1 h;rw[agZ]at x;have q:=List.mem_range.1 z;refine⟨q,cQ,ops[j],agD q,λe he E=>?_⟩;have y:=x.2;rw[agD q]at y;have:=Array.all_eq_true'.1 y e he;grind
def El (h:L.getD j false=true):L.getD j true=true:=f7
structure Nz (ops:Array ay)(M:List Nat)(n l)(F G:List Nat)(a:Act)(L:Array Bool):Prop where
 li:∀j,j<ops.size->L.getD j true=true->j∈F\/j∈G
 gl:∀j∈G,L.getD j true=true
 dc:∀j o,ops[j]?=some o->L.getD j true=true->∀e∈o.after,av .any e=true->L.getD e.on true=true
 lz:L.size=ops.size
 df:a.defers=[]
 tz:a.tmps.size=n
 dz:∀j,j<ops.size->ul ops j<n
 sl:∀s,s∈M\/(∃j,j<ops.size/\L.getD j true=true/\ul ops j=s)->a.tmps.getD s aj=Fx l aj s
section
variable {G:List Nat}
def Nz.start (h0:a.defers=[])(hn:a.tmps.size=n)(hz:(List.range ops.size).all (λj=>decide (ul ops j<n))=true)(hs:∀s∈M,a.tmps.getD s undef=Fx l undef s:=by(repeat(refine List.forall_mem_cons.2 ⟨?_,?_⟩;rfl));exact λ_ h=>nomatch h):Nz ops M n l F [] a (Array.replicate ops.size false):=by have hf:∀j,j<ops.size->(Array.replicate ops.size false).getD j true=false:=λj hj=>cQ;refine⟨λj hj h=>?_,(λj h=>nomatch h),λj o ho h=>?_,cQ,h0,hn,λj hj=>cQ,λs h=>?_⟩;all_goals grind
def Nz.fr (h:Nz ops M n l F G a L)(x)(R:∀p∈x,(M.contains p.1||G.any λj=>decide (j<ops.size)&&ul ops j==p.1)=true/\Fx l aj p.1=p.2):jz a (rW n x):=by
 have hq:∀p∈x,a.tmps.getD p.1 aj=p.2:=λp U=>by let⟨J,Y⟩:=R p U;rw[<-Y];refine h.sl _ ?_;rw[agY,List.contains_iff_mem,List.any_eq_true]at J;refine J.imp id λ⟨j,Z,y⟩=>?_;rw[agZ,decide_eq_true_eq,beq_iff_eq]at y;exact⟨j,y.1,h.gl j Z,y.2⟩
 refine⟨h.df,?_⟩;have hk:∀(x:List (Nat×ac)) i,(∀p∈x,a.tmps.getD p.1 aj=p.2)->Fx x (a.tmps.getD i aj) i=a.tmps.getD i undef:=λx i=>by induction x with|nil=>intro _;rfl|cons p x O=>grind [Q0]
 have hw:∀k i,wlW x (λi=>a.tmps.getD i aj) i k=(List.range' i k).map λi=>a.tmps.getD i undef:=λk=>by induction k with|zero=>intro i;rfl|succ k O=>intro i;rw[Y0,O,hk x i hq];rfl
 rw[Yk,hw];apply Array.ext;simp[h.tz];simp_all
def Nz.done (h:Nz ops M n l F G a L)(e:Fm .any ops L post)(y:(aI ops.size).all G.contains=true):post=[]:=by rcases e with _|⟨q,_⟩;rfl;let⟨z,x,_⟩:=vd q;rw[h.gl _ cQ]at x;grind
theorem Nz.add (h:Nz ops M n l F G a L)(j d v)(E:(!M.contains d&&(F++G).all λj=>ul ops j !=d)=true):Nz ops M n ((d,v)::l) (j::F) G a L:=by rw[agZ,List.all_eq_true]at E;refine⟨λk q x=>(h.li k q x).imp (agV _) id,h.gl,h.dc,h.lz,h.df,h.tz,h.dz,λs y=>?_⟩;(have z:s≠d:=by rcases y with y|⟨k,q,x,e⟩;grind;have:=E.2 k (by rcases h.li k q x with h|h<;>simp[h]);grind);rw[Q0,if_neg z];exact h.sl s y
def Nz.put (h:Nz ops M n l F G a L)(R:j<ops.size){z x}(J:ul ops j=d)(hv:Fx z aj d=v)(q:∀s,s≠d->Fx z aj s=Fx l aj s)(S:∀k,k∈F\/k∈G->k∈F\/k∈x)(hF:j∈F\/j∈x)(U:∀k∈x,k=j\/k∈G)(Y:∀o,ops[j]?=some o->∀e∈o.after,av .any e=true->L.getD e.on true=true):Nz ops M n z F x (a.put (some d) v) (L.setIfInBounds j true):=by
 have y:∀k,k≠j->(L.setIfInBounds j true).getD k true=L.getD k true:=λk hk=>by rw[aV,aV,a6 (by omega)]
 have pd:(L.setIfInBounds j true).getD j true=true:=by simp
 have hz:d<a.tmps.size:=by rw[h.tz];exact J▸h.dz j R
 have E:∀k,L.getD k true=true->(L.setIfInBounds j true).getD k true=true:=λk hk=>by grind
 refine⟨λk hk q=>?_,λk hk=>?_,λk o ho q e he Z=>E _ ?_,by simp[h.lz],h.df,by simpa[aG]using h.tz,h.dz,λs yq=>?_⟩;by_cases e:k=j;grind;rw[y k e]at q;exact S k<|h.li k hk q;by_cases e:k=j;grind;rw[y k e];exact h.gl k<|(U k hk).resolve_left e;by_cases e2:k=j;grind;rw[y k e2]at q;exact h.dc k o ho q e he Z;show(a.tmps.setIfInBounds d v).getD s aj=_;by_cases e:s=d;simp_all;rw[aV,a6 (by omega),<-aV,q s e];refine h.sl s<|yq.imp id λ⟨k,hk,q,O⟩=>⟨k,hk,?_,O⟩;rwa [y k (by rintro rfl;exact e<|O.symm.trans J)]at q
def under (ops:Array ay)(G:List Nat):Nat->Nat->Bool
 |0,j=>G.contains j
 |n+1,j=>G.contains j||(aI ops.size).any λk=>(match ops[k]? with|some o=>o.after.any λe=>av .any e&&e.on==j|none=>false)&&under ops G n k
def Nz.sink (h:Nz ops M n l F G a L)(O:F.all (under ops G 40)=true):Nz ops M n l [] (F++G) a L:=by (have R:∀n j,under ops G n j=true->L.getD j true=true:=λn=>by induction n with|zero=>intro j q;exact h.gl j (by grind [under])|succ n z=>intro j q;simp[under]at q;rcases q with q|⟨k,_,y,E⟩;exact h.gl j cQ;rcases ho:ops[k]? with _|o;grind;rw[ho]at y;let⟨e,he,x⟩:=Array.any_eq_true'.1 y;simp at x;exact x.2▸h.dc k o ho (z k E) e he x.1);refine⟨λj q J=>.inr (by have:=h.li j q J;simpa using this),λj q=>?_,h.dc,h.lz,h.df,h.tz,h.dz,h.sl⟩;rcases agX.1 q with q|q;grind;exact h.gl j q
def Nz.same (h:Nz ops M n l F G a L)(z:j∈a7 .any ops L)(q:uM ops M j=true)(ho:ops[j]?=some o):ax a.eval o=ax (OL l) o/\o.guard=none:=by let⟨E,_,J,O,he⟩:=vd z;unfold uM at q;rw[ho]at q;simp only[Bool.and_eq_true,List.all_eq_true]at q;refine⟨execOp_congr o (λcs b e=>cQ) λx y=>?_,by simpa using q.1.1⟩;have y:=q.2 x cQ;cases x with|tmp s=>simp at y;refine h.sl s<|y.imp id λy=>?_;grind|_=>rfl
end
def OJ {p:Prop}(h:p:=by rw[(iq.ex _ rfl).1];simp[execOp,resolve,invoke,OL,go_sem]):p:=h
structure AtI (ops:Array ay)(M n l F G)(i:Nat)(a:Act)(post):Prop where
 ex:∀o,ops[i]?=some o->ax a.eval o=ax (OL l) o/\o.guard=none
 df:a.defers=[]
 dz:ul ops i<a.tmps.size
 nx:∀d v,ul ops i=d->∃L,Fm .any ops L post/\Nz ops M n ((d,v)::l) F (i::G) (a.put (some d) v) L
 en:(match ops[i]? with|some o=>(aI ops.size).all (λj=>j==i||o.after.any λe=>av .any e&&e.on==j)|none=>false)=true->post=[]
section
variable [Gl]{c:aL}{b:aL}{k:List Item}
def Nz.go (E:dC af8 ok c Dr)(hb:ok.aP b.fn=true){G order}(ho:Fm .any ops L order)(h:Nz ops M n l F G a L)(i)(S:World->Prop)(hS:∀τ d,S<|re V τ d) (hA:∀j∈F,∃o d,ops[j]?=some o/\o.dst=some d/\∀w,S w->(execOp (OL l) o).run af8 w=.ok (.value<|Fx l undef d) w) (LD:∀a post,AtI ops M n l F G i a post->ae af8 ok c Dr Q ⟨b.at a<|.inRegion ops (i::post)::k,cs,V⟩)(hc:aa4 ops M F G i=true:=by kernel_rfl):ae af8 ok c Dr Q ⟨b.at a<|.inRegion ops order::k,cs,V⟩:=by simp only[aa4,Bool.and_eq_true,List.all_eq_true,Bool.not_eq_true',List.contains_eq_mem,decide_eq_false_iff_not,List.mem_append,not_or,List.mem_range]at hc;let⟨⟨⟨UP,hcF⟩,Ew⟩,UQ⟩:=hc;induction ho generalizing a with|@nil L hr=>exfalso;(have all:∀j,j<ops.size->L.getD j true=true:=λj=>by induction j using Nat.strongRecOn with|_ j ihj=>intro hj;cases hl:L.getD j true;refine absurd (show j∈Region.ready .any ops L from List.mem_filter.2 ⟨List.mem_range.2 hj,?_⟩) cQ;grind;rfl);(have hi:i<ops.size:=by grind [uM]);exact(h.li i hi<|all i hi).elim Ew.1 Ew.2|@cons L j rest hr xd ih=>let⟨hj,hun,o,y_,he⟩:=vd hr;(have hdc:∀o,ops[j]?=some o->∀e∈o.after,Region.binds .any e=true->L.getD e.on true=true:=λo' JA e hm hb=>by obtain rfl:=agC<|y_.symm.trans JA;exact El<|he e hm hb);have hx:=UQ j hj;rw[y_]at hx;simp only[Bool.and_eq_true,Bool.or_eq_true,beq_iff_eq]at hx;by_cases hji:j=i;subst hji;refine LD a rest ⟨λo ho=>h.same hr UP ho,h.df,by rw[h.tz];exact h.dz _ hj,λd v hd=>⟨_,xd,h.put hj hd (by simp[Fx]) (λs hs=>by simp[Fx,hs]) (λk hk=>hk.imp id<|agV _) (.inr (agW ..)) (λk hk=>List.mem_cons.1 hk) hdc⟩,λhen=>?_⟩;rw[y_]at hen;simp only[List.all_eq_true,Bool.or_eq_true,beq_iff_eq,List.mem_range]at hen;(cases xd with|nil=>rfl|@cons _ x _ U4 _=>let⟨q1,q2,_⟩:=vd U4;(have hxj:x≠j:=by rintro rfl;rw[Array.getD_eq_getD_getElem?,Array.getElem?_setIfInBounds_self]at q2;split at q2<;>cases q2);let⟨e,hm,h2⟩:=Array.any_eq_true'.1<|(hen x q1).resolve_left hxj;simp at h2;have:=El<|he e hm h2.1;rw[h2.2]at this;rw[Array.getD_eq_getD_getElem?,Array.getElem?_setIfInBounds_ne (by omega),<-Array.getD_eq_getD_getElem?,this]at q2;cases q2);(have hF:j∈F:=by rcases hx.2 with(e|hc)|hc;exact absurd e hji;(exact(of_decide_eq_true hc).resolve_right λhg=>by rw[h.gl j hg]at hun;cases hun);let⟨e,hm,h2⟩:=Array.any_eq_true'.1 hc;simp only[Bool.and_eq_true,Bool.not_eq_true',decide_eq_false_iff_not,decide_eq_true_eq]at h2;exact absurd (h.li e.on h2.2.2<|El<|he e hm h2.1) h2.2.1);let⟨o',d,JA,hd,hv⟩:=hA j hF;obtain rfl:=agC<|y_.symm.trans JA;let⟨e1,e2⟩:=h.same hr (hcF j hF) y_;(have hdn:ul ops j=d:=by simp[ul,y_,hd]);have:=ae.Aw (Q:=Q) (k:=k) (cs:=cs) E hb (ops:=ops) (a:=a) (V:=V) [j] rest (λa' w'=>a'=a.put (some d) (Fx l undef d)/\∃τ d,w'=re V τ d) (λτ d'=>?_) ?_;exact this;rw[wpOps_cons];exact YieldsIf.wpOp y_ (.inl ⟨by simp[Region.wanted,e2],λw hw=>by rw[e1];exact hv w hw⟩) (hS τ d') (by rw[hd];exact⟨rfl,rfl,τ,d',rfl⟩);rintro a' w' ⟨rfl,τ,d',rfl⟩;exact ae.un<|ih<|h.put hj hdn rfl (λ_ _=>rfl) (λ_ h=>h) (.inl hF) (λk hk=>.inr hk) hdc
def AtI.one (E:dC af8 ok c Dr)(hb:ok.aP b.fn=true){G}(h:AtI ops M n l F G i a post)(v)(ho:ops[i]?=some o)(q:o.dst=some d)(x:∀τ d,(ax (OL l) o).run af8 (re V τ d)=.ok (.value v) (re V τ d)) (hk:∀a' L,Fm .any ops L post->Nz ops M n ((d,v)::l) F (i::G) a' L->ae af8 ok c Dr Q ⟨b.at a'<|.inRegion ops post::k,cs,V⟩):ae af8 ok c Dr Q ⟨b.at a<|.inRegion ops (i::post)::k,cs,V⟩:=by let⟨y,O⟩:=h.ex o ho;let⟨L,z,J⟩:=h.nx d v (by grind [ul]);refine ae.Aw E hb [i] post (λa' w'=>a'=a.put (some d) v/\∃τ d,w'=re V τ d) (λτ e=>?_) ?_;exact YieldsIf.wpOp (S:=λw=>w=re V τ e) ho (.inl ⟨by grind [a0],λw hw=>by rw[y,hw];exact x τ e⟩) rfl (by rw[q];exact⟨rfl,rfl,τ,e,rfl⟩);rintro a' w' ⟨rfl,τ,e,rfl⟩;exact ae.un<|hk _ L z J
def AtI.last (E:dC af8 ok c Dr)(hb:ok.aP b.fn=true){G}(h:AtI ops M n l F G i a post)(v)(ho:ops[i]?=some o)(hd:o.dst=some d)(hv:∀w,(ax (OL l) o).run af8 w=.ok (.value v) w) (hk:∀t:Array ac,t.getD d aj=v->ae af8 ok c Dr Q ⟨b.at ⟨t,[]⟩ k,cs,V⟩)(hen:(match ops[i]? with|some o=>(aI ops.size).all (λj=>j==i||o.after.any λe=>av .any e&&e.on==j)|none=>false)=true:=by kernel_rfl):ae af8 ok c Dr Q ⟨b.at a<|.inRegion ops (i::post)::k,cs,V⟩:=by obtain rfl:=h.en hen;let⟨e1,e2⟩:=h.ex o ho;have hz:=h.dz;rw[show ul ops i=d by grind [ul]]at hz;refine ae.Aw E hb [i] [] (λa' w'=>a'=a.put (some d) v/\∃τ d,w'=re V τ d) (λτ d'=>?_) ?_;exact YieldsIf.wpOp (S:=λ_=>True) ho (.inl ⟨by grind [a0],λw _=>by rw[e1];exact hv w⟩) trivial (by rw[hd];exact⟨rfl,rfl,τ,d',rfl⟩);rintro a' w' ⟨rfl,τ,d',rfl⟩;refine ae.regionEnd E hb<|ae.un ?_;have:=hk (a.tmps.setIfInBounds d v) cQ;let⟨t,ds⟩:=a;obtain rfl:=h.df;exact this
end
