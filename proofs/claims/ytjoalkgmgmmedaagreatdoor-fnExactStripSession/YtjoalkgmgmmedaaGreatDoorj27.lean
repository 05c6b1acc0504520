import Derived.Test.YtjoalkgmgmmedaaGreatDoorj26
import Derived.Test.YtjoalkgmgmmedaaGreatDoorj09
set_option linter.unusedVariables false
set_option linter.defProp false
set_option maxHeartbeats 4000000
set_option maxRecDepth 100000
open Array renaming getElem?_eq_getElem->ay
open ByteArray renaming empty->ai
open Go renaming World->aN,Value->a4,step_append_room->a6,Addr->a7,TypeId->a8
open Go.Act renaming eval->aL,put->a0
open Go.Builtin renaming zeroCells->aa,clear_->au
open Go.Value renaming slice->ac,cells->av,oneCell'->a1,int->a3,agg->a5
open Go.World renaming cell?_setCells_out->ad,cell?->ao,frozen?->ax,cell?_setCells_in->aE
open List renaming flatMap_append->aI,ext_getElem?->aV,range_succ->a2
namespace Go.Proofs.YtjoalkgmgmmedaaGreatDoor
open RowKit
variable {B b c n:Nat}{f:Nat->Mv}{T:a8}{w:aN}
def bc (f:Nat->Mv)(n:Nat):List Value:=(List.range n).flatMap λj=>(f j).cells.toList
theorem bJ (f):∀n,(bc f n).length=n*6
 |0=>rfl
 |n+1=>by
  have:=bJ f n;unfold bc at this⊢;rw[a2,aI,List.length_append,this];simp[Nat.add_mul]
def ic (f) n:bc f (n+1)=bc f n++(f n).cells.toList:=by
 unfold bc;rw[a2,aI];simp
def pq {g}:∀{n:Nat},(∀j,j<n->f j=g j)->bc f n=bc g n
 |0,_=>rfl
 |n+1,h=>by rw[ic,ic,pq (λj r=>h j ab),h n ab]
def qM (f):∀n i k,i<n->k<6->(bc f n)[i*6+k]?=(f i).cells.toList[k]?
 |0,i,k,r,_=>absurd r (afO _)
 |n+1,i,k,r,hk=>by
  rw[ic];by_cases e:i=n
  .subst e;rw[afW (by rw[bJ];omega),bJ];congr 1;omega
  .rw[afV (by rw[bJ];omega)];exact qM f n i k ab hk
def eh {r}(h:w.ownsRow r T 6 (ac B n c) n (bc f n)):aK w B 0 n f:=by
 intro i t;have q:∀k,k<6->w.cell? ⟨B,0+i*6+k,none⟩=(f i).cells.toList[k]?:=λk hk=>by
  rw[Nat.zero_add,h.cellAt _ ab];exact qM f n i k t hk
 exact⟨q 0 ab,q 1 ab,q 2 ab,q 3 ab,q 4 ab,q 5 ab⟩
def P9:(Tz.prog.info? 55).map (λi=>(i.zero,i.size,i.bytes))=some (some<|a5 #[ai,false,(0:Int),(0:Int),(0:Int),(0:Int)],6,56):=aO
def gu (m:Mv):∀u∈m.cells.toList,u.oneCell':=λu a=>by
 simp at a;rcases a with rfl|rfl|rfl|rfl|rfl|rfl<;>rfl
def Nc (m:Mv):∀u∈m.cells.toList,mZ u:=λu a=>by
 simp at a;rcases a with rfl|rfl|rfl|rfl|rfl|rfl<;>first|exact .inl ⟨_,rfl⟩|exact .inr (.inl ⟨_,_,rfl⟩)|exact .inr<|.inr ⟨_,rfl⟩
def wX:∀u∈(a5 #[ai,false,(0:Int),(0:Int),(0:Int),(0:Int)]).cells,mZ u:=λu a=>by
 simp[av]at a;rcases a with rfl|rfl|rfl<;>first|exact .inl ⟨_,rfl⟩|exact .inr (.inl ⟨_,_,rfl⟩)|exact .inr<|.inr ⟨_,rfl⟩
def qf (B o j):(⟨B,o,none⟩:a7).add j=⟨B,o+j,none⟩:=by unfold Addr.add;split<;>simp_all
def ep {off}(h:aK w b off n f):∀j u,(bc f n)[j]?=some u->w.cell? ((⟨b,off,none⟩:a7).add j)=some u:=λj u r=>by
 have D:j<n*6:=by rcases afS j (n*6)with h|h;exact h;rw[afU (by rw[bJ];exact h)]at r;cases r
 have e:j=j/6*6+j%6:=ab;let⟨t,v,x,y,A,C⟩:=h (j/6) ab;rw[e,qM f n (j/6) (j%6) ab ab]at r;rw[qf];have k:j%6=0\/j%6=1\/j%6=2\/j%6=3\/j%6=4\/j%6=5:=ab;rcases k with k|k|k|k|k|k<;>rw[k]at r<;>simp at r<;>subst r
 .rw[<-t];congr 2;omega
 .rw[<-v];congr 2;omega
 .rw[<-x];congr 2;omega
 .rw[<-y];congr 2;omega
 .rw[<-A];congr 2;omega
 .rw[<-C];congr 2;omega
def GX {u}(h:u∈bc f n):∃i,i<n/\u∈(f i).cells.toList:=by
 grind [bc]
def fh (f) n:∀u∈bc f n,u.oneCell':=λu r=>by let⟨i,_,h⟩:=GX r;exact gu _ u h
def Ar (f) n:∀u∈bc f n,mZ u:=λu r=>by let⟨i,_,h⟩:=GX r;exact Nc _ u h
def fe:∃i,Tz.prog.info? 55=some i/\i.zero=some (a5 #[ai,false,(0:Int),(0:Int),(0:Int),(0:Int)])/\i.size=6/\i.bytes=56:=by
 have h:=P9;simp_all
def aT:Tz.prog.underlying 26=some (.slice 55):=aO
def yR (b n cap:Nat)(g)(w:aN)(hn:n<=1048576)(u:b<w)(x:aK w b 0 n g):
  Calls Tz.prog 141 #[ac b n cap] w λe w'=>∃B c,e=.returned (ac (some ⟨B,0,none⟩) n c)/\w'.ownsRow w 55 6 (ac B n c) n (bc g n)/\cm w' B/\Below w w w':=by
 let⟨i,y,z,A,C⟩:=fe;have r:Below w w (w.alloc<|.cells #[] 55):=(afB _ _).alloc ab _;have Um:=Go.Lib.run_eql_slice_nil w 26 55 b n cap 0 0 aT;have D:(w.alloc<|.cells #[] 55).ownsRow w.heap.size 55 6 (ac w.heap.size 0 0) 0 []:=World.ownsRow_made w #[] 0 ab iN aP;have R:yu (w.alloc<|.cells #[] 55) (ac w.heap.size 0 0):=λB J=>by
  simp[Value.ownBlock]at J;subst J;exact⟨#[],_,heap_alloc_new _ _,λv hv=>cO⟩
 let⟨U,w',O,t,Y,h4⟩:=run_append_own (w.alloc<|.cells #[] 55) w.heap.size 26 26 55 i _ 6 56 aT y z A C rfl ab (ac (some ⟨w.heap.size,0,none⟩) 0 0) 0 [] D ⟨b,0,none⟩ n cap (bc g n) (bJ g n) (ep<|x.below r u) (fh g n) iN ab aP;simp[Nat.zero_add]at t;obtain⟨B,c,rfl⟩:∃B c,U=ac (some ⟨B,0,none⟩) n c:=by
  rcases t.2 with⟨e,_⟩|⟨g,cap,Z,e,_⟩<;>grind
 go_enter Tz.func141,Tryz.ntmps141
 go_wp2_with(refine wpList_append_run rfl (.tmp 5) (.tmp 6) 26 rfl _ _ bQ bQ O ?_)
 go_ret;exact⟨B,c,rfl,t,(sj w.heap.size 26 26 55 i _ 6 56 aT y z A C rfl (ac w.heap.size 0 0) 0 [] D R b n cap (bc g n) (bJ g n) (ep<|x.below r u) (fh g n) (Ar g n) wX iN ab O) B rfl,(r.grown Y r.size λq hq=>Iw)⟩
def dX {α:Type}(f:Nat->α)(k i:Nat):α:=if i<k then f i else f (i+1)
def GY (f k n)(hk:k<n):bc f k++bc (λj=>f<|k+1+j) (n-(k+1))=bc (dX f k) (n-1):=by
 have u:bc f k=bc (dX f k) k:=pq λj v=>by unfold dX;grind
 have x:∀r,bc (dX f k) k++bc (λj=>f<|k+1+j) r=bc (dX f k) (k+r):=by
  intro r;induction r with
  |zero=>simp[bc]
  |succ r t=>
   rw[ic (λj=>f _) r,<-List.append_assoc,t,show k+(r+1)=k+r+1 by omega,ic _ _];congr 3;unfold dX;grind
 grind
def CB (t k n)(e:k<n):eG t k++eG (λj=>t<|k+1+j) (n-(k+1))=eG (dX t k) (n-1):=by
 apply aV;intro j;rw[List.getElem?_append];by_cases a:j<k
 .rw[if_pos (by grind [eZ]),dW a,dW ab];unfold dX;grind
 rw[if_neg (by grind [eZ]),eZ];by_cases d:j<n-1
 .rw[dW ab,dW d];unfold dX;grind
 rw[afU AZ,afU AZ]
section
variable {N s k:Nat}{xs:List a4}
def dH B (T):∀p o (w:aN) (e:Array a4),w.heap[B]?=some (.cells e T (0,0))->∃q,(w.setCells B o p).heap[B]?=some (.cells q T (0,0))/\q.size=e.size
 |[],o,w,e,h=>⟨e,h,rfl⟩
 |v::p,o,w,e,h=>by
  let⟨c,r,t⟩:=dH B T p (o+1) (w.setCell ⟨B,o,none⟩ v) _<|heap_setCell_same w B o e T v h;exact⟨c,r,by simpa using t⟩
def eB B:∀d o (w:aN),(w.setCells B o d)=w.heap.size
 |[],_,_=>rfl
 |v::d,o,w=>by show((w.setCell _ v).setCells B (o+1) d).heap.size=_;rw[eB B d];simp
def d6 B:∀d o (w:aN) i,i≠B->(w.setCells B o d).heap[i]?=w.heap[i]?
 |[],_,_,_,_=>rfl
 |v::d,o,w,i,h=>(d6 B d (o+1) (w.setCell ⟨B,o,none⟩ v) i h).trans<|afD w _ _ _ Iv
def nt {e}(hb:N<=B)(q:w.heap[B]?=some (.cells e T (0,0)))(r:e.size=c*s)(t:n<=c)(hc:c<=maxLen)(v:xs.length=n*s)(h:∀j u,xs[j]?=some u->w.cell? ⟨B,j,none⟩=some u):
  w.ownsRow N T s (ac B n c) n xs:=by
 refine⟨v,.inr ⟨B,c,e,rfl,hb,q,t,hc,r,?_⟩⟩;apply aV;intro j;by_cases y:j<n*s
 .obtain⟨u,x⟩:∃u,xs[j]?=some u:=⟨_,af5 ab⟩;have:=h j u x;simp[ao]at this;grind
 grind
def du (h:w.ownsRow N T s (ac B n c) n xs):∃e,w.heap[B]?=some (.cells e T (0,0))/\n<=c/\c<=maxLen/\e.size=c*s/\N<=B/\∀j u,xs[j]?=some u->w.cell? ⟨B,j,none⟩=some u:=by
 obtain⟨z,⟨p,_⟩|⟨g,q,e,p,r,t,v,x,y,A⟩⟩:=h
 .grind
 cases p;refine⟨e,t,v,x,y,r,λj u C=>?_⟩;grind [ao]
def As (f){j}(hk:k<=n)(u:j<k*6):(bc f n)[j]?=(bc f k)[j]?:=by
 have r:=qM f n (j/6) (j%6) ab ab;have t:=qM f k (j/6) (j%6) ab ab;rw[show j/6*6+j%6=j by omega]at r t;grind
def nZ (h:aK w b 0 n f)(hk:k<=n):aK w b (k*6) (n-k) (λj=>f<|k+j):=λi r=>by
 have:=h (k+i) ab;rw[show 0+(k+i)*6=k*6+i*6 by omega]at this;exact this
def Qa:∃i,Tz.prog.info? 3=some i/\i.zero=some (a3 .i64 0)/\i.size=1/\i.bytes=8:=by
 have h:(Tz.prog.info? 3).map (λi=>(i.zero,i.size,i.bytes))=some (some<|a3 .i64 0,1,8):=aO;simp_all
def qO {P:Program}(w:aN)(t e ty:a8) z (ht:P.underlying t=some (.slice e))(hv:∀w,(zeroValue e).run P w=.ok z w)(h1:∀v∈z.cells,v.oneCell')(b o n c:Nat)(hn:0<n)
  (hc:∀j,j<(aa z.cells n).toList.length->(w.cell? ⟨b,o+j,none⟩).isSome)(hf:∀j,j<(aa z.cells n).toList.length->w.frozen? ⟨b,o+j,none⟩=false):
  (au #[t] ty #[.slice (some ⟨b,o,none⟩) n c]).run P w=.ok (.tuple #[]) (w.setCells b o (aa z.cells n).toList):=by
 have zu:∀v∈(aa z.cells n).toList,v.oneCell'=true:=λv FN=>by
  by_cases h0:z.cells.size=0
  .grind [aa]
  simp only[aa,Array.toList_map,List.mem_map]at FN;obtain⟨i,_,rfl⟩:=FN;have aF:i%z.cells.size<z.cells.size:=Nat.mod_lt _ ab;grind
 have dZ:=run_storeCells_cells (P:=P) b o _ 0 w ab (by simpa using hf) zu;simp only[Nat.add_zero]at dZ;obtain⟨m,rfl⟩:∃m,n=m+1:=⟨n-1,ab⟩;simp_all [au,run_underlying]
def L9 (B n c k N:Nat)(f w)(hn:n<=1048576)(hk:k<n)(ho:w.ownsRow N 55 6 (ac B n c) n (bc f n)):
  Calls Tz.prog 248 #[ac B n c,a3 .i64 k,a3 .i64<|k+1] w λe w'=>e=.returned (ac B (n-1) c)/\w'.ownsRow N 55 6 (ac B (n-1) c) (n-1) (bc (dX f k)<|n-1)/\w'=w.heap.size/\∀i,i≠B->w'.heap[i]?=w.heap[i]?:=by
 let⟨U,hg,Uk,zn,aZ,N9,v⟩:=du ho;have PM:=bJ f n;let⟨i0,hI,gK,eO,fZ⟩:=fe;obtain⟨r,Y⟩:∃r,r=bc (λj=>f<|k+1+j) (n-(k+1)):=⟨_,rfl⟩;have y:r.length=(n-(k+1))*6:=by rw[Y,bJ];try omega
 have zu:Hid (∀u∈r,u.oneCell'=true):=by rw[Y];exact fh _ _
 have Sq:w.drew.heap[B]?=some (.cells U 55 (0,0)):=hg;have AQ:∀j,w.drew.frozen? ⟨B,j,none⟩=false:=λj=>by simp[ax,Sq]
 have zx:∀j,j<c*6->(w.drew.cell? ⟨B,j,none⟩).isSome=true:=λj D=>by
  grind [ao,ay]
 obtain⟨A,hA,I6⟩:∃A:a7,(if c=k+1 then some (⟨B,0,none⟩:a7)else some ⟨B,(k+1)*6,none⟩)=some A/\Hid (∀t u,r[t]?=some u->w.drew.cell? (A.add t)=some u):=by
  by_cases h:c=k+1
  .simp_all
  .refine⟨⟨B,(k+1)*6,none⟩,by simp[h],λt u C=>?_⟩;rw[Y]at C;exact(by have hr:=ep (nZ (eh ho) (show k+1<=n by omega)) t u C;exact hr)
 obtain⟨x,J⟩:∃x,x=w.drew.setCells B (0+k*6) r:=⟨_,rfl⟩;obtain⟨nI,nO,uk⟩:∃nI,x.heap[B]?=some (.cells nI 55 (0,0))/\nI.size=U.size:=by rw[J];exact dH B _ _ _ _ _ hg
 have Ug:k+(n-(k+1))=n-1:=ab;obtain⟨Z,H7⟩:∃Z,Z=(aa (a5 #[.string ai,.bool false,(0:Int),(0:Int),(0:Int),(0:Int)]:a4).cells 1).toList:=⟨_,rfl⟩;have aB:Z.length=6:=by rw[H7];simp[aa,av]
 have ue:∀j,x.frozen? ⟨B,j,none⟩=false:=λj=>by simp[ax,nO]
 have ng:∀j,j<c*6->(x.cell? ⟨B,j,none⟩).isSome=true:=λj D=>by
  grind [ao,ay]
 have IZ:(n-1)*6+6<=c*6:=ab;have Zg:∀ty,(au #[26] ty #[ac (some ⟨B,(n-1)*6,none⟩) (n-(n-1))<|c-(n-1)]).run Tz.prog x=.ok (.tuple #[]) (x.setCells B ((n-1)*6) Z):=λty=>by
  rw[H7,show n-(n-1)=1 by omega];exact qO x _ _ ty (a5 #[ai,false,(0:Int),(0:Int),(0:Int),(0:Int)]) (Tz.al Tryz.underlying26) (λw=>(Tz.aQ Tryz.zeroValue55) w) (by simp[av,a1]) B _ 1 _ ab (λj D=>ng _<|by rw[<-H7,aB]at D;omega) λj D=>ue _
 obtain⟨O,R⟩:∃O,O=x.setCells B ((n-1)*6) Z:=⟨_,rfl⟩;rw[<-R]at Zg;have pP:O.ownsRow N 55 6 (ac B (n-1) c) (n-1) (bc (dX f k)<|n-1)/\O.heap.size=w.heap.size/\∀i,i≠B->O.heap[i]?=w.heap[i]?:=by
  obtain⟨xF,jC,xS⟩:∃xF,O.heap[B]?=some (.cells xF 55 (0,0))/\xF.size=nI.size:=by rw[R];exact dH B _ _ _ _ _ nO
  refine⟨nt N9 jC ab ab zn (by rw[bJ];try omega) λj u C=>?_,by rw[R,J,eB,eB];rfl,λi hi=>by rw[R,J,d6 _ _ _ _ _ hi,d6 _ _ _ _ _ hi];rfl⟩;have D:j<(n-1)*6:=by
   grind [bJ]
  rw[<-GY f k n hk,<-Y]at C;rw[R,ad B _ _ _ _ (λ_ _=>.inl D),J];by_cases aF:j<k*6
  .rw[ad B _ _ _ _ (λ_ _=>.inl (by show j<_;omega))];rw[afV (by rw[bJ];omega)]at C;refine v j u ?_;rw[<-C];have:(bc f n)[j]?=(bc f k)[j]?:=As f ab aF;exact this
  rw[afW (by rw[bJ];omega),bJ]at C;have Of:=(afT.1 C).1;have:=aE B r (0+k*6) w.drew (λi hi=>zx _ ab) (j-k*6) ab;rw[show 0+k*6+(j-k*6)=j by omega]at this;grind
 have I5:Hid (∀t,t<r.length->(w.drew.cell? ⟨B,0+k*6+t,none⟩).isSome=true/\w.drew.frozen? ⟨B,0+k*6+t,none⟩=false):=λt ht=>⟨zx _ ab,AQ _⟩
 have PL:Hid (r.length=(n-(k+1))*6):=y;have Y5:Hid (x=w.drew.setCells B (0+k*6) r):=J;clear Sq J R y Y AQ zx v hg nO uk H7 aB ue ng ho PM aZ;have a9:(k:Int)<=c:=ab;have xQ:(0:Int)<=(k:Int)+1:=ab;have A3:(k:Int)+1<=n:=ab;have mE:(k:Int)+1<=c:=ab;have H5:IntKind.i64.wrap ((k:Int)+1)=(k:Int)+1:=kw;go_enter Tz.func248,Tryz.ntmps248
 go_wp2_with fail
 go_region_law (refine a6 rfl (.tmp 22) (.tmp 25) 26 rfl 55 i0 6 (Tz.al Tryz.underlying26) hI eO B 0 k c (by simp[aL,a0]) A (n-(k+1)) (c-(k+1)) r (by simp[aL,a0]) PL.out I6.out zu.out (by omega) I5.out ?_;rw[<-Y5.out])
 go_wp2;go_ret;simp_all
def J_ {p:Prop}(x9:p:=by
  rw[this,afR ab];rfl):p:=x9
def O3 (B n c k N:Nat)(f w)(hn:n<=1048576)(hk:k<n)(ho:w.ownsRow N 3 1 (ac B n c) n (eG f n)):
  Calls Tz.prog 249 #[ac B n c,a3 .i64 k,a3 .i64<|k+1] w λe w'=>e=.returned (ac B (n-1) c)/\w'.ownsRow N 3 1 (ac B (n-1) c) (n-1) (eG (dX f k)<|n-1)/\w'=w.heap.size/\∀i,i≠B->w'.heap[i]?=w.heap[i]?:=by
 let⟨D,hg,Uk,zn,aZ,N9,v⟩:=du ho;have PM:=eZ f n;let⟨i0,hI,gK,eO,fZ⟩:=Qa;obtain⟨r,Y⟩:∃r,r=eG (λj=>f<|k+1+j) (n-(k+1)):=⟨_,rfl⟩;have y:r.length=(n-(k+1))*1:=by rw[Y,eZ];try omega
 have zu:Hid (∀u∈r,u.oneCell'=true):=by rw[Y];exact jM _ _
 have Sq:w.drew.heap[B]?=some (.cells D 3 (0,0)):=hg;have AQ:∀j,w.drew.frozen? ⟨B,j,none⟩=false:=λj=>by simp[ax,Sq]
 have zx:∀j,j<c*1->(w.drew.cell? ⟨B,j,none⟩).isSome=true:=λj J=>by
  have:w.drew.cell? ⟨B,j,none⟩=D[j]?:=by simp[ao,Sq]
  rw[this,afR ab];rfl
 obtain⟨A,hA,I6⟩:∃A:a7,(if c=k+1 then some (⟨B,0,none⟩:a7)else some ⟨B,(k+1),none⟩)=some A/\Hid (∀t u,r[t]?=some u->w.drew.cell? (A.add t)=some u):=by
  by_cases h:c=k+1
  .refine⟨B,by simp[h],λt u x=>?_⟩;have h0:r.length=0:=by rw[y];omega
   rw[List.length_eq_zero_iff.1 h0]at x;simp at x
  .refine⟨⟨B,(k+1),none⟩,by simp[h],λt u x=>?_⟩;rw[Y]at x;exact(by have h1:t<n-(k+1):=(by have:=(afT.1 x).1;rw[eZ]at this;exact this);rw[dW h1]at x;have:=v (k+1+t) _<|dW ab;rw[Addr.add_lit,<-x];exact this)
 obtain⟨C,O⟩:∃C,C=w.drew.setCells B (0+k*1) r:=⟨_,rfl⟩;obtain⟨Z,nO,uk⟩:∃Z,C.heap[B]?=some (.cells Z 3 (0,0))/\Z.size=D.size:=by rw[O];exact dH B _ _ _ _ _ hg
 have Ug:k+(n-(k+1))=n-1:=ab;obtain⟨zs,H7⟩:∃zs,zs=(aa (a3 .i64 0:a4).cells 1).toList:=⟨_,rfl⟩;have aB:zs.length=1:=by rw[H7];simp[aa,av]
 have ue:∀j,C.frozen? ⟨B,j,none⟩=false:=λj=>by simp[ax,nO]
 have ng:∀j,j<c*1->(C.cell? ⟨B,j,none⟩).isSome=true:=λj J=>by
  have:C.cell? ⟨B,j,none⟩=Z[j]?:=by simp[ao,nO]
  rw[this,afR ab];rfl
 have IZ:(n-1)*1+1<=c*1:=ab;have Zg:∀ty,(au #[27] ty #[ac (some ⟨B,n-1,none⟩) (n-(n-1))<|c-(n-1)]).run Tz.prog C=.ok (.tuple #[]) (C.setCells B ((n-1)*1) zs):=λty=>by
  rw[H7,show n-(n-1)=1 by omega];rw[Nat.mul_one];exact qO C _ _ ty (a3 .i64 0) (Tz.al Tryz.underlying27) (λw=>(Tz.aQ Tryz.zeroValue3) w) (by simp[av,a1]) B _ 1 _ ab (λj J=>ng _<|by rw[<-H7,aB]at J;omega) λj J=>ue _
 obtain⟨R,U⟩:∃R,R=C.setCells B ((n-1)*1) zs:=⟨_,rfl⟩;rw[<-U]at Zg;have pP:R.ownsRow N 3 1 (ac B (n-1) c) (n-1) (eG (dX f k)<|n-1)/\R.heap.size=w.heap.size/\∀i,i≠B->R.heap[i]?=w.heap[i]?:=by
  obtain⟨xF,jC,xS⟩:∃xF,R.heap[B]?=some (.cells xF 3 (0,0))/\xF.size=Z.size:=by rw[U];exact dH B _ _ _ _ _ nO
  refine⟨nt N9 jC ab ab zn (by rw[eZ];try omega) λj u x=>?_,by rw[U,O,eB,eB];rfl,λi hi=>by rw[U,O,d6 _ _ _ _ _ hi,d6 _ _ _ _ _ hi];rfl⟩;have J:j<(n-1)*1:=by
   have:=(afT.1 x).1;rw[eZ]at this;omega
  rw[<-CB f k n hk,<-Y]at x;rw[U,ad B _ _ _ _ (λ_ _=>.inl J),O];by_cases aF:j<k*1
  .rw[ad B _ _ _ _ (λ_ _=>.inl (by show j<_;omega))];rw[afV AZ]at x;refine v j u ?_;rw[<-x];have:(eG f n)[j]?=(eG f k)[j]?:=(by rw[dW ab,dW ab]);exact this
  rw[afW AZ,eZ]at x;have Of:=(afT.1 x).1;have:=aE B r (0+k*1) w.drew (λi hi=>zx _ ab) (j-k*1) (by simpa using Of);rw[show 0+k*1+(j-k*1)=j by omega]at this;rw[this,<-x,af5 (by simpa using Of)];try simp
 have I5:Hid (∀t,t<r.length->(w.drew.cell? ⟨B,0+k*1+t,none⟩).isSome=true/\w.drew.frozen? ⟨B,0+k*1+t,none⟩=false):=λt ht=>⟨zx _ ab,AQ _⟩
 have PL:Hid (r.length=(n-(k+1))*1):=y;have Y5:Hid (C=w.drew.setCells B (0+k*1) r):=O;clear Sq O U y Y AQ zx v hg nO uk H7 aB ue ng ho PM aZ;have a9:(k:Int)<=c:=ab;have xQ:(0:Int)<=(k:Int)+1:=ab;have A3:(k:Int)+1<=n:=ab;have mE:(k:Int)+1<=c:=ab;have H5:IntKind.i64.wrap ((k:Int)+1)=(k:Int)+1:=kw;go_enter Tz.func249,Tryz.ntmps249
 go_wp2_with fail
 go_region_law (refine a6 rfl (.tmp 22) (.tmp 25) 27 rfl 3 i0 1 (Tz.al Tryz.underlying27) hI eO B 0 k c (by simp[aL,a0]) A (n-(k+1)) (c-(k+1)) r (by simp[aL,a0]) PL.out I6.out zu.out (by omega) I5.out ?_;rw[<-Y5.out])
 go_wp2;go_ret;exact⟨rfl,pP⟩
end
