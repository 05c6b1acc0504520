import Derived.Test.YthppgbjejomdiaaGreatDoorj12
import Derived.Test.YthppgbjejomdiaaGreatDoorj25
import Derived.Test.YthppgbjejomdiaaGreatDoorj11e
import Derived.Laws.CopyOwn
set_option linter.all false
set_option maxHeartbeats 4000000
set_option maxRecDepth 100000
open Array renaming getElem?_eq_getElem->bi
open ByteArray renaming empty->a2
open Go renaming World->ac,Addr->ao,Value->aE,Calls->aL,TypeId->a0,run_storeCells_cells->br,step_append_room->bt,run_underlying->bB
open Go.Act renaming eval->a8,put->bb
open Go.Builtin renaming zeroCells->au,clear_->a5,copy_->bo,lenOf->bE,firstCells->bF
open Go.Ending renaming returned->ay
open Go.Value renaming slice->aa,int->aj,agg->a1,cells->a3,string->be,oneCell'->bp
open Go.World renaming cell?->aV,cell?_setCells_out->a4,frozen?->a6,cell?_setCells_in->bk
open List renaming flatMap_append->bm,ext_getElem?->bn,range_succ->bs,range->bv
open Nat renaming zero_add->a7,min->a9
open Or renaming inl->av,inr->aP
namespace Go.Proofs.YthppgbjejomdiaaGreatDoor
open RowKit
variable {B b c k n:Nat}{f:Nat->Mv}{P:Program}{p:Prop}{T:a0}{w:ac}
def bd (f:Nat->Mv)(n:Nat):List Value:=(bv n).flatMap λj=>(f j).cells.toList
theorem bI (f):∀n,(bd f n).length=n*6
 |0=>rfl
 |n+1=>by
  have:=bI f n;unfold bd at this⊢;rw[bs,bm,List.length_append,this];simp[Nat.add_mul]
def ii (f) n:bd f (n+1)=bd f n++(f n).cells.toList:=by unfold bd;rw[bs,bm];simp
def pC {g}:∀{n:Nat},(∀j,j<n->f j=g j)->bd f n=bd g n
 |0,_=>rfl
 |n+1,h=>by rw[ii,ii,pC (λj u=>h j ab),h n ab]
def qT (f):∀n i k,i<n->k<6->(bd f n)[i*6+k]?=(f i).cells.toList[k]?
 |0,i,k,u,_=>absurd u (agA _)
 |n+1,i,k,u,hk=>by
  rw[ii];by_cases e:i=n
  .subst e;rw[agI (by rw[bI];omega),bI];congr 1;omega
  .rw[agH (by rw[bI];omega)];exact qT f n i k ab hk
def eu {u}(h:w.ownsRow u T 6 (aa B n c) n (bd f n)):aM w B 0 n f:=by intro i v;(have q:∀k,k<6->w.cell? ⟨B,0+i*6+k,none⟩=(f i).cells.toList[k]?:=λk hk=>by rw[a7,h.cellAt _ ab];exact qT f n i k v hk);exact⟨q 0 ab,q 1 ab,q 2 ab,q 3 ab,q 4 ab,q 5 ab⟩
def QJ:(Tz.prog.info? 30).map (λi=>(i.zero,i.size,i.bytes))=some (some<|a1 #[a2,false,(0:Int),(0:Int),(0:Int),(0:Int)],6,56):=aO
def gF (m:Mv):∀u∈m.cells.toList,u.oneCell':=λu a=>by
 simp at a;rcases a with rfl|rfl|rfl|rfl|rfl|rfl<;>rfl
def NR (m:Mv):∀u∈m.cells.toList,nu u:=λu a=>by
 simp at a;rcases a with rfl|rfl|rfl|rfl|rfl|rfl<;>first|exact av ⟨_,rfl⟩|exact aP (av ⟨_,_,rfl⟩)|exact aP<|aP ⟨_,rfl⟩
def xB:∀u∈(a1 #[a2,false,(0:Int),(0:Int),(0:Int),(0:Int)]).cells,nu u:=λu a=>by
 simp[a3]at a;rcases a with rfl|rfl|rfl<;>first|exact av ⟨_,rfl⟩|exact aP (av ⟨_,_,rfl⟩)|exact aP<|aP ⟨_,rfl⟩
def qm (B o j):(⟨B,o,none⟩:ao).add j=⟨B,o+j,none⟩:=by unfold Addr.add;split<;>simp_all
def ey {off}(h:aM w b off n f):∀j u,(bd f n)[j]?=some u->w.cell? ((⟨b,off,none⟩:ao).add j)=some u:=λj u v=>by
 have O:j<n*6:=by rcases agE j (n*6)with h|h;exact h;rw[agG (by rw[bI];exact h)]at v;cases v
 have e:j=j/6*6+j%6:=ab;let⟨x,y,A,C,D,J⟩:=h (j/6) ab;rw[e,qT f n (j/6) (j%6) ab ab]at v;rw[qm];have k:j%6=0\/j%6=1\/j%6=2\/j%6=3\/j%6=4\/j%6=5:=ab;rcases k with k|k|k|k|k|k<;>rw[k]at v<;>simp at v<;>subst v
 .rw[<-x];congr 2;omega
 .rw[<-y];congr 2;omega
 .rw[<-A];congr 2;omega
 .rw[<-C];congr 2;omega
 .rw[<-D];congr 2;omega
 .rw[<-J];congr 2;omega
def Hn {u}(h:u∈bd f n):∃i,i<n/\u∈(f i).cells.toList:=by grind [bd]
def fp (f) n:∀u∈bd f n,u.oneCell':=λu v=>by let⟨i,_,h⟩:=Hn v;exact gF _ u h
def AI (f) n:∀u∈bd f n,nu u:=λu v=>by let⟨i,_,h⟩:=Hn v;exact NR _ u h
def fh:∃i,Tz.prog.info? 30=some i/\i.zero=some (a1 #[a2,false,(0:Int),(0:Int),(0:Int),(0:Int)])/\i.size=6/\i.bytes=56:=by have h:=QJ;simp_all
def aT:Tz.prog.underlying 39=some (.slice 30):=aO
def zf (b n cap:Nat)(g)(w:ac)(hn:n<=1048576)(y:b<w)(z:aM w b 0 n g): aL Tz.prog 145 #[aa b n cap] w λe w'=>∃B c,e=ay (aa (some ⟨B,0,none⟩) n c)/\w'.ownsRow w 30 6 (aa B n c) n (bd g n)/\cE w' B/\Below w w w':=by
 let⟨i,A,C,D,J⟩:=fh;have u:Below w w (w.alloc<|.cells #[] 30):=(agn _ _).alloc ab _;have UZ:=Go.Lib.run_eql_slice_nil w 39 30 b n cap 0 0 aT;have O:(w.alloc<|.cells #[] 30).ownsRow w 30 6 (aa w 0 0) 0 []:=World.ownsRow_made w #[] 0 ab iR aN;have Y:wK (w.alloc<|.cells #[] 30) (aa w 0 0):=λB R=>by simp[Value.ownBlock]at R;subst R;exact⟨#[],_,heap_alloc_new _ _,λv hv=>cQ⟩
 let⟨Z,w',U,x,h3,h4⟩:=run_append_own (w.alloc<|.cells #[] 30) w 39 39 30 i _ 6 56 aT A C D J rfl ab (aa (some ⟨w,0,none⟩) 0 0) 0 [] O ⟨b,0,none⟩ n cap (bd g n) (bI g n) (ey<|z.below u y) (fp g n) iR ab aN;simp[a7]at x;obtain⟨B,c,rfl⟩:∃B c,Z=aa (some ⟨B,0,none⟩) n c:=by rcases x.2 with⟨e,_⟩|⟨g,cap,ad,e,_⟩<;>grind
 go_enter Tz.func145,Tryz.ntmps145;go_wp2_with(refine wpList_append_run rfl (.tmp 5) (.tmp 6) 39 rfl _ _ bQ bQ U ?_)
 go_ret;exact⟨B,c,rfl,x,(sD w 39 39 30 i _ 6 56 aT A C D J rfl (aa w 0 0) 0 [] O Y b n cap (bd g n) (bI g n) (ey<|z.below u y) (fp g n) (AI g n) xB iR ab U) B rfl,(u.grown h3 u.size λq hq=>I4)⟩
def d6 {α:Type}(f:Nat->α)(k i:Nat):α:=if i<k then f i else f (i+1)
def Ho (f k n)(hk:k<n):bd f k++bd (λj=>f<|k+1+j) (n-(k+1))=bd (d6 f k) (n-1):=by
 have v:bd f k=bd (d6 f k) k:=pC λj x=>by unfold d6;grind
 have y:∀r,bd (d6 f k) k++bd (λj=>f<|k+1+j) r=bd (d6 f k) (k+r):=by intro r;induction r with|zero=>simp[bd]|succ r u=>rw[ii (λj=>f _) r,<-List.append_assoc,u,show k+(r+1)=k+r+1 by omega,ii _ _];congr 3;unfold d6;grind
 grind
def CZ (t k n)(e:k<n):eL t k++eL (λj=>t<|k+1+j) (n-(k+1))=eL (d6 t k) (n-1):=by apply bn;intro j;rw[List.getElem?_append];by_cases a:j<k;rw[if_pos (by grind [fg]),dY a,dY ab];unfold d6;grind;rw[if_neg (by grind [fg]),fg];by_cases d:j<n-1;rw[dY ab,dY d];unfold d6;grind;rw[agG Bw,agG Bw]
section
variable {N s:Nat}{xs:List aE}
def dJ B (T):∀q o (w:ac) (e:Array aE),w.heap[B]?=some (.cells e T (0,0))->∃u,(w.setCells B o q).heap[B]?=some (.cells u T (0,0))/\u.size=e.size
 |[],o,w,e,h=>⟨e,h,rfl⟩
 |v::q,o,w,e,h=>by
  let⟨c,x,y⟩:=dJ B T q (o+1) (w.setCell ⟨B,o,none⟩ v) _<|heap_setCell_same w B o e T v h;exact⟨c,x,by simpa using y⟩
def eG B:∀d o (w:ac),(w.setCells B o d)=(w:Nat)
 |[],_,_=>rfl
 |v::d,o,w=>by show((w.setCell _ v).setCells B (o+1) d).heap.size=_;rw[eG B d];simp
def d9 B:∀d o (w:ac) i,i≠B->(w.setCells B o d).heap[i]?=w.heap[i]?
 |[],_,_,_,_=>rfl
 |v::d,o,w,i,h=>(d9 B d (o+1) (w.setCell ⟨B,o,none⟩ v) i h).trans<|agp w _ _ _ I3
def nE {e}(hb:N<=B)(q:w.heap[B]?=some (.cells e T (0,0)))(v:e.size=c*s)(x:n<=c)(hc:c<=maxLen)(y:xs.length=n*s)(h:∀j u,xs[j]?=some u->w.cell? ⟨B,j,none⟩=some u): w.ownsRow N T s (aa B n c) n xs:=by refine⟨y,aP ⟨B,c,e,rfl,hb,q,x,hc,v,?_⟩⟩;apply bn;intro j;by_cases A:j<n*s;obtain⟨u,z⟩:∃u,xs[j]?=some u:=⟨_,agR ab⟩;have:=h j u z;simp[aV]at this;grind;grind
def dx (h:w.ownsRow N T s (aa B n c) n xs):∃e,w.heap[B]?=some (.cells e T (0,0))/\n<=c/\c<=maxLen/\e.size=c*s/\N<=B/\∀j u,xs[j]?=some u->w.cell? ⟨B,j,none⟩=some u:=by obtain⟨D,⟨q,_⟩|⟨g,v,e,q,x,y,z,A,C,J⟩⟩:=h;grind;cases q;refine⟨e,y,z,A,C,x,λj u O=>?_⟩;grind [aV]
def AJ (f){j}(hk:k<=n)(x:j<k*6):(bd f n)[j]?=(bd f k)[j]?:=by have u:=qT f n (j/6) (j%6) ab ab;have v:=qT f k (j/6) (j%6) ab ab;rw[show j/6*6+j%6=j by omega]at u v;grind
def oj (h:aM w b 0 n f)(hk:k<=n):aM w b (k*6) (n-k) (λj=>f<|k+j):=λi u=>by
 have:=h (k+i) ab;rw[show 0+(k+i)*6=k*6+i*6 by omega]at this;exact this
def QK:∃i,Tz.prog.info? 3=some i/\i.zero=some (aj .i64 0)/\i.size=1/\i.bytes=8:=by have h:(Tz.prog.info? 3).map (λi=>(i.zero,i.size,i.bytes))=some (some<|aj .i64 0,1,8):=aO;simp_all
def qV (w t e x) z (D:P.underlying t=some (.slice e))(J:∀w,(zeroValue e).run P w=.ok z w)(O:∀v∈z.cells,v.oneCell')(b o n c)(R:0<n) (hc:∀j,j<(au z.cells n).toList.length->(w.cell? ⟨b,o+j,none⟩).isSome)(y:∀j,j<(au z.cells n).toList.length->w.frozen? ⟨b,o+j,none⟩=false): (a5 #[t] x #[.slice (some ⟨b,o,none⟩) n c]).run P w=.ok (.tuple #[]) (w.setCells b o (au z.cells n).toList):=by (have A:∀v∈(au z.cells n).toList,v.oneCell'=true:=λv u=>by by_cases U:z.cells.size=0;grind [au];simp only[au,Array.toList_map,List.mem_map]at u;obtain⟨i,_,rfl⟩:=u;have Y:i%z.cells.size<z.cells.size:=Nat.mod_lt _ ab;grind);have C:=br (P:=P) b o _ 0 w ab (by simpa using y) A;simp only[Nat.add_zero]at C;obtain⟨m,rfl⟩:∃m,n=m+1:=⟨n-1,ab⟩;simp_all [a5,bB]
def MR (B n c k N:Nat)(f w)(hn:n<=1048576)(hk:k<n)(ho:w.ownsRow N 30 6 (aa B n c) n (bd f n)): aL Tz.prog 255 #[aa B n c,aj .i64 k,aj .i64<|k+1] w λe w'=>e=ay (aa B (n-1) c)/\w'.ownsRow N 30 6 (aa B (n-1) c) (n-1) (bd (d6 f k)<|n-1)/\w'=(w:Nat)/\∀i,i≠B->w'.heap[i]?=w.heap[i]?:=by
 let⟨Y,hg,UX,zJ,ax,ON,x⟩:=dx ho;have Qq:=bI f n;let⟨i0,hI,gE,eI,f8⟩:=fh;obtain⟨v,Z⟩:∃v,v=bd (λj=>f<|k+1+j) (n-(k+1)):=⟨_,rfl⟩;have C:v.length=(n-(k+1))*6:=by rw[Z,bI];try omega
 have zU:Hid (∀u∈v,u.oneCell'=true):=by rw[Z];exact fp _ _
 have S9:w.drew.heap[B]?=some (.cells Y 30 (0,0)):=hg;have Bc:∀j,w.drew.frozen? ⟨B,j,none⟩=false:=λj=>by simp[a6,S9]
 have zX:∀j,j<c*6->(w.drew.cell? ⟨B,j,none⟩).isSome=true:=λj J=>by grind [aV,bi]
 obtain⟨A,hA,JF⟩:∃A:ao,(if c=k+1 then some (⟨B,0,none⟩:ao)else some ⟨B,(k+1)*6,none⟩)=some A/\Hid (∀t u,v[t]?=some u->w.drew.cell? (A.add t)=some u):=by by_cases h:c=k+1;simp_all;refine⟨⟨B,(k+1)*6,none⟩,by simp[h],λt u D=>?_⟩;rw[Z]at D;exact(by have hr:=ey (oj (eu ho) (show k+1<=n by omega)) t u D;exact hr)
 obtain⟨y,O⟩:∃y,y=w.drew.setCells B (0+k*6) v:=⟨_,rfl⟩;obtain⟨nV,nY,uC⟩:∃nV,y.heap[B]?=some (.cells nV 30 (0,0))/\nV.size=Y.size:=by rw[O];exact dJ B _ _ _ _ _ hg
 have OU:k+(n-(k+1))=n-1:=ab;obtain⟨zs,IF⟩:∃zs,zs=(au (a1 #[be a2,.bool false,(0:Int),(0:Int),(0:Int),(0:Int)]:aE).cells 1).toList:=⟨_,rfl⟩;have ad:zs.length=6:=by rw[IF];simp[au,a3]
 have ux:∀j,y.frozen? ⟨B,j,none⟩=false:=λj=>by simp[a6,nY]
 have nA:∀j,j<c*6->(y.cell? ⟨B,j,none⟩).isSome=true:=λj J=>by grind [aV,bi]
 have F8:(n-1)*6+6<=c*6:=ab;have d_:∀ty,(a5 #[39] ty #[aa (some ⟨B,(n-1)*6,none⟩) (n-(n-1))<|c-(n-1)]).run Tz.prog y=.ok (.tuple #[]) (y.setCells B ((n-1)*6) zs):=λty=>by rw[IF,show n-(n-1)=1 by omega];exact qV y _ _ ty (a1 #[a2,false,(0:Int),(0:Int),(0:Int),(0:Int)]) (Tz.al Tryz.underlying39) (λw=>(Tz.aQ Tryz.zeroValue30) w) (by simp[a3,bp]) B _ 1 _ ab (λj J=>nA _<|by rw[<-IF,ad]at J;omega) λj J=>ux _
 obtain⟨R,U⟩:∃R,R=y.setCells B ((n-1)*6) zs:=⟨_,rfl⟩;rw[<-U]at d_;have lu:R.ownsRow N 30 6 (aa B (n-1) c) (n-1) (bd (d6 f k)<|n-1)/\(R:Nat)=(w:Nat)/\∀i,i≠B->R.heap[i]?=w.heap[i]?:=by(obtain⟨xW,jI,yq⟩:∃xW,R.heap[B]?=some (.cells xW 30 (0,0))/\xW.size=nV.size:=by rw[U];exact dJ B _ _ _ _ _ nY);refine⟨nE ON jI ab ab zJ (by rw[bI];try omega) λj u D=>?_,by rw[U,O,eG,eG];rfl,λi hi=>by rw[U,O,d9 _ _ _ _ _ hi,d9 _ _ _ _ _ hi];rfl⟩;(have J:j<(n-1)*6:=by grind [bI]);rw[<-Ho f k n hk,<-Z]at D;rw[U,a4 B _ _ _ _ (λ_ _=>av J),O];by_cases aG:j<k*6;rw[a4 B _ _ _ _ (λ_ _=>av (by show j<_;omega))];rw[agH (by rw[bI];omega)]at D;refine x j u ?_;rw[<-D];have:(bd f n)[j]?=(bd f k)[j]?:=AJ f ab aG;exact this;rw[agI (by rw[bI];omega),bI]at D;have OT:=(agF.1 D).1;have:=bk B v (0+k*6) w.drew (λi hi=>zX _ ab) (j-k*6) ab;rw[show 0+k*6+(j-k*6)=j by omega]at this;grind
 have JE:Hid (∀t,t<v.length->(w.drew.cell? ⟨B,0+k*6+t,none⟩).isSome=true/\w.drew.frozen? ⟨B,0+k*6+t,none⟩=false):=λt ht=>⟨zX _ ab,Bc _⟩;have Qp:Hid (v.length=(n-(k+1))*6):=C;have Z0:Hid (y=w.drew.setCells B (0+k*6) v):=O;clear S9 O U C Z Bc zX x hg nY uC IF ad ux nA ho Qq ax;have az:(k:Int)<=c:=ab;have yl:(0:Int)<=(k:Int)+1:=ab;have BH:(k:Int)+1<=n:=ab;have mZ:(k:Int)+1<=c:=ab;have CY:IntKind.i64.wrap ((k:Int)+1)=(k:Int)+1:=jh;go_enter Tz.func255,Tryz.ntmps255;go_wp2_with fail
 go_region_law (refine bt rfl (.tmp 22) (.tmp 25) 39 rfl 30 i0 6 (Tz.al Tryz.underlying39) hI eI B 0 k c (by simp[a8,bb]) A (n-(k+1)) (c-(k+1)) v (by simp[a8,bb]) Qp.out JF.out zU.out (by omega) JE.out ?_;rw[<-Z0.out])
 go_wp2;go_ret;simp_all
def aaI (x9:p:=by rw[this,agD ab];rfl):p:=x9
def PI (B n c k N:Nat)(f w)(hn:n<=1048576)(hk:k<n)(ho:w.ownsRow N 3 1 (aa B n c) n (eL f n)): aL Tz.prog 256 #[aa B n c,aj .i64 k,aj .i64<|k+1] w λe w'=>e=ay (aa B (n-1) c)/\w'.ownsRow N 3 1 (aa B (n-1) c) (n-1) (eL (d6 f k)<|n-1)/\w'=(w:Nat)/\∀i,i≠B->w'.heap[i]?=w.heap[i]?:=by
 let⟨J,hg,UX,zJ,ax,ON,x⟩:=dx ho;have Qq:=fg f n;let⟨i0,hI,gE,eI,f8⟩:=QK;obtain⟨v,Z⟩:∃v,v=eL (λj=>f<|k+1+j) (n-(k+1)):=⟨_,rfl⟩;have C:v.length=(n-(k+1))*1:=by rw[Z,fg];try omega
 have zU:Hid (∀u∈v,u.oneCell'=true):=by rw[Z];exact jR _ _
 have S9:w.drew.heap[B]?=some (.cells J 3 (0,0)):=hg;have Bc:∀j,w.drew.frozen? ⟨B,j,none⟩=false:=λj=>by simp[a6,S9]
 have zX:∀j,j<c*1->(w.drew.cell? ⟨B,j,none⟩).isSome=true:=λj O=>by(have:w.drew.cell? ⟨B,j,none⟩=J[j]?:=by simp[aV,S9]);rw[this,agD ab];rfl
 obtain⟨A,hA,JF⟩:∃A:ao,(if c=k+1 then some (⟨B,0,none⟩:ao)else some ⟨B,(k+1),none⟩)=some A/\Hid (∀t u,v[t]?=some u->w.drew.cell? (A.add t)=some u):=by by_cases h:c=k+1;refine⟨B,by simp[h],λt u y=>?_⟩;(have h0:v.length=0:=by rw[C];omega);rw[List.length_eq_zero_iff.1 h0]at y;simp at y;refine⟨⟨B,(k+1),none⟩,by simp[h],λt u y=>?_⟩;rw[Z]at y;exact(by have h1:t<n-(k+1):=(by have:=(agF.1 y).1;rw[fg]at this;exact this);rw[dY h1]at y;have:=x (k+1+t) _<|dY ab;rw[Addr.add_lit,<-y];exact this)
 obtain⟨D,R⟩:∃D,D=w.drew.setCells B (0+k*1) v:=⟨_,rfl⟩;obtain⟨nV,nY,uC⟩:∃nV,D.heap[B]?=some (.cells nV 3 (0,0))/\nV.size=J.size:=by rw[R];exact dJ B _ _ _ _ _ hg
 have OU:k+(n-(k+1))=n-1:=ab;obtain⟨zs,IF⟩:∃zs,zs=(au (aj .i64 0:aE).cells 1).toList:=⟨_,rfl⟩;have ad:zs.length=1:=by rw[IF];simp[au,a3]
 have ux:∀j,D.frozen? ⟨B,j,none⟩=false:=λj=>by simp[a6,nY]
 have nA:∀j,j<c*1->(D.cell? ⟨B,j,none⟩).isSome=true:=λj O=>by(have:D.cell? ⟨B,j,none⟩=nV[j]?:=by simp[aV,nY]);rw[this,agD ab];rfl
 have F8:(n-1)*1+1<=c*1:=ab;have d_:∀ty,(a5 #[40] ty #[aa (some ⟨B,n-1,none⟩) (n-(n-1))<|c-(n-1)]).run Tz.prog D=.ok (.tuple #[]) (D.setCells B ((n-1)*1) zs):=λty=>by rw[IF,show n-(n-1)=1 by omega];rw[Nat.mul_one];exact qV D _ _ ty (aj .i64 0) (Tz.al Tryz.underlying40) (λw=>(Tz.aQ Tryz.zeroValue3) w) (by simp[a3,bp]) B _ 1 _ ab (λj O=>nA _<|by rw[<-IF,ad]at O;omega) λj O=>ux _
 obtain⟨U,Y⟩:∃U,U=D.setCells B ((n-1)*1) zs:=⟨_,rfl⟩;rw[<-Y]at d_;have lu:U.ownsRow N 3 1 (aa B (n-1) c) (n-1) (eL (d6 f k)<|n-1)/\(U:Nat)=(w:Nat)/\∀i,i≠B->U.heap[i]?=w.heap[i]?:=by(obtain⟨xW,jI,yq⟩:∃xW,U.heap[B]?=some (.cells xW 3 (0,0))/\xW.size=nV.size:=by rw[Y];exact dJ B _ _ _ _ _ nY);refine⟨nE ON jI ab ab zJ (by rw[fg];try omega) λj u y=>?_,by rw[Y,R,eG,eG];rfl,λi hi=>by rw[Y,R,d9 _ _ _ _ _ hi,d9 _ _ _ _ _ hi];rfl⟩;(have O:j<(n-1)*1:=by have:=(agF.1 y).1;rw[fg]at this;omega);rw[<-CZ f k n hk,<-Z]at y;rw[Y,a4 B _ _ _ _ (λ_ _=>av O),R];by_cases aG:j<k*1;rw[a4 B _ _ _ _ (λ_ _=>av (by show j<_;omega))];rw[agH Bw]at y;refine x j u ?_;rw[<-y];have:(eL f n)[j]?=(eL f k)[j]?:=(by rw[dY ab,dY ab]);exact this;rw[agI Bw,fg]at y;have OT:=(agF.1 y).1;have:=bk B v (0+k*1) w.drew (λi hi=>zX _ ab) (j-k*1) (by simpa using OT);rw[show 0+k*1+(j-k*1)=j by omega]at this;rw[this,<-y,agR (by simpa using OT)];try simp
 have JE:Hid (∀t,t<v.length->(w.drew.cell? ⟨B,0+k*1+t,none⟩).isSome=true/\w.drew.frozen? ⟨B,0+k*1+t,none⟩=false):=λt ht=>⟨zX _ ab,Bc _⟩;have Qp:Hid (v.length=(n-(k+1))*1):=C;have Z0:Hid (D=w.drew.setCells B (0+k*1) v):=R;clear S9 R Y C Z Bc zX x hg nY uC IF ad ux nA ho Qq ax;have az:(k:Int)<=c:=ab;have yl:(0:Int)<=(k:Int)+1:=ab;have BH:(k:Int)+1<=n:=ab;have mZ:(k:Int)+1<=c:=ab;have CY:IntKind.i64.wrap ((k:Int)+1)=(k:Int)+1:=jh;go_enter Tz.func256,Tryz.ntmps256;go_wp2_with fail
 go_region_law (refine bt rfl (.tmp 22) (.tmp 25) 40 rfl 3 i0 1 (Tz.al Tryz.underlying40) hI eI B 0 k c (by simp[a8,bb]) A (n-(k+1)) (c-(k+1)) v (by simp[a8,bb]) Qp.out JF.out zU.out (by omega) JE.out ?_;rw[<-Z0.out])
 go_wp2;go_ret;exact⟨rfl,lu⟩
end
def eD (f:Nat->Mv)(n:Nat)(name:ByteArray)(k:Int):Prop:=k=-1/\(∀i,i<n->di (f i).name name=false)\/∃j:Nat,k=j/\j<n/\di (f j).name name/\∀i,i<j->di (f i).name name=false
def AQ (m:Mv)(B:Nat)(name)(w:ac)(a:B<w)(d:w.cell? B=some (be name)): aL Tz.prog 259 #[a1 #[m.name,m.ax,m.aI,m.cj,m.late,m.prom],.pointer B] w λe w'=>e=ay (di m.name name)/\Below w w w':=by go_enter Tz.func259,Tryz.ntmps259;go_wp2;go_ret;exact⟨rfl,(agn _ w).alloc ab _⟩
def Np (b off n cap:Nat)(f)(B:Nat)(name)(w:ac)(Y:n<=1048576)(J:b<w)(O:aM w b off n f)(u:B<w)(hc:w.cell? B=some (be name)): aL Tz.prog 258 #[aa (some ⟨b,off,none⟩) n cap,.func (.func 259) #[] #[.pointer B]] w λe w'=>(∃k,e=ay (aj .i64 k)/\eD f n name k)/\Below w w w':=by
 go_enter Tz.func258,Tryz.ntmps258;go_wp2;go_loopw [8] (λx W=>∃k:Nat,x=aj .i64 k/\k<=n/\Below w w W/\∀i,i<k->di (f i).name name=false) (λx _=>n-(intOf x).toNat)
 exact⟨0,rfl,agB _,agn _ _,λi v=>absurd v ab⟩;obtain⟨k,rfl,hk,hb,y⟩:=hrel;by_cases D:k<n
 .have R:(k:Int)<n:=by omega
  have U:=O.below hb J k D;let⟨Z,c1,c2,c3,c4,c5⟩:=U;have H1:=λ(A:ac)=>AQ (f k) B name A;cases he:di (f k).name name with|true=>(go_wp2_with(go_at_call 259;refine(AQ (f k) B name wr (agx u hb.size)<|(hb.cell (p:=⟨B,0,none⟩) u).trans hc).mono ?_;rintro e A ⟨rfl,C⟩;rw[he]));(all_goals try omega);go_ret;exact⟨⟨k,rfl,aP ⟨k,rfl,D,he,y⟩⟩,hb.trans<|C.mono hb.size⟩|false=>(go_wp2_with(go_at_call 259;refine(AQ (f k) B name wr (agx u hb.size)<|(hb.cell (p:=⟨B,0,none⟩) u).trans hc).mono ?_;rintro e A ⟨rfl,C⟩;rw[he]));(all_goals try omega);(go_roundw);(case rel=>exact⟨k+1,by go_num,ab,hb.trans<|C.mono hb.size,λi v=>by by_cases e:i=k;subst e;exact he;exact y i ab⟩);exact cD
 have R:¬(k:Int)<n:=by omega
 go_wp2<;>try omega
 go_ret;exact⟨⟨-1,rfl,av ⟨rfl,λi v=>y i ab⟩⟩,hb⟩
def G9 (b off n cap:Nat)(f)(name:ByteArray)(w:ac)(v:n<=1048576)(x:b<w)(y:aM w b off n f): aL Tz.prog 254 #[aa (some ⟨b,off,none⟩) n cap,name] w λe w'=>(∃k,e=ay (aj .i64 k)/\eD f n name k)/\Below w w w':=by have u:Below w w (w.alloc<|.cells #[name] 9):=(agn _ w).alloc ab _;go_enter Tz.func254,Tryz.ntmps254;(go_wp2_with(go_at_call 258;refine(Np b off n cap f w name (w.alloc<|.cells #[name] 9) v cY (y.below u x) aN aN).mono ?_;rintro e C ⟨⟨k,rfl,hk⟩,A⟩));go_ret;exact⟨⟨k,rfl,hk⟩,u.trans<|A.mono u.size⟩
section
variable {t r:Nat->Int}
def po (t r:Nat->Int)(n:Nat):Bool:=(bv n).any λi=>decide (r i<t i)
def tw (a:k<n)(h:r k<t k):po t r n:=by unfold po;grind
def Ny (h:∀i,i<n->t i<=r i):po t r n=false:=by unfold po;grind
def TI (w:ac)(a:Option ao)(n:Nat)(t:Nat->Int):Prop:=n=0\/∃b,a=some ⟨b,0,none⟩/\b<w/\aD w b 0 n t
def adh (x9:p:=by
 have dQ:¬(k:Int)<n:=by omega
 go_wp2;all_goals try omega
 go_ret;exact⟨by rw[Ny λi hi=>dq i ab];rfl,hB⟩):p:=x9
def Cf (a:Option ao)(n c:Nat)(t:Nat->Int)(a':Option ao) c' (r:Nat->Int)(w:ac)(O:n<=1048576)(u:TI w a n t)(v:TI w a' n r):
  aL Tz.prog 257 #[aa a n c,aa a' n c'] w λe w'=>e=ay (po t r n)/\Below w w w':=by
 go_enter Tz.func257,Tryz.ntmps257
 go_wp2;go_loopw [9] (λx W=>∃k:Nat,x=aj .i64 k/\k<=n/\Below w w W/\∀i,i<k->t i<=r i) (λx _=>n-(intOf x).toNat)
 case atStart=>exact⟨0,rfl,agB _,agn _ _,λi hi=>absurd hi<|agA _⟩
 case round=>
  obtain⟨k,rfl,hk,hB,dq⟩:=hrel;by_cases q:k<n
  .have dQ:(k:Int)<n:=by omega
   obtain⟨b,rfl,y,z⟩:=u.resolve_left ab;obtain⟨R,rfl,A,C⟩:=v.resolve_left ab;have D:=z.below hB y k q;have J:=C.below hB A k q;simp only[a7]at D J;rcases Int.lt_or_le (r k) (t k)with hle|hle
   .go_wp2;all_goals try omega
    go_ret;exact⟨by rw[tw q hle];rfl,hB⟩
   .go_wp2;all_goals try omega
    go_roundw
    case rel=>exact⟨k+1,cQ,ab,hB,λi hi=>by
     by_cases e:i=k
     .grind
     .exact dq i ab⟩
    case measure=>exact cD
  .exact adh
def BX (a:Option ao)(n c:Nat)(t:Nat->Int)(a':Option ao) c' (r:Nat->Int)(w:ac)(Z:n<=1048576)(D:TI w a n t)(J:TI w a' n r):
  aL Tz.prog 62 #[aa a n c,aa a' n c'] w λe w'=>e=ay (!po t r n)/\Below w w w':=by
 go_enter Tz.func62,Tryz.ntmps62
 go_wp2;go_loopw [5] (λx W=>∃k:Nat,x=aj .i64 k/\k<=n/\Below w w W/\∀i,i<k->t i<=r i) (λx _=>n-(intOf x).toNat)
 .exact⟨0,rfl,agB _,agn _ _,λi hi=>absurd hi ab⟩
 obtain⟨k,rfl,hk,hB,dq⟩:=hrel;by_cases u:k<n
 .have dQ:(k:Int)<n:=by omega
  obtain⟨b,rfl,v,O⟩:=D.resolve_left ab;obtain⟨b',rfl,y,R⟩:=J.resolve_left ab;have lb:=agx v hB.size;have U:=agx y hB.size;have z:=O.below hB v k u;have A:=R.below hB y k u;simp[a7]at z A;have Y:=aK wr;have x0:=λx:am wr=>x.cell z
  have x1:=λx:am wr=>x.cell A
  go_wp2;refine nh ?_;intro w2 C;rcases Int.lt_or_le (r k) (t k)with hle|hle
  .go_wp2<;>try omega
   go_ret;exact⟨by rw[tw u hle];rfl,hB.trans<|C.mono hB.size⟩
  go_wp2<;>try omega
  go_roundw
  case rel=>exact⟨k+1,by go_num,ab,hB.trans<|C.mono hB.size,λi hi=>by
   by_cases e:i=k
   .subst e;omega
   .exact dq i ab⟩
  exact cD
 exact adh
end
def nF (w g l m e i) size (z:P.underlying g=some (.slice e))(A:P.info? e=some i)(C:i.size=size)(b off a o ad d q cs)(D:cs.length=a9 d a*size) (v:∀j u,cs[j]?=some u->w.cell? (ad.add j)=some u)(x:∀u∈cs,u.oneCell')(E:∀j,j<cs.length->(w.cell? ⟨b,off+j,none⟩).isSome)(y:∀j,j<cs.length->w.frozen? ⟨b,off+j,none⟩=false): (bo #[g,l] m #[.slice (some ⟨b,off,none⟩) a o,.slice (some ad) d q]).run P w=.ok (goInt<|a9 d a) (w.setCells b off cs):=by have F:=run_loadCells_list (P:=P) w ad cs v;have G:=br (P:=P) b off cs 0 w ab (by simpa using y) x;simp_all [bo,bB,bE,bF,sizeOf,typeInfo]
def qZ {ops o a K Q E}(V:o.guard=none)(d s q x) (ho:o.op=.call {callee:=.builtin .copy,args:=#[d,s],argTypes:=#[q,x]})(e i) size (A:P.underlying q=some (.slice e))(C:P.info? e=some i)(D:i.size=size) (b off g y ad l z)(F:a.eval d=.slice (some ⟨b,off,none⟩) g y)(J:a.eval s=.slice (some ad) l z)(cs)(L:cs.length=a9 l g*size) (O:∀j u,cs[j]?=some u->w.cell? (ad.add j)=some u)(R:∀u∈cs,u.oneCell')(v:∀j,j<cs.length->(w.cell? ⟨b,off+j,none⟩).isSome)(S:∀j,j<cs.length->w.frozen? ⟨b,off+j,none⟩=false) (U:K (a.put o.dst<|goInt<|a9 l g) (w.setCells b off cs)): if Region.wanted o (yielded ops a.tmps)then Oper.wp P o a w K Q else E:=by (have hw:Region.wanted o (yielded ops a.tmps)=true:=by grind [Region.wanted]);rw[if_pos hw];unfold Oper.wp;simp[execOp,ho,resolve,invoke,builtin,F,J,(nF w q x o.type e i size A C D b off g y ad l z cs L O R v S)];exact U
