import Derived.Test.YtjoalkgmgmmedaaGreatDoorj37
import Derived.Test.YtjoalkgmgmmedaaGreatDoorj24
set_option linter.defProp false
set_option linter.unusedVariables false
set_option linter.unusedSimpArgs false
set_option maxHeartbeats 4000000
set_option maxRecDepth 10000
open Go renaming World->au,Value->aL,Addr->aN,heap_alloc_new->aV,Ending->a5
open Go.RowKit renaming Below->aE
open Go.Value renaming slice->aa,int->a1,ownBlock->a3,string->a4
open Go.World renaming size_alloc->ac,size_drew->ai
open List renaming nil_append->ay,length_singleton->a0,length_append->a2
open Nat renaming zero_add->av
namespace Go.Proofs.YtjoalkgmgmmedaaGreatDoor
open RowKit
variable {now shift:Int}{y xs:List aL}{m:Mv}{B b c d k n C:Nat}{t:Nat->Int}{f:Nat->Mv}{ao bo:Option aN}{v x:aL}{W W' w w':au}
section
variable {m:Nat}
def Ew {m:Mv}(h:m.ok=true):m.Fits:=by
 have b:=Mv.gj h;exact⟨by have:=Ld h;unfold maxLen;omega,AM ab,AM ab,AM ab,AM ab⟩
def rB (h:aK w b 0 n f)(hk:k<=n):aK w b 0 k f:=λi D=>h i ab
def Bf (b n cap k:Nat)(f)(w:au)(hn:n<=6)(hk:k<n)(PC:n<=cap)(bN:b<w)(aB:aK w b 0 n f):
  Calls Tz.prog 40 #[aa (some ⟨b,0,none⟩) n cap,a1 .i64 k] w λe w'=>(∃B c,e=.returned (aa (some ⟨B,0,none⟩) (n-1) c)/\w'.ownsRow w.heap.size 55 6 (aa (some ⟨B,0,none⟩) (n-1) c) (n-1) (bc (dX f k)<|n-1))/\aE w.heap.size w w':=by
 let⟨iM,hI,gK,eO,fZ⟩:=fe;have ax:(k:Int)<=cap:=ab;have xQ:(0:Int)<=(k:Int)+1:=ab;have A3:(k:Int)+1<=n:=ab;have mE:(k:Int)+1<=cap:=ab;have H5:IntKind.i64.wrap ((k:Int)+1)=(k:Int)+1:=kw;have T:aE w w (w.alloc<|.cells #[] 55).drew:=((afB _ w).alloc ab _).drew;have hC:∀W,aE w w W->∀U,(if cap=k+1 then some (b:aN)else some ⟨b,(k+1)*6,none⟩)=some U->∀j u,(bc (λj=>f<|k+1+j)<|n-(k+1))[j]?=some u->W.cell? (U.add j)=some u:=λW hW U D=>by
  split at D
  .grind [bc]
  cases D;exact ep<|(nZ aB ab).below hW bN
 go_enter Tz.func40,Tryz.ntmps40
 go_wp2;go_region_law (first
  |(refine bu rfl (.tmp 5) (.tmp 8) 26 rfl 55 iM _ 6 56 aT hI gK eO fZ rfl bh w.heap.size (aa (some ⟨w.heap.size,0,none⟩) 0 0) 0 [] bQ (uO ab) oC (some ⟨b,0,none⟩) k cap (bc f k) bQ (bJ f k) oC (λU D=>by cases D;exact ep<|(rB aB ab).below T bN) (fh f k) iN ab T.size ?_;intro v2 w2 Y xS jC;simp[av,ay]at Y;have N:=T.grown jC T.size λq hq=>Iw;clear jC)
  |(refine bu rfl (.tmp 9) (.tmp 13) 26 rfl 55 iM _ 6 56 aT hI gK eO fZ rfl bh w.heap.size v2 k (bc f k) bQ Y xS (if cap=k+1 then some (⟨b,0,none⟩:aN)else some ⟨b,(k+1)*6,none⟩) (n-(k+1)) (cap-(k+1)) (bc (λj=>f<|k+1+j)<|n-(k+1)) bQ (bJ _ _) gC (hC _ N) (fh _ _) iN ab N.size ?_;intro v3 w3 J Z O;rw[GY f k n hk,show k+(n-(k+1))=n-1 by omega]at J;have B3:=N.grown O N.size λq hq=>(Y.lt q hq).1;obtain⟨b3,c3,rfl⟩:=ml J Z;clear O N Y))
 go_wp2;all_goals
  go_ret;exact⟨⟨b3,c3,rfl,J⟩,B3⟩
end
def fy.keep (h:fy w b m)(e:w'.heap[b]?=w.heap[b]?):fy w' b m:=e.trans h
structure At6 (B:Nat)(m:Mv)(W:au):Prop where
 c0:W.cell? B=some (a4 m.name)
 c1:W.cell? ⟨B,1,none⟩=some (.bool m.ax)
 c2:W.cell? ⟨B,2,none⟩=some (a1 .i64 m.aI)
 c3:W.cell? ⟨B,3,none⟩=some (a1 .i64 m.cE)
 c4:W.cell? ⟨B,4,none⟩=some (a1 .i64 m.late)
 c5:W.cell? ⟨B,5,none⟩=some (a1 .i64 m.prom)
def fS (h:fy W B m):At6 B m W:=by
 let⟨i,j,l,p,q,z⟩:=h.at_;exact⟨i,j,l,p,q,z⟩
structure Pu (w:au)(m:Mv)(v n xs)(o:Option Nat)(W):Prop where
 below:aE w w W
 own:W.ownsRow w.heap.size 55 6 v n xs
 one:∀Y,o=some Y->W.heap[Y]?=some (.cells m.cells 55 (0,0))
section
variable {o:Option Nat}
def Pu.at_ (h:Pu w m v n xs o W)(hm:fy w B m)(j:B<w):At6 B m W:=fS<|hm.keep<|h.below.block B j
def Pu.abw (h:Pu w m v n xs o W):Pu w m (aa W.heap.size 0 0) 0 [] o (W.alloc<|.cells #[] 55):=
 ⟨h.below.alloc h.below.size _,uO h.below.size,λY j=>(afC _ _ _ (afM.1<|h.one Y j).1).trans<|h.one Y j⟩
def Pu.ZT (h:Pu w m v n xs o W):Pu w m v n xs (some W.heap.size) (W.alloc<|.cells #[m.name,m.ax,m.aI,m.cE,m.late,m.prom] 55):=
 ⟨h.below.alloc h.below.size _,az h.own λB j=>afC _ _ _ (h.own.lt B j).2,λY l=>by cases l;exact aV W _⟩
def Pu.app (h:Pu w m v n xs o W)(ho:W'.ownsRow w.heap.size 55 6 x C y)(g:W.grownBy W' v.ownBlock)(l:∀Y,o=some Y->v.ownBlock≠some Y):Pu w m x C y o W':=
 ⟨h.below.grown g h.below.size λq p=>(h.own.lt q p).1,ho,λY j=>(g.block Y (afM.1<|h.one Y j).1 λe=>l Y j e.symm).trans<|h.one Y j⟩
def Pu.Yn (h:Pu w m v n xs o W)(ho:W'.ownsRow w.heap.size 55 6 x C y)(g:W.grownBy W' v.ownBlock):Pu w m x C y none W':=
 ⟨h.below.grown g h.below.size λq j=>(h.own.lt q j).1,ho,λY l=>gC⟩
end
def SU (f:Nat->Mv)(n:Nat)(m:Mv)(w:au)(e:a5)(w':au):Prop:=∃B c k,e=.returned (aa (some ⟨B,0,none⟩) (n+1) c)/\k<=n/\(∀j,j<k->cr (f j).name m.name=true)/\(k<n->cr (f k).name m.name=false)/\w'.ownsRow w.heap.size 55 6 (aa (some ⟨B,0,none⟩) (n+1) c) (n+1) (bc (ee f k m)<|n+1)
def ab8 {p:Prop}(x9:p:=by
  have c0:=(aB.below hB bN k aF).c0;simp[Nat.zero_add]at c0;have x0:=λx:an wr=>x.cell c0
  go_wp2;refine nl ?_;intro w2 dg;go_wp2;all_goals try omega
  go_roundw
  case rel=>exact⟨k+1,by go_num,ab,hB.trans<|dg.mono hB.size,hm.keep<|dg.block _ lm,λj hj=>by
   by_cases e:j=k
   .subst e;exact hL
   .exact nz j ab⟩
  exact cD):p:=x9
def ML (b n cap:Nat)(f m)(w:au)(hn:n<=6)(PC:n<=cap)(bN:b<w)(aB:aK w b 0 n f):
  Calls Tz.prog 38 #[aa b n cap,.agg #[m.name,m.ax,m.aI,m.cE,m.late,m.prom]] w λe w'=>SU f n m w e w'/\aE w w w':=by
 let⟨iM,hI,gK,eO,fZ⟩:=fe;have bA:aE w w (w.alloc<|.cells #[m.name,m.ax,m.aI,m.cE,m.late,m.prom] 55):=(afB _ w).alloc ab _;have mA:fy (w.alloc<|.cells #[m.name,m.ax,m.aI,m.cE,m.late,m.prom] 55) w.heap.size m:=aV _ _;go_enter Tz.func38,Tryz.ntmps38
 go_wp2;go_loopw [5] (λx W=>∃k:Nat,x=a1 .i64 k/\k<=n/\aE w w W/\fy W w.heap.size m/\∀j,j<k->cr (f j).name m.name=true) (λx _=>n-(intOf x).toNat)
 case atStart=>exact⟨0,rfl,afP _,bA,mA,λj hj=>absurd hj ab⟩
 clear bA mA;obtain⟨k,rfl,hk,hB,hm,nz⟩:=hrel;have lb:=afL bN hB.size;have lm:w.heap.size<wr:=(afM.1 hm).1;have a9:=aM wr;have x1:=λx:an wr=>x.cell (fS hm).c0
 by_cases aZ:k<n/\cr (f k).name m.name=true
 .let⟨aF,hL⟩:=aZ;have dV:(k:Int)<n:=ab;have a6:Op.bytesLess (f k).name.toList m.name.toList=true:=hL;exact ab8
 have dZ:k<n->cr (f k).name m.name=false:=λh=>by
  cases hL:cr (f k).name m.name with
  |false=>rfl
  |true=>exact absurd ⟨h,hL⟩ aZ
 by_cases aF:k<n;focus
  have dV:(k:Int)<n:=ab;have a6:Op.bytesLess (f k).name.toList m.name.toList=false:=dZ aF;have c0:=(aB.below hB bN k aF).c0;simp only[av]at c0;have x0:=λx:an wr=>x.cell c0
  go_wp2;refine nl ?_;intro w2 dg;go_wp2;all_goals try omega
 rotate_left;focus
  have dV:¬(k:Int)<n:=ab;have hz:decide (k<n)=false:=by simpa using aF
  go_wp2;refine nl ?_;intro w2 dg;go_wp2;all_goals try omega
 all_goals
  have qn:aE w w w2.drew:=(hB.trans<|dg.mono hB.size).drew;have N:fy w2.drew w.heap.size m:=hm.keep<|dg.block _ lm;have Np:aK w2.drew b 0 n f:=aB.below qn bN;have SA:b<w2.drew:=afL bN qn.size;have O:w.heap.size<w2.drew:=(afM.1 N).1;refine wp_region_held_drew aO (fS N) λD=>?_;revert D qn N Np SA O;generalize w2.drew=T;intro qn N Np SA O D;have bb:(k:Int)<=cap:=ab;have xQ:(0:Int)<=k:=ab;have tM:(k:Int)<=n:=ab;have a7:∀W,aE T T W->∀Z,(if cap=k then some (b:aN)else some ⟨b,k*6,none⟩)=some Z->∀j u,(bc (λj=>f<|k+j)<|n-k)[j]?=some u->W.cell? (Z.add j)=some u:=λW hW Z J=>by
   split at J
   .have:n-k=0:=by omega
    rw[this];intro j u h;simp[bc]at h
   cases J;exact ep<|(nZ Np hk).below hW SA
  have hC:Pu T m () 0 [] none T:=⟨afB _ _,⟨rfl,.inl ⟨rfl,rfl⟩⟩,λY hY=>by cases hY⟩;refine aj 1 (aa b n cap) 23 rfl NJ D<|aj 2 (a1 .i64 (k:Int)) 24 rfl NJ D<|aj 3 (aa b k cap) 25 rfl NJ D<|aj 5 (.agg #[m.name,m.ax,m.aI,m.cE,m.late,m.prom]) 27 rfl NJ D<|aj 8 (aa b n cap) 30 rfl NJ D<|aj 9 (a1 .i64 (k:Int)) 31 rfl NJ D<|aj 10 (aa (if cap=k then some ⟨b,0,none⟩else some ⟨b,k*6,none⟩) (n-k)<|cap-k) 32 rfl NJ D<|Ls 0 6 rfl rfl (λK hK=>?_) (λK hK=>?_);focus
   go_simp
   have hC:=hC.abw;try simp[ac,ai]at hC
   refine hK.out _ _ (hC.at_ N O) λD=>?_;clear hK K;refine Ls 4 6 rfl rfl (λK hK=>?_) λK hK=>?_;focus
    refine bu rfl (.tmp 22) (.tmp 25) 26 rfl 55 iM _ 6 56 aT hI gK eO fZ rfl bh T.heap.size _ 0 [] bQ hC.own oC b k cap (bc f k) bQ (bJ f k) oC (λZ J=>by cases J;exact ep<|(rB Np hk).below hC.below SA) (fh f k) iN ab hC.below.size ?_;intro v4 w4 U FK KQ;simp[av,ay]at U;have hC:=hC.app U KQ (by intro Y hY;cases hY);clear U KQ;refine hK.out _ _ (hC.at_ N O) λD=>?_;clear hK K;refine f8 6 rfl λK hK=>?_;go_simp
    have hC:=hC.ZT;try simp only[ac,ai]at hC
    refine hK.out _ _ (hC.at_ N O) λD=>?_;clear hK K;refine f8 7 rfl λK hK=>bu rfl (.tmp 26) (.tmp 28) 26 rfl 55 iM _ 6 56 aT hI gK eO fZ rfl bh T.heap.size v4 k (bc f k) bQ hC.own FK _ 1 1 m.cells.toList bQ rfl oC (λZ J=>by cases J;exact vF<|hC.one _ rfl) (gu m) iN ab hC.below.size ?_;intro v5 w5 xI wH Cx;have hC:=hC.Yn xI Cx;clear xI Cx;refine hK.out _ _ (hC.at_ N O) λD=>?_;clear hK K
   rotate_left;focus
    go_simp
    have hC:=hC.ZT;try simp only[ac,ai]at hC
    refine hK.out _ _ (hC.at_ N O) λD=>?_;clear hK K;refine f8 4 rfl λK hK=>bu rfl (.tmp 22) (.tmp 25) 26 rfl 55 iM _ 6 56 aT hI gK eO fZ rfl bh T.heap.size _ 0 [] bQ hC.own oC b k cap (bc f k) bQ (bJ f k) oC (λZ J=>by cases J;exact ep<|(rB Np hk).below hC.below SA) (fh f k) iN ab hC.below.size ?_;intro v4 w4 U FK KQ;simp only[av,ay]at U;have hC:=hC.app U KQ (by intro Y hY;cases hY;simp[a3]);clear U KQ;refine hK.out _ _ (hC.at_ N O) λD=>?_;clear hK K;refine f8 7 rfl λK hK=>?_;refine bu rfl (.tmp 26) (.tmp 28) 26 rfl 55 iM _ 6 56 aT hI gK eO fZ rfl bh T.heap.size v4 k (bc f k) bQ hC.own FK _ 1 1 m.cells.toList bQ rfl oC (λZ J=>by cases J;exact vF<|hC.one _ rfl) (gu m) iN ab hC.below.size ?_;intro v5 w5 xI wH Cx;have hC:=hC.Yn xI Cx;clear xI Cx;refine hK.out _ _ (hC.at_ N O) λD=>?_;clear hK K
  rotate_left 2;focus
   go_simp
   have hC:=hC.ZT;try simp only[ac,ai]at hC
   refine hK.out _ _ (hC.at_ N O) λD=>?_;clear hK K;refine f8 0 rfl λK hK=>?_;go_simp
   have hC:=hC.abw;try simp only[ac,ai]at hC
   refine hK.out _ _ (hC.at_ N O) λD=>?_;clear hK K;refine f8 4 rfl λK hK=>?_;refine bu rfl (.tmp 22) (.tmp 25) 26 rfl 55 iM _ 6 56 aT hI gK eO fZ rfl bh T.heap.size _ 0 [] bQ hC.own oC b k cap (bc f k) bQ (bJ f k) oC (λZ J=>by cases J;exact ep<|(rB Np hk).below hC.below SA) (fh f k) iN ab hC.below.size ?_;intro v4 w4 U FK KQ;simp only[av,ay]at U;have hC:=hC.app U KQ (by intro Y hY;cases hY;simp[a3]);clear U KQ;refine hK.out _ _ (hC.at_ N O) λD=>?_;clear hK K;refine f8 7 rfl λK hK=>?_;refine bu rfl (.tmp 26) (.tmp 28) 26 rfl 55 iM _ 6 56 aT hI gK eO fZ rfl bh T.heap.size v4 k (bc f k) bQ hC.own FK _ 1 1 m.cells.toList bQ rfl oC (λZ J=>by cases J;exact vF<|hC.one _ rfl) (gu m) iN ab hC.below.size ?_;intro v5 w5 xI wH Cx;have hC:=hC.Yn xI Cx;clear xI Cx;refine hK.out _ _ (hC.at_ N O) λD=>?_;clear hK K
  all_goals
   refine f8 11 rfl λK hK=>bu rfl (.tmp 29) (.tmp 32) 26 rfl 55 iM _ 6 56 aT hI gK eO fZ rfl bh T.heap.size v5 (k+1) (bc f k++m.cells.toList) bQ hC.own wH (if cap=k then some ⟨b,0,none⟩else some ⟨b,k*6,none⟩) (n-k) (cap-k) (bc (λj=>f<|k+j)<|n-k) bQ (bJ _ _) (by split<;>(intro h;cases h)) (a7 _ hC.below) (fh _ _) iN ab hC.below.size ?_;intro v6 w6 ZB KW a8;rw[At f k n m hk,show k+1+(n-k)=n+1 by omega]at ZB;have B6:aE T T w6:=hC.below.grown a8 hC.below.size λq hq=>(hC.own.lt q hq).1;obtain⟨b6,c6,rfl⟩:=ml ZB KW;refine hK.out _ _ (fS<|fy.keep N<|B6.block _ O) λD=>?_;clear hK K;refine f8 12 rfl λK hK=>?_;go_simp
   refine hK.out _ _ (fS<|fy.keep N<|B6.block _ O) λD=>?_;clear hK K;refine wpAnyH_done aO ?_ _;clear D;go_wp2;all_goals go_ret
   all_goals exact⟨⟨b6,c6,k,rfl,hk,nz,dZ,cg ZB qn.size⟩,qn.trans<|B6.mono qn.size⟩
structure Bok (w lo)(now shift:Int)(ao:Option aN)(n c)(f:Nat->Mv)(bo:Option aN)(d t):Prop where
 now:0<=now/\now<=10000
 sh:0<=shift/\shift<=6
 Ns:n<=6
 ok:∀i,i<n->(f i).ok=true
 mem:(ao=none/\bo=none/\n=0/\c=0/\d=0)\/∃b b',ao=some ⟨b,0,none⟩/\bo=some ⟨b',0,none⟩/\w.ownsRow lo 55 6 (aa (some ⟨b,0,none⟩) n c) n (bc f n)/\n<=d/\tR w lo b' n t
section
variable {lo:Nat}
def q8 (D:0<=now/\now<=10000)(J:0<=shift/\shift<=6):aY now shift f 0 t 0=true:=
 qZ (eJ.mpr D) (eJ.mpr J) ((fN<|by simp[aG]).mpr<|yz f t) (by simp[mW])
end
def Ev (w:au)(e:a5)(w':au):Prop:=∃(now shift:Int) (ao:Option aN) (n c:Nat) (f:Nat->Mv) (bo:Option aN) (d:Nat) (t:Nat->Int) (k:Int),e=.returned (.tuple #[.agg #[now,shift,aa ao n c,aa bo n d],k])/\Bok w' w.heap.size now shift ao n c f bo d t
def adV (w lo):Bok w lo 0 0 none 0 0 (λ_=>Ko) none 0 (λ_=>0):=⟨ab,ab,ab,λi j=>absurd j<|afO _,.inl ⟨rfl,rfl,rfl,rfl,rfl⟩⟩
section
section
variable {R X Bx a e g:Nat}
end
def EvT (w:au)(e:a5)(w':au):Prop:=∃(now shift:Int) (ao:Option aN) (n c:Nat) (f:Nat->Mv) (bo:Option aN) (d:Nat) (t:Nat->Int) (D:Option aN) (J N:Nat) (k:Int),e=.returned (.tuple #[.agg #[now,shift,aa ao n c,aa bo n d],aa D J N,k])/\Bok w' w.heap.size now shift ao n c f bo d t
def FU:∃i,Tz.prog.info? 9=some i/\i.zero=some (a4 ByteArray.empty)/\i.size=1/\i.bytes=16:=by
 have h:(Tz.prog.info? 9).map (λi=>(i.zero,i.size,i.bytes))=some (some<|a4 ByteArray.empty,1,16):=aO;simp_all
def sV:Tz.prog.underlying 24=some (.slice 9):=aO
def Av {p e q}(h:W.ownsRow p e q v n xs):∃a c,v=aa a n c/\(a=none->n=0/\c=0)/\∀ad,a=some ad->∃b,ad=⟨b,0,none⟩/\b<W.heap.size:=by
 obtain⟨D,⟨rfl,rfl⟩|⟨g,c,z,rfl,J,N,O⟩⟩:=h;all_goals grind
def ints (I:List Int):List Value:=I.map λx=>a1 .i64 x
def VG (D:aG f n=true)(J:fX f t n)(hk:k<n):({f k with prom:=t k}:Mv).ok=true:=by
 have b:=Mv.gj<|bd D k hk;have s:=iA<|J.1 k hk;refine Mv.Le (bd D k hk) rfl rfl b.1 b.2.1 b.2.2.1 (.inr ⟨?_,?_⟩)<;>simp<;>omega
structure Tc (w:au)(now shift ao n c bo d r v u L I s A xs W):Prop where
 below:aE w w W
 bk:aR W w.heap.size now shift (aa ao n c) (aa bo n d)
 rs:aR W (w.heap.size+1) 0 0 () ()
 nx:aR W r (now+1) shift v u
 hN:w.heap.size+2<r
 om:W.ownsRow (r+1) 55 6 v L.length (bc (jO L) L.length)
 oi:W.ownsRow (r+1) 3 1 u I.length (ints I)
 os:W.ownsRow (w.heap.size+2) 9 1 s A xs
section
variable {r:Nat}{u:aL}{L:List Mv}{I:List Int}{s:aL}{A:Nat}
def Tc.grow (h:Tc w now shift ao n c bo d r v u L I s A xs W)(b:aE W W W'):Tc w now shift ao n c bo d r v u L I s A xs W':=
 ⟨h.below.trans<|b.mono h.below.size,h.bk.same<|b.block _ h.bk.lt,h.rs.same<|b.block _ h.rs.lt,h.nx.same<|b.block _ h.nx.lt,h.hN,az h.om λB p=>b.block B (h.om.lt B p).2,az h.oi λB p=>b.block B (h.oi.lt B p).2,az h.os λB p=>b.block B (h.os.lt B p).2⟩
def Tc.names (h:Tc w now shift ao n c bo d r v u L I s A xs W){s' z D}(o:W'.ownsRow (w.heap.size+2) 9 1 s' z D)(g:W.grownBy W' s.ownBlock):Tc w now shift ao n c bo d r v u L I s' z D W':=⟨h.below.grown g h.below.size (λq N=>by have:=(h.os.lt q N).1;omega),h.bk.same<|g.block _ h.bk.lt (λe=>by have:=(h.os.lt _ e.symm).1;omega),h.rs.same<|g.block _ h.rs.lt (λe=>by have:=(h.os.lt _ e.symm).1;omega),h.nx.same<|g.block _ h.nx.lt λe=>gN h.os h.nx bh e.symm rfl,h.hN,az h.om λB J=>g.block B (h.om.lt B J).2 λe=>iU h.om h.os bh J e.symm,az h.oi λB J=>g.block B (h.oi.lt B J).2 λe=>iU h.oi h.os bh J e.symm,o⟩
def Tc.moves (h:Tc w now shift ao n c bo d r v u L I s A xs W)(o:W'.ownsRow (r+1) 55 6 x (L.length+1) (bc (jO L) L.length++m.cells.toList))(g:W.grownBy W' v.ownBlock):aR W' r (now+1) shift v u/\Tc w now shift ao n c bo d r x u (L++[m]) I s A xs (W'.setCell ⟨r,2,none⟩ x):=by
 have U:=h.hN;have J:=h.nx.same<|g.block _ h.nx.lt λe=>gN h.om h.nx bh e.symm rfl;have T:=h.below.grown g h.below.size (λq hq=>by have:=(h.om.lt q hq).1;omega);obtain⟨X,rfl,y,hb,z,e⟩:=JM J T ab x;have N:=az h.oi λB D=>g.block B (h.oi.lt B D).2 λe=>iU h.oi h.om bh D e.symm;have O:=az h.os λB D=>g.block B (h.os.lt B D).2 λe=>iU h.os h.om bh D e.symm;refine⟨J,hb,h.bk.same<|(e _ ab).trans<|g.block _ h.bk.lt (λe=>by have:=(h.om.lt _ e.symm).1;omega),h.rs.same<|(e _ ab).trans<|g.block _ h.rs.lt (λe=>by have:=(h.om.lt _ e.symm).1;omega),y,h.hN,?_,az N λB D=>e B<|gN N J bh D,az O λB D=>e B<|gN O J bh D⟩;rw[a2,a0,GV];exact az o λB D=>e B<|gN o J bh D
def Tc.RF (h:Tc w now shift ao n c bo d r v u L I s A xs W){O x}(o:W'.ownsRow (r+1) 3 1 O (I.length+1) (ints I++[a1 .i64 x]))(g:W.grownBy W' u.ownBlock):aR W' r (now+1) shift v u/\Tc w now shift ao n c bo d r v O L (I++[x]) s A xs (W'.setCell ⟨r,3,none⟩ O):=by
 have U:=h.hN;have J:=h.nx.same<|g.block _ h.nx.lt λe=>gN h.oi h.nx bh e.symm rfl;obtain⟨X,rfl,y,hb,z,e⟩:=yk J (h.below.grown g h.below.size (λq hq=>by have:=(h.oi.lt q hq).1;omega)) ab O;have N:=az h.om λB D=>g.block B (h.om.lt B D).2 λe=>iU h.om h.oi bh D e.symm;have T:=az h.os λB D=>g.block B (h.os.lt B D).2 λe=>iU h.os h.oi bh D e.symm;refine⟨J,hb,h.bk.same<|(e _ ab).trans<|g.block _ h.bk.lt (λe=>by have:=(h.oi.lt _ e.symm).1;omega),h.rs.same<|(e _ ab).trans<|g.block _ h.rs.lt (λe=>by have:=(h.oi.lt _ e.symm).1;omega),y,h.hN,az N λB D=>e B<|gN N J bh D,?_,az T λB D=>e B<|gN T J bh D⟩;rw[a2,a0,show ints (I++[x])=ints I++[a1 .i64 x] by simp[ints]];exact az o λB D=>e B<|gN o J bh D
end
def Iu (w:au)(m):∃W,w.alloc (.cells #[m.name,m.ax,m.aI,m.cE,m.late,m.prom] 55)=W/\fy W w.heap.size m/\aE w w W/\W.heap.size=w.heap.size+1:=
 ⟨_,rfl,aV w _,(afB _ w).alloc (afK _) _,aP⟩
