import Derived.Test.YthppgbjejomdiaaGreatDoorj37
import Derived.Test.YthppgbjejomdiaaGreatDoorj28
set_option linter.all false
set_option maxHeartbeats 4000000
set_option maxRecDepth 10000
open Go renaming World->ac,Addr->au,Value->av,heap_alloc_new->a0,Ending->a2
open Go.RowKit renaming Below->aj
open Go.Value renaming slice->aa,int->ay,string->a1,ownBlock->a5
open Go.World renaming size_alloc->aE,size_drew->aL
open List renaming nil_append->aV,length_singleton->a3,length_append->a4
open Nat renaming zero_add->aP
namespace Go.Proofs.YthppgbjejomdiaaGreatDoor
open RowKit
variable {now shift:Int}{y xs:List av}{m:Mv}{B b c d k n C:Nat}{t:Nat->Int}{f:Nat->Mv}{ao bo:Option au}{v x:av}{W W' w w':ac}
section
variable {m:Nat}
def EW {m:Mv}(h:m.ok=true):m.Fits:=by have b:=Mv.gp h;exact⟨by have:=LR h;unfold maxLen;omega,A5 ab,A5 ab,A5 ab,A5 ab⟩
def rJ (h:aM w b 0 n f)(hk:k<=n):aM w b 0 k f:=λi D=>h i ab
def BY (b n cap k:Nat)(f)(w:ac)(hn:n<=6)(hk:k<n)(BG:n<=cap)(bN:b<w)(az:aM w b 0 n f): Calls Tz.prog 61 #[aa (some ⟨b,0,none⟩) n cap,ay .i64 k] w λe w'=>(∃B c,e=.returned (aa (some ⟨B,0,none⟩) (n-1) c)/\w'.ownsRow w 30 6 (aa (some ⟨B,0,none⟩) (n-1) c) (n-1) (bd (d6 f k)<|n-1))/\aj w w w':=by
 let⟨iM,hI,gE,eI,f8⟩:=fh;have ax:(k:Int)<=cap:=ab;have yl:(0:Int)<=(k:Int)+1:=ab;have BH:(k:Int)+1<=n:=ab;have mZ:(k:Int)+1<=cap:=ab;have CY:IntKind.i64.wrap ((k:Int)+1)=(k:Int)+1:=jh;have T:aj w w (w.alloc<|.cells #[] 30).drew:=((agn _ w).alloc ab _).drew;have hC:∀W,aj w w W->∀U,(if cap=k+1 then some (b:au)else some ⟨b,(k+1)*6,none⟩)=some U->∀j u,(bd (λj=>f<|k+1+j)<|n-(k+1))[j]?=some u->W.cell? (U.add j)=some u:=λW hW U D=>by split at D;grind [bd];cases D;exact ey<|(oj az ab).below hW bN
 go_enter Tz.func61,Tryz.ntmps61;go_wp2;go_region_law (first
  |(refine bu rfl (.tmp 5) (.tmp 8) 39 rfl 30 iM _ 6 56 aT hI gE eI f8 rfl bc w (aa (some ⟨w,0,none⟩) 0 0) 0 [] bQ (ve ab) oK (some ⟨b,0,none⟩) k cap (bd f k) bQ (bI f k) oK (λU D=>by cases D;exact ey<|(rJ az ab).below T bN) (fp f k) iR ab T.size ?_;intro v2 w2 Y yq jI;simp[aP,aV]at Y;have N:=T.grown jI T.size λq hq=>I4;clear jI)
  |(refine bu rfl (.tmp 9) (.tmp 13) 39 rfl 30 iM _ 6 56 aT hI gE eI f8 rfl bc w v2 k (bd f k) bQ Y yq (if cap=k+1 then some (⟨b,0,none⟩:au)else some ⟨b,(k+1)*6,none⟩) (n-(k+1)) (cap-(k+1)) (bd (λj=>f<|k+1+j)<|n-(k+1)) bQ (bI _ _) f7 (hC _ N) (fp _ _) iR ab N.size ?_;intro v3 w3 J Z O;rw[Ho f k n hk,show k+(n-(k+1))=n-1 by omega]at J;have B3:=N.grown O N.size λq hq=>(Y.lt q hq).1;obtain⟨b3,c3,rfl⟩:=mz J Z;clear O N Y))
 go_wp2;all_goals
  go_ret;exact⟨⟨b3,c3,rfl,J⟩,B3⟩
end
def dU.keep (h:dU w b m)(e:w'.heap[b]?=w.heap[b]?):dU w' b m:=e.trans h
structure At6 (B:Nat)(m:Mv)(W:ac):Prop where
 c0:W.cell? B=some (a1 m.name)
 c1:W.cell? ⟨B,1,none⟩=some (.bool m.ax)
 c2:W.cell? ⟨B,2,none⟩=some (ay .i64 m.aI)
 c3:W.cell? ⟨B,3,none⟩=some (ay .i64 m.cj)
 c4:W.cell? ⟨B,4,none⟩=some (ay .i64 m.late)
 c5:W.cell? ⟨B,5,none⟩=some (ay .i64 m.prom)
def fW (h:dU W B m):At6 B m W:=by let⟨i,j,l,p,q,z⟩:=h.at_;exact⟨i,j,l,p,q,z⟩
structure Pu (w:ac)(m:Mv)(v n xs)(o:Option Nat)(W):Prop where
 below:aj w w W
 own:W.ownsRow w 30 6 v n xs
 one:∀Y,o=some Y->W.heap[Y]?=some (.cells m.cells 30 (0,0))
section
variable {o:Option Nat}
def Pu.at_ (h:Pu w m v n xs o W)(hm:dU w B m)(j:B<w):At6 B m W:=fW<|hm.keep<|h.below.block B j
def Pu.acl (h:Pu w m v n xs o W):Pu w m (aa W 0 0) 0 [] o (W.alloc<|.cells #[] 30):=
 ⟨h.below.alloc h.below.size _,ve h.below.size,λY j=>(ago _ _ _ (agy.1<|h.one Y j).1).trans<|h.one Y j⟩
def Pu.K_ (h:Pu w m v n xs o W):Pu w m v n xs (some W) (W.alloc<|.cells #[m.name,m.ax,m.aI,m.cj,m.late,m.prom] 30):=
 ⟨h.below.alloc h.below.size _,aA h.own λB j=>ago _ _ _ (h.own.lt B j).2,λY l=>by cases l;exact a0 W _⟩
def Pu.app (h:Pu w m v n xs o W)(ho:W'.ownsRow w 30 6 x C y)(g:W.grownBy W' v.ownBlock)(l:∀Y,o=some Y->v.ownBlock≠some Y):Pu w m x C y o W':=
 ⟨h.below.grown g h.below.size λq p=>(h.own.lt q p).1,ho,λY j=>(g.block Y (agy.1<|h.one Y j).1 λe=>l Y j e.symm).trans<|h.one Y j⟩
def Pu.Zg (h:Pu w m v n xs o W)(ho:W'.ownsRow w 30 6 x C y)(g:W.grownBy W' v.ownBlock):Pu w m x C y none W':=
 ⟨h.below.grown g h.below.size λq j=>(h.own.lt q j).1,ho,λY l=>f7⟩
end
def TH (f:Nat->Mv)(n:Nat)(m:Mv)(w:ac)(e:a2)(w':ac):Prop:=∃B c k,e=.returned (aa (some ⟨B,0,none⟩) (n+1) c)/\k<=n/\(∀j,j<k->cG (f j).name m.name=true)/\(k<n->cG (f k).name m.name=false)/\w'.ownsRow w 30 6 (aa (some ⟨B,0,none⟩) (n+1) c) (n+1) (bd (er f k m)<|n+1)
def acZ {p:Prop}(x9:p:=by
 have c0:=(az.below hB bN k aG).c0;simp[Nat.zero_add]at c0;have x0:=λx:am wr=>x.cell c0;go_wp2;refine nh ?_;intro w2 dh;go_wp2;all_goals try omega
 go_roundw
 case rel=>exact⟨k+1,by go_num,ab,hB.trans<|dh.mono hB.size,hm.keep<|dh.block _ lm,λj hj=>by by_cases e:j=k;subst e;exact hL;exact nH j ab⟩
 exact cD):p:=x9
def Nu (b n cap:Nat)(f m)(w:ac)(hn:n<=6)(BG:n<=cap)(bN:b<w)(az:aM w b 0 n f): Calls Tz.prog 59 #[aa b n cap,.agg #[m.name,m.ax,m.aI,m.cj,m.late,m.prom]] w λe w'=>TH f n m w e w'/\aj w w w':=by
 let⟨iM,hI,gE,eI,f8⟩:=fh;have bA:aj w w (w.alloc<|.cells #[m.name,m.ax,m.aI,m.cj,m.late,m.prom] 30):=(agn _ w).alloc ab _;have mA:dU (w.alloc<|.cells #[m.name,m.ax,m.aI,m.cj,m.late,m.prom] 30) w m:=a0 _ _;go_enter Tz.func59,Tryz.ntmps59;go_wp2;go_loopw [5] (λx W=>∃k:Nat,x=ay .i64 k/\k<=n/\aj w w W/\dU W w m/\∀j,j<k->cG (f j).name m.name=true) (λx _=>n-(intOf x).toNat)
 case atStart=>exact⟨0,rfl,agB _,bA,mA,λj hj=>absurd hj ab⟩
 clear bA mA;obtain⟨k,rfl,hk,hB,hm,nH⟩:=hrel;have lb:=agx bN hB.size;have lm:(w:Nat)<wr:=(agy.1 hm).1;have a9:=aK wr;have x1:=λx:am wr=>x.cell (fW hm).c0;by_cases aZ:k<n/\cG (f k).name m.name=true;let⟨aG,hL⟩:=aZ;have dQ:(k:Int)<n:=ab;have a6:Op.bytesLess (f k).name.toList m.name.toList=true:=hL;exact acZ;have dZ:k<n->cG (f k).name m.name=false:=λh=>by cases hL:cG (f k).name m.name;rfl;exact absurd ⟨h,hL⟩ aZ
 by_cases aG:k<n;focus
  have dQ:(k:Int)<n:=ab;have a6:Op.bytesLess (f k).name.toList m.name.toList=false:=dZ aG;have c0:=(az.below hB bN k aG).c0;simp only[aP]at c0;have x0:=λx:am wr=>x.cell c0
  go_wp2;refine nh ?_;intro w2 dh;go_wp2;all_goals try omega
 rotate_left;focus
  have dQ:¬(k:Int)<n:=ab;have hz:decide (k<n)=false:=by simpa using aG
  go_wp2;refine nh ?_;intro w2 dh;go_wp2;all_goals try omega
 all_goals
  have qu:aj w w w2.drew:=(hB.trans<|dh.mono hB.size).drew;have N:dU w2.drew w m:=hm.keep<|dh.block _ lm;have N9:aM w2.drew b 0 n f:=az.below qu bN;have Tm:b<w2.drew:=agx bN qu.size;have O:(w:Nat)<w2.drew:=(agy.1 N).1;refine wp_region_held_drew aO (fW N) λD=>?_;revert D qu N N9 Tm O;generalize w2.drew=T;intro qu N N9 Tm O D;have bb:(k:Int)<=cap:=ab;have yl:(0:Int)<=k:=ab;have tX:(k:Int)<=n:=ab;have a7:∀W,aj T T W->∀Z,(if cap=k then some (b:au)else some ⟨b,k*6,none⟩)=some Z->∀j u,(bd (λj=>f<|k+j)<|n-k)[j]?=some u->W.cell? (Z.add j)=some u:=λW hW Z J=>by
   split at J
   .have:n-k=0:=by omega
    rw[this];intro j u h;simp[bd]at h
   cases J;exact ey<|(oj N9 hk).below hW Tm
  have hC:Pu T m () 0 [] none T:=⟨agn _ _,⟨rfl,.inl ⟨rfl,rfl⟩⟩,λY hY=>by cases hY⟩;refine ai 1 (aa b n cap) 23 rfl Ot D<|ai 2 (ay .i64 (k:Int)) 24 rfl Ot D<|ai 3 (aa b k cap) 25 rfl Ot D<|ai 5 (.agg #[m.name,m.ax,m.aI,m.cj,m.late,m.prom]) 27 rfl Ot D<|ai 8 (aa b n cap) 30 rfl Ot D<|ai 9 (ay .i64 (k:Int)) 31 rfl Ot D<|ai 10 (aa (if cap=k then some ⟨b,0,none⟩else some ⟨b,k*6,none⟩) (n-k)<|cap-k) 32 rfl Ot D<|L9 0 6 rfl rfl (λK hK=>?_) (λK hK=>?_);focus
   go_simp
   have hC:=hC.acl;try simp[aE,aL]at hC
   refine hK.out _ _ (hC.at_ N O) λD=>?_;clear hK K;refine L9 4 6 rfl rfl (λK hK=>?_) λK hK=>?_;focus
    refine bu rfl (.tmp 22) (.tmp 25) 39 rfl 30 iM _ 6 56 aT hI gE eI f8 rfl bc T _ 0 [] bQ hC.own oK b k cap (bd f k) bQ (bI f k) oK (λZ J=>by cases J;exact ey<|(rJ N9 hk).below hC.below Tm) (fp f k) iR ab hC.below.size ?_;intro v4 w4 U Gb Lr;simp[aP,aV]at U;have hC:=hC.app U Lr (by intro Y hY;cases hY);clear U Lr;refine hK.out _ _ (hC.at_ N O) λD=>?_;clear hK K;refine fH 6 rfl λK hK=>?_;go_simp
    have hC:=hC.K_;try simp only[aE,aL]at hC
    refine hK.out _ _ (hC.at_ N O) λD=>?_;clear hK K;refine fH 7 rfl λK hK=>bu rfl (.tmp 26) (.tmp 28) 39 rfl 30 iM _ 6 56 aT hI gE eI f8 rfl bc T v4 k (bd f k) bQ hC.own Gb _ 1 1 m.cells.toList bQ rfl oK (λZ J=>by cases J;exact we<|hC.one _ rfl) (gF m) iR ab hC.below.size ?_;intro v5 w5 xZ xf CV;have hC:=hC.Zg xZ CV;clear xZ CV;refine hK.out _ _ (hC.at_ N O) λD=>?_;clear hK K
   rotate_left;focus
    go_simp
    have hC:=hC.K_;try simp only[aE,aL]at hC
    refine hK.out _ _ (hC.at_ N O) λD=>?_;clear hK K;refine fH 4 rfl λK hK=>bu rfl (.tmp 22) (.tmp 25) 39 rfl 30 iM _ 6 56 aT hI gE eI f8 rfl bc T _ 0 [] bQ hC.own oK b k cap (bd f k) bQ (bI f k) oK (λZ J=>by cases J;exact ey<|(rJ N9 hk).below hC.below Tm) (fp f k) iR ab hC.below.size ?_;intro v4 w4 U Gb Lr;simp only[aP,aV]at U;have hC:=hC.app U Lr (by intro Y hY;cases hY;simp[a5]);clear U Lr;refine hK.out _ _ (hC.at_ N O) λD=>?_;clear hK K;refine fH 7 rfl λK hK=>?_;refine bu rfl (.tmp 26) (.tmp 28) 39 rfl 30 iM _ 6 56 aT hI gE eI f8 rfl bc T v4 k (bd f k) bQ hC.own Gb _ 1 1 m.cells.toList bQ rfl oK (λZ J=>by cases J;exact we<|hC.one _ rfl) (gF m) iR ab hC.below.size ?_;intro v5 w5 xZ xf CV;have hC:=hC.Zg xZ CV;clear xZ CV;refine hK.out _ _ (hC.at_ N O) λD=>?_;clear hK K
  rotate_left 2;focus
   go_simp
   have hC:=hC.K_;try simp only[aE,aL]at hC
   refine hK.out _ _ (hC.at_ N O) λD=>?_;clear hK K;refine fH 0 rfl λK hK=>?_;go_simp
   have hC:=hC.acl;try simp only[aE,aL]at hC
   refine hK.out _ _ (hC.at_ N O) λD=>?_;clear hK K;refine fH 4 rfl λK hK=>?_;refine bu rfl (.tmp 22) (.tmp 25) 39 rfl 30 iM _ 6 56 aT hI gE eI f8 rfl bc T _ 0 [] bQ hC.own oK b k cap (bd f k) bQ (bI f k) oK (λZ J=>by cases J;exact ey<|(rJ N9 hk).below hC.below Tm) (fp f k) iR ab hC.below.size ?_;intro v4 w4 U Gb Lr;simp only[aP,aV]at U;have hC:=hC.app U Lr (by intro Y hY;cases hY;simp[a5]);clear U Lr;refine hK.out _ _ (hC.at_ N O) λD=>?_;clear hK K;refine fH 7 rfl λK hK=>?_;refine bu rfl (.tmp 26) (.tmp 28) 39 rfl 30 iM _ 6 56 aT hI gE eI f8 rfl bc T v4 k (bd f k) bQ hC.own Gb _ 1 1 m.cells.toList bQ rfl oK (λZ J=>by cases J;exact we<|hC.one _ rfl) (gF m) iR ab hC.below.size ?_;intro v5 w5 xZ xf CV;have hC:=hC.Zg xZ CV;clear xZ CV;refine hK.out _ _ (hC.at_ N O) λD=>?_;clear hK K
  all_goals
   refine fH 11 rfl λK hK=>bu rfl (.tmp 29) (.tmp 32) 39 rfl 30 iM _ 6 56 aT hI gE eI f8 rfl bc T v5 (k+1) (bd f k++m.cells.toList) bQ hC.own xf (if cap=k then some ⟨b,0,none⟩else some ⟨b,k*6,none⟩) (n-k) (cap-k) (bd (λj=>f<|k+j)<|n-k) bQ (bI _ _) (by split<;>(intro h;cases h)) (a7 _ hC.below) (fp _ _) iR ab hC.below.size ?_;intro v6 w6 x_ LA a8;rw[AK f k n m hk,show k+1+(n-k)=n+1 by omega]at x_;have B6:aj T T w6:=hC.below.grown a8 hC.below.size λq hq=>(hC.own.lt q hq).1;obtain⟨b6,c6,rfl⟩:=mz x_ LA;refine hK.out _ _ (fW<|dU.keep N<|B6.block _ O) λD=>?_;clear hK K;refine fH 12 rfl λK hK=>?_;go_simp
   refine hK.out _ _ (fW<|dU.keep N<|B6.block _ O) λD=>?_;clear hK K;refine wpAnyH_done aO ?_ _;clear D;go_wp2;all_goals go_ret
   all_goals exact⟨⟨b6,c6,k,rfl,hk,nH,dZ,cm x_ qu.size⟩,qu.trans<|B6.mono qu.size⟩
structure Bok (w lo)(now shift:Int)(ao:Option au)(n c)(f:Nat->Mv)(bo:Option au)(d t):Prop where
 now:0<=now/\now<=10000
 sh:0<=shift/\shift<=6
 Oc:n<=6
 ok:∀i,i<n->(f i).ok=true
 mem:(ao=none/\bo=none/\n=0/\c=0/\d=0)\/∃b b',ao=some ⟨b,0,none⟩/\bo=some ⟨b',0,none⟩/\w.ownsRow lo 30 6 (aa (some ⟨b,0,none⟩) n c) n (bd f n)/\n<=d/\uc w lo b' n t
section
variable {lo:Nat}
def rz (D:0<=now/\now<=10000)(J:0<=shift/\shift<=6):aY now shift f 0 t 0=true:=
 ru (eO.mpr D) (eO.mpr J) ((fS<|by simp[aH]).mpr<|yN f t) (by simp[np])
end
def Ev (w:ac)(e:a2)(w':ac):Prop:=∃(now shift:Int) (ao:Option au) (n c:Nat) (f:Nat->Mv) (bo:Option au) (d:Nat) (t:Nat->Int) (k:Int),e=.returned (.tuple #[.agg #[now,shift,aa ao n c,aa bo n d],k])/\Bok w' w now shift ao n c f bo d t
def aeH (w lo):Bok w lo 0 0 none 0 0 (λ_=>KY) none 0 (λ_=>0):=⟨ab,ab,ab,λi j=>absurd j<|agA _,.inl ⟨rfl,rfl,rfl,rfl,rfl⟩⟩
section
section
variable {R X Bx a e g:Nat}
end
def EvT (w:ac)(e:a2)(w':ac):Prop:=∃(now shift:Int) (ao:Option au) (n c:Nat) (f:Nat->Mv) (bo:Option au) (d:Nat) (t:Nat->Int) (D:Option au) (J N:Nat) (k:Int),e=.returned (.tuple #[.agg #[now,shift,aa ao n c,aa bo n d],aa D J N,k])/\Bok w' w now shift ao n c f bo d t
def Gp:∃i,Tz.prog.info? 9=some i/\i.zero=some (a1 ByteArray.empty)/\i.size=1/\i.bytes=16:=by have h:(Tz.prog.info? 9).map (λi=>(i.zero,i.size,i.bytes))=some (some<|a1 ByteArray.empty,1,16):=aO;simp_all
def tq:Tz.prog.underlying 33=some (.slice 9):=aO
def AM {p e q}(h:W.ownsRow p e q v n xs):∃a c,v=aa a n c/\(a=none->n=0/\c=0)/\∀ad,a=some ad->∃b,ad=⟨b,0,none⟩/\b<W:=by obtain⟨D,⟨rfl,rfl⟩|⟨g,c,z,rfl,J,N,O⟩⟩:=h;all_goals grind
def ints (I:List Int):List Value:=I.map λx=>ay .i64 x
def WB (D:aH f n=true)(J:ga f t n)(hk:k<n):({f k with prom:=t k}:Mv).ok=true:=by have b:=Mv.gp<|bf D k hk;have s:=iE<|J.1 k hk;refine Mv.LT (bf D k hk) rfl rfl b.1 b.2.1 b.2.2.1 (.inr ⟨?_,?_⟩)<;>simp<;>omega
structure Tc (w:ac)(now shift ao n c bo d r v u L I s A xs W):Prop where
 below:aj w w W
 bk:aR W w now shift (aa ao n c) (aa bo n d)
 rs:aR W ((w:Nat)+1) 0 0 () ()
 nx:aR W r (now+1) shift v u
 hN:(w:Nat)+2<r
 om:W.ownsRow (r+1) 30 6 v L.length (bd (jT L) L.length)
 oi:W.ownsRow (r+1) 3 1 u I.length (ints I)
 os:W.ownsRow ((w:Nat)+2) 9 1 s A xs
section
variable {r:Nat}{u:av}{L:List Mv}{I:List Int}{s:av}{A:Nat}
def Tc.grow (h:Tc w now shift ao n c bo d r v u L I s A xs W)(b:aj W W W'):Tc w now shift ao n c bo d r v u L I s A xs W':=
 ⟨h.below.trans<|b.mono h.below.size,h.bk.same<|b.block _ h.bk.lt,h.rs.same<|b.block _ h.rs.lt,h.nx.same<|b.block _ h.nx.lt,h.hN,aA h.om λB p=>b.block B (h.om.lt B p).2,aA h.oi λB p=>b.block B (h.oi.lt B p).2,aA h.os λB p=>b.block B (h.os.lt B p).2⟩
def Tc.names (h:Tc w now shift ao n c bo d r v u L I s A xs W){s' z D}(o:W'.ownsRow ((w:Nat)+2) 9 1 s' z D)(g:W.grownBy W' s.ownBlock):Tc w now shift ao n c bo d r v u L I s' z D W':=⟨h.below.grown g h.below.size (λq N=>by have:=(h.os.lt q N).1;omega),h.bk.same<|g.block _ h.bk.lt (λe=>by have:=(h.os.lt _ e.symm).1;omega),h.rs.same<|g.block _ h.rs.lt (λe=>by have:=(h.os.lt _ e.symm).1;omega),h.nx.same<|g.block _ h.nx.lt λe=>gP h.os h.nx bc e.symm rfl,h.hN,aA h.om λB J=>g.block B (h.om.lt B J).2 λe=>ja h.om h.os bc J e.symm,aA h.oi λB J=>g.block B (h.oi.lt B J).2 λe=>ja h.oi h.os bc J e.symm,o⟩
def Tc.moves (h:Tc w now shift ao n c bo d r v u L I s A xs W)(o:W'.ownsRow (r+1) 30 6 x (L.length+1) (bd (jT L) L.length++m.cells.toList))(g:W.grownBy W' v.ownBlock):aR W' r (now+1) shift v u/\Tc w now shift ao n c bo d r x u (L++[m]) I s A xs (W'.setCell ⟨r,2,none⟩ x):=by have U:=h.hN;have J:=h.nx.same<|g.block _ h.nx.lt λe=>gP h.om h.nx bc e.symm rfl;have T:=h.below.grown g h.below.size (λq hq=>by have:=(h.om.lt q hq).1;omega);obtain⟨X,rfl,y,hb,z,e⟩:=Kl J T ab x;have N:=aA h.oi λB D=>g.block B (h.oi.lt B D).2 λe=>ja h.oi h.om bc D e.symm;have O:=aA h.os λB D=>g.block B (h.os.lt B D).2 λe=>ja h.os h.om bc D e.symm;refine⟨J,hb,h.bk.same<|(e _ ab).trans<|g.block _ h.bk.lt (λe=>by have:=(h.om.lt _ e.symm).1;omega),h.rs.same<|(e _ ab).trans<|g.block _ h.rs.lt (λe=>by have:=(h.om.lt _ e.symm).1;omega),y,h.hN,?_,aA N λB D=>e B<|gP N J bc D,aA O λB D=>e B<|gP O J bc D⟩;rw[a4,a3,Hl];exact aA o λB D=>e B<|gP o J bc D
def Tc.So (h:Tc w now shift ao n c bo d r v u L I s A xs W){O x}(o:W'.ownsRow (r+1) 3 1 O (I.length+1) (ints I++[ay .i64 x]))(g:W.grownBy W' u.ownBlock):aR W' r (now+1) shift v u/\Tc w now shift ao n c bo d r v O L (I++[x]) s A xs (W'.setCell ⟨r,3,none⟩ O):=by have U:=h.hN;have J:=h.nx.same<|g.block _ h.nx.lt λe=>gP h.oi h.nx bc e.symm rfl;obtain⟨X,rfl,y,hb,z,e⟩:=yE J (h.below.grown g h.below.size (λq hq=>by have:=(h.oi.lt q hq).1;omega)) ab O;have N:=aA h.om λB D=>g.block B (h.om.lt B D).2 λe=>ja h.om h.oi bc D e.symm;have T:=aA h.os λB D=>g.block B (h.os.lt B D).2 λe=>ja h.os h.oi bc D e.symm;refine⟨J,hb,h.bk.same<|(e _ ab).trans<|g.block _ h.bk.lt (λe=>by have:=(h.oi.lt _ e.symm).1;omega),h.rs.same<|(e _ ab).trans<|g.block _ h.rs.lt (λe=>by have:=(h.oi.lt _ e.symm).1;omega),y,h.hN,aA N λB D=>e B<|gP N J bc D,?_,aA T λB D=>e B<|gP T J bc D⟩;rw[a4,a3,show ints (I++[x])=ints I++[ay .i64 x] by simp[ints]];exact aA o λB D=>e B<|gP o J bc D
end
def I2 (w:ac)(m):∃W,w.alloc (.cells #[m.name,m.ax,m.aI,m.cj,m.late,m.prom] 30)=W/\dU W w m/\aj w w W/\(W:Nat)=(w:Nat)+1:=
 ⟨_,rfl,a0 w _,(agn _ w).alloc (agw _) _,aN⟩
