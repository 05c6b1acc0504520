import Derived.Test.YtjoalkgmgmmedaaGreatDoorj16
import Derived.Test.YtjoalkgmgmmedaaGreatDoorj26
import Derived.Test.YtjoalkgmgmmedaaGreatDoorj22
import Derived.Deep.AppendLies
set_option linter.defProp false
set_option linter.unusedVariables false
set_option maxHeartbeats 4000000
set_option maxRecDepth 10000
open Go renaming heap_alloc_new->ao,World->au,wpQuiet_nil->av,wpList_append_own->a8,Calls->a9
open Go.RowKit renaming Below->aa
open Go.Value renaming slice->ac,int->ad,ownBlock->aL
open List renaming nil_append->ay,length_map->aE,mem_of_getElem?->aN,length_append->a6,take_add_one->a7,getD->bb
open Nat renaming zero_add->ai
namespace Go.Proofs.YtjoalkgmgmmedaaGreatDoor
open RowKit
def us (m:Mv)(w):
  a9 Tz.prog 110 #[.agg #[m.name,m.ax,m.aI,m.cE,m.late,m.prom]] w λe w'=>e=.returned m.key/\aa w w w':=Ux m w
def Qj (f x i)(h:x<i):
  (pZ f x i/\(f x).key<(f i).key)\/(pZ f x i/\decide ((f x).key<(f i).key)=false/\((f x).key==(f i).key)/\(cr (f x).name (f i).name||de (f x).name (f i).name))
  \/(¬pZ f x i/\decide ((f x).key<(f i).key)=false/\((f x).key==(f i).key)=false)\/(¬pZ f x i/\decide ((f x).key<(f i).key)=false/\((f x).key==(f i).key)/\(cr (f x).name (f i).name||de (f x).name (f i).name)=false):=by
 grind [LX]
def sw (b off n cap:Nat)(f:Nat->Mv)(w:au)(hn:n<=1048576)(bN:b<w)(aB:aK w b off n f):
  a9 Tz.prog 84 #[ac (some ⟨b,off,none⟩) n cap] w λe w'=>(∃(g:Nat->Nat) (B c:Nat),dI f n g/\e=.returned (ac B n c)/\B<w'/\aD w' B 0 n (λi=>((g i:Nat):Int)))/\aa w w w':=by
 go_enter Tz.func84,Tryz.ntmps84
 go_wp2;go_loopw [3,4] (λv x wr=>∃(i:Nat) (g:Nat->Nat) (B c:Nat),i<=n/\x=ad .i64 i/\v=ac (some ⟨B,0,none⟩) i c/\dI f i g/\wr.ownsRow w.heap.size 3 1 (ac (some ⟨B,0,none⟩) i c) i (cG g i)/\aa w.heap.size w wr) (λ_ x _=>n-(intOf x).toNat)
 case atStart=>exact⟨0,id,w.heap.size,0,afP _,rfl,rfl,En f _,jP ab<|heap_alloc_new _ _,(afB _ _).alloc ab _⟩
 obtain⟨i,g,B,c,hi,rfl,rfl,hf,bj,hB⟩:=hrel;by_cases aF:i<n
 .have dV:(i:Int)<n:=by omega
  go_wp2;go_loopw [5] (λy wr=>∃k:Nat,k<=i/\y=ad .i64 k/\(∀j,j<k->pZ f (g j) i)/\wr.ownsRow w.heap.size 3 1 (ac B i c) i (cG g i)/\aa w w wr) (λy _=>i-(intOf y).toNat)
  case atStart=>exact⟨0,afP _,rfl,λj hj=>absurd hj ab,bj,hB⟩
  obtain⟨k,hk,rfl,Pz,bj,hB⟩:=hrel;let⟨IU,hic⟩:=kO bj;have hcell:∀j,j<i->wr.cell? ⟨B,j,none⟩=some (ad .i64 ((g j:Nat):Int)):=λj hj=>by rw[bj.cellAt j ab];exact iC hj
  have hne:=aM wr;by_cases hlk:k<i;case' pos=>
   have ae0:(k:Int)<i:=ab;have hgk:=hf.low k hlk;have hgn:((g k:Nat):Int)<n:=ab;have I4:=aB.below hB bN i aF;have hrg:=aB.below hB bN (g k) ab;have x0:=λx:an wr=>x.cell<|hcell k hlk
   have a0:=λx:an wr=>x.cell I4.c0
   have a1:=λx:an wr=>x.cell I4.c1
   have a2:=λx:an wr=>x.cell I4.c2
   have a3:=λx:an wr=>x.cell I4.c3
   have a4:=λx:an wr=>x.cell I4.c4
   have a5:=λx:an wr=>x.cell I4.c5
   have b0:=λx:an wr=>x.cell hrg.c0
   have b1:=λx:an wr=>x.cell hrg.c1
   have b2:=λx:an wr=>x.cell hrg.c2
   have b3:=λx:an wr=>x.cell hrg.c3
   have b4:=λx:an wr=>x.cell hrg.c4
   have b5:=λx:an wr=>x.cell hrg.c5
   rcases Qj f (g k) i hgk with⟨dl,h1⟩|⟨dl,h1,h2,h3⟩|⟨dl,h1,h2⟩|⟨dl,h1,h2,h3⟩;case' inl=>
    have HB:Hid (pZ f (g k) i):=dl;go_wp2;refine bf ?_;repeat(go_big_quiet_step ((go_at_call 110;exact cj<|us _ _)))
    refine av<|cJ ?_;intro w1 bL;go_wp2;go_roundw
    case rel=>exact⟨k+1,ab,by go_num,λj hj=>by
     by_cases e:j=k
     .subst e;exact HB.out
     .exact Pz j ab,iT bj bL,hB.trans (bL.mono hB.size)⟩
    exact cD
   case' inr.inl=>
    have HB:Hid (pZ f (g k) i):=dl;have H1:Hid (decide ((f<|g k).key<(f i).key)=false):=h1;have H2:Hid (((f<|g k).key==(f i).key)=true):=h2;unfold cr de at h3;have H3:Hid ((Op.bytesLess (f<|g k).name.toList (f i).name.toList||(f<|g k).name.toList==(f i).name.toList)=true):=h3;go_wp2;have h1:=H1.out;have h2:=H2.out;have h3:=H3.out;refine bf ?_;repeat(go_big_quiet_step ((go_at_call 110;exact cj<|us _ _)))
    refine av<|cJ ?_;intro w1 bL;go_wp2;go_roundw
    case rel=>exact⟨k+1,ab,by go_num,λj hj=>by
     by_cases e:j=k
     .subst e;exact HB.out
     .exact Pz j ab,iT bj bL,hB.trans (bL.mono hB.size)⟩
    case measure=>exact cD
   case' inr.inr.inl=>
    have H1:Hid (decide ((f<|g k).key<(f i).key)=false):=h1;have H2:Hid (((f<|g k).key==(f i).key)=false):=h2;have HF:Hid (dI f (i+1)<|putAt g k i):=qK hf hk Pz λ_=>dl;go_wp2;have h1:=H1.out;have h2:=H2.out;refine bf ?_;repeat(go_big_quiet_step ((go_at_call 110;exact cj<|us _ _)))
    refine av<|cJ ?_;intro w1 bL
   case' inr.inr.inr=>
    have H1:Hid (decide ((f<|g k).key<(f i).key)=false):=h1;have H2:Hid (((f<|g k).key==(f i).key)=true):=h2;unfold cr de at h3;have H3:Hid ((Op.bytesLess (f<|g k).name.toList (f i).name.toList||(f<|g k).name.toList==(f i).name.toList)=false):=h3;have HF:Hid (dI f (i+1)<|putAt g k i):=qK hf hk Pz λ_=>dl;clear dl h1 h2 h3;go_wp2;have h1:=H1.out;have h2:=H2.out;have h3:=H3.out;refine bf ?_;repeat(go_big_quiet_step ((go_at_call 110;exact cj<|us _ _)))
    refine av<|cJ ?_;intro w1 bL;clear x0 a0 a1 a2 a3 a4 a5 b0 b1 b2 b3 b4 b5 hne
  case' neg=>
   have HF:Hid (dI f (i+1)<|putAt g k i):=qK hf hk Pz λh=>absurd h hlk;have Z1:Hid (decide (k<i)=false):=by
    have h:decide (k<i)=false:=by simpa using hlk
    exact h
   go_wp2;have z1:=Z1.out;refine bf ?_;repeat(go_big_quiet_step ((go_at_call 110;exact cj<|us _ _)))
   refine av<|cJ ?_;intro w1 bL
  all_goals
   have gr:=iT bj bL;have jU:aa w w w1:=hB.trans<|bL.mono hB.size;go_wp2;obtain⟨i0,hI,gK,eO,fZ⟩:∃i0,Tz.prog.info? 3=some i0/\i0.zero=some (ad .i64 0)/\i0.size=1/\i0.bytes=8:=by
    have h:=lY;cases hI:Tz.prog.info? 3 with
    |none=>rw[hI]at h;simp at h
    |some i0=>rw[hI]at h;simp only[Option.map_some,Option.some.injEq,Prod.mk.injEq]at h;exact⟨i0,rfl,h.2.2,h.1,h.2.1⟩
   let⟨aaz,aeO⟩:=kO gr;have hkc:(k:Int)<=c:=ab;have PD:∀{W':au},aa w1 w1 W'->∀j,j<i->W'.cell? ⟨B,j,none⟩=some (ad .i64 ((g j:Nat):Int)):=λdl j hj=>(dl.cell aaz).trans (by rw[gr.cellAt j ab];exact iC hj)
   have IA:∀{W':au},aa w1 w1 W'->∀j u,(cG g k)[j]?=some u->W'.cell? ((B:Addr).add j)=some u:=λdl j u hu=>by
    have hj:j<k:=by rcases afS j k with h|h;exact h;rw[afU (by rw[fj];exact h)]at hu;cases hu
    rw[iC hj]at hu;rw[addr_add,ai,PD dl j ab];exact hu
   have Yw:∀{W':au},aa w1 w1 W'->∀j u,(cG (λj=>g<|k+j)<|i-k)[j]?=some u->W'.cell? ((⟨B,if c=k then 0 else k,none⟩:Addr).add j)=some u:=λdl j u hu=>by
    have hj:j<i-k:=by rcases afS j (i-k)with h|h;exact h;rw[afU (by rw[fj];exact h)]at hu;cases hu
    rw[iC hj]at hu;rw[if_neg ab,addr_add,PD dl (k+j) ab];exact hu
   have UP:∀(g:Nat->Nat) (k:Nat),∀u∈cG g k,u.oneCell'=true:=λg k u hu=>by unfold cG at hu;simp at hu;obtain⟨_,_,rfl⟩:=hu;rfl
   have Wl:(w1.alloc<|.cells #[] 3).heap[w1.heap.size]?=some (.cells #[] 3 (0,0)):=ao _ _;have TQ:((w1.alloc<|.cells #[] 3).alloc<|.cells #[ad .i64 (i:Int)] 3).heap[w1.heap.size]?=some (.cells #[] 3 (0,0)):=(afC _ _ _ aP).trans Wl;have N8:((w1.alloc<|.cells #[ad .i64 (i:Int)] 3).alloc<|.cells #[] 3).heap[w1.heap.size+1]?=some (.cells #[] 3 (0,0)):=by have:=ao (w1.alloc<|.cells #[ad .i64 (i:Int)] 3)<|.cells #[] 3;simpa using this
   have bA1:aa w1 w1 (w1.alloc<|.cells #[] 3).drew:=((afB _ w1).alloc ab _).drew;have bA2:aa w1 w1 ((w1.alloc<|.cells #[] 3).alloc<|.cells #[ad .i64 (i:Int)] 3).drew:=(((afB _ w1).alloc ab _).alloc aP _).drew;have bA3:aa w1 w1 ((w1.alloc<|.cells #[ad .i64 (i:Int)] 3).alloc<|.cells #[] 3).drew:=(((afB _ w1).alloc ab _).alloc aP _).drew;have hD2:((w1.alloc<|.cells #[] 3).alloc<|.cells #[ad .i64 (i:Int)] 3).heap[w1.heap.size+1]?=some (.cells #[ad .i64 (i:Int)] 3 (0,0)):=by have:=ao (w1.alloc<|.cells #[] 3)<|.cells #[ad .i64 (i:Int)] 3;simpa using this
   have hD3:((w1.alloc<|.cells #[ad .i64 (i:Int)] 3).alloc<|.cells #[] 3).heap[w1.heap.size]?=some (.cells #[ad .i64 (i:Int)] 3 (0,0)):=(afC _ _ _ aP).trans<|heap_alloc_new _ _;go_region_law (first
    |(refine dK rfl (.tmp 67) (.tmp 70) 27 rfl 3 i0 (ad .i64 0) 1 8 (Tz.al Tryz.underlying27) hI gK eO fZ rfl bh w1.heap.size (ac (some ⟨_,0,none⟩) 0 0) 0 [] bQ (jP aP Wl) ⟨B,0,none⟩ k c (cG g k) bQ (by rw[fj];omega) (IA bA1) (UP g k) iN ab bA1.size ?_
      intro v2 w2 rR Sd;simp only[ai,ay]at rR;have B2:aa w1 w1 w2:=bA1.grown Sd bA1.size λq hq=>Iw;skip
      clear Sd)
    |(refine dK rfl (.tmp 67) (.tmp 70) 27 rfl 3 i0 (ad .i64 0) 1 8 (Tz.al Tryz.underlying27) hI gK eO fZ rfl bh w1.heap.size (ac (some ⟨_,0,none⟩) 0 0) 0 [] bQ (jP aP TQ) ⟨B,0,none⟩ k c (cG g k) bQ (by rw[fj];omega) (IA bA2) (UP g k) iN ab bA2.size ?_
      intro v2 w2 rR Sd;simp only[ai,ay]at rR;have B2:aa w1 w1 w2:=bA2.grown Sd bA2.size λq hq=>Iw;have d2:w2.heap[w1.heap.size+1]?=some (.cells #[ad .i64 (i:Int)] 3 (0,0)):=(Sd.block (w1.heap.size+1) aP Ix).trans hD2;clear Sd)
    |(refine dK rfl (.tmp 67) (.tmp 70) 27 rfl 3 i0 (ad .i64 0) 1 8 (Tz.al Tryz.underlying27) hI gK eO fZ rfl bh w1.heap.size (ac (some ⟨_,0,none⟩) 0 0) 0 [] bQ (jP aP N8) ⟨B,0,none⟩ k c (cG g k) bQ (by rw[fj];omega) (IA bA3) (UP g k) iN ab bA3.size ?_
      intro v2 w2 rR Sd;simp only[ai,ay]at rR;have B2:aa w1 w1 w2:=bA3.grown Sd bA3.size λq hq=>Iw;have d2:w2.heap[w1.heap.size]?=some (.cells #[ad .i64 (i:Int)] 3 (0,0)):=(Sd.block w1.heap.size dj Ix).trans hD3;clear Sd)
    |(refine dK rfl (.tmp 71) (.tmp 73) 27 rfl 3 i0 (ad .i64 0) 1 8 (Tz.al Tryz.underlying27) hI gK eO fZ rfl bh w1.heap.size v2 k (cG g k) bQ rR ⟨_,0,none⟩ 1 1 [ad .i64 (i:Int)] bQ rfl (fx d2) sJ iN ab B2.size ?_
      intro v3 w3 rU xP;have B3:aa w1 w1 w3:=B2.grown xP B2.size λq hq=>dh rR q hq;clear xP B2 rR)
    |(refine dK rfl (.tmp 71) (.tmp 73) 27 rfl 3 i0 (ad .i64 0) 1 8 (Tz.al Tryz.underlying27) hI gK eO fZ rfl bh w1.heap.size v2 k (cG g k) bQ (rR.alloc _) ⟨_,0,none⟩ 1 1 [ad .i64 (i:Int)] bQ rfl (fx<|heap_alloc_new w2 _) sJ iN ab (B2.alloc B2.size _).size ?_
      intro v3 w3 rU xP;have B3:aa w1 w1 w3:=(B2.alloc B2.size _).grown xP (B2.alloc B2.size _).size λq hq=>dh rR q hq;clear xP B2 rR)
    |(refine dK rfl (.tmp 74) (.tmp 77) 27 rfl 3 i0 (ad .i64 0) 1 8 (Tz.al Tryz.underlying27) hI gK eO fZ rfl bh w1.heap.size v3 (k+1) (cG g k++[ad .i64 (i:Int)]) bQ rU ⟨B,if c=k then 0 else k,none⟩ (i-k) (c-k) (cG (λj=>g<|k+j)<|i-k) (by simp[Act.eval];split<;>rfl) (by rw[fj];omega) (Yw B3) (UP _ _) iN ab B3.size ?_
      intro v4 w4 Z9 gr4;rw[RT g i k hk,show k+1+(i-k)=i+1 by omega]at Z9;have B4:aa w1 w1 w4:=B3.grown gr4 B3.size λq hq=>dh rU q hq;obtain⟨b4,c4,rfl⟩:=iv Z9;clear gr4 B3 rU))
   all_goals
    go_wp2;go_roundw
    case rel=>exact⟨i+1,putAt g k i,b4,c4,ab,by go_num,rfl,HF.out,mg Z9 jU.size,jU.trans<|B4.mono jU.size⟩
    case measure=>exact cD
 go_wp2;go_ret;have jq:i=n:=ab;subst jq;let⟨IU,hic⟩:=kO bj;exact⟨⟨g,B,c,hf,rfl,IU,λj hj=>by rw[ai,bj.cellAt j ab];exact iC hj⟩,hB⟩
section
variable {W W' w w1 wr:au}{n lo N F:Nat}{cG:List Value}{L:List (List Nat)}{f:List Nat}{v:Value}
def tS (W:au)(n lo:Nat)(cG:List Value)(L:List (List Nat)):Prop:=
 ∀(i:Nat) (f:List Nat),L[i]?=some f->∃r s,cG[i]?=some (ac (some ⟨r,0,none⟩) n s)/\lo<=r/\(∃cs,W.heap[r]?=some (.cells cs 3 (0,0)))/\aD W r 0 n (λi=>((pl f i:Nat):Int))
def vJ {b off g}(h:aD W b off n g)(e:W'.heap[b]?=W.heap[b]?):aD W' b off n g:=λi a=>by have:=h i a;simp[World.cell?,e]at this⊢;exact this
def tS.same (h:tS W n lo cG L)(e:∀b cs,lo<=b->W.heap[b]?=some (.cells cs 3 (0,0))->W'.heap[b]?=W.heap[b]?):tS W' n lo cG L:=λi f x=>by
 let⟨r,y,A,s,⟨cs,u⟩,B⟩:=h i f x;exact⟨r,y,A,s,⟨cs,(e r cs s u).trans u⟩,vJ B<|e r cs s u⟩
def tS.snoc {C c}(h:tS W n lo cG L)(B:cG.length=L.length)(D:lo<=C)(J:∃cs,W.heap[C]?=some (.cells cs 3 (0,0)))(O:aD W C 0 n (λi=>((pl f i:Nat):Int))):
  tS W n lo (cG++[ac C n c]) (L++[f]):=λi l r=>by
 by_cases s:i<L.length
 .rw[afV s]at r;let⟨u,x,y,A⟩:=h i l r;exact⟨u,x,by rw[afV ab];exact y,A⟩
 .rw[afW ab]at r;have R:i-L.length=0:=by
   have:=(afT.1 r).1;simp at this;omega
  simp_all [List.getElem?_append_right]
def zH (l:List Nat):List Value:=l.map λ(p:Nat)=>ad .i64 p
structure wj (w w1 wr:au) n v (L):Prop where
 ex:∃cG,wr.ownsRow w 27 1 v L.length cG/\tS wr n w cG L
 own:∀r,v.ownBlock=some r->r=w\/w1<=r
 but:ox w w1 wr
 OJ:aa w w wr
def wj.later {a}(h:wj w w1 wr n v L)(hb:aa wr wr a):wj w w1 a n v L:=by
 let⟨cG,j,k⟩:=h.ex;refine⟨⟨cG,?_,k.same λb q _ l=>hb.block b (afM.1 l).1⟩,h.own,h.but.trans<|ox.of hb,h.OJ.trans<|hb.mono h.OJ.size⟩;obtain⟨e,m|⟨g,c,d,rfl,o,i,p⟩⟩:=j
 .exact⟨e,.inl m⟩
 exact⟨e,.inr ⟨g,c,d,rfl,o,(hb.block g (afM.1 i).1).trans i,p⟩⟩
def MH:∃a,Tz.prog.info? 3=some a/\a.zero=some (ad .i64 0)/\a.size=1/\a.bytes=8:=by
 have h:=lY;cases b:Tz.prog.info? 3 with
 |none=>grind
 |some a=>grind
def Ja:∃a,Tz.prog.info? 27=some a/\a.zero=some (ac none 0 0)/\a.size=1/\a.bytes=24:=by
 have h:(Tz.prog.info? 27).map (λi=>(i.size,i.bytes,i.zero))=some (1,24,some<|ac none 0 0):=aO;cases b:Tz.prog.info? 27 with
 |none=>grind
 |some a=>grind
def Jc:Tz.prog.underlying 109=some (.slice 27):=aO
def zF:Tz.prog.underlying 27=some (.slice 3):=aO
def pF (N F:Nat):List (List Nat):=(List.range F).flatMap λx=>(ba N).map λl=>x::l.map (rH x)
def yG (N F):pF N (F+1)=pF N F++(ba N).map λl=>F::l.map (rH F):=by simp[pF,List.range_succ,List.flatMap_append]
def BX (h:(ba N).length<=720):∀F,(pF N F).length<=F*720
 |0=>by simp[pF]
 |F+1=>by
  have:=BX h F;rw[yG,a6,aE];omega
def RD {I l}(h:(ba N)[I]?=some l):((ba N).take<|I+1).map (λl=>F::l.map (rH F))=((ba N).take I).map (λl=>F::l.map (rH F))++[F::l.map (rH F)]:=by
 grind [a7]
def adZ {C D:au}{G gc J oc:Nat}{o A X}(hO:wj w w1 wr (N+1) v A)(Z:wr.ownsRow w 27 1 v A.length cG)(q2:tS wr (N+1) w cG A)
  (hB:aa C C wr)(hX:X=A++[F::f.map (rH F)])(bj:wr.ownsRow C 3 1 (ac G (N+1) gc) (N+1) (zH<|F::f.map (rH F)))(hG:C<=G)(ax:w.heap.size<=C)(FO:w.heap.size<=w1)
  (rU:D.ownsRow w 27 1 (ac J (A.length+1) oc) (A.length+1) (cG++[ac G (N+1) gc]))(B:(wr.alloc o).grownBy D v.ownBlock)(T:v.ownBlock=some J\/J=(wr.alloc o)):
  wj w w1 D (N+1) (ac J (A.length+1) oc) X:=by
 subst hX;have eO:=hO.but.size;have fZ:=hO.OJ.size;have s:∀b,b<wr.heap.size->some b≠v.ownBlock->D.heap[b]?=wr.heap[b]?:=λb hb u=>(B.block b dj u).trans<|afC _ _ _ hb
 have U:∀b cs,wr.heap[b]?=some (.cells cs 3 (0,0))->some b≠v.ownBlock:=λb cs hc e'=>by
  rcases Z.2 with⟨rfl,_⟩|⟨g,O,R,rfl,_,aB,_⟩;all_goals grind [aL]
 have hint:∀b cs,w.heap.size<=b->wr.heap[b]?=some (.cells cs 3 (0,0))->D.heap[b]?=wr.heap[b]?:=λb cs _ hc=>s b (afM.1 hc).1<|U b cs hc
 obtain⟨cs,x,y⟩:∃cs,wr.heap[G]?=some (.cells cs 3 (0,0))/\aD wr G 0 (N+1) (λi=>((pl (F::f.map (rH F)) i:Nat):Int)):=by
  have hc:=bj;rcases bj.2 with⟨h,_⟩|⟨g,O,R,h1,h2,h3,h4⟩
  .omega
  obtain⟨rfl,rfl⟩:G=g/\gc=O:=cO;refine⟨R,h3,λi hi=>?_⟩;rw[ai,hc.cellAt i ab];have hl:=hc.1;simp[zH,aE,Nat.mul_one]at hl;simp only[zH,List.getElem?_map,pl,bb];grind
 have Y:cG.length=A.length:=by have:=Z.1;omega
 refine⟨⟨cG++[ac G (N+1) gc],cO,(q2.same hint).snoc Y ab ⟨cs,(hint G cs ab x).trans x⟩<|vJ y<|hint G cs ab x⟩,λr hr=>?_,⟨?_,λb hb u=>?_⟩,⟨B.os.trans hO.OJ.os,B.tape.trans hO.OJ.tape,B.output.trans hO.OJ.output,?_,λb hb=>?_⟩⟩
 .obtain rfl:J=r:=by grind [aL]
  rcases T with h|h
  .exact hO.own _ h
  .right;rw[h];simp;omega
 .have:=B.size;simp at this;omega
 .refine(s b ab λe=>?_).trans (hO.but.block b hb u);rcases hO.own b e.symm with h|h<;>omega
 .have:=B.size;simp at this;omega
 refine(s b ab λe=>?_).trans<|hO.OJ.block b hb;rcases hO.own b e.symm with h|h<;>omega
def CC:∀(n:Nat) (w:au),n<=6->
  a9 Tz.prog 85 #[.int .i64 n] w λe w'=>(∃v cG,e=.returned v/\w'.ownsRow w 27 1 v (ba n).length cG/\tS w' n w cG (ba n))/\aa w w w'
 |0,w,_=>by
  go_enter Tz.func85,Tryz.ntmps85
  go_wp2;go_ret;have hA:=ao (w.alloc<|.cells #[] 3)<|.cells #[.slice w.heap.size 0 0] 27;have hB:((w.alloc<|.cells #[] 3).alloc<|.cells #[.slice w.heap.size 0 0] 27).heap[w.heap.size]?=some (.cells #[] 3 (0,0)):=(afC _ _ _ aP).trans<|heap_alloc_new w _;refine⟨⟨_,[.slice w.heap.size 0 0],rfl,⟨rfl,.inr ⟨w.heap.size+1,1,_,rfl,ab,by simpa using hA,bh,bh,rfl,rfl⟩⟩,λi f hi=>?_⟩,((afB _ w).alloc (afK _) _).alloc aP _⟩;have h0:i=0:=by have:=(afT.1 hi).1;simp[ba]at this;omega
  subst h0;exact⟨w.heap.size,0,rfl,afK _,⟨_,hB⟩,λi hi=>absurd hi<|afO _⟩
 |N+1,w,h6=>by
  have IH:=CC N (w.alloc<|.cells #[] 27) ab;let⟨Wt,hN0⟩:=ku N ab;have e0:(((N+1:Nat):Int)-1)=(N:Int):=ab;go_enter Tz.func85,Tryz.ntmps85
  have hle:¬((N:Int)+1<=0):=ab;have aeX:(0:Int)<(N:Int)+1:=ab;have e1:((N:Int)+1-1)=(N:Int):=ab;go_wp2_with(go_at_call 85;(try rw[e1]);refine IH.mono ?_;rintro e w1 ⟨⟨vL,cG,rfl,tu,Xx⟩,b1⟩;obtain⟨M,hM⟩:∃M,(ba N).length=M+1:=⟨(ba N).length-1,ab⟩;rw[hM]at tu;obtain⟨LB,Lc,rfl⟩:=iv tu)
  have hLB:w.heap.size+1<=LB:=by have:=dh tu LB rfl;simpa using this
  have Y1:=(kO tu).1;have Mg:aa w w (w.alloc<|.cells #[] 27):=(afB _ w).alloc (afK _) _;have eO:w.heap.size+1<=w1:=by have:=b1.size;simpa using this
  have IV:aa w w w1:=Mg.trans<|b1.mono aP;have hE1:w1.heap[w.heap.size]?=some (.cells #[] 27 (0,0)):=(b1.block w.heap.size aP).trans<|heap_alloc_new w _;have qq:∀(I:Nat) (f:List Nat),(ba N)[I]?=some f->∃tb tc,w1.cell? ⟨LB,I,none⟩=some (.slice (some ⟨tb,0,none⟩) N tc)/\w.heap.size+1<=tb/\tb<w1.heap.size/\aD w1 tb 0 N (λi=>((pl f i:Nat):Int)):=λI f hI=>by
   let⟨tb,tc,h1,h2,⟨cs,h3⟩,h4⟩:=Xx I f hI;have aF:=(afT.1 hI).1;exact⟨tb,tc,by rw[tu.cellAt I ab];exact h1,by simpa using h2,(afM.1 h3).1,h4⟩
  rw[<-hM]at tu;clear tu Xx b1 IH Mg;go_loopw [3,5] (λv x wr=>∃F:Nat,F<=N+1/\x=.int .i64 F/\wj w w1 wr (N+1) v (pF N F)) (λ_ x _=>N+1-(intOf x).toNat)
  case atStart=>exact⟨0,afP _,rfl,⟨[],jP (afK _) hE1,λi f hi=>by simp[pF]at hi⟩,λr hr=>.inl<|by simpa[aL]using hr.symm,ox.refl _ _,IV⟩
  case round=>
   obtain⟨F,hF,rfl,hO⟩:=hrel;by_cases aF:F<N+1
   .have dV:(F:Int)<(N:Int)+1:=by omega
    go_wp2;go_loopw [3,6] (λv x wr=>∃I:Nat,I<=(ba N).length/\x=.int .i64 I/\wj w w1 wr (N+1) v (pF N F++((ba N).take I).map λl=>F::l.map (rH F))) (λ_ x _=>(ba N).length-(intOf x).toNat)
    case atStart=>exact⟨0,afP _,rfl,by simpa using hO⟩
    case round=>
     clear hO;obtain⟨I,hI,rfl,hO⟩:=hrel;by_cases hlI:I<(ba N).length
     .obtain⟨f,oP⟩:∃x,(ba N)[I]?=some x:=⟨_,af5 hlI⟩;have Zt:(I:Int)<(M:Int)+1:=ab;let⟨tb,tc,ng,ht1,ZG,pR⟩:=qq I f oP;have hll:=(io<|aN oP).1;obtain⟨WI,hWI⟩:∃WI,wr=WI:=⟨_,rfl⟩;have hO1:wj w w1 WI (N+1) u3 (pF N F++((ba N).take I).map λl=>F::l.map (rH F)):=hWI▸hO;have hcW:∀W',aa WI WI W'->W'.cell? ⟨LB,I,none⟩=some (.slice tb N tc):=λW' hb=>by
       have h1:=(ox.trans hO1.but<|ox.of hb).block LB Y1 ab;simp only[World.cell?,h1]at ng⊢;exact ng
      have hrW:∀W',aa WI WI W'->aD W' tb 0 N (λi=>((pl f i:Nat):Int)):=λW' hb=>vJ pR<|(ox.trans hO1.but<|ox.of hb).block tb ZG ab
      rw[hWI];clear hO hWI;go_wp2;go_loopw [7,8] (λv x wr=>∃K:Nat,K<=N/\x=.int .i64 K/\wr.ownsRow WI.heap.size 3 1 v (K+1) (zH<|F::(f.take K).map (rH F))/\aa WI WI wr) (λ_ x _=>N-(intOf x).toNat)
      case atStart=>exact⟨0,afP _,rfl,⟨rfl,.inr ⟨WI.heap.size,1,_,rfl,afK _,ao _ _,bh,bh,rfl,rfl⟩⟩,(afB _ _).alloc (afK _) _⟩
      case round=>
       obtain⟨K,hK,rfl,bj,hB⟩:=hrel;have hcK:=hcW wr hB;by_cases hlK:K<N
       .have aeV:(K:Int)<N:=by omega
        have hrK:=hrW wr hB K hlK;simp only[ai]at hrK;let⟨i0,hI0,gK,Ur,fZ⟩:=MH;have Ol:=hB.size;have KT:∀x:Nat,x=rH F (pl f K)->zH (F::(f.take K).map (rH F))++[.int .i64 (x:Int)]=zH (F::(f.take<|K+1).map (rH F)):=λx hx=>by
         have hg:f[K]?=some (pl f K):=by simp[pl,bb,hll,hlK]
         rw[a7,hg,hx];simp[zH]
        have hpb:((pl f K:Nat):Int)<6:=by have:=(io<|aN oP).2.1 K hlK;omega
        by_cases ug:F<=pl f K
        .have Zn:((F:Int)<=((pl f K:Nat):Int)):=by omega
         have HL:Hid _:=KT (pl f K+1) (by unfold rH;rw[if_pos ug]);clear KT;go_wp2_with(refine a8 _ rfl (.tmp 52) (.tmp 54) 27 rfl WI.heap.size 3 i0 (.int .i64 0) 1 8 zF hI0 gK Ur fZ rfl bh _ (K+1) _ bQ (bj.alloc _) _ 1 1 [.int .i64 ((pl f K:Int)+1)] bQ rfl (fx<|heap_alloc_new wr _) sJ iN ab dj ?_;intro v' w3 rU xP hnn)
         have vd:aa WI WI w3:=(hB.alloc Ol _).grown xP dj λq hq=>dh bj q hq;go_roundw
         case rel=>exact⟨K+1,ab,by go_num,by have:=HL.out;push_cast at this;rw[this]at rU;exact rU,vd⟩
         case measure=>exact cD
        .have Zn:¬((F:Int)<=((pl f K:Nat):Int)):=by omega
         have HL:Hid _:=KT (pl f K) (by unfold rH;rw[if_neg ug]);clear KT;go_wp2_with(refine a8 _ rfl (.tmp 52) (.tmp 54) 27 rfl WI.heap.size 3 i0 (.int .i64 0) 1 8 zF hI0 gK Ur fZ rfl bh _ (K+1) _ bQ (bj.alloc _) _ 1 1 [.int .i64 (pl f K:Int)] bQ rfl (fx<|heap_alloc_new wr _) sJ iN ab dj ?_;intro v' w3 rU xP hnn)
         have vd:aa WI WI w3:=(hB.alloc Ol _).grown xP dj λq hq=>dh bj q hq;go_roundw
         case rel=>exact⟨K+1,ab,by go_num,by rw[HL.out]at rU;exact rU,vd⟩
         case measure=>exact cD
       .obtain rfl:K=N:=by omega
        rw[List.take_of_length_le ab]at bj;obtain⟨G,gc,rfl⟩:=iv bj;have hO3:=hO1.later hB;let⟨cG,q1,q2⟩:=hO3.ex;let⟨i0,hI0,gK,Ur,fZ⟩:=Ja;have Ol:=hB.size;have hzI:=hO1.OJ.size;have hGI:WI.heap.size<=G:=dh bj G rfl;have aaA:(pF K F++((ba K).take I).map λl=>F::l.map (rH F)).length<=5040:=by
         have h1:(pF K F).length<=F*720:=BX Wt F;have h2:((ba K).take I).length<=720:=dj;simp only[a6,aE];omega
        generalize hA:(pF K F++((ba K).take I).map λl=>F::l.map (rH F))=A at hO3 q1 q2 aaA;go_wp2_with(refine wpList_append_lies _ rfl (.tmp 56) (.tmp 58) 109 rfl w.heap.size 27 i0 () 1 24 Jc hI0 gK Ur fZ rfl bh _ _ _ bQ (q1.alloc _) _ 1 1 [.slice G (K+1) gc] bQ rfl (fx<|heap_alloc_new wr _) sJ bh iN ab dj _ rfl ?_;intro og oc w3 rU xP hor Zx)
        go_roundw
        case rel=>exact⟨I+1,ab,by go_num,adZ hO3 q1 q2 hB (by rw[<-hA,RD oP,List.append_assoc]) bj hGI hzI ab rU xP hor⟩
        case measure=>exact cD
     .obtain rfl:I=(ba N).length:=by omega
      have Zt:¬(((ba N).length:Nat):Int)<(M:Int)+1:=ab;go_wp2;go_roundw
      case rel=>exact⟨F+1,ab,by go_num,by rw[yG];simpa using hO⟩
      case measure=>exact cD
   .obtain rfl:F=N+1:=by omega
    have dV:¬((N+1:Nat):Int)<(N:Int)+1:=ab;go_wp2;go_ret;let⟨cG,o1,o2⟩:=hO.ex;refine⟨?_,hO.OJ⟩;first|exact⟨_,cG,rfl,o1,o2⟩|exact⟨_,rfl,cG,o1,o2⟩
end
def bU (f:Nat->Mv)(n:Nat)(t:Nat->Int)(m:Nat):Int×Int:=if er f n t m then(sumTo f t n,cZ f t n)else(0,0)
def zd {f n m t}(h:er f n t m):aG f n/\m=n/\fX f t n:=by
 have r:aG f n=true:=by
  grind [iO]
 have s:m=n:=by
  grind [ri]
 subst s;exact⟨r,rfl,(fN r).mp h⟩
def XS {p:Prop}(x9:p:=by
  go_ret2
  exact⟨JH (by rw[HC.out])<|by rw[HC.out],bL.trans<|dg.mono bL.size⟩):p:=x9
def ED (b off n cap:Nat)(f)(u B m cap':Nat)(t)(w:au)(C:n<=1048576)(D:m<=maxLen)(r:b<w)(x:aK w b off n f)(J:∀i,i<n->(f i).Fits)(s:u<w)(y:aD w u B m t):
  a9 Tz.prog 44 #[ac (some ⟨b,off,none⟩) n cap,ac (some ⟨u,B,none⟩) m cap'] w λe w'=>e=.returned (.tuple #[ad .i64 (bU f n t m).1,ad .i64 (bU f n t m).2])/\aa w w w':=by
 cases h:er f n t m with
 |false=>
  have A:bU f n t m=(0,0):=by unfold bU;grind
  have HC:Hid _:=A;go_enter Tz.func44,Tryz.ntmps44
  go_wp2_with(go_at_call 60;refine(pu _ _ _ _ f _ _ _ _ t _ C D r x J s y).mono ?_;rintro e w1 ⟨rfl,bL⟩)
  go_ret2
  exact⟨JH (by rw[HC.out])<|by rw[HC.out],bL⟩
 |true=>
  obtain⟨R,rfl,T⟩:=zd h;have A:bU f m t m=(sumTo f t m,cZ f t m):=by unfold bU;grind
  have HC:Hid _:=A;have O:Hid _:=R;go_enter Tz.func44,Tryz.ntmps44
  go_wp2_with(first|(go_at_call 60;refine(pu _ _ _ _ f _ _ _ _ t _ C D r x J s y).mono ?_;rintro e w1 ⟨rfl,bL⟩)|(go_at_call 65;refine(lh _ _ _ _ f _ _ _ _ t _ (bX O.out) ab (afL r bL.size) (x.below bL r) (afL s bL.size) (y.below bL s)<|gb.fits O.out T).mono ?_;rintro e U ⟨rfl,dg⟩))
  exact XS
def Ef (b off n cap:Nat)(f)(u B m cap':Nat)(t)(w:au)(C:n<=1048576)(D:m<=maxLen)(r:b<w)(x:aK w b off n f)(s:u<w)(y:aD w u B m t):
  a9 Tz.prog 56 #[ac (some ⟨b,off,none⟩) n cap,ac (some ⟨u,B,none⟩) m cap'] w λe w'=>e=.returned (.tuple #[ad .i64 (bU f n t m).1,ad .i64 (bU f n t m).2])/\aa w w w':=by
 cases h:er f n t m with
 |false=>
  have A:bU f n t m=(0,0):=by unfold bU;grind
  have HC:Hid _:=A;go_enter Tz.func56,Tryz.ntmps56
  go_wp2_with(go_at_call 78;refine(oR _ _ _ _ f _ _ _ _ t _ C D r x s y).mono ?_;rintro e w1 ⟨rfl,bL⟩)
  go_ret2
  exact⟨JH (by rw[HC.out])<|by rw[HC.out],bL⟩
 |true=>
  obtain⟨O,rfl,R⟩:=zd h;have A:bU f m t m=(sumTo f t m,cZ f t m):=by unfold bU;grind
  have HC:Hid _:=A;have J:Hid _:=O;go_enter Tz.func56,Tryz.ntmps56
  go_wp2_with(first|(go_at_call 78;refine(oR _ _ _ _ f _ _ _ _ t _ C D r x s y).mono ?_;rintro e w1 ⟨rfl,bL⟩)|(go_at_call 79;refine(uq _ _ _ _ f _ _ _ _ t _ (bX J.out) ab (afL r bL.size) (x.below bL r) (afL s bL.size) (y.below bL s)<|gb.fits J.out R).mono ?_;rintro e T ⟨rfl,dg⟩))
  exact XS
section
variable {t:Int}
end
