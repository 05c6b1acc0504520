import Derived.Test.YthppgbjejomdiaaGreatDoorj19
import Derived.Test.YthppgbjejomdiaaGreatDoorj12
import Derived.Test.YthppgbjejomdiaaGreatDoorj25
import Derived.Test.YthppgbjejomdiaaGreatDoorj22
import Derived.Deep.AppendLies
set_option linter.all false
set_option maxHeartbeats 4000000
set_option maxRecDepth 10000
open Go renaming World->aj,heap_alloc_new->au,wpQuiet_nil->av,Calls->ay,wpList_append_own->a9
open Go.RowKit renaming Below->ac
open Go.Value renaming int->aa,slice->ad,ownBlock->aP
open List renaming nil_append->aE,length_map->aL,mem_of_getElem?->a6,length_append->a7,take_add_one->a8,getD->bb
open Nat renaming zero_add->ao
namespace Go.Proofs.YthppgbjejomdiaaGreatDoor
open RowKit
def uI (m:Mv)(w):
  ay Tz.prog 148 #[.agg #[m.name,m.ax,m.aI,m.cj,m.late,m.prom]] w λe w'=>e=.returned m.key/\ac w w w':=Vb m w
def QT (f x i)(h:x<i): (qc f x i/\(f x).key<(f i).key)\/(qc f x i/\decide ((f x).key<(f i).key)=false/\((f x).key==(f i).key)/\(cG (f x).name (f i).name||di (f x).name (f i).name))\/(¬qc f x i/\decide ((f x).key<(f i).key)=false/\((f x).key==(f i).key)=false)\/(¬qc f x i/\decide ((f x).key<(f i).key)=false/\((f x).key==(f i).key)/\(cG (f x).name (f i).name||di (f x).name (f i).name)=false):=by grind [MH]
def sH (b off n cap:Nat)(f)(w:aj)(hn:n<=1048576)(bN:b<w)(az:aM w b off n f): ay Tz.prog 110 #[ad (some ⟨b,off,none⟩) n cap] w λe w'=>(∃(g:Nat->Nat) (B c:Nat),dK f n g/\e=.returned (ad B n c)/\B<w'/\aD w' B 0 n (λi=>((g i:Nat):Int)))/\ac w w w':=by
 go_enter Tz.func110,Tryz.ntmps110;go_wp2;go_loopw [3,4] (λv x wr=>∃(i:Nat) (g:Nat->Nat) (B c:Nat),i<=n/\x=aa .i64 i/\v=ad (some ⟨B,0,none⟩) i c/\dK f i g/\wr.ownsRow w 3 1 (ad (some ⟨B,0,none⟩) i c) i (cH g i)/\ac w w wr) (λ_ x _=>n-(intOf x).toNat)
 case atStart=>exact⟨0,id,w,0,agB _,rfl,rfl,EO f _,jU ab<|heap_alloc_new _ _,(agn _ _).alloc ab _⟩
 obtain⟨i,g,B,c,hi,rfl,rfl,hf,Y,hB⟩:=hrel;by_cases aG:i<n
 .have dQ:(i:Int)<n:=by omega
  go_wp2;go_loopw [5] (λy wr=>∃k:Nat,k<=i/\y=aa .i64 k/\(∀j,j<k->qc f (g j) i)/\wr.ownsRow w 3 1 (ad B i c) i (cH g i)/\ac w w wr) (λy _=>i-(intOf y).toNat)
  case atStart=>exact⟨0,agB _,rfl,λj s=>absurd s ab,Y,hB⟩
  obtain⟨k,hk,rfl,Qf,Y,hB⟩:=hrel;let⟨Ju,bi⟩:=kW Y;have aZ:∀j,j<i->wr.cell? ⟨B,j,none⟩=some (aa .i64 ((g j:Nat):Int)):=λj s=>by rw[Y.cellAt j ab];exact iG s
  have bk:=aK wr;by_cases Z:k<i;case' pos=>have bp:(k:Int)<i:=ab;have bl:=hf.low k Z;have bq:((g k:Nat):Int)<n:=ab;have JD:=az.below hB bN i aG;have A:=az.below hB bN (g k) ab;have x0:=λx:am wr=>x.cell<|aZ k Z;have a0:=λx:am wr=>x.cell JD.c0;have a1:=λx:am wr=>x.cell JD.c1;have a2:=λx:am wr=>x.cell JD.c2;have a3:=λx:am wr=>x.cell JD.c3;have a4:=λx:am wr=>x.cell JD.c4;have a5:=λx:am wr=>x.cell JD.c5;have b0:=λx:am wr=>x.cell A.c0;have b1:=λx:am wr=>x.cell A.c1;have b2:=λx:am wr=>x.cell A.c2;have b3:=λx:am wr=>x.cell A.c3;have b4:=λx:am wr=>x.cell A.c4;have b5:=λx:am wr=>x.cell A.c5;rcases QT f (g k) i bl with⟨r,R⟩|⟨r,R,h2,h3⟩|⟨r,R,h2⟩|⟨r,R,h2,h3⟩;(case' inl=>have HB:Hid (qc f (g k) i):=r;go_wp2;refine bg ?_;(repeat(go_big_quiet_step ((go_at_call 148;exact cr<|uI _ _))));refine av<|cK ?_;intro w1 T;go_wp2;(go_roundw);(case rel=>exact⟨k+1,ab,by go_num,λj s=>by by_cases e:j=k;subst e;exact HB.out;exact Qf j ab,iZ Y T,hB.trans<|T.mono hB.size⟩);exact cD);(case' inr.inl=>have HB:Hid (qc f (g k) i):=r;have H1:Hid (decide ((f<|g k).key<(f i).key)=false):=R;have H2:Hid (((f<|g k).key==(f i).key)=true):=h2;unfold cG di at h3;have H3:Hid ((Op.bytesLess (f<|g k).name.toList (f i).name.toList||(f<|g k).name.toList==(f i).name.toList)=true):=h3;go_wp2;have R:=H1.out;have h2:=H2.out;have h3:=H3.out;refine bg ?_;(repeat(go_big_quiet_step ((go_at_call 148;exact cr<|uI _ _))));refine av<|cK ?_;intro w1 T;go_wp2;(go_roundw);(case rel=>exact⟨k+1,ab,by go_num,λj s=>by by_cases e:j=k;subst e;exact HB.out;exact Qf j ab,iZ Y T,hB.trans<|T.mono hB.size⟩);case measure=>exact cD);(case' inr.inr.inl=>have H1:Hid (decide ((f<|g k).key<(f i).key)=false):=R;have H2:Hid (((f<|g k).key==(f i).key)=false):=h2;have HF:Hid (dK f (i+1)<|putAt g k i):=qR hf hk Qf λ_=>r;go_wp2;have R:=H1.out;have h2:=H2.out;refine bg ?_;(repeat(go_big_quiet_step ((go_at_call 148;exact cr<|uI _ _))));refine av<|cK ?_;intro w1 T);case' inr.inr.inr=>have H1:Hid (decide ((f<|g k).key<(f i).key)=false):=R;have H2:Hid (((f<|g k).key==(f i).key)=true):=h2;unfold cG di at h3;have H3:Hid ((Op.bytesLess (f<|g k).name.toList (f i).name.toList||(f<|g k).name.toList==(f i).name.toList)=false):=h3;have HF:Hid (dK f (i+1)<|putAt g k i):=qR hf hk Qf λ_=>r;clear r R h2 h3;go_wp2;have R:=H1.out;have h2:=H2.out;have h3:=H3.out;refine bg ?_;(repeat(go_big_quiet_step ((go_at_call 148;exact cr<|uI _ _))));refine av<|cK ?_;intro w1 T;clear x0 a0 a1 a2 a3 a4 a5 b0 b1 b2 b3 b4 b5 bk
  case' neg=>have HF:Hid (dK f (i+1)<|putAt g k i):=qR hf hk Qf λh=>absurd h Z;(have Z1:Hid (decide (k<i)=false):=by(have h:decide (k<i)=false:=by simpa using Z);exact h);go_wp2;have z1:=Z1.out;refine bg ?_;(repeat(go_big_quiet_step ((go_at_call 148;exact cr<|uI _ _))));refine av<|cK ?_;intro w1 T
  all_goals
   have gC:=iZ Y T;have j9:ac w w w1:=hB.trans<|T.mono hB.size;go_wp2;obtain⟨C,hI,gE,eI,f8⟩:∃C,Tz.prog.info? 3=some C/\C.zero=some (aa .i64 0)/\C.size=1/\C.bytes=8:=by
    have h:=mh;cases hI:Tz.prog.info? 3 with
    |none=>rw[hI]at h;simp at h
    |some C=>rw[hI]at h;simp only[Option.map_some,Option.some.injEq,Prod.mk.injEq]at h;exact⟨C,rfl,h.2.2,h.1,h.2.1⟩
   let⟨bm,br⟩:=kW gC;have bs:(k:Int)<=c:=ab;have Qi:∀{W':aj},ac w1 w1 W'->∀j,j<i->W'.cell? ⟨B,j,none⟩=some (aa .i64 ((g j:Nat):Int)):=λr j s=>(r.cell bm).trans (by rw[gC.cellAt j ab];exact iG s)
   have I9:∀{W':aj},ac w1 w1 W'->∀j u,(cH g k)[j]?=some u->W'.cell? ((B:Addr).add j)=some u:=λr j u D=>by
    have s:j<k:=by rcases agE j k with h|h;exact h;rw[agG (by rw[fq];exact h)]at D;cases D
    rw[iG s]at D;rw[addr_add,ao,Qi r j ab];exact D
   have Zq:∀{W':aj},ac w1 w1 W'->∀j u,(cH (λj=>g<|k+j)<|i-k)[j]?=some u->W'.cell? ((⟨B,if c=k then 0 else k,none⟩:Addr).add j)=some u:=λr j u D=>by
    have s:j<i-k:=by rcases agE j (i-k)with h|h;exact h;rw[agG (by rw[fq];exact h)]at D;cases D
    rw[iG s]at D;rw[if_neg ab,addr_add,Qi r (k+j) ab];exact D
   have Vu:∀(g:Nat->Nat) (k:Nat),∀u∈cH g k,u.oneCell'=true:=λg k u D=>by unfold cH at D;simp at D;obtain⟨_,_,rfl⟩:=D;rfl
   have Xn:(w1.alloc<|.cells #[] 3).heap[(w1:Nat)]?=some (.cells #[] 3 (0,0)):=au _ _;have Uv:((w1.alloc<|.cells #[] 3).alloc<|.cells #[aa .i64 (i:Int)] 3).heap[(w1:Nat)]?=some (.cells #[] 3 (0,0)):=(ago _ _ _ aN).trans Xn;have OM:((w1.alloc<|.cells #[aa .i64 (i:Int)] 3).alloc<|.cells #[] 3).heap[(w1:Nat)+1]?=some (.cells #[] 3 (0,0)):=by have:=au (w1.alloc<|.cells #[aa .i64 (i:Int)] 3)<|.cells #[] 3;simpa using this
   have ax:ac w1 w1 (w1.alloc<|.cells #[] 3).drew:=((agn _ w1).alloc ab _).drew;have aI:ac w1 w1 ((w1.alloc<|.cells #[] 3).alloc<|.cells #[aa .i64 (i:Int)] 3).drew:=(((agn _ w1).alloc ab _).alloc aN _).drew;have aV:ac w1 w1 ((w1.alloc<|.cells #[aa .i64 (i:Int)] 3).alloc<|.cells #[] 3).drew:=(((agn _ w1).alloc ab _).alloc aN _).drew;have bn:((w1.alloc<|.cells #[] 3).alloc<|.cells #[aa .i64 (i:Int)] 3).heap[(w1:Nat)+1]?=some (.cells #[aa .i64 (i:Int)] 3 (0,0)):=by have:=au (w1.alloc<|.cells #[] 3)<|.cells #[aa .i64 (i:Int)] 3;simpa using this
   have bo:((w1.alloc<|.cells #[aa .i64 (i:Int)] 3).alloc<|.cells #[] 3).heap[(w1:Nat)]?=some (.cells #[aa .i64 (i:Int)] 3 (0,0)):=(ago _ _ _ aN).trans<|heap_alloc_new _ _;go_region_law (first
    |(refine dM rfl (.tmp 67) (.tmp 70) 40 rfl 3 C (aa .i64 0) 1 8 (Tz.al Tryz.underlying40) hI gE eI f8 rfl bc w1 (ad (some ⟨_,0,none⟩) 0 0) 0 [] bQ (jU aN Xn) ⟨B,0,none⟩ k c (cH g k) bQ (by rw[fq];omega) (I9 ax) (Vu g k) iR ab ax.size ?_
      intro v2 w2 O U;simp only[ao,aE]at O;have J:ac w1 w1 w2:=ax.grown U ax.size λq hq=>I4;skip
      clear U)
    |(refine dM rfl (.tmp 67) (.tmp 70) 40 rfl 3 C (aa .i64 0) 1 8 (Tz.al Tryz.underlying40) hI gE eI f8 rfl bc w1 (ad (some ⟨_,0,none⟩) 0 0) 0 [] bQ (jU aN Uv) ⟨B,0,none⟩ k c (cH g k) bQ (by rw[fq];omega) (I9 aI) (Vu g k) iR ab aI.size ?_
      intro v2 w2 O U;simp only[ao,aE]at O;have J:ac w1 w1 w2:=aI.grown U aI.size λq hq=>I4;have d2:w2.heap[(w1:Nat)+1]?=some (.cells #[aa .i64 (i:Int)] 3 (0,0)):=(U.block ((w1:Nat)+1) aN I5).trans bn;clear U)
    |(refine dM rfl (.tmp 67) (.tmp 70) 40 rfl 3 C (aa .i64 0) 1 8 (Tz.al Tryz.underlying40) hI gE eI f8 rfl bc w1 (ad (some ⟨_,0,none⟩) 0 0) 0 [] bQ (jU aN OM) ⟨B,0,none⟩ k c (cH g k) bQ (by rw[fq];omega) (I9 aV) (Vu g k) iR ab aV.size ?_
      intro v2 w2 O U;simp only[ao,aE]at O;have J:ac w1 w1 w2:=aV.grown U aV.size λq hq=>I4;have d2:w2.heap[(w1:Nat)]?=some (.cells #[aa .i64 (i:Int)] 3 (0,0)):=(U.block w1 cY I5).trans bo;clear U)
    |(refine dM rfl (.tmp 71) (.tmp 73) 40 rfl 3 C (aa .i64 0) 1 8 (Tz.al Tryz.underlying40) hI gE eI f8 rfl bc w1 v2 k (cH g k) bQ O ⟨_,0,none⟩ 1 1 [aa .i64 (i:Int)] bQ rfl (fC d2) sU iR ab J.size ?_
      intro v3 w3 so zy;have B3:ac w1 w1 w3:=J.grown zy J.size λq hq=>dl O q hq;clear zy J O)
    |(refine dM rfl (.tmp 71) (.tmp 73) 40 rfl 3 C (aa .i64 0) 1 8 (Tz.al Tryz.underlying40) hI gE eI f8 rfl bc w1 v2 k (cH g k) bQ (O.alloc _) ⟨_,0,none⟩ 1 1 [aa .i64 (i:Int)] bQ rfl (fC<|heap_alloc_new w2 _) sU iR ab (J.alloc J.size _).size ?_
      intro v3 w3 so zy;have B3:ac w1 w1 w3:=(J.alloc J.size _).grown zy (J.alloc J.size _).size λq hq=>dl O q hq;clear zy J O)
    |(refine dM rfl (.tmp 74) (.tmp 77) 40 rfl 3 C (aa .i64 0) 1 8 (Tz.al Tryz.underlying40) hI gE eI f8 rfl bc w1 v3 (k+1) (cH g k++[aa .i64 (i:Int)]) bQ so ⟨B,if c=k then 0 else k,none⟩ (i-k) (c-k) (cH (λj=>g<|k+j)<|i-k) (by simp[Act.eval];split<;>rfl) (by rw[fq];omega) (Zq B3) (Vu _ _) iR ab B3.size ?_
      intro v4 w4 X' be;rw[SB g i k hk,show k+1+(i-k)=i+1 by omega]at X';have B4:ac w1 w1 w4:=B3.grown be B3.size λq hq=>dl so q hq;obtain⟨b4,c4,rfl⟩:=iz X';clear be B3 so))
   all_goals
    go_wp2;go_roundw
    case rel=>exact⟨i+1,putAt g k i,b4,c4,ab,by go_num,rfl,HF.out,mq X' j9.size,j9.trans<|B4.mono j9.size⟩
    case measure=>exact cD
 go_wp2;go_ret;have jp:i=n:=ab;subst jp;let⟨Ju,bi⟩:=kW Y;exact⟨⟨g,B,c,hf,rfl,Ju,λj s=>by rw[ao,Y.cellAt j ab];exact iG s⟩,hB⟩
section
variable {W W' w w1 wr:aj}{n lo N F:Nat}{cH:List Value}{L:List (List Nat)}{f:List Nat}{v:Value}
def ue (W:aj)(n lo:Nat)(cH:List Value)(L:List (List Nat)):Prop:=
 ∀(i:Nat) (f:List Nat),L[i]?=some f->∃r s,cH[i]?=some (ad (some ⟨r,0,none⟩) n s)/\lo<=r/\(∃cs,W.heap[r]?=some (.cells cs 3 (0,0)))/\aD W r 0 n (λi=>((pl f i:Nat):Int))
def wl {b off g}(h:aD W b off n g)(e:W'.heap[b]?=W.heap[b]?):aD W' b off n g:=λi a=>by have:=h i a;simp[World.cell?,e]at this⊢;exact this
def ue.same (h:ue W n lo cH L)(e:∀b cs,lo<=b->W.heap[b]?=some (.cells cs 3 (0,0))->W'.heap[b]?=W.heap[b]?):ue W' n lo cH L:=λi f x=>by
 let⟨r,y,A,s,⟨cs,u⟩,B⟩:=h i f x;exact⟨r,y,A,s,⟨cs,(e r cs s u).trans u⟩,wl B<|e r cs s u⟩
def ue.snoc {C c}(h:ue W n lo cH L)(B:cH.length=L.length)(D:lo<=C)(J:∃cs,W.heap[C]?=some (.cells cs 3 (0,0)))(O:aD W C 0 n (λi=>((pl f i:Nat):Int))):
  ue W n lo (cH++[ad C n c]) (L++[f]):=λi l r=>by
 by_cases s:i<L.length
 .rw[agH s]at r;let⟨u,x,y,A⟩:=h i l r;exact⟨u,x,by rw[agH ab];exact y,A⟩
 .rw[agI ab]at r;have R:i-L.length=0:=by
   have:=(agF.1 r).1;simp at this;omega
  simp_all [List.getElem?_append_right]
def Ae (l:List Nat):List Value:=l.map λ(p:Nat)=>aa .i64 p
structure wO (w w1 wr:aj) n v (L):Prop where
 ex:∃cH,wr.ownsRow w 40 1 v L.length cH/\ue wr n w cH L
 own:∀r,v.ownBlock=some r->r=w\/w1<=r
 but:lp w w1 wr
 Pk:ac w w wr
def wO.later {a}(h:wO w w1 wr n v L)(hb:ac wr wr a):wO w w1 a n v L:=by let⟨cH,j,k⟩:=h.ex;refine⟨⟨cH,?_,k.same λb q _ l=>hb.block b (agy.1 l).1⟩,h.own,h.but.trans<|lp.of hb,h.Pk.trans<|hb.mono h.Pk.size⟩;obtain⟨e,m|⟨g,c,d,rfl,o,i,p⟩⟩:=j;exact⟨e,.inl m⟩;exact⟨e,.inr ⟨g,c,d,rfl,o,(hb.block g (agy.1 i).1).trans i,p⟩⟩
def Nq:∃i0,Tz.prog.info? 3=some i0/\i0.zero=some (aa .i64 0)/\i0.size=1/\i0.bytes=8:=by have h:=mh;rcases a:Tz.prog.info? 3 with _|i0;grind;grind
def JI:∃i0,Tz.prog.info? 40=some i0/\i0.zero=some (ad none 0 0)/\i0.size=1/\i0.bytes=24:=by have h:(Tz.prog.info? 40).map (λi=>(i.size,i.bytes,i.zero))=some (1,24,some<|ad none 0 0):=aO;rcases a:Tz.prog.info? 40 with _|i0;grind;grind
def JJ:Tz.prog.underlying 141=some (.slice 40):=aO
def Ac:Tz.prog.underlying 40=some (.slice 3):=aO
def pO (N F:Nat):List (List Nat):=(List.range F).flatMap λx=>(ba N).map λl=>x::l.map (rR x)
def yU (N F):pO N (F+1)=pO N F++(ba N).map λl=>F::l.map (rR F):=by simp[pO,List.range_succ,List.flatMap_append]
def Cu (h:(ba N).length<=720):∀F,(pO N F).length<=F*720
 |0=>by simp[pO]
 |F+1=>by
  have:=Cu h F;rw[yU,a7,aL];omega
def Sl {I l}(h:(ba N)[I]?=some l):((ba N).take<|I+1).map (λl=>F::l.map (rR F))=((ba N).take I).map (λl=>F::l.map (rR F))++[F::l.map (rR F)]:=by grind [a8]
def aeL {B C:aj}{G gc D oc:Nat}{o A X}(hO:wO w w1 wr (N+1) v A)(Z:wr.ownsRow w 40 1 v A.length cH)(q2:ue wr (N+1) w cH A) (hB:ac B B wr)(hX:X=A++[F::f.map (rR F)])(bj:wr.ownsRow B 3 1 (ad G (N+1) gc) (N+1) (Ae<|F::f.map (rR F)))(hG:B<=G)(ax:(w:Nat)<=B)(Gi:(w:Nat)<=w1) (so:C.ownsRow w 40 1 (ad D (A.length+1) oc) (A.length+1) (cH++[ad G (N+1) gc]))(J:(wr.alloc o).grownBy C v.ownBlock)(T:v.ownBlock=some D\/D=(wr.alloc o)): wO w w1 C (N+1) (ad D (A.length+1) oc) X:=by
 subst hX;have eI:=hO.but.size;have f8:=hO.Pk.size;have s:∀b,b<(wr:Nat)->some b≠v.ownBlock->C.heap[b]?=wr.heap[b]?:=λb hb u=>(J.block b cY u).trans<|ago _ _ _ hb;have U:∀b cs,wr.heap[b]?=some (.cells cs 3 (0,0))->some b≠v.ownBlock:=λb cs hc e'=>by rcases Z.2 with⟨rfl,_⟩|⟨g,O,R,rfl,_,az,_⟩<;>grind [aP]
 have hint:∀b cs,(w:Nat)<=b->wr.heap[b]?=some (.cells cs 3 (0,0))->C.heap[b]?=wr.heap[b]?:=λb cs _ hc=>s b (agy.1 hc).1<|U b cs hc;obtain⟨cs,x,y⟩:∃cs,wr.heap[G]?=some (.cells cs 3 (0,0))/\aD wr G 0 (N+1) (λi=>((pl (F::f.map (rR F)) i:Nat):Int)):=by have hc:=bj;rcases bj.2 with⟨h,_⟩|⟨g,O,R,h1,h2,h3,h4⟩;omega;obtain⟨rfl,rfl⟩:G=g/\gc=O:=cQ;refine⟨R,h3,λi hi=>?_⟩;rw[ao,hc.cellAt i ab];have hl:=hc.1;simp[Ae,aL,Nat.mul_one]at hl;simp only[Ae,List.getElem?_map,pl,bb];grind
 have Y:cH.length=A.length:=by have:=Z.1;omega
 refine⟨⟨cH++[ad G (N+1) gc],cQ,(q2.same hint).snoc Y ab ⟨cs,(hint G cs ab x).trans x⟩<|wl y<|hint G cs ab x⟩,λr hr=>?_,⟨?_,λb hb u=>?_⟩,⟨J.os.trans hO.Pk.os,J.tape.trans hO.Pk.tape,J.output.trans hO.Pk.output,?_,λb hb=>?_⟩⟩;obtain rfl:D=r:=by grind [aP]
 rcases T with h|h;exact hO.own _ h;right;rw[h];simp;omega;have:=J.size;simp at this;omega;refine(s b ab λe=>?_).trans<|hO.but.block b hb u;rcases hO.own b e.symm with h|h<;>omega;grind;refine(s b ab λe=>?_).trans<|hO.Pk.block b hb;rcases hO.own b e.symm with h|h<;>omega
def C0:∀(n:Nat) (w:aj),n<=6->
  ay Tz.prog 111 #[aa .i64 n] w λe w'=>(∃v cH,e=.returned v/\w'.ownsRow w 40 1 v (ba n).length cH/\ue w' n w cH (ba n))/\ac w w w'
 |0,w,_=>by
  go_enter Tz.func111,Tryz.ntmps111
  go_wp2;go_ret;have hA:=au (w.alloc<|.cells #[] 3)<|.cells #[ad (w:Nat) 0 0] 40;have u:((w.alloc<|.cells #[] 3).alloc<|.cells #[ad (w:Nat) 0 0] 40).heap[(w:Nat)]?=some (.cells #[] 3 (0,0)):=(ago _ _ _ aN).trans<|heap_alloc_new w _;refine⟨⟨_,[ad (w:Nat) 0 0],rfl,⟨rfl,.inr ⟨(w:Nat)+1,1,_,rfl,ab,by simpa using hA,bc,bc,rfl,rfl⟩⟩,λi f Z=>?_⟩,((agn _ w).alloc (agw _) _).alloc aN _⟩;have h0:i=0:=by have:=(agF.1 Z).1;simp[ba]at this;omega
  subst h0;exact⟨(w:Nat),0,rfl,agw _,⟨_,u⟩,λi Z=>absurd Z<|agA _⟩
 |N+1,w,h6=>by
  have IH:=C0 N (w.alloc<|.cells #[] 40) ab;let⟨Xt,be⟩:=kD N ab;have e0:(((N+1:Nat):Int)-1)=(N:Int):=ab;go_enter Tz.func111,Tryz.ntmps111
  have bi:¬((N:Int)+1<=0):=ab;have bk:(0:Int)<(N:Int)+1:=ab;have e1:((N:Int)+1-1)=(N:Int):=ab;go_wp2_with(go_at_call 111;(try rw[e1]);refine IH.mono ?_;rintro e w1 ⟨⟨vL,cH,rfl,O,Yo⟩,b1⟩;obtain⟨M,hM⟩:∃M,(ba N).length=M+1:=⟨(ba N).length-1,ab⟩;rw[hM]at O;obtain⟨LB,Lc,rfl⟩:=iz O)
  have bl:(w:Nat)+1<=LB:=by have:=dl O LB rfl;simpa using this
  have ZW:=(kW O).1;have MY:ac w w (w.alloc<|.cells #[] 40):=(agn _ w).alloc (agw _) _;have eI:(w:Nat)+1<=w1:=by have:=b1.size;simpa using this
  have Jv:ac w w w1:=MY.trans<|b1.mono aN;have ax:w1.heap[(w:Nat)]?=some (.cells #[] 40 (0,0)):=(b1.block (w:Nat) aN).trans<|heap_alloc_new w _;have qx:∀(I:Nat) (f:List Nat),(ba N)[I]?=some f->∃y tc,w1.cell? ⟨LB,I,none⟩=some (ad (some ⟨y,0,none⟩) N tc)/\(w:Nat)+1<=y/\y<(w1:Nat)/\aD w1 y 0 N (λi=>((pl f i:Nat):Int)):=λI f hI=>by
   let⟨y,tc,h1,h2,⟨cs,h3⟩,h4⟩:=Yo I f hI;have aG:=(agF.1 hI).1;exact⟨y,tc,by rw[O.cellAt I ab];exact h1,by simpa using h2,(agy.1 h3).1,h4⟩
  rw[<-hM]at O;clear O Yo b1 IH MY;go_loopw [3,5] (λv x wr=>∃F:Nat,F<=N+1/\x=aa .i64 F/\wO w w1 wr (N+1) v (pO N F)) (λ_ x _=>N+1-(intOf x).toNat)
  case atStart=>exact⟨0,agB _,rfl,⟨[],jU (agw _) ax,λi f Z=>by simp[pO]at Z⟩,λr hr=>.inl<|by simpa[aP]using hr.symm,lp.refl _ _,Jv⟩
  case round=>
   obtain⟨F,hF,rfl,D⟩:=hrel;by_cases aG:F<N+1
   .have dQ:(F:Int)<(N:Int)+1:=by omega
    go_wp2;go_loopw [3,6] (λv x wr=>∃I:Nat,I<=(ba N).length/\x=aa .i64 I/\wO w w1 wr (N+1) v (pO N F++((ba N).take I).map λl=>F::l.map (rR F))) (λ_ x _=>(ba N).length-(intOf x).toNat)
    case atStart=>exact⟨0,agB _,rfl,by simpa using D⟩
    case round=>
     clear D;obtain⟨I,hI,rfl,D⟩:=hrel;by_cases az:I<(ba N).length
     .obtain⟨f,pb⟩:∃x,(ba N)[I]?=some x:=⟨_,agR az⟩;have p_:(I:Int)<(M:Int)+1:=ab;let⟨y,tc,nA,bm,B_,oC⟩:=qx I f pb;have aI:=(ir<|a6 pb).1;obtain⟨s,R⟩:∃s,wr=s:=⟨_,rfl⟩;have B:wO w w1 s (N+1) u3 (pO N F++((ba N).take I).map λl=>F::l.map (rR F)):=R▸D;have aV:∀W',ac s s W'->W'.cell? ⟨LB,I,none⟩=some (ad y N tc):=λW' hb=>by
       have h1:=(lp.trans B.but<|lp.of hb).block LB ZW ab;simp only[World.cell?,h1]at nA⊢;exact nA
      have aZ:∀W',ac s s W'->aD W' y 0 N (λi=>((pl f i:Nat):Int)):=λW' hb=>wl oC<|(lp.trans B.but<|lp.of hb).block y B_ ab
      rw[R];clear D R;go_wp2;go_loopw [7,8] (λv x wr=>∃K:Nat,K<=N/\x=aa .i64 K/\wr.ownsRow (s:Nat) 3 1 v (K+1) (Ae<|F::(f.take K).map (rR F))/\ac s s wr) (λ_ x _=>N-(intOf x).toNat)
      case atStart=>exact⟨0,agB _,rfl,⟨rfl,.inr ⟨(s:Nat),1,_,rfl,agw _,au _ _,bc,bc,rfl,rfl⟩⟩,(agn _ _).alloc (agw _) _⟩
      case round=>
       obtain⟨K,hK,rfl,J,u⟩:=hrel;have bn:=aV wr u;by_cases T:K<N
       .have bo:(K:Int)<N:=by omega
        have a0:=aZ wr u K T;simp only[ao]at a0;let⟨i0,C,gE,U5,f8⟩:=Nq;have OY:=u.size;have Lw:∀x:Nat,x=rR F (pl f K)->Ae (F::(f.take K).map (rR F))++[aa .i64 (x:Int)]=Ae (F::(f.take<|K+1).map (rR F)):=λx hx=>by
         have hg:f[K]?=some (pl f K):=by simp[pl,bb,aI,T]
         rw[a8,hg,hx];simp[Ae]
        have bp:((pl f K:Nat):Int)<6:=by have:=(ir<|a6 pb).2.1 K T;omega
        by_cases uy:F<=pl f K
        .have j_:((F:Int)<=((pl f K:Nat):Int)):=by omega
         have HL:Hid _:=Lw (pl f K+1) (by unfold rR;rw[if_pos uy]);clear Lw;go_wp2_with(refine a9 _ rfl (.tmp 52) (.tmp 54) 40 rfl (s:Nat) 3 i0 (aa .i64 0) 1 8 Ac C gE U5 f8 rfl bc _ (K+1) _ bQ (J.alloc _) _ 1 1 [aa .i64 ((pl f K:Int)+1)] bQ rfl (fC<|heap_alloc_new wr _) sU iR ab cY ?_;intro v' w3 U zy a1)
         have vz:ac s s w3:=(u.alloc OY _).grown zy cY λq hq=>dl J q hq;go_roundw
         case rel=>exact⟨K+1,ab,by go_num,by have:=HL.out;push_cast at this;rw[this]at U;exact U,vz⟩
         case measure=>exact cD
        .have j_:¬((F:Int)<=((pl f K:Nat):Int)):=by omega
         have HL:Hid _:=Lw (pl f K) (by unfold rR;rw[if_neg uy]);clear Lw;go_wp2_with(refine a9 _ rfl (.tmp 52) (.tmp 54) 40 rfl (s:Nat) 3 i0 (aa .i64 0) 1 8 Ac C gE U5 f8 rfl bc _ (K+1) _ bQ (J.alloc _) _ 1 1 [aa .i64 (pl f K:Int)] bQ rfl (fC<|heap_alloc_new wr _) sU iR ab cY ?_;intro v' w3 U zy a1)
         have vz:ac s s w3:=(u.alloc OY _).grown zy cY λq hq=>dl J q hq;go_roundw
         case rel=>exact⟨K+1,ab,by go_num,by rw[HL.out]at U;exact U,vz⟩
         case measure=>exact cD
       .obtain rfl:K=N:=by omega
        rw[List.take_of_length_le ab]at J;obtain⟨G,gc,rfl⟩:=iz J;have Y:=B.later u;let⟨cH,q1,q2⟩:=Y.ex;let⟨i0,C,gE,U5,f8⟩:=JI;have OY:=u.size;have a2:=B.Pk.size;have a3:(s:Nat)<=G:=dl J G rfl;have a4:(pO K F++((ba K).take I).map λl=>F::l.map (rR F)).length<=5040:=by
         have h1:(pO K F).length<=F*720:=Cu Xt F;have h2:((ba K).take I).length<=720:=cY;simp only[a7,aL];omega
        generalize hA:(pO K F++((ba K).take I).map λl=>F::l.map (rR F))=A at Y q1 q2 a4;go_wp2_with(refine wpList_append_lies _ rfl (.tmp 56) (.tmp 58) 141 rfl (w:Nat) 40 i0 () 1 24 JJ C gE U5 f8 rfl bc _ _ _ bQ (q1.alloc _) _ 1 1 [ad G (K+1) gc] bQ rfl (fC<|heap_alloc_new wr _) sU bc iR ab cY _ rfl ?_;intro og oc w3 U zy a5 t_)
        go_roundw
        case rel=>exact⟨I+1,ab,by go_num,aeL Y q1 q2 u (by rw[<-hA,Sl pb,List.append_assoc]) J a3 a2 ab U zy a5⟩
        case measure=>exact cD
     .obtain rfl:I=(ba N).length:=by omega
      have p_:¬(((ba N).length:Nat):Int)<(M:Int)+1:=ab;go_wp2;go_roundw
      case rel=>exact⟨F+1,ab,by go_num,by rw[yU];simpa using D⟩
      case measure=>exact cD
   .obtain rfl:F=N+1:=by omega
    have dQ:¬((N+1:Nat):Int)<(N:Int)+1:=ab;go_wp2;go_ret;let⟨cH,o1,o2⟩:=D.ex;refine⟨?_,D.Pk⟩;first|exact⟨_,cH,rfl,o1,o2⟩|exact⟨_,rfl,cH,o1,o2⟩
end
def bU (f:Nat->Mv)(n:Nat)(t:Nat->Int)(m:Nat):Int×Int:=if eB f n t m then(sumTo f t n,dg f t n)else(0,0)
def zx {f n m t}(h:eB f n t m):aH f n/\m=n/\ga f t n:=by
 have r:aH f n=true:=by grind [iT]
 have s:m=n:=by grind [rC]
 subst s;exact⟨r,rfl,(fS r).mp h⟩
def YK {p:Prop}(x9:p:=by go_ret2;exact⟨Kg (by rw[HC.out])<|by rw[HC.out],bK.trans<|dh.mono bK.size⟩):p:=x9
def E3 (b off n cap:Nat)(f)(u B m cap':Nat)(t)(w:aj)(C:n<=1048576)(D:m<=maxLen)(r:b<w)(x:aM w b off n f)(J:∀i,i<n->(f i).Fits)(s:u<w)(y:aD w u B m t): ay Tz.prog 65 #[ad (some ⟨b,off,none⟩) n cap,ad (some ⟨u,B,none⟩) m cap'] w λe w'=>e=.returned (.tuple #[aa .i64 (bU f n t m).1,aa .i64 (bU f n t m).2])/\ac w w w':=by cases h:eB f n t m with|false=>(have A:bU f n t m=(0,0):=by unfold bU;grind);have HC:Hid _:=A;go_enter Tz.func65,Tryz.ntmps65;(go_wp2_with(go_at_call 83;refine(pD _ _ _ _ f _ _ _ _ t _ C D r x J s y).mono ?_;rintro e w1 ⟨rfl,bK⟩));go_ret2;exact⟨Kg (by rw[HC.out])<|by rw[HC.out],bK⟩|true=>obtain⟨R,rfl,T⟩:=zx h;(have A:bU f m t m=(sumTo f t m,dg f t m):=by unfold bU;grind);have HC:Hid _:=A;have O:Hid _:=R;go_enter Tz.func65,Tryz.ntmps65;(go_wp2_with(first|(go_at_call 83;refine(pD _ _ _ _ f _ _ _ _ t _ C D r x J s y).mono ?_;rintro e w1 ⟨rfl,bK⟩)|(go_at_call 88;refine(lA _ _ _ _ f _ _ _ _ t _ (bY O.out) ab (agx r bK.size) (x.below bK r) (agx s bK.size) (y.below bK s)<|gh.fits O.out T).mono ?_;rintro e U ⟨rfl,dh⟩)));exact YK
def EG (b off n cap:Nat)(f)(u B m cap':Nat)(t)(w:aj)(C:n<=1048576)(D:m<=maxLen)(r:b<w)(x:aM w b off n f)(s:u<w)(y:aD w u B m t): ay Tz.prog 51 #[ad (some ⟨b,off,none⟩) n cap,ad (some ⟨u,B,none⟩) m cap'] w λe w'=>e=.returned (.tuple #[aa .i64 (bU f n t m).1,aa .i64 (bU f n t m).2])/\ac w w w':=by cases h:eB f n t m with|false=>(have A:bU f n t m=(0,0):=by unfold bU;grind);have HC:Hid _:=A;go_enter Tz.func51,Tryz.ntmps51;(go_wp2_with(go_at_call 78;refine(pg _ _ _ _ f _ _ _ _ t _ C D r x s y).mono ?_;rintro e w1 ⟨rfl,bK⟩));go_ret2;exact⟨Kg (by rw[HC.out])<|by rw[HC.out],bK⟩|true=>obtain⟨O,rfl,R⟩:=zx h;(have A:bU f m t m=(sumTo f t m,dg f t m):=by unfold bU;grind);have HC:Hid _:=A;have J:Hid _:=O;go_enter Tz.func51,Tryz.ntmps51;(go_wp2_with(first|(go_at_call 78;refine(pg _ _ _ _ f _ _ _ _ t _ C D r x s y).mono ?_;rintro e w1 ⟨rfl,bK⟩)|(go_at_call 79;refine(uG _ _ _ _ f _ _ _ _ t _ (bY J.out) ab (agx r bK.size) (x.below bK r) (agx s bK.size) (y.below bK s)<|gh.fits J.out R).mono ?_;rintro e T ⟨rfl,dh⟩)));exact YK
section
variable {t:Int}
end
