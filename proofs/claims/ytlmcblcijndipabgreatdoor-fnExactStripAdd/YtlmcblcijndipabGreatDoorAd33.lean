import Derived.Test.YtlmcblcijndipabGreatDoorAd24
import Derived.Test.YtlmcblcijndipabGreatDoorAd26
import Derived.Test.YtlmcblcijndipabGreatDoorAd32
import Derived.Deep.AppendLies
set_option linter.unusedVariables false
set_option maxHeartbeats 4000000
set_option maxRecDepth 10000
namespace Go.Proofs.YtlmcblcijndipabGreatDoor
open Go.RowKit
theorem lj (m:Mv)(w:World):
  Calls Tz.prog 108 #[.agg #[.string m.name,.bool m.lands,.int .i64 m.wake,.int .i64 m.est,.int .i64 m.late,.int .i64 m.prom]] w λe w'=>e=.returned (.int .i64 m.key)/\Below w.heap.size w w':=Bo m w
theorem Aa (f:Nat->Mv)(x i:Nat)(h:x<i):
  (iQ f x i/\(f x).key<(f i).key)\/(iQ f x i/\decide ((f x).key<(f i).key)=false/\((f x).key==(f i).key)=true/\(aO (f x).name (f i).name||aX (f x).name (f i).name)=true)
  \/(¬iQ f x i/\decide ((f x).key<(f i).key)=false/\((f x).key==(f i).key)=false)\/(¬iQ f x i/\decide ((f x).key<(f i).key)=false/\((f x).key==(f i).key)=true/\(aO (f x).name (f i).name||aX (f x).name (f i).name)=false):=by
 rw[yj h];by_cases h1:(f x).key<(f i).key
 .exact .inl ⟨.inl h1,h1⟩
 .by_cases h2:(f x).key=(f i).key
  .cases h3:(aO (f x).name (f i).name||aX (f x).name (f i).name)with
   |true=>exact .inr (.inl ⟨.inr ⟨h2,rfl⟩,by simpa using h1,by simpa using h2,rfl⟩)
   |false=>exact .inr (.inr (.inr ⟨λhh=>hh.elim h1 (λ⟨_,c⟩=>Bool.noConfusion c),by simpa using h1,by simpa using h2,rfl⟩))
  .exact .inr (.inr (.inl ⟨λhh=>hh.elim h1 (λ⟨c,_⟩=>h2 c),by simpa using h1,by simpa using h2⟩))
theorem jY (b off n cap:Nat)(f:Nat->Mv)(w:World)(hn:n<=1048576)(hbs:b<w.heap.size)(hrow:ak w b off n f):
  Calls Tz.prog 85 #[.slice (some ⟨b,off,none⟩) n cap] w λe w'=>(∃(g:Nat->Nat) (B c:Nat),bg f n g/\e=.returned (.slice (some ⟨B,0,none⟩) n c)/\B<w'.heap.size/\al w' B 0 n (λi=>((g i:Nat):Int)))/\Below w.heap.size w w':=by
 go_enter Tz.func85,Tryz.ntmps85
 go_wp2;go_loopw [3,4] (λv x wr=>∃(i:Nat) (g:Nat->Nat) (B c:Nat),i<=n/\x=.int .i64 i/\v=.slice (some ⟨B,0,none⟩) i c/\bg f i g/\wr.ownsRow w.heap.size 3 1 (.slice (some ⟨B,0,none⟩) i c) i (vals g i)/\Below w.heap.size w wr) (λ_ x _=>n-(intOf x).toNat)
 case atStart=>exact⟨0,id,w.heap.size,0,Gs _,rfl,rfl,rK f _,ic (Gm _) (heap_alloc_new _ _),(Gb _ _).alloc (Gm _) _⟩
 case round=>
  obtain⟨i,g,B,c,hi,rfl,rfl,hf,hown,hB⟩:=hrel;by_cases hlt:i<n
  .have hlt':(i:Int)<n:=by omega
   go_wp2;go_loopw [5] (λy wr=>∃k:Nat,k<=i/\y=.int .i64 k/\(∀j,j<k->iQ f (g j) i)/\wr.ownsRow w.heap.size 3 1 (.slice (some ⟨B,0,none⟩) i c) i (vals g i)/\Below w.heap.size w wr) (λy _=>i-(intOf y).toNat)
   case atStart=>exact⟨0,Gs _,rfl,λj hj=>absurd hj (Gr _),hown,hB⟩
   case round=>
    clear hown hB;obtain⟨k,hk,rfl,hbef,hown,hB⟩:=hrel;obtain⟨hBlt,hic⟩:=oG hown;have hcell:∀j,j<i->wr.cell? ⟨B,j,none⟩=some (.int .i64 ((g j:Nat):Int)):=λj hj=>by rw[hown.cellAt j (by omega)];exact dx hj
    have hne:=ay wr;by_cases hlk:k<i;case' pos=>
     have hlk':(k:Int)<i:=by omega
     have hgk:=hf.low k hlk;have hgn:((g k:Nat):Int)<n:=by omega
     have hri:=hrow.below hB hbs i hlt;have hrg:=hrow.below hB hbs (g k) (by omega);have x0:=λx:ag wr=>x.cell (hcell k hlk)
     have a0:=λx:ag wr=>x.cell hri.c0
     have a1:=λx:ag wr=>x.cell hri.c1
     have a2:=λx:ag wr=>x.cell hri.c2
     have a3:=λx:ag wr=>x.cell hri.c3
     have a4:=λx:ag wr=>x.cell hri.c4
     have a5:=λx:ag wr=>x.cell hri.c5
     have b0:=λx:ag wr=>x.cell hrg.c0
     have b1:=λx:ag wr=>x.cell hrg.c1
     have b2:=λx:ag wr=>x.cell hrg.c2
     have b3:=λx:ag wr=>x.cell hrg.c3
     have b4:=λx:ag wr=>x.cell hrg.c4
     have b5:=λx:ag wr=>x.cell hrg.c5
     rcases Aa f (g k) i hgk with⟨hb',h1⟩|⟨hb',h1,h2,h3⟩|⟨hb',h1,h2⟩|⟨hb',h1,h2,h3⟩;case' inl=>
      have HB:Hid (iQ f (g k) i):=hb';clear hb';go_wp2;refine af (by kernel_rfl) (by kernel_rfl) ?_;repeat(go_big_quiet_step ((go_at_call 108;exact aE (lj _ _))))
      refine wpQuiet_nil (ai ?_);intro w1 hb1;go_wp2;go_roundw
      case rel=>exact⟨k+1,by omega,by go_num,λj hj=>by
       by_cases e:j=k
       .subst e;exact HB.out
       .exact hbef j (by omega),me hown hb1,hB.trans (hb1.mono hB.size)⟩
      case measure=>simp[intOf];omega
     case' inr.inl=>
      have HB:Hid (iQ f (g k) i):=hb';have H1:Hid (decide ((f (g k)).key<(f i).key)=false):=h1;have H2:Hid (((f (g k)).key==(f i).key)=true):=h2;unfold aO aX at h3;have H3:Hid ((Op.bytesLess (f (g k)).name.toList (f i).name.toList||(f (g k)).name.toList==(f i).name.toList)=true):=h3;clear hb' h1 h2 h3;go_wp2;have h1:=H1.out;have h2:=H2.out;have h3:=H3.out;refine af (by kernel_rfl) (by kernel_rfl) ?_;repeat(go_big_quiet_step ((go_at_call 108;exact aE (lj _ _))))
      refine wpQuiet_nil (ai ?_);intro w1 hb1;go_wp2;go_roundw
      case rel=>exact⟨k+1,by omega,by go_num,λj hj=>by
       by_cases e:j=k
       .subst e;exact HB.out
       .exact hbef j (by omega),me hown hb1,hB.trans (hb1.mono hB.size)⟩
      case measure=>simp[intOf];omega
     case' inr.inr.inl=>
      have H1:Hid (decide ((f (g k)).key<(f i).key)=false):=h1;have H2:Hid (((f (g k)).key==(f i).key)=false):=h2;have HF:Hid (bg f (i+1) (jq g k i)):=jr hf hk hbef (λ_=>hb');clear hb' h1 h2;go_wp2;have h1:=H1.out;have h2:=H2.out;refine af (by kernel_rfl) (by kernel_rfl) ?_;repeat(go_big_quiet_step ((go_at_call 108;exact aE (lj _ _))))
      refine wpQuiet_nil (ai ?_);intro w1 hb1;clear x0 a0 a1 a2 a3 a4 a5 b0 b1 b2 b3 b4 b5 hne
     case' inr.inr.inr=>
      have H1:Hid (decide ((f (g k)).key<(f i).key)=false):=h1;have H2:Hid (((f (g k)).key==(f i).key)=true):=h2;unfold aO aX at h3;have H3:Hid ((Op.bytesLess (f (g k)).name.toList (f i).name.toList||(f (g k)).name.toList==(f i).name.toList)=false):=h3;have HF:Hid (bg f (i+1) (jq g k i)):=jr hf hk hbef (λ_=>hb');clear hb' h1 h2 h3;go_wp2;have h1:=H1.out;have h2:=H2.out;have h3:=H3.out;refine af (by kernel_rfl) (by kernel_rfl) ?_;repeat(go_big_quiet_step ((go_at_call 108;exact aE (lj _ _))))
      refine wpQuiet_nil (ai ?_);intro w1 hb1;clear x0 a0 a1 a2 a3 a4 a5 b0 b1 b2 b3 b4 b5 hne
    case' neg=>
     have HF:Hid (bg f (i+1) (jq g k i)):=jr hf hk hbef (λh=>absurd h hlk);have Z1:Hid (decide (k<i)=false):=by
      have h:decide (k<i)=false:=by simpa using hlk
      exact h
     go_wp2;have z1:=Z1.out;refine af (by kernel_rfl) (by kernel_rfl) ?_;repeat(go_big_quiet_step ((go_at_call 108;exact aE (lj _ _))))
     refine wpQuiet_nil (ai ?_);intro w1 hb1;clear hne
    all_goals
     have hown1:=me hown hb1;have hB1:Below w.heap.size w w1:=hB.trans (hb1.mono hB.size);clear hown hB hb1;go_wp2;obtain⟨i0,hI,hz0,hz1,hz2⟩:∃i0,Tz.prog.info? 3=some i0/\i0.zero=some (.int .i64 0)/\i0.size=1/\i0.bytes=8:=by
      have h:=gI;cases hI:Tz.prog.info? 3 with
      |none=>rw[hI]at h;simp at h
      |some i0=>rw[hI]at h;simp only[Option.map_some,Option.some.injEq,Prod.mk.injEq]at h;exact⟨i0,rfl,h.2.2,h.1,h.2.1⟩
     obtain⟨hBlt1,hic1⟩:=oG hown1;have hkc:(k:Int)<=c:=by omega
     have hcell1:∀{W':World},Below w1.heap.size w1 W'->∀j,j<i->W'.cell? ⟨B,j,none⟩=some (.int .i64 ((g j:Nat):Int)):=λhb' j hj=>(hb'.cell (p:=⟨B,j,none⟩) hBlt1).trans (by rw[hown1.cellAt j (by omega)];exact dx hj)
     have cellsA:∀{W':World},Below w1.heap.size w1 W'->∀j u,(vals g k)[j]?=some u->W'.cell? ((⟨B,0,none⟩:Addr).add j)=some u:=λhb' j u hu=>by
      have hj:j<k:=by rcases Gv j k with h|h;exact h;rw[Gx (by rw[bI];exact h)]at hu;cases hu
      rw[dx hj]at hu;rw[js,Nat.zero_add,hcell1 hb' j (by omega)];exact hu
     have cellsC:∀{W':World},Below w1.heap.size w1 W'->∀j u,(vals (λj=>g (k+j)) (i-k))[j]?=some u->W'.cell? ((⟨B,if c=k then 0 else k,none⟩:Addr).add j)=some u:=λhb' j u hu=>by
      have hj:j<i-k:=by rcases Gv j (i-k)with h|h;exact h;rw[Gx (by rw[bI];exact h)]at hu;cases hu
      rw[dx hj]at hu;rw[if_neg (by omega),js,hcell1 hb' (k+j) (by omega)];exact hu
     have oneV:∀(g:Nat->Nat) (k:Nat),∀u∈vals g k,u.oneCell'=true:=λg k u hu=>by unfold vals at hu;simp at hu;obtain⟨_,_,rfl⟩:=hu;rfl
     have hA1:(w1.alloc (.cells #[] 3)).heap[w1.heap.size]?=some (.cells #[] 3 (0,0)):=heap_alloc_new _ _;have hA2:((w1.alloc (.cells #[] 3)).alloc (.cells #[.int .i64 (i:Int)] 3)).heap[w1.heap.size]?=some (.cells #[] 3 (0,0)):=(Gc _ _ _ (by simp)).trans hA1;have hA3:((w1.alloc (.cells #[.int .i64 (i:Int)] 3)).alloc (.cells #[] 3)).heap[w1.heap.size+1]?=some (.cells #[] 3 (0,0)):=by have:=heap_alloc_new (w1.alloc (.cells #[.int .i64 (i:Int)] 3)) (.cells #[] 3);simpa using this
     have bA1:Below w1.heap.size w1 (w1.alloc (.cells #[] 3)).drew:=((Gb _ w1).alloc (Gm _) _).drew;have bA2:Below w1.heap.size w1 ((w1.alloc (.cells #[] 3)).alloc (.cells #[.int .i64 (i:Int)] 3)).drew:=(((Gb _ w1).alloc (Gm _) _).alloc (by simp) _).drew;have bA3:Below w1.heap.size w1 ((w1.alloc (.cells #[.int .i64 (i:Int)] 3)).alloc (.cells #[] 3)).drew:=(((Gb _ w1).alloc (Gm _) _).alloc (by simp) _).drew;have hD2:((w1.alloc (.cells #[] 3)).alloc (.cells #[.int .i64 (i:Int)] 3)).heap[w1.heap.size+1]?=some (.cells #[.int .i64 (i:Int)] 3 (0,0)):=by have:=heap_alloc_new (w1.alloc (.cells #[] 3)) (.cells #[.int .i64 (i:Int)] 3);simpa using this
     have hD3:((w1.alloc (.cells #[.int .i64 (i:Int)] 3)).alloc (.cells #[] 3)).heap[w1.heap.size]?=some (.cells #[.int .i64 (i:Int)] 3 (0,0)):=(Gc _ _ _ (by simp)).trans (heap_alloc_new _ _);go_region_law (first
      |(refine bZ rfl (.tmp 67) (.tmp 70) 23 rfl 3 i0 (.int .i64 0) 1 8 (Tz.tr_underlying Tryz.underlying23) hI hz0 hz1 hz2 rfl (by decide) w1.heap.size (.slice (some ⟨_,0,none⟩) 0 0) 0 [] (by rfl) (ic (by simp) hA1) ⟨B,0,none⟩ k c (vals g k) (by rfl) (by rw[bI];omega) (cellsA bA1) (oneV g k) (by unfold maxLen;omega) (by omega) bA1.size ?_
        intro v2 w2 own2 gr2;simp only[Nat.zero_add,List.nil_append]at own2;have B2:Below w1.heap.size w1 w2:=bA1.grown gr2 bA1.size (λq hq=>by simp[Value.ownBlock]at hq;omega);skip
        clear gr2)
      |(refine bZ rfl (.tmp 67) (.tmp 70) 23 rfl 3 i0 (.int .i64 0) 1 8 (Tz.tr_underlying Tryz.underlying23) hI hz0 hz1 hz2 rfl (by decide) w1.heap.size (.slice (some ⟨_,0,none⟩) 0 0) 0 [] (by rfl) (ic (by simp) hA2) ⟨B,0,none⟩ k c (vals g k) (by rfl) (by rw[bI];omega) (cellsA bA2) (oneV g k) (by unfold maxLen;omega) (by omega) bA2.size ?_
        intro v2 w2 own2 gr2;simp only[Nat.zero_add,List.nil_append]at own2;have B2:Below w1.heap.size w1 w2:=bA2.grown gr2 bA2.size (λq hq=>by simp[Value.ownBlock]at hq;omega);have d2:w2.heap[w1.heap.size+1]?=some (.cells #[.int .i64 (i:Int)] 3 (0,0)):=(gr2.block (w1.heap.size+1) (by simp) (by simp[Value.ownBlock])).trans hD2;clear gr2)
      |(refine bZ rfl (.tmp 67) (.tmp 70) 23 rfl 3 i0 (.int .i64 0) 1 8 (Tz.tr_underlying Tryz.underlying23) hI hz0 hz1 hz2 rfl (by decide) w1.heap.size (.slice (some ⟨_,0,none⟩) 0 0) 0 [] (by rfl) (ic (by simp) hA3) ⟨B,0,none⟩ k c (vals g k) (by rfl) (by rw[bI];omega) (cellsA bA3) (oneV g k) (by unfold maxLen;omega) (by omega) bA3.size ?_
        intro v2 w2 own2 gr2;simp only[Nat.zero_add,List.nil_append]at own2;have B2:Below w1.heap.size w1 w2:=bA3.grown gr2 bA3.size (λq hq=>by simp[Value.ownBlock]at hq;omega);have d2:w2.heap[w1.heap.size]?=some (.cells #[.int .i64 (i:Int)] 3 (0,0)):=(gr2.block w1.heap.size (by simp;omega) (by simp[Value.ownBlock])).trans hD3;clear gr2)
      |(refine bZ rfl (.tmp 71) (.tmp 73) 23 rfl 3 i0 (.int .i64 0) 1 8 (Tz.tr_underlying Tryz.underlying23) hI hz0 hz1 hz2 rfl (by decide) w1.heap.size v2 k (vals g k) (by rfl) own2 ⟨_,0,none⟩ 1 1 [.int .i64 (i:Int)] (by rfl) rfl (ie d2) (by simp[Value.oneCell']) (by unfold maxLen;omega) (by omega) B2.size ?_
        intro v3 w3 own3 gr3;have B3:Below w1.heap.size w1 w3:=B2.grown gr3 B2.size (λq hq=>dK own2 q hq);clear gr3 B2 own2)
      |(refine bZ rfl (.tmp 71) (.tmp 73) 23 rfl 3 i0 (.int .i64 0) 1 8 (Tz.tr_underlying Tryz.underlying23) hI hz0 hz1 hz2 rfl (by decide) w1.heap.size v2 k (vals g k) (by rfl) (own2.alloc _) ⟨_,0,none⟩ 1 1 [.int .i64 (i:Int)] (by rfl) rfl (ie (heap_alloc_new w2 _)) (by simp[Value.oneCell']) (by unfold maxLen;omega) (by omega) (B2.alloc B2.size _).size ?_
        intro v3 w3 own3 gr3;have B3:Below w1.heap.size w1 w3:=(B2.alloc B2.size _).grown gr3 (B2.alloc B2.size _).size (λq hq=>dK own2 q hq);clear gr3 B2 own2)
      |(refine bZ rfl (.tmp 74) (.tmp 77) 23 rfl 3 i0 (.int .i64 0) 1 8 (Tz.tr_underlying Tryz.underlying23) hI hz0 hz1 hz2 rfl (by decide) w1.heap.size v3 (k+1) (vals g k++[.int .i64 (i:Int)]) (by rfl) own3 ⟨B,if c=k then 0 else k,none⟩ (i-k) (c-k) (vals (λj=>g (k+j)) (i-k)) (by simp[Act.eval];split<;>rfl) (by rw[bI];omega) (cellsC B3) (oneV _ _) (by unfold maxLen;omega) (by omega) B3.size ?_
        intro v4 w4 own4 gr4;rw[zZ g i k hk,show k+1+(i-k)=i+1 by omega]at own4;have B4:Below w1.heap.size w1 w4:=B3.grown gr4 B3.size (λq hq=>dK own3 q hq);obtain⟨b4,c4,rfl⟩:=jt own4;clear gr4 B3 own3))
     all_goals
      go_wp2;go_roundw
      case rel=>exact⟨i+1,jq g k i,b4,c4,by omega,by go_num,rfl,HF.out,fj own4 hB1.size,hB1.trans (B4.mono hB1.size)⟩
      case measure=>simp[intOf];omega
  .go_wp2;go_ret;have hin:i=n:=by omega
   subst hin;obtain⟨hBlt,hic⟩:=oG hown;exact⟨⟨g,B,c,hf,rfl,hBlt,λj hj=>by rw[Nat.zero_add,hown.cellAt j (by omega)];exact dx hj⟩,hB⟩
def ll (W:World)(n lo:Nat)(vals:List Value)(L:List (List Nat)):Prop:=
 ∀(i:Nat) (lst:List Nat),L[i]?=some lst->∃tb tc,vals[i]?=some (Value.slice (some ⟨tb,0,none⟩) n tc)/\lo<=tb/\(∃cs,W.heap[tb]?=some (.cells cs 3 (0,0)))/\al W tb 0 n (λi=>((pl lst i:Nat):Int))
theorem mf {W W':World}{b off n:Nat}{g:Nat->Int}(h:al W b off n g)(e:W'.heap[b]?=W.heap[b]?):al W' b off n g:=λi hi=>by have:=h i hi;simp only[World.cell?,e]at this⊢;exact this
theorem ll.same {W W':World}{n lo:Nat}{vals:List Value}{L:List (List Nat)}(h:ll W n lo vals L)(e:∀b cs,lo<=b->W.heap[b]?=some (.cells cs 3 (0,0))->W'.heap[b]?=W.heap[b]?):ll W' n lo vals L:=λi lst hi=>by
 obtain⟨tb,tc,h1,h3,⟨cs,h4⟩,h5⟩:=h i lst hi;exact⟨tb,tc,h1,h3,⟨cs,(e tb cs h3 h4).trans h4⟩,mf h5 (e tb cs h3 h4)⟩
theorem ll.snoc {W:World}{n lo C c:Nat}{vals:List Value}{L:List (List Nat)}{lst:List Nat}(h:ll W n lo vals L)(hl:vals.length=L.length)(h3:lo<=C)(h4:∃cs,W.heap[C]?=some (.cells cs 3 (0,0)))(h5:al W C 0 n (λi=>((pl lst i:Nat):Int))):
  ll W n lo (vals++[.slice (some ⟨C,0,none⟩) n c]) (L++[lst]):=λi l hi=>by
 by_cases hlt:i<L.length
 .rw[Gy hlt]at hi;obtain⟨tb,tc,g1,g2⟩:=h i l hi;exact⟨tb,tc,by rw[Gy (by omega)];exact g1,g2⟩
 .rw[Gz (by omega)]at hi;have hi0:i-L.length=0:=by
   have:=(Gw.1 hi).1;simp at this;omega
  rw[hi0]at hi;simp at hi;subst hi;exact⟨C,c,by rw[Gz (by omega),hl,hi0];rfl,h3,h4,h5⟩
def oH (l:List Nat):List Value:=l.map λ(p:Nat)=>Value.int .i64 (p:Int)
structure mT (w w1 wr:World)(n:Nat)(v:Value)(L:List (List Nat)):Prop where
 ex:∃vals,wr.ownsRow w.heap.size 23 1 v L.length vals/\ll wr n w.heap.size vals L
 own:∀r,v.ownBlock=some r->r=w.heap.size\/w1.heap.size<=r
 but:fL w.heap.size w1 wr
 bel:Below w.heap.size w wr
theorem mT.later {w w1 wr wr':World}{n:Nat}{v:Value}{L:List (List Nat)}(h:mT w w1 wr n v L)(hb:Below wr.heap.size wr wr'):mT w w1 wr' n v L:=by
 obtain⟨vals,h1,h2⟩:=h.ex;refine⟨⟨vals,?_,h2.same λb cs _ hc=>hb.block b (Gp.1 hc).1⟩,h.own,h.but.trans (fL.of hb),h.bel.trans (hb.mono h.bel.size)⟩;obtain⟨g1,g2|⟨g,cap,cur,rfl,g3,g4,g5⟩⟩:=h1
 .exact⟨g1,.inl g2⟩
 .exact⟨g1,.inr ⟨g,cap,cur,rfl,g3,(hb.block g (Gp.1 g4).1).trans g4,g5⟩⟩
theorem yl:∃i0,Tz.prog.info? 3=some i0/\i0.zero=some (.int .i64 0)/\i0.size=1/\i0.bytes=8:=by
 have h:=gI;cases hI:Tz.prog.info? 3 with
 |none=>rw[hI]at h;simp at h
 |some i0=>rw[hI]at h;simp only[Option.map_some,Option.some.injEq,Prod.mk.injEq]at h;exact⟨i0,rfl,h.2.2,h.1,h.2.1⟩
theorem vu:∃i0,Tz.prog.info? 23=some i0/\i0.zero=some (.slice none 0 0)/\i0.size=1/\i0.bytes=24:=by
 have h:(Tz.prog.info? 23).map (λi=>(i.size,i.bytes,i.zero))=some (1,24,some (.slice none 0 0)):=by kernel_rfl
 cases hI:Tz.prog.info? 23 with
 |none=>rw[hI]at h;simp at h
 |some i0=>rw[hI]at h;simp only[Option.map_some,Option.some.injEq,Prod.mk.injEq]at h;exact⟨i0,rfl,h.2.2,h.1,h.2.1⟩
theorem vv:Tz.prog.underlying 122=some (.slice 23):=by kernel_rfl
theorem oJ:Tz.prog.underlying 23=some (.slice 3):=by kernel_rfl
def iN (N F:Nat):List (List Nat):=(List.range F).flatMap λx=>(az N).map λl=>x::l.map (lI x)
theorem oK (N F:Nat):iN N (F+1)=iN N F++(az N).map λl=>F::l.map (lI F):=by simp[iN,List.range_succ,List.flatMap_append]
theorem qu {N:Nat}(h:(az N).length<=720):∀F,(iN N F).length<=F*720
 |0=>by simp[iN]
 |F+1=>by
  have:=qu h F;rw[oK,List.length_append,List.length_map];omega
theorem Ac {N F I:Nat}{l:List Nat}(h:(az N)[I]?=some l):((az N).take (I+1)).map (λl=>F::l.map (lI F))=((az N).take I).map (λl=>F::l.map (lI F))++[F::l.map (lI F)]:=by
 rw[List.take_add_one,h];simp
theorem Ev {w w1 WI wr w3:World}{N F G gc og oc:Nat}{v:Value}{lst:List Nat}{vals:List Value}{o:Obj}{A:List (List Nat)}{X:List (List Nat)}(hO:mT w w1 wr (N+1) v A)(q1:wr.ownsRow w.heap.size 23 1 v A.length vals)(q2:ll wr (N+1) w.heap.size vals A)
  (hB:Below WI.heap.size WI wr)(hX:X=A++[F::lst.map (lI F)])(hown:wr.ownsRow WI.heap.size 3 1 (.slice (some ⟨G,0,none⟩) (N+1) gc) (N+1) (oH (F::lst.map (lI F))))(hG:WI.heap.size<=G)(hwI:w.heap.size<=WI.heap.size)(hw1:w.heap.size<=w1.heap.size)
  (own3:w3.ownsRow w.heap.size 23 1 (.slice (some ⟨og,0,none⟩) (A.length+1) oc) (A.length+1) (vals++[.slice (some ⟨G,0,none⟩) (N+1) gc]))(gr3:(wr.alloc o).grownBy w3 v.ownBlock)(hor:v.ownBlock=some og\/og=(wr.alloc o).heap.size):
  mT w w1 w3 (N+1) (.slice (some ⟨og,0,none⟩) (A.length+1) oc) X:=by
 subst hX;have hz1:=hO.but.size;have hz2:=hO.bel.size;have hblk:∀b,b<wr.heap.size->some b≠v.ownBlock->w3.heap[b]?=wr.heap[b]?:=λb hb hne=>(gr3.block b (by simp;omega) hne).trans (Gc _ _ _ hb)
 have hnr:∀b cs,wr.heap[b]?=some (.cells cs 3 (0,0))->some b≠v.ownBlock:=λb cs hc e'=>by
  rcases q1.2 with⟨rfl,_⟩|⟨g,cap,cur,rfl,_,hgb,_⟩
  .simp[Value.ownBlock]at e'
  .obtain rfl:b=g:=by simpa[Value.ownBlock]using e'
   rw[hc]at hgb;simp at hgb
 have hint:∀b cs,w.heap.size<=b->wr.heap[b]?=some (.cells cs 3 (0,0))->w3.heap[b]?=wr.heap[b]?:=λb cs _ hc=>hblk b (Gp.1 hc).1 (hnr b cs hc)
 obtain⟨cs,hcs,hcell⟩:∃cs,wr.heap[G]?=some (.cells cs 3 (0,0))/\al wr G 0 (N+1) (λi=>((pl (F::lst.map (lI F)) i:Nat):Int)):=by
  have hc:=hown;rcases hown.2 with⟨h,_⟩|⟨g,cap,cur,h1,h2,h3,h4⟩
  .cases h
  .obtain⟨rfl,rfl⟩:G=g/\gc=cap:=by simpa using h1
   refine⟨cur,h3,λi hi=>?_⟩;rw[Nat.zero_add,hc.cellAt i (by omega)];have hl:=hc.1;simp only[oH,List.length_map,Nat.mul_one]at hl;simp only[oH,List.getElem?_map,pl,List.getD];rw[GI (by omega)];rfl
 have hvl:vals.length=A.length:=by have:=q1.1;omega
 refine⟨⟨vals++[.slice (some ⟨G,0,none⟩) (N+1) gc],by rw[List.length_append];exact own3,?_⟩,λr hr=>?_,⟨?_,λb hb hne=>?_⟩,⟨gr3.os.trans hO.bel.os,gr3.tape.trans hO.bel.tape,gr3.output.trans hO.bel.output,?_,λb hb=>?_⟩⟩
 .exact(q2.same hint).snoc hvl (by omega) ⟨cs,(hint G cs (by omega) hcs).trans hcs⟩ (mf hcell (hint G cs (by omega) hcs))
 .obtain rfl:og=r:=by simpa[Value.ownBlock]using hr
  rcases hor with h|h
  .exact hO.own _ h
  .right;rw[h];simp;omega
 .have:=gr3.size;simp at this;omega
 .refine(hblk b (by omega) (λe=>?_)).trans (hO.but.block b hb hne);rcases hO.own b e.symm with h|h<;>omega
 .have:=gr3.size;simp at this;omega
 .refine(hblk b (by omega) (λe=>?_)).trans (hO.bel.block b hb);rcases hO.own b e.symm with h|h<;>omega
theorem qv:∀(n:Nat) (w:World),n<=6->
  Calls Tz.prog 86 #[.int .i64 (n:Int)] w λe w'=>(∃v vals,e=.returned v/\w'.ownsRow w.heap.size 23 1 v (az n).length vals/\ll w' n w.heap.size vals (az n))/\Below w.heap.size w w'
 |0,w,_=>by
  go_enter Tz.func86,Tryz.ntmps86
  go_wp2;go_ret;have hA:=heap_alloc_new (w.alloc (.cells #[] 3)) (.cells #[.slice (some ⟨w.heap.size,0,none⟩) 0 0] 23);have hB:((w.alloc (.cells #[] 3)).alloc (.cells #[.slice (some ⟨w.heap.size,0,none⟩) 0 0] 23)).heap[w.heap.size]?=some (.cells #[] 3 (0,0)):=(Gc _ _ _ (by simp)).trans (heap_alloc_new w _);refine⟨⟨_,[.slice (some ⟨w.heap.size,0,none⟩) 0 0],rfl,⟨rfl,.inr ⟨w.heap.size+1,1,_,rfl,by omega,by simpa using hA,by decide,by decide,rfl,rfl⟩⟩,λi lst hi=>?_⟩,((Gb _ w).alloc (Gm _) _).alloc (by simp) _⟩;have h0:i=0:=by have:=(Gw.1 hi).1;simp[az]at this;omega
  subst h0;exact⟨w.heap.size,0,rfl,Gm _,⟨_,hB⟩,λi hi=>absurd hi (Gr _)⟩
 |N+1,w,h6=>by
  have IH:=qv N (w.alloc (.cells #[] 23)) (by omega);obtain⟨hN720,hN0⟩:=fd N (by omega);have e0:(((N+1:Nat):Int)-1)=(N:Int):=by omega
  go_enter Tz.func86,Tryz.ntmps86
  have hle:¬((N:Int)+1<=0):=by omega
  have hle2:(0:Int)<(N:Int)+1:=by omega
  have e1:((N:Int)+1-1)=(N:Int):=by omega
  go_wp2_with(go_at_call 86;(try rw[e1]);refine IH.mono ?_;rintro e w1 ⟨⟨vL,vals,rfl,own1,rows1⟩,b1⟩;obtain⟨M,hM⟩:∃M,(az N).length=M+1:=⟨(az N).length-1,by omega⟩;rw[hM]at own1;obtain⟨LB,Lc,rfl⟩:=jt own1)
  have hLB:w.heap.size+1<=LB:=by have:=dK own1 LB rfl;simpa using this
  have hLB1:=(oG own1).1;have hA0:Below w.heap.size w (w.alloc (.cells #[] 23)):=(Gb _ w).alloc (Gm _) _;have hz1:w.heap.size+1<=w1.heap.size:=by have:=b1.size;simpa using this
  have hBw1:Below w.heap.size w w1:=hA0.trans (b1.mono (by simp));have hE1:w1.heap[w.heap.size]?=some (.cells #[] 23 (0,0)):=(b1.block w.heap.size (by simp)).trans (heap_alloc_new w _);have hless:∀(I:Nat) (lst:List Nat),(az N)[I]?=some lst->∃tb tc,w1.cell? ⟨LB,I,none⟩=some (.slice (some ⟨tb,0,none⟩) N tc)/\w.heap.size+1<=tb/\tb<w1.heap.size/\al w1 tb 0 N (λi=>((pl lst i:Nat):Int)):=λI lst hI=>by
   obtain⟨tb,tc,h1,h2,⟨cs,h3⟩,h4⟩:=rows1 I lst hI;have hlt:=(Gw.1 hI).1;exact⟨tb,tc,by rw[own1.cellAt I (by omega)];exact h1,by simpa using h2,(Gp.1 h3).1,h4⟩
  rw[<-hM]at own1;clear own1 rows1 b1 IH hA0;go_loopw [3,5] (λv x wr=>∃F:Nat,F<=N+1/\x=.int .i64 F/\mT w w1 wr (N+1) v (iN N F)) (λ_ x _=>N+1-(intOf x).toNat)
  case atStart=>exact⟨0,Gs _,rfl,⟨[],ic (Gm _) hE1,λi lst hi=>by simp[iN]at hi⟩,λr hr=>.inl (by simpa[Value.ownBlock]using hr.symm),fL.refl _ _,hBw1⟩
  case round=>
   obtain⟨F,hF,rfl,hO⟩:=hrel;by_cases hlt:F<N+1
   .have hlt':(F:Int)<(N:Int)+1:=by omega
    go_wp2;go_loopw [3,6] (λv x wr=>∃I:Nat,I<=(az N).length/\x=.int .i64 I/\mT w w1 wr (N+1) v (iN N F++((az N).take I).map λl=>F::l.map (lI F))) (λ_ x _=>(az N).length-(intOf x).toNat)
    case atStart=>exact⟨0,Gs _,rfl,by simpa using hO⟩
    case round=>
     clear hO;obtain⟨I,hI,rfl,hO⟩:=hrel;by_cases hlI:I<(az N).length
     .obtain⟨lst,hlst⟩:∃x,(az N)[I]?=some x:=⟨_,GI hlI⟩;have hlI':(I:Int)<(M:Int)+1:=by omega
      obtain⟨tb,tc,hc1,ht1,ht2,hr1⟩:=hless I lst hlst;have hll:=(dV (List.mem_of_getElem? hlst)).1;obtain⟨WI,hWI⟩:∃WI,wr=WI:=⟨_,rfl⟩;have hO1:mT w w1 WI (N+1) u3 (iN N F++((az N).take I).map λl=>F::l.map (lI F)):=hWI▸hO;have hcW:∀W',Below WI.heap.size WI W'->W'.cell? ⟨LB,I,none⟩=some (.slice (some ⟨tb,0,none⟩) N tc):=λW' hb=>by
       have h1:=(fL.trans hO1.but (fL.of hb)).block LB hLB1 (by omega);simp only[World.cell?,h1]at hc1⊢;exact hc1
      have hrW:∀W',Below WI.heap.size WI W'->al W' tb 0 N (λi=>((pl lst i:Nat):Int)):=λW' hb=>mf hr1 ((fL.trans hO1.but (fL.of hb)).block tb ht2 (by omega))
      rw[hWI];clear hO hWI;go_wp2;go_loopw [7,8] (λv x wr=>∃K:Nat,K<=N/\x=.int .i64 K/\wr.ownsRow WI.heap.size 3 1 v (K+1) (oH (F::(lst.take K).map (lI F)))/\Below WI.heap.size WI wr) (λ_ x _=>N-(intOf x).toNat)
      case atStart=>exact⟨0,Gs _,rfl,⟨rfl,.inr ⟨WI.heap.size,1,_,rfl,Gm _,heap_alloc_new _ _,by decide,by decide,rfl,rfl⟩⟩,(Gb _ _).alloc (Gm _) _⟩
      case round=>
       obtain⟨K,hK,rfl,hown,hB⟩:=hrel;have hcK:=hcW wr hB;by_cases hlK:K<N
       .have hlK':(K:Int)<N:=by omega
        have hrK:=hrW wr hB K hlK;simp only[Nat.zero_add]at hrK;obtain⟨i0,hI0,hz0,hz1',hz2⟩:=yl;have hzz:=hB.size;have hlist:∀x:Nat,x=lI F (pl lst K)->oH (F::(lst.take K).map (lI F))++[.int .i64 (x:Int)]=oH (F::(lst.take (K+1)).map (lI F)):=λx hx=>by
         have hg:lst[K]?=some (pl lst K):=by simp[pl,List.getD,hll,hlK]
         rw[List.take_add_one,hg,hx];simp[oH]
        have hpb:((pl lst K:Nat):Int)<6:=by have:=(dV (List.mem_of_getElem? hlst)).2.1 K hlK;omega
        by_cases hge:F<=pl lst K
        .have hge':((F:Int)<=((pl lst K:Nat):Int)):=by omega
         have HL:Hid _:=hlist (pl lst K+1) (by unfold lI;rw[if_pos hge]);clear hlist;go_wp2_with(refine wpList_append_own _ rfl (.tmp 52) (.tmp 54) 23 rfl WI.heap.size 3 i0 (.int .i64 0) 1 8 oJ hI0 hz0 hz1' hz2 rfl (by decide) _ (K+1) _ (by rfl) (hown.alloc _) ⟨_,0,none⟩ 1 1 [.int .i64 ((pl lst K:Int)+1)] (by rfl) rfl (ie (heap_alloc_new wr _)) (by simp[Value.oneCell']) (by unfold maxLen;omega) (by omega) (by simp;omega) ?_;intro v' w3 own3 gr3 hnn)
         have hB3:Below WI.heap.size WI w3:=(hB.alloc hzz _).grown gr3 (by simp;omega) (λq hq=>dK hown q hq);go_roundw
         case rel=>exact⟨K+1,by omega,by go_num,by have:=HL.out;push_cast at this;rw[this]at own3;exact own3,hB3⟩
         case measure=>simp[intOf];omega
        .have hge':¬((F:Int)<=((pl lst K:Nat):Int)):=by omega
         have HL:Hid _:=hlist (pl lst K) (by unfold lI;rw[if_neg hge]);clear hlist;go_wp2_with(refine wpList_append_own _ rfl (.tmp 52) (.tmp 54) 23 rfl WI.heap.size 3 i0 (.int .i64 0) 1 8 oJ hI0 hz0 hz1' hz2 rfl (by decide) _ (K+1) _ (by rfl) (hown.alloc _) ⟨_,0,none⟩ 1 1 [.int .i64 (pl lst K:Int)] (by rfl) rfl (ie (heap_alloc_new wr _)) (by simp[Value.oneCell']) (by unfold maxLen;omega) (by omega) (by simp;omega) ?_;intro v' w3 own3 gr3 hnn)
         have hB3:Below WI.heap.size WI w3:=(hB.alloc hzz _).grown gr3 (by simp;omega) (λq hq=>dK hown q hq);go_roundw
         case rel=>exact⟨K+1,by omega,by go_num,by rw[HL.out]at own3;exact own3,hB3⟩
         case measure=>simp[intOf];omega
       .obtain rfl:K=N:=by omega
        rw[List.take_of_length_le (by omega)]at hown;obtain⟨G,gc,rfl⟩:=jt hown;have hO3:=hO1.later hB;obtain⟨vals,q1,q2⟩:=hO3.ex;obtain⟨i0,hI0,hz0,hz1',hz2⟩:=vu;have hzz:=hB.size;have hzI:=hO1.bel.size;have hGI:WI.heap.size<=G:=dK hown G rfl;have hLlen:(iN K F++((az K).take I).map λl=>F::l.map (lI F)).length<=5040:=by
         have h1:(iN K F).length<=F*720:=qu hN720 F;have h2:((az K).take I).length<=720:=by simp;omega
         simp only[List.length_append,List.length_map];omega
        generalize hA:(iN K F++((az K).take I).map λl=>F::l.map (lI F))=A at hO3 q1 q2 hLlen;go_wp2_with(refine wpList_append_lies _ rfl (.tmp 56) (.tmp 58) 122 rfl w.heap.size 23 i0 (.slice none 0 0) 1 24 vv hI0 hz0 hz1' hz2 rfl (by decide) _ _ _ (by rfl) (q1.alloc _) ⟨_,0,none⟩ 1 1 [.slice (some ⟨G,0,none⟩) (K+1) gc] (by rfl) rfl (ie (heap_alloc_new wr _)) (by simp[Value.oneCell']) (by decide) (by unfold maxLen;omega) (by omega) (by simp;omega) _ rfl ?_;intro og oc w3 own3 gr3 hor hlt3)
        go_roundw
        case rel=>exact⟨I+1,by omega,by go_num,Ev hO3 q1 q2 hB (by rw[<-hA,Ac hlst,List.append_assoc]) hown hGI hzI (by omega) own3 gr3 hor⟩
        case measure=>simp[intOf];omega
     .obtain rfl:I=(az N).length:=by omega
      have hlI':¬(((az N).length:Nat):Int)<(M:Int)+1:=by omega
      go_wp2;go_roundw
      case rel=>exact⟨F+1,by omega,by go_num,by rw[oK];simpa using hO⟩
      case measure=>simp[intOf];omega
   .obtain rfl:F=N+1:=by omega
    have hlt':¬((N+1:Nat):Int)<(N:Int)+1:=by omega
    go_wp2;go_ret;obtain⟨vals,o1,o2⟩:=hO.ex;refine⟨?_,hO.bel⟩;first|exact⟨_,vals,rfl,o1,o2⟩|exact⟨_,rfl,vals,o1,o2⟩
