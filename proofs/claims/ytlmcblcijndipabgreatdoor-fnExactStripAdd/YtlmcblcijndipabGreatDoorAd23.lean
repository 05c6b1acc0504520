import Derived.Test.YtlmcblcijndipabGreatDoorAd22
set_option linter.unusedVariables false
set_option maxHeartbeats 4000000
set_option maxRecDepth 100000
namespace Go.Proofs.YtlmcblcijndipabGreatDoor
open Go.RowKit Go.Shelf
attribute [local go_sem] Oper.semAt_some
set_option linter.unusedVariables false
theorem Aj {W W':World}(h:Below W.heap.size W W')(B:Nat):KeepsFrom B W W':=
 ⟨h.size,λk o _ hk _=>(h.block k (Gp.1 hk).1).trans hk⟩
theorem ng (b off n cap:Nat)(f:Nat->Mv)(b' off' cap':Nat)(t:Nat->Int)(w:World)(hbs:b<w.heap.size)(hrow:ak w b off n f)(hbs':b'<w.heap.size)(hrow':al w b' off' n t)(hm:aw f n=true)(hall:∀i,i<n->(f i).suits (t i)=true):
  Calls Tz.prog 111 #[.slice (some ⟨b,off,none⟩) n cap,.slice (some ⟨b',off',none⟩) n cap'] w λe w'=>e=.returned (.bool (bL f n t n))/\Below w.heap.size w w':=by
 have h6:=aN hm;have hn:n<=1048576:=by omega
 have HM:Hid _:=hm;have hB0:∀o1 o2 o3,Below w.heap.size w (((w.alloc o1).alloc o2).alloc o3):=λo1 o2 o3=>(((Gb _ w).alloc (Gm _) _).alloc (by simp) _).alloc (by simp;omega) _
 refine(callsIn_wide (n:=9)).1 ?_;refine callsIn_of_wp_marks Tz.func111 rfl trivial ?_ rfl;simp only[Tryz.ntmps111,List.size_toArray,List.length_cons,List.length_nil,Nat.reduceAdd,Nat.reduceSub,Array.replicate_succ,Array.replicate_zero,List.push_toArray,List.append_toArray,List.nil_append,List.cons_append];gi_wp2_with (refine⟨trivial,?_⟩;gi_at_call 127;refine(callsIn_wide.2 (c9 _ _ _ _ f _ hn (by simp;omega) (hrow.below (hB0 _ _ _) hbs))).mono ?_;rintro e w1 ⟨rfl,hb1⟩;obtain⟨hc1,hf1⟩:=dE hb1)
 have hz:=hb1.size;simp at hz;have hB1:Below w.heap.size w w1:=(hB0 _ _ _).trans (hb1.mono (hB0 _ _ _).size);have l0:w1.cell? ⟨w.heap.size,0,none⟩=some (.slice (some ⟨b,off,none⟩) n cap):=by rw[hc1 w.heap.size 0 (by simp;omega)];simp[go_sem]
 have l1:w1.cell? ⟨w.heap.size+1,0,none⟩=some (.slice (some ⟨b',off',none⟩) n cap'):=by rw[hc1 (w.heap.size+1) 0 (by simp)];simp[go_sem]
 have l2:w1.cell? ⟨w.heap.size+1+1,0,none⟩=some (.bool false):=by rw[hc1 (w.heap.size+1+1) 0 (by simp)];simp[go_sem]
 have l3:w1.frozen? ⟨w.heap.size+1+1,0,none⟩=false:=by rw[hf1 (w.heap.size+1+1) 0 (by simp)];simp[go_sem]
 clear hc1 hf1 hb1;gi_loopw [21] (λi wr=>∃k:Nat,k<=n/\i=.int .i64 k/\Below w1.heap.size w1 wr) (λi _=>n-(intOf i).toNat)
 case atStart=>exact⟨0,Gs _,rfl,Gb _ _⟩
 case round=>
  obtain⟨k,hk,rfl,hB⟩:=hrel;have hBr:Below w.heap.size w wr:=hB1.trans (hB.mono hB1.size);have hzr:w1.heap.size<=wr.heap.size:=hB.size;by_cases hlt:k<n
  .have hr:=hrow.below hBr hbs k hlt;have hr':=hrow'.below hBr hbs' k hlt;obtain⟨c0,c1,c2,c3,c4,c5⟩:=hr;have hlt':(k:Int)<n:=by omega
   have hA:=fh wr (f k);have hM:=jl wr (f k);have m1:wr.cell? ⟨w.heap.size+1,0,none⟩=some (.slice (some ⟨b',off',none⟩) n cap'):=(hB.cell (p:=⟨w.heap.size+1,0,none⟩) (by simp;omega)).trans l1;have hne:=ay (cg wr (f k));have e0:=λx:ag (cg wr (f k))=>x.cell hM.c0
   have e1:=λx:ag (cg wr (f k))=>x.cell hM.c1
   have e2:=λx:ag (cg wr (f k))=>x.cell hM.c2
   have e3:=λx:ag (cg wr (f k))=>x.cell hM.c3
   have e4:=λx:ag (cg wr (f k))=>x.cell hM.c4
   have e5:=λx:ag (cg wr (f k))=>x.cell hM.c5
   have e6:=λx:ag (cg wr (f k))=>x.cell ((hA.cell (p:=⟨w.heap.size+1,0,none⟩) (by simp;omega)).trans m1)
   have e7:=λx:ag (cg wr (f k))=>x.cell ((hA.cell (p:=⟨b',off'+k,none⟩) (by simp;omega)).trans hr')
   simp only[Nat.zero_add]at e0 e1 e2 e3 e4 e5;have hs:=hall k hlt;gi_wp2
   refine hZ (xU _) (by kernel_rfl) (by kernel_rfl) (by kernel_rfl) ?_;repeat(go_big_quiet_step ((go_at_call 128;exact aE (lH (f k) _ _))))
   refine wpQuiet_nil (ai ?_);intro w2 hb2;gi_wp2
   go_roundw
   case rel=>exact⟨k+1,by omega,by go_num,hB.trans ((hA.trans (hb2.mono hA.size)).mono hB.size)⟩
   case measure=>simp[intOf];omega
  .have m0:wr.cell? ⟨w.heap.size,0,none⟩=some (.slice (some ⟨b,off,none⟩) n cap):=(hB.cell (p:=⟨w.heap.size,0,none⟩) (by simp;omega)).trans l0;have m1:wr.cell? ⟨w.heap.size+1,0,none⟩=some (.slice (some ⟨b',off',none⟩) n cap'):=(hB.cell (p:=⟨w.heap.size+1,0,none⟩) (by simp;omega)).trans l1;have m2:wr.cell? ⟨w.heap.size+1+1,0,none⟩=some (.bool false):=(hB.cell (p:=⟨w.heap.size+1+1,0,none⟩) (by simp;omega)).trans l2;have m3:wr.frozen? ⟨w.heap.size+1+1,0,none⟩=false:=(hB.frozen (p:=⟨w.heap.size+1+1,0,none⟩) (by simp;omega)).trans l3;gi_wp2_with (refine⟨trivial,?_⟩;gi_at_call 129;refine(callsIn_wide.2 (xV _ _)).mono ?_;rintro e w' ⟨rfl,rfl⟩)
   obtain⟨WL,hWL⟩:∃WL,wr.alloc (.cells #[.int .i64 (n:Int)] 3)=WL:=⟨_,rfl⟩;have hL:Below wr.heap.size wr WL:=hWL▸(Gb _ _).alloc (Gm _) _;have hzL:WL.heap.size=wr.heap.size+1:=by rw[<-hWL];simp
   have hcL:WL.cell? ⟨wr.heap.size,0,none⟩=some (.int .i64 (n:Int)):=by rw[<-hWL];simp
   rw[hWL];clear hWL;have hBL:Below w.heap.size w WL:=hBr.trans (hL.mono hBr.size);have p0:=(hL.cell (p:=⟨w.heap.size,0,none⟩) (by simp;omega)).trans m0;have p1:=(hL.cell (p:=⟨w.heap.size+1,0,none⟩) (by simp;omega)).trans m1;have p2:=(hL.cell (p:=⟨w.heap.size+1+1,0,none⟩) (by simp;omega)).trans m2;have p3:=(hL.frozen (p:=⟨w.heap.size+1+1,0,none⟩) (by simp;omega)).trans m3;refine wpIn_rangeFunc_ownG rfl (by omega) (gf:=148) (lb:=#[.pointer (some ⟨wr.heap.size,0,none⟩)]) rfl trivial (enters_of Tz.func148 (by kernel_rfl) rfl)
    (tK _ wr.heap.size WL.heap.size n WL hn (by omega) (Gm _) hcL) belowK_t (belowK_b (Gm _)) (Gb _ _) (λ_=>rfl)
    (λpre W=>(∀x∈pre,(f x.1.1).near (f x.1.2) (t x.1.1) (t x.1.2)=false)/\Below WL.heap.size WL W)
    (λc pre W=>(c=.ret/\bL f n t n=false)/\(W.cell? ⟨w.heap.size+1+1,0,none⟩=some (.bool false)/\W.frozen? ⟨w.heap.size+1+1,0,none⟩=false)/\Below w.heap.size w W)
    (OwnFrom.and (ownFrom_pure _ _) (ownFrom_below (Gm _) (Gm _)))
    (λc=>OwnFrom.and (ownFrom_pure _ (λ_=>c=.ret/\bL f n t n=false)) (OwnFrom.and (Own.from (λs A B row hs hg hr=>⟨cell_kept hs.1 hg hr,(frozen_kept hs.1 hg hr).trans hs.2⟩) _) (ownFrom_below (Gm _) (by omega))))
    ⟨λx hx=>by simp at hx,Gb _ _⟩
    ?a1 ?assign ?body ?done ?stop
   case assign=>
    intro l x W K hK;gi_wp2
    exact hK
   case body=>
    rintro l pre ⟨⟨i,j⟩,hij,hjn⟩ W ⟨hpre,hBW⟩ _;dsimp only at hij hjn;have hBw:Below w.heap.size w W:=hBL.trans (hBW.mono hBL.size);have hin:i<n:=by omega
    have hin':(i:Int)<n:=by omega
    have hjn':(j:Int)<n:=by omega
    have hri:=hrow.below hBw hbs i hin;have hrj:=hrow.below hBw hbs j hjn;have hti:=hrow'.below hBw hbs' i hin;have htj:=hrow'.below hBw hbs' j hjn;obtain⟨ti0,ti1⟩:=ns HM.out hin (hall i hin);obtain⟨tj0,tj1⟩:=ns HM.out hjn (hall j hjn);have hne:=ay W;have q0:=λx:ag W=>x.cell ((hBW.cell (p:=⟨w.heap.size,0,none⟩) (by simp;omega)).trans p0)
    have q1:=λx:ag W=>x.cell ((hBW.cell (p:=⟨w.heap.size+1,0,none⟩) (by simp;omega)).trans p1)
    have a0:=λx:ag W=>x.cell hri.c0
    have a1:=λx:ag W=>x.cell hri.c1
    have a2:=λx:ag W=>x.cell hri.c2
    have a3:=λx:ag W=>x.cell hri.c3
    have a4:=λx:ag W=>x.cell hri.c4
    have a5:=λx:ag W=>x.cell hri.c5
    have b0:=λx:ag W=>x.cell hrj.c0
    have b1:=λx:ag W=>x.cell hrj.c1
    have b2:=λx:ag W=>x.cell hrj.c2
    have b3:=λx:ag W=>x.cell hrj.c3
    have b4:=λx:ag W=>x.cell hrj.c4
    have b5:=λx:ag W=>x.cell hrj.c5
    have d0:=λx:ag W=>x.cell hti
    have d1:=λx:ag W=>x.cell htj
    have hzW:=hBW.size;have p2W:=(hBW.cell (p:=⟨w.heap.size+1+1,0,none⟩) (by simp;omega)).trans p2;have p3W:=(hBW.frozen (p:=⟨w.heap.size+1+1,0,none⟩) (by simp;omega)).trans p3;cases hnear:(f i).near (f j) (t i) (t j)with
    |true=>
     have HF:Hid (bL f n t n=false):=nG hij hjn hnear;gi_wp2
     refine hZ (iD _ _) (by kernel_rfl) (by kernel_rfl) (by kernel_rfl) ?_;repeat(go_big_quiet_step ((go_at_call 130;exact aE (sQ (f i) (f j) _ _ _ ti0 ti1 tj0 tj1))))
     refine wpQuiet_nil (ai ?_);intro w2 hb2;have n2:=(hb2.cell (p:=⟨w.heap.size+1+1,0,none⟩) (by simp;omega)).trans p2W;have n3:=(hb2.frozen (p:=⟨w.heap.size+1+1,0,none⟩) (by simp;omega)).trans p3W;simp only[hnear];gi_wp2
     exact⟨(Aj hb2 _).trans ((KeepsOthers.setCell _ _ _).from _),⟨rfl,HF.out⟩,⟨World.cell?_setCell_same' _ _ _ (by rw[n2];rfl),by rw[World.frozen?_setCell];exact n3⟩,(hBw.trans (hb2.mono hBw.size)).setCell (by simp;omega) _⟩
    |false=>
     have HN:Hid _:=hnear;gi_wp2
     refine hZ (iD _ _) (by kernel_rfl) (by kernel_rfl) (by kernel_rfl) ?_;repeat(go_big_quiet_step ((go_at_call 130;exact aE (sQ (f i) (f j) _ _ _ ti0 ti1 tj0 tj1))))
     refine wpQuiet_nil (ai ?_);intro w2 hb2;simp only[hnear];gi_wp2
     refine⟨Aj hb2 _,hb2.mono hzW,?_,hBW.trans (hb2.mono hzW)⟩;intro x hx;rcases GO.1 hx with h|h
     .exact hpre x h
     .simp at h;subst h;exact HN.out
   case done=>
    rintro D xs W hD hS ⟨hpre,hBW⟩ hK;have hfit:bL f n t n=true:=(gH HM.out).mpr ⟨hall,λj k hk hj=>hpre _ (hS k j ⟨hk,hj⟩)⟩;have HF:Hid _:=hfit;clear hfit;have hBw:Below w.heap.size w W:=hBL.trans (hBW.mono hBL.size);have p2W:=(hBW.cell (p:=⟨w.heap.size+1+1,0,none⟩) (by simp;omega)).trans p2;have p3W:=(hBW.frozen (p:=⟨w.heap.size+1+1,0,none⟩) (by simp;omega)).trans p3;gi_wp2
    have hK':=(KeepsOthers.setCell W ⟨w.heap.size+1+1,0,none⟩ (.bool true)).same D _ hK rfl;refine⟨by simp,.inl ⟨_,_,rfl,run_takeDeferred hK',?_⟩⟩;have hc5:=cell_kept (World.cell?_setCell_same' W ⟨w.heap.size+1+1,0,none⟩ (.bool true) (by rw[p2W];rfl)) (grownBy_putObj' _ D (.deferred none)) (λr e=>by cases e;exact⟨_,hK',rfl⟩);refine⟨.bool true,?_,by rw[HF.out],(hBw.setCell (p:=⟨w.heap.size+1+1,0,none⟩) (by simp;omega) _).trans (belowK_b (w:=w) (Gm _) _ D _ _ (by omega) hK' rfl rfl)⟩;simp[results,Tryz.f111,go_sem,hc5]
   case stop=>
    rintro D c pre W hD _ ⟨⟨rfl,hF⟩,⟨hcr,hfr⟩,hBW⟩ hK;have HF:Hid _:=hF;clear hF;gi_wp2
    refine⟨by simp,.inl ⟨_,_,rfl,run_takeDeferred hK,?_⟩⟩;have hc5:=cell_kept hcr (grownBy_putObj' _ D (.deferred none)) (λr e=>by cases e;exact⟨_,hK,rfl⟩);refine⟨.bool false,?_,by rw[HF.out],hBW.trans (belowK_b (w:=w) (Gm _) W D _ _ (by omega) hK rfl rfl)⟩;simp[results,Tryz.f111,go_sem,hc5]
theorem rP (b off n cap:Nat)(f:Nat->Mv)(b' off' m cap':Nat)(t:Nat->Int)(w:World)(hn:n<=1048576)(hm1:m<=maxLen)(hbs:b<w.heap.size)(hrow:ak w b off n f)(hbs':b'<w.heap.size)(hrow':al w b' off' m t):
  Calls Tz.prog 111 #[.slice (some ⟨b,off,none⟩) n cap,.slice (some ⟨b',off',none⟩) m cap'] w λe w'=>e=.returned (.bool (bL f n t m))/\Below w.heap.size w w':=by
 by_cases hl:m=n
 .subst hl;cases hm:aw f m with
  |false=>exact jk b off m cap f b' off' m cap' t w hn hm1 hbs hrow (.inl hm)
  |true=>
   by_cases hall:∀i,i<m->(f i).suits (t i)=true
   .exact ng b off m cap f b' off' cap' t w hbs hrow hbs' hrow' hm hall
   .exact ld b off m cap f b' off' cap' t w hn hbs hrow hbs' hrow' hm hall
 .exact jk b off n cap f b' off' m cap' t w hn hm1 hbs hrow (.inr hl)
end Go.Proofs.YtlmcblcijndipabGreatDoor
namespace Go.Proofs.YtlmcblcijndipabGreatDoor
open Go.RowKit
def ez (now:Int)(m:Mv)(t:Int):Bool:=!(decide (t<now)||decide (t<now+4)&&m.prom==-1)
def jw (now:Int)(f:Nat->Mv)(t:Nat->Int)(n:Nat):Bool:=(List.range n).all λi=>ez now (f i) (t i)
def aV (now shift:Int)(f:Nat->Mv)(n:Nat)(t:Nat->Int)(m:Nat):Bool:=dN now 0 10000&&dN shift 0 6&&bL f n t m&&jw now f t n
theorem lu {now:Int}{f:Nat->Mv}{t:Nat->Int}{n i:Nat}(hi:i<n)(h:ez now (f i) (t i)=false):jw now f t n=false:=by
 rw[Bool.eq_false_iff];intro hh;unfold jw at hh;simp only[List.all_eq_true,List.mem_range]at hh;rw[hh i hi]at h;cases h
theorem qx {now:Int}{f:Nat->Mv}{t:Nat->Int}{n:Nat}(h:∀i,i<n->ez now (f i) (t i)=true):jw now f t n=true:=by
 unfold jw;simp only[List.all_eq_true,List.mem_range];exact h
theorem kD {now shift:Int}{f:Nat->Mv}{n:Nat}{t:Nat->Int}{m:Nat}(h:bL f n t m=false):aV now shift f n t m=false:=by unfold aV;simp[h]
theorem mg {now shift:Int}{f:Nat->Mv}{n:Nat}{t:Nat->Int}{m:Nat}(h:dN now 0 10000=false):aV now shift f n t m=false:=by unfold aV;simp[h]
theorem jy {now shift:Int}{f:Nat->Mv}{n:Nat}{t:Nat->Int}{m:Nat}(h:dN shift 0 6=false):aV now shift f n t m=false:=by unfold aV;simp[h]
theorem iG {now shift:Int}{f:Nat->Mv}{n:Nat}{t:Nat->Int}{m:Nat}(h:jw now f t n=false):aV now shift f n t m=false:=by unfold aV;simp[h]
theorem qy {now shift:Int}{f:Nat->Mv}{n:Nat}{t:Nat->Int}{m:Nat}(h1:dN now 0 10000=true)(h2:dN shift 0 6=true)(h3:bL f n t m=true)(h4:jw now f t n=true):aV now shift f n t m=true:=by unfold aV;simp[h1,h2,h3,h4]
theorem kE {f:Nat->Mv}{n m:Nat}{t:Nat->Int}(h:bL f n t m=true):aw f n=true/\m=n/\dU f t n:=by
 have hm:aw f n=true:=by
  cases e:aw f n with
  |true=>rfl
  |false=>rw[fc e]at h;cases h
 have hl:m=n:=by
  by_cases e:m=n
  .exact e
  .rw[lG e]at h;cases h
 subst hl;exact⟨hm,rfl,(gH hm).mp h⟩
theorem rQ {n lo hi:Int}:dN n lo hi=true<->lo<=n/\n<=hi:=by unfold dN;simp
abbrev Ak (w:World)(now shift:Int)(a:Option Addr)(n cap:Nat)(a':Option Addr)(m cap':Nat):World:=w.alloc (.cells #[.int .i64 now,.int .i64 shift,.slice a n cap,.slice a' m cap'] 32)
structure vB (w:World)(B:Nat)(now shift:Int)(a:Option Addr)(n cap:Nat)(a':Option Addr)(m cap':Nat):Prop where
 c0:w.cell? ⟨B,0,none⟩=some (.int .i64 now)
 c1:w.cell? ⟨B,1,none⟩=some (.int .i64 shift)
 c2:w.cell? ⟨B,2,none⟩=some (.slice a n cap)
 c3:w.cell? ⟨B,3,none⟩=some (.slice a' m cap')
theorem t7 (w:World)(now shift:Int)(a:Option Addr)(n cap:Nat)(a':Option Addr)(m cap':Nat):vB (Ak w now shift a n cap a' m cap') w.heap.size now shift a n cap a' m cap':=by
 constructor<;>simp[Ak]
theorem vB.below {N B:Nat}{w w':World}{now shift:Int}{a:Option Addr}{n cap:Nat}{a':Option Addr}{m cap':Nat}(h:vB w B now shift a n cap a' m cap')(hb:Below N w w')(hB:B<N):vB w' B now shift a n cap a' m cap':=
 ⟨(hb.cell hB).trans h.c0,(hb.cell hB).trans h.c1,(hb.cell hB).trans h.c2,(hb.cell hB).trans h.c3⟩
theorem mV (w:World)(now shift:Int)(a:Option Addr)(n cap:Nat)(a':Option Addr)(m cap':Nat):Below w.heap.size w (Ak w now shift a n cap a' m cap'):=(Gb _ _).alloc (Gm _) _
theorem qz (now:Int){m:Mv}(t:Int)(hok:m.ok=true):
  (ez now m t=false/\decide (t<now)=true)\/(ez now m t=true/\decide (t<now)=false/\decide (t<now+4)=false)
  \/(ez now m t=false/\decide (t<now)=false/\decide (t<now+4)=true/\m.prom=-1)\/(ez now m t=true/\decide (t<now)=false/\decide (t<now+4)=true/\0<=m.prom):=by
 have hb:=Mv.ok_bd hok;unfold ez;by_cases h1:t<now
 .left;simp[h1]
 .by_cases h2:t<now+4
  .rcases hb.2.2.2.1 with h3|h3
   .right;right;left;simp[h1,h2,h3]
   .right;right;right;have:m.prom≠-1:=by omega
    simp[h1,h2,this];omega
  .right;left;simp[h1,h2]
theorem ly (now shift:Int)(b off n cap:Nat)(f:Nat->Mv)(b' off' m cap':Nat)(t:Nat->Int)(w:World)(hn:n<=1048576)(hm1:m<=maxLen)(hbs:b<w.heap.size)(hrow:ak w b off n f)(hf:∀i,i<n->(f i).Fits)(hbs':b'<w.heap.size)(hrow':al w b' off' m t):
  Calls Tz.prog 30 #[.agg #[.int .i64 now,.int .i64 shift,.slice (some ⟨b,off,none⟩) n cap,.slice (some ⟨b',off',none⟩) m cap']] w λe w'=>e=.returned (.bool (aV now shift f n t m))/\Below w.heap.size w w':=by
 have bA:=mV w now shift (some ⟨b,off,none⟩) n cap (some ⟨b',off',none⟩) m cap';have hA:=t7 w now shift (some ⟨b,off,none⟩) n cap (some ⟨b',off',none⟩) m cap';have H1:=rF b off n cap f b' off' m cap' t _ hn hm1 (Gn hbs bA.size) (hrow.below bA hbs) hf (Gn hbs' bA.size) (hrow'.below bA hbs');cases h1:dN now 0 10000 with
 |false=>
  have HB:Hid (aV now shift f n t m=false):=mg h1;go_enter Tz.func30,Tryz.ntmps30
  go_wp2_with(go_at_call 59;refine(dQ _ _ _ _).mono ?_;rintro e w' ⟨rfl,rfl⟩)
  go_ret;exact⟨aK HB.out.symm,bA⟩
 |true=>
  cases h2:dN shift 0 6 with
  |false=>
   have HB:Hid (aV now shift f n t m=false):=jy h2;go_enter Tz.func30,Tryz.ntmps30
   go_wp2_with(go_at_call 59;refine(dQ _ _ _ _).mono ?_;rintro e w' ⟨rfl,rfl⟩)
   go_ret;exact⟨aK HB.out.symm,bA⟩
  |true=>
   cases h3:bL f n t m with
   |false=>
    have HB:Hid (aV now shift f n t m=false):=kD h3;rw[h3]at H1;go_enter Tz.func30,Tryz.ntmps30
    go_wp2_with(first|(go_at_call 59;refine(dQ _ _ _ _).mono ?_;rintro e w' ⟨rfl,rfl⟩)|(go_at_call 60;refine H1.mono ?_;clear H1;rintro e w1 ⟨rfl,b1⟩))
    go_ret;exact⟨aK HB.out.symm,bA.trans (b1.mono bA.size)⟩
   |true=>
    obtain⟨hm,rfl,hfit⟩:=kE h3;have h6:=aN hm;have HM:Hid (aw f m=true):=hm;have HY:Hid (jw now f t m=true->aV now shift f m t m=true):=by
     have h:jw now f t m=true->aV now shift f m t m=true:=λh4=>qy h1 h2 h3 h4
     exact h
    have hnow:=rQ.mp h1;have hwr:IntKind.i64.wrap (now+4)=now+4:=by rw[IntKind.wrap_i64];omega
    rw[h3]at H1;clear hm hfit;go_enter Tz.func30,Tryz.ntmps30
    go_wp2_with(first|(go_at_call 59;refine(dQ _ _ _ _).mono ?_;rintro e w' ⟨rfl,rfl⟩)|(go_at_call 60;refine H1.mono ?_;clear H1;rintro e w1 ⟨rfl,b1⟩))
    have hB1:Below w.heap.size w w1:=bA.trans (b1.mono bA.size);have hz1:w.heap.size<w1.heap.size:=Gn (by simp) b1.size;have hA1:=hA.below b1 (by simp);clear hA b1;go_loopw [3] (λx wr=>∃k:Nat,k<=m/\x=.int .i64 k/\(∀j,j<k->ez now (f j) (t j)=true)/\Below w1.heap.size w1 wr) (λx _=>m-(intOf x).toNat)
    case atStart=>exact⟨0,Gs _,rfl,λj hj=>absurd hj (Gr _),Gb _ _⟩
    case round=>
     obtain⟨k,hk,rfl,hall,hB⟩:=hrel;have hBr:Below w.heap.size w wr:=hB1.trans (hB.mono hB1.size);obtain⟨a0,a1,a2,a3⟩:=hA1.below hB hz1;by_cases hlt:k<m
     .have hlt':(k:Int)<m:=by omega
      have hr':=hrow'.below hBr hbs' k hlt;have hr:=hrow.below hBr hbs k hlt;have hne:=ay wr;have x0:=λx:ag wr=>x.cell a0
      have x2:=λx:ag wr=>x.cell a2
      have x3:=λx:ag wr=>x.cell a3
      have y5:=λx:ag wr=>x.cell hr.c5
      have y6:=λx:ag wr=>x.cell hr'
      rcases qz now (t k) (aS HM.out k hlt)with⟨hs,d1⟩|⟨hs,d1,d2⟩|⟨hs,d1,d2,d3⟩|⟨hs,d1,d2,d3⟩
      .have HB:Hid (aV now shift f m t m=false):=iG (lu hlt hs);have D1:Hid (decide (t k<now)=true):=d1;clear hs d1;go_wp2;have d1:=D1.out;refine af (by kernel_rfl) (by kernel_rfl) ?_;repeat(go_big_quiet_step (fail))
       refine wpQuiet_nil (ai ?_);intro w2 hb2;go_wp2;go_ret;exact⟨aK HB.out.symm,hBr.trans (hb2.mono hBr.size)⟩
      .have HS:Hid (ez now (f k) (t k)=true):=hs;have D1:Hid (decide (t k<now)=false):=d1;have D2:Hid (decide (t k<now+4)=false):=d2;clear hs d1 d2;go_wp2;have d1:=D1.out;have d2:=D2.out;refine af (by kernel_rfl) (by kernel_rfl) ?_;repeat(go_big_quiet_step (fail))
       refine wpQuiet_nil (ai ?_);intro w2 hb2;go_wp2;go_roundw
       case rel=>exact⟨k+1,by omega,by go_num,λj hj=>by
        by_cases e:j=k
        .subst e;exact HS.out
        .exact hall j (by omega),hB.trans (hb2.mono hB.size)⟩
       case measure=>simp[intOf];omega
      .have HB:Hid (aV now shift f m t m=false):=iG (lu hlt hs);have D1:Hid (decide (t k<now)=false):=d1;have D2:Hid (decide (t k<now+4)=true):=d2;have D3:Hid (decide ((f k).prom<0)=true):=by
        have h:decide ((f k).prom<0)=true:=by rw[d3];rfl
        exact h
       clear hs d1 d2 d3;go_wp2;have d1:=D1.out;have d2:=D2.out;have d3:=D3.out;refine af (by kernel_rfl) (by kernel_rfl) ?_;repeat(go_big_quiet_step (fail))
       refine wpQuiet_nil (ai ?_);intro w2 hb2;go_wp2;go_ret;exact⟨aK HB.out.symm,hBr.trans (hb2.mono hBr.size)⟩
      .have HS:Hid (ez now (f k) (t k)=true):=hs;have D1:Hid (decide (t k<now)=false):=d1;have D2:Hid (decide (t k<now+4)=true):=d2;have D3:Hid (decide ((f k).prom<0)=false):=by
        have h:decide ((f k).prom<0)=false:=by simpa using d3
        exact h
       clear hs d1 d2 d3;go_wp2;have d1:=D1.out;have d2:=D2.out;have d3:=D3.out;refine af (by kernel_rfl) (by kernel_rfl) ?_;repeat(go_big_quiet_step (fail))
       refine wpQuiet_nil (ai ?_);intro w2 hb2;go_wp2;go_roundw
       case rel=>exact⟨k+1,by omega,by go_num,λj hj=>by
        by_cases e:j=k
        .subst e;exact HS.out
        .exact hall j (by omega),hB.trans (hb2.mono hB.size)⟩
       case measure=>simp[intOf];omega
     .have HB:Hid (aV now shift f m t m=true):=by
       have h:aV now shift f m t m=true:=HY.out (qx (λi hi=>hall i (by omega)));exact h
      go_wp2;go_ret;exact⟨aK HB.out.symm,hBr⟩
theorem lA (now shift:Int)(b off n cap:Nat)(f:Nat->Mv)(b' off' m cap':Nat)(t:Nat->Int)(w:World)(hn:n<=1048576)(hm1:m<=maxLen)(hbs:b<w.heap.size)(hrow:ak w b off n f)(hbs':b'<w.heap.size)(hrow':al w b' off' m t):
  Calls Tz.prog 90 #[.agg #[.int .i64 now,.int .i64 shift,.slice (some ⟨b,off,none⟩) n cap,.slice (some ⟨b',off',none⟩) m cap']] w λe w'=>e=.returned (.bool (aV now shift f n t m))/\Below w.heap.size w w':=by
 have bA:=mV w now shift (some ⟨b,off,none⟩) n cap (some ⟨b',off',none⟩) m cap';have hA:=t7 w now shift (some ⟨b,off,none⟩) n cap (some ⟨b',off',none⟩) m cap';have H1:=rP b off n cap f b' off' m cap' t _ hn hm1 (Gn hbs bA.size) (hrow.below bA hbs) (Gn hbs' bA.size) (hrow'.below bA hbs');cases h1:dN now 0 10000 with
 |false=>
  have HB:Hid (aV now shift f n t m=false):=mg h1;have q:now<0\/¬now<0/\10000<now:=by unfold dN at h1;simp at h1;omega
  clear h1;rcases q with q|⟨q,q'⟩;all_goals
   go_enter Tz.func90,Tryz.ntmps90
   go_wp2;go_ret;exact⟨aK HB.out.symm,bA⟩
 |true=>
  have hnow:=rQ.mp h1;have q1:¬now<0:=by omega
  have q2:¬10000<now:=by omega
  cases h2:dN shift 0 6 with
  |false=>
   have HB:Hid (aV now shift f n t m=false):=jy h2;have q:shift<0\/¬shift<0/\6<shift:=by unfold dN at h2;simp at h2;omega
   clear h2;rcases q with q|⟨q,q'⟩;all_goals
    go_enter Tz.func90,Tryz.ntmps90
    go_wp2;go_ret;exact⟨aK HB.out.symm,bA⟩
  |true=>
   have hsh:=rQ.mp h2;have q3:¬shift<0:=by omega
   have q4:¬6<shift:=by omega
   cases h3:bL f n t m with
   |false=>
    have HB:Hid (aV now shift f n t m=false):=kD h3;rw[h3]at H1;go_enter Tz.func90,Tryz.ntmps90
    go_wp2_with(go_at_call 111;refine H1.mono ?_;clear H1;rintro e w1 ⟨rfl,b1⟩)
    go_ret;exact⟨aK HB.out.symm,bA.trans (b1.mono bA.size)⟩
   |true=>
    obtain⟨hm,rfl,hfit⟩:=kE h3;have h6:=aN hm;have HM:Hid (aw f m=true):=hm;have HY:Hid (jw now f t m=true->aV now shift f m t m=true):=by
     have h:jw now f t m=true->aV now shift f m t m=true:=λh4=>qy h1 h2 h3 h4
     exact h
    have hwr:IntKind.i64.wrap (now+4)=now+4:=by rw[IntKind.wrap_i64];omega
    rw[h3]at H1;clear hm hfit;obtain⟨p0,p1,p2,p3⟩:=hA;go_enter Tz.func90,Tryz.ntmps90
    go_wp2_with(go_at_call 111;refine H1.mono ?_;clear H1;rintro e w1 ⟨rfl,b1⟩;obtain⟨g0,g1,g2,g3⟩:=(vB.mk p0 p1 p2 p3).below b1 (by simp))
    have hB1:Below w.heap.size w w1:=bA.trans (b1.mono bA.size);have hz1:w.heap.size<w1.heap.size:=Gn (by simp) b1.size;have hA1:=vB.mk g0 g1 g2 g3;clear p0 p1 p2 p3 b1;go_loopw [32] (λx wr=>∃k:Nat,k<=m/\x=.int .i64 k/\(∀j,j<k->ez now (f j) (t j)=true)/\Below w1.heap.size w1 wr) (λx _=>m-(intOf x).toNat)
    case atStart=>exact⟨0,Gs _,rfl,λj hj=>absurd hj (Gr _),Gb _ _⟩
    case round=>
     obtain⟨k,hk,rfl,hall,hB⟩:=hrel;have hBr:Below w.heap.size w wr:=hB1.trans (hB.mono hB1.size);by_cases hlt:k<m
     .have hlt':(k:Int)<m:=by omega
      have hr':=hrow'.below hBr hbs' k hlt;obtain⟨c0,c1,c2,c3,c4,c5⟩:=hrow.below hBr hbs k hlt;have hA2:=hA1.below hB hz1;have bM:=fh wr (f k);have hM:=jl wr (f k);have lz:w.heap.size<wr.heap.size:=Gn hz1 hB.size;have hA3:=hA2.below bM lz;have hr3:(cg wr (f k)).cell? ⟨b',off'+k,none⟩=some (.int .i64 (t k)):=(bM.cell (p:=⟨b',off'+k,none⟩) (Gn hbs' hBr.size)).trans hr';have hne:=ay (cg wr (f k));have x0:=λx:ag (cg wr (f k))=>x.cell hA3.c0
      have x3:=λx:ag (cg wr (f k))=>x.cell hA3.c3
      have y6:=λx:ag (cg wr (f k))=>x.cell hr3
      rcases qz now (t k) (aS HM.out k hlt)with⟨hs,d1⟩|⟨hs,d1,d2⟩|⟨hs,d1,d2,d3⟩|⟨hs,d1,d2,d3⟩
      .have HB:Hid (aV now shift f m t m=false):=iG (lu hlt hs);have D1:Hid (decide (t k<now)=true):=d1;clear hs d1;go_wp2;have d1:=D1.out;refine af (by kernel_rfl) (by kernel_rfl) ?_;repeat(go_big_quiet_step (fail))
       refine wpQuiet_nil (ai ?_);intro w2 hb2;go_wp2;go_ret;exact⟨aK HB.out.symm,hBr.trans ((bM.trans (hb2.mono bM.size)).mono hBr.size)⟩
      .have HS:Hid (ez now (f k) (t k)=true):=hs;have D1:Hid (decide (t k<now)=false):=d1;have D2:Hid (decide (t k<now+4)=false):=d2;clear hs d1 d2;go_wp2;have d1:=D1.out;refine af (by kernel_rfl) (by kernel_rfl) ?_;repeat(go_big_quiet_step (fail))
       refine wpQuiet_nil (ai ?_);intro w2 hb2;have hq2:Below wr.heap.size wr w2:=bM.trans (hb2.mono bM.size);have hM2:=hM.below hb2 (by simp);have hA4:=hA3.below hb2 (Gn lz bM.size);have hr4:w2.cell? ⟨b',off'+k,none⟩=some (.int .i64 (t k)):=(hb2.cell (p:=⟨b',off'+k,none⟩) (Gn (Gn hbs' hBr.size) bM.size)).trans hr3;clear x0 x3 y6 hne d1;have hne:=ay w2;have x0:=λx:ag w2=>x.cell hA4.c0
       have x3:=λx:ag w2=>x.cell hA4.c3
       have y6:=λx:ag w2=>x.cell hr4
       have z5:=λx:ag w2=>x.cell hM2.c5
       simp only[Nat.zero_add]at z5;have D4:Hid (((f k).prom==-1)=true\/((f k).prom==-1)=false):=by
        have h:((f k).prom==-1)=true\/((f k).prom==-1)=false:=by cases ((f k).prom==-1)<;>simp
        exact h
       go_wp2;have d2:=D2.out;rcases D4.out with d4|d4;all_goals
        refine af (by kernel_rfl) (by kernel_rfl) ?_;repeat(go_big_quiet_step (fail))
        refine wpQuiet_nil (ai ?_);intro w3 hb3;go_wp2;go_roundw
        case rel=>exact⟨k+1,by omega,by go_num,λj hj=>by
         by_cases e:j=k
         .subst e;exact HS.out
         .exact hall j (by omega),hB.trans ((hq2.trans (hb3.mono hq2.size)).mono hB.size)⟩
        case measure=>simp[intOf];omega
      .have HB:Hid (aV now shift f m t m=false):=iG (lu hlt hs);have D1:Hid (decide (t k<now)=false):=d1;have D2:Hid (decide (t k<now+4)=true):=d2;have D3:Hid (((f k).prom==-1)=true):=by
        have h:((f k).prom==-1)=true:=by rw[d3];rfl
        exact h
       clear hs d1 d2 d3;go_wp2;have d1:=D1.out;refine af (by kernel_rfl) (by kernel_rfl) ?_;repeat(go_big_quiet_step (fail))
       refine wpQuiet_nil (ai ?_);intro w2 hb2;have hq2:Below wr.heap.size wr w2:=bM.trans (hb2.mono bM.size);have hM2:=hM.below hb2 (by simp);have hA4:=hA3.below hb2 (Gn lz bM.size);have hr4:w2.cell? ⟨b',off'+k,none⟩=some (.int .i64 (t k)):=(hb2.cell (p:=⟨b',off'+k,none⟩) (Gn (Gn hbs' hBr.size) bM.size)).trans hr3;clear x0 x3 y6 hne d1;have hne:=ay w2;have x0:=λx:ag w2=>x.cell hA4.c0
       have x3:=λx:ag w2=>x.cell hA4.c3
       have y6:=λx:ag w2=>x.cell hr4
       have z5:=λx:ag w2=>x.cell hM2.c5
       simp only[Nat.zero_add]at z5;go_wp2;have d2:=D2.out;have d3:=D3.out;refine af (by kernel_rfl) (by kernel_rfl) ?_;repeat(go_big_quiet_step (fail))
       refine wpQuiet_nil (ai ?_);intro w3 hb3;go_wp2;go_ret;exact⟨aK HB.out.symm,hBr.trans ((hq2.trans (hb3.mono hq2.size)).mono hBr.size)⟩
      .have HS:Hid (ez now (f k) (t k)=true):=hs;have D1:Hid (decide (t k<now)=false):=d1;have D2:Hid (decide (t k<now+4)=true):=d2;have D3:Hid (((f k).prom==-1)=false):=by
        have h:((f k).prom==-1)=false:=by simp;omega
        exact h
       clear hs d1 d2 d3;go_wp2;have d1:=D1.out;refine af (by kernel_rfl) (by kernel_rfl) ?_;repeat(go_big_quiet_step (fail))
       refine wpQuiet_nil (ai ?_);intro w2 hb2;have hq2:Below wr.heap.size wr w2:=bM.trans (hb2.mono bM.size);have hM2:=hM.below hb2 (by simp);have hA4:=hA3.below hb2 (Gn lz bM.size);have hr4:w2.cell? ⟨b',off'+k,none⟩=some (.int .i64 (t k)):=(hb2.cell (p:=⟨b',off'+k,none⟩) (Gn (Gn hbs' hBr.size) bM.size)).trans hr3;clear x0 x3 y6 hne d1;have hne:=ay w2;have x0:=λx:ag w2=>x.cell hA4.c0
       have x3:=λx:ag w2=>x.cell hA4.c3
       have y6:=λx:ag w2=>x.cell hr4
       have z5:=λx:ag w2=>x.cell hM2.c5
       simp only[Nat.zero_add]at z5;go_wp2;have d2:=D2.out;have d3:=D3.out;refine af (by kernel_rfl) (by kernel_rfl) ?_;repeat(go_big_quiet_step (fail))
       refine wpQuiet_nil (ai ?_);intro w3 hb3;go_wp2;go_roundw
       case rel=>exact⟨k+1,by omega,by go_num,λj hj=>by
        by_cases e:j=k
        .subst e;exact HS.out
        .exact hall j (by omega),hB.trans ((hq2.trans (hb3.mono hq2.size)).mono hB.size)⟩
       case measure=>simp[intOf];omega
     .have HB:Hid (aV now shift f m t m=true):=by
       have h:aV now shift f m t m=true:=HY.out (qx (λi hi=>hall i (by omega)));exact h
      go_wp2;go_ret;exact⟨aK HB.out.symm,hBr⟩
