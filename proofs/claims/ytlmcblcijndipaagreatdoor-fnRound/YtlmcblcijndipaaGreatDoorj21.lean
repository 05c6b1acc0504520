import Derived.Test.YtlmcblcijndipaaGreatDoorj20
set_option maxHeartbeats 4000000
set_option maxRecDepth 100000
namespace Go.Proofs.YtlmcblcijndipaaGreatDoor
open Go.RowKit Go.Shelf
attribute [local go_sem] Oper.semAt_some
set_option linter.unusedVariables false
theorem LH {W W':World}(h:Below W W W')(B:Nat):KeepsFrom B W W':=
 ⟨h.size,λk o _ hk _=>(h.block k (acm.1 hk).1).trans hk⟩
theorem uV (b off n cap:Nat)(f:Nat->Mv)(b' aW cap':Nat)(t:Nat->Int)(w:World)(bw:b<w)(aq:aM w b off n f)(bc:b'<w)(aK:aB w b' aW n t)(hm:aG f n=true)(cP:∀i,i<n->(f i).eV (t i)=true):
  Calls Tz.prog 50 #[.slice (some ⟨b,off,none⟩) n cap,.slice (some ⟨b',aW,none⟩) n cap'] w λe w'=>e=.returned (.bool (dY f n t n))/\Below w w w':=by
 have h6:=cg hm;have hn:n<=1048576:=ab;have HM:Hid _:=hm;have mQ:∀o1 o2 o3,Below w w (((w.alloc o1).alloc o2).alloc o3):=λo1 o2 o3=>(((aca _ w).alloc (ack _) _).alloc aH _).alloc cC _
 refine(callsIn_wide (n:=9)).1 ?_;refine callsIn_of_wp_marks Tz.func50 rfl trivial ?_ rfl;simp only[Tryz.ntmps50,List.size_toArray,List.length_cons,List.length_nil,Nat.reduceAdd,Nat.reduceSub,Array.replicate_succ,Array.replicate_zero,List.push_toArray,List.append_toArray,List.nil_append,List.cons_append];gi_wp2_with (refine⟨trivial,?_⟩;gi_at_call 75;refine(callsIn_wide.2 (fG _ _ _ _ f _ hn cC (aq.below (mQ _ _ _) bw))).mono ?_;rintro e w1 ⟨rfl,bF⟩;obtain⟨kJ,uQ⟩:=jr bF)
 have hz:=bF.size;simp at hz;have mS:Below w w w1:=(mQ _ _ _).trans (bF.mono (mQ _ _ _).size);have l0:w1.cell? w.heap.size=some (.slice (some ⟨b,off,none⟩) n cap):=by rw[kJ w.heap.size 0 cC];simp[go_sem]
 have l1:w1.cell? ⟨w.heap.size+1,0,none⟩=some (.slice (some ⟨b',aW,none⟩) n cap'):=by rw[kJ (w.heap.size+1) 0 aH];simp[go_sem]
 have l2:w1.cell? ⟨w.heap.size+1+1,0,none⟩=some (.bool false):=by rw[kJ (w.heap.size+1+1) 0 aH];simp[go_sem]
 have l3:w1.frozen? ⟨w.heap.size+1+1,0,none⟩=false:=by rw[uQ (w.heap.size+1+1) 0 aH];simp[go_sem]
 clear kJ uQ bF;gi_loopw [21] (λi wr=>∃k:Nat,k<=n/\i=.int .i64 k/\Below w1 w1 wr) (λi _=>n-(intOf i).toNat)
 case atStart=>exact⟨0,acp _,rfl,aca _ _⟩
 case round=>
  obtain⟨k,hk,rfl,hB⟩:=hrel;have fK:Below w w wr:=mS.trans (hB.mono mS.size);have hzr:w1.heap.size<=wr:=hB.size;by_cases aI:k<n
  .have hr:=aq.below fK bw k aI;have eM:=aK.below fK bc k aI;obtain⟨c0,c1,c2,c3,c4,c5⟩:=hr;have dG:(k:Int)<n:=ab;have hA:=fO wr (f k);have hM:=kC wr (f k);have m1:wr.cell? ⟨w.heap.size+1,0,none⟩=some (.slice (some ⟨b',aW,none⟩) n cap'):=(hB.cell (p:=⟨w.heap.size+1,0,none⟩) cC).trans l1;have hne:=aE (dj wr (f k));have e0:=λx:aj (dj wr (f k))=>x.cell hM.c0
   have e1:=λx:aj (dj wr (f k))=>x.cell hM.c1
   have e2:=λx:aj (dj wr (f k))=>x.cell hM.c2
   have e3:=λx:aj (dj wr (f k))=>x.cell hM.c3
   have e4:=λx:aj (dj wr (f k))=>x.cell hM.c4
   have e5:=λx:aj (dj wr (f k))=>x.cell hM.c5
   have e6:=λx:aj (dj wr (f k))=>x.cell ((hA.cell (p:=⟨w.heap.size+1,0,none⟩) cC).trans m1)
   have e7:=λx:aj (dj wr (f k))=>x.cell ((hA.cell (p:=⟨b',aW+k,none⟩) cC).trans eM)
   simp only[Nat.zero_add]at e0 e1 e2 e3 e4 e5;have hs:=cP k aI;gi_wp2
   refine mH (Iq0 _) bR bR bR ?_;repeat(go_big_quiet_step ((go_at_call 76;exact bP (tR (f k) _ _))))
   refine wpQuiet_nil (ak ?_);intro w2 cH;gi_wp2
   go_roundw
   case rel=>exact⟨k+1,ab,by go_num,hB.trans ((hA.trans (cH.mono hA.size)).mono hB.size)⟩
   case measure=>exact cf
  .have m0:wr.cell? w.heap.size=some (.slice (some ⟨b,off,none⟩) n cap):=(hB.cell (p:=w.heap.size) cC).trans l0;have m1:wr.cell? ⟨w.heap.size+1,0,none⟩=some (.slice (some ⟨b',aW,none⟩) n cap'):=(hB.cell (p:=⟨w.heap.size+1,0,none⟩) cC).trans l1;have m2:wr.cell? ⟨w.heap.size+1+1,0,none⟩=some (.bool false):=(hB.cell (p:=⟨w.heap.size+1+1,0,none⟩) cC).trans l2;have m3:wr.frozen? ⟨w.heap.size+1+1,0,none⟩=false:=(hB.frozen (p:=⟨w.heap.size+1+1,0,none⟩) cC).trans l3;gi_wp2_with (refine⟨trivial,?_⟩;gi_at_call 77;refine(callsIn_wide.2 (zg _ _)).mono ?_;rintro e w' ⟨rfl,rfl⟩)
   obtain⟨WL,K2⟩:∃WL,wr.alloc (.cells #[.int .i64 (n:Int)] 3)=WL:=⟨_,rfl⟩;have hL:Below wr wr WL:=K2▸(aca _ _).alloc (ack _) _;have hzL:WL.heap.size=wr.heap.size+1:=by rw[<-K2];simp
   have Z':WL.cell? wr.heap.size=some (.int .i64 (n:Int)):=by rw[<-K2];simp
   rw[K2];clear K2;have Sk:Below w w WL:=fK.trans (hL.mono fK.size);have p0:=(hL.cell (p:=w.heap.size) cC).trans m0;have p1:=(hL.cell (p:=⟨w.heap.size+1,0,none⟩) cC).trans m1;have p2:=(hL.cell (p:=⟨w.heap.size+1+1,0,none⟩) cC).trans m2;have p3:=(hL.frozen (p:=⟨w.heap.size+1+1,0,none⟩) cC).trans m3;refine wpIn_rangeFunc_ownG rfl ab (gf:=108) (lb:=#[.pointer wr.heap.size]) rfl trivial (enters_of Tz.func108 bR rfl)
    (us _ wr.heap.size WL.heap.size n WL hn ab (ack _) Z') belowK_t (belowK_b (ack _)) (aca _ _) (λ_=>rfl)
    (λpre W=>(∀x∈pre,(f x.1.1).gt (f x.1.2) (t x.1.1) (t x.1.2)=false)/\Below WL WL W)
    (λc pre W=>(c=.ret/\dY f n t n=false)/\(W.cell? ⟨w.heap.size+1+1,0,none⟩=some (.bool false)/\W.frozen? ⟨w.heap.size+1+1,0,none⟩=false)/\Below w w W)
    (OwnFrom.and (ownFrom_pure _ _) (ownFrom_below (ack _) (ack _)))
    (λc=>OwnFrom.and (ownFrom_pure _ (λ_=>c=.ret/\dY f n t n=false)) (OwnFrom.and (Own.from (λs A B row hs hg hr=>⟨cell_kept hs.1 hg hr,(frozen_kept hs.1 hg hr).trans hs.2⟩) _) (ownFrom_below (ack _) ab)))
    ⟨λx hx=>by simp at hx,aca _ _⟩
    ?a1 ?assign ?body ?done ?stop
   case assign=>
    intro l x W K hK;gi_wp2
    exact hK
   case body=>
    rintro l pre ⟨⟨i,j⟩,lI,Nq⟩ W ⟨Lq,Ae⟩ _;dsimp only at lI Nq;have Nl:Below w w W:=Sk.trans (Ae.mono Sk.size);have gY:i<n:=ab;have SU:(i:Int)<n:=ab;have abt:(j:Int)<n:=ab;have IA:=aq.below Nl bw i gY;have UP:=aq.below Nl bw j Nq;have US:=aK.below Nl bc i gY;have htj:=aK.below Nl bc j Nq;obtain⟨ti0,ti1⟩:=vk HM.out gY (cP i gY);obtain⟨tj0,tj1⟩:=vk HM.out Nq (cP j Nq);have hne:=aE W;have q0:=λx:aj W=>x.cell ((Ae.cell (p:=w.heap.size) cC).trans p0)
    have q1:=λx:aj W=>x.cell ((Ae.cell (p:=⟨w.heap.size+1,0,none⟩) cC).trans p1)
    have a0:=λx:aj W=>x.cell IA.c0
    have a1:=λx:aj W=>x.cell IA.c1
    have a2:=λx:aj W=>x.cell IA.c2
    have a3:=λx:aj W=>x.cell IA.c3
    have a4:=λx:aj W=>x.cell IA.c4
    have a5:=λx:aj W=>x.cell IA.c5
    have b0:=λx:aj W=>x.cell UP.c0
    have b1:=λx:aj W=>x.cell UP.c1
    have b2:=λx:aj W=>x.cell UP.c2
    have b3:=λx:aj W=>x.cell UP.c3
    have b4:=λx:aj W=>x.cell UP.c4
    have b5:=λx:aj W=>x.cell UP.c5
    have d0:=λx:aj W=>x.cell US
    have d1:=λx:aj W=>x.cell htj
    have Tm:=Ae.size;have X2:=(Ae.cell (p:=⟨w.heap.size+1+1,0,none⟩) cC).trans p2;have p3W:=(Ae.frozen (p:=⟨w.heap.size+1+1,0,none⟩) cC).trans p3;cases oa:(f i).gt (f j) (t i) (t j)with
    |true=>
     have HF:Hid (dY f n t n=false):=vT lI Nq oa;gi_wp2
     refine mH (nB _ _) bR bR bR ?_;repeat(go_big_quiet_step ((go_at_call 78;exact bP (CH (f i) (f j) _ _ _ ti0 ti1 tj0 tj1))))
     refine wpQuiet_nil (ak ?_);intro w2 cH;have n2:=(cH.cell (p:=⟨w.heap.size+1+1,0,none⟩) cC).trans X2;have n3:=(cH.frozen (p:=⟨w.heap.size+1+1,0,none⟩) cC).trans p3W;simp only[oa];gi_wp2
     exact⟨(LH cH _).trans ((KeepsOthers.setCell _ _ _).from _),⟨rfl,HF.out⟩,⟨World.cell?_setCell_same' _ _ _ (by rw[n2];rfl),by rw[World.frozen?_setCell];exact n3⟩,(Nl.trans (cH.mono Nl.size)).setCell cC _⟩
    |false=>
     have HN:Hid _:=oa;gi_wp2
     refine mH (nB _ _) bR bR bR ?_;repeat(go_big_quiet_step ((go_at_call 78;exact bP (CH (f i) (f j) _ _ _ ti0 ti1 tj0 tj1))))
     refine wpQuiet_nil (ak ?_);intro w2 cH;simp only[oa];gi_wp2
     refine⟨LH cH _,cH.mono Tm,?_,Ae.trans (cH.mono Tm)⟩;intro x hx;rcases acN.1 hx with h|h
     .exact Lq x h
     .simp at h;subst h;exact HN.out
   case done=>
    rintro D xs W hD hS ⟨Lq,Ae⟩ hK;have jQ:dY f n t n=true:=(fY HM.out).mpr ⟨cP,λj k hk hj=>Lq _ (hS k j ⟨hk,hj⟩)⟩;have HF:Hid _:=jQ;clear jQ;have Nl:Below w w W:=Sk.trans (Ae.mono Sk.size);have X2:=(Ae.cell (p:=⟨w.heap.size+1+1,0,none⟩) cC).trans p2;have p3W:=(Ae.frozen (p:=⟨w.heap.size+1+1,0,none⟩) cC).trans p3;gi_wp2
    have hK':=(KeepsOthers.setCell W ⟨w.heap.size+1+1,0,none⟩ true).same D _ hK rfl;refine⟨aH,.inl ⟨_,_,rfl,run_takeDeferred hK',?_⟩⟩;have Wd:=cell_kept (World.cell?_setCell_same' W ⟨w.heap.size+1+1,0,none⟩ true (by rw[X2];rfl)) (grownBy_putObj' _ D (.deferred none)) (λr e=>by cases e;exact⟨_,hK',rfl⟩);refine⟨.bool true,?_,by rw[HF.out],(Nl.setCell (p:=⟨w.heap.size+1+1,0,none⟩) cC _).trans (belowK_b (w:=w) (ack _) _ D _ _ ab hK' rfl rfl)⟩;simp[results,Tryz.f50,go_sem,Wd]
   case stop=>
    rintro D c pre W hD _ ⟨⟨rfl,hF⟩,⟨SM,ew⟩,Ae⟩ hK;have HF:Hid _:=hF;clear hF;gi_wp2
    refine⟨aH,.inl ⟨_,_,rfl,run_takeDeferred hK,?_⟩⟩;have Wd:=cell_kept SM (grownBy_putObj' _ D (.deferred none)) (λr e=>by cases e;exact⟨_,hK,rfl⟩);refine⟨.bool false,?_,by rw[HF.out],Ae.trans (belowK_b (w:=w) (ack _) W D _ _ ab hK rfl rfl)⟩;simp[results,Tryz.f50,go_sem,Wd]
theorem Aq (b off n cap:Nat)(f:Nat->Mv)(b' aW m cap':Nat)(t:Nat->Int)(w:World)(hn:n<=1048576)(lY:m<=maxLen)(bw:b<w)(aq:aM w b off n f)(bc:b'<w)(aK:aB w b' aW m t):
  Calls Tz.prog 50 #[.slice (some ⟨b,off,none⟩) n cap,.slice (some ⟨b',aW,none⟩) m cap'] w λe w'=>e=.returned (.bool (dY f n t m))/\Below w w w':=by
 by_cases hl:m=n
 .subst hl;cases hm:aG f m with
  |false=>exact pb b off m cap f b' aW m cap' t w hn lY bw aq (.inl hm)
  |true=>
   by_cases cP:∀i,i<m->(f i).eV (t i)=true
   .exact uV b off m cap f b' aW cap' t w bw aq bc aK hm cP
   .exact sx b off m cap f b' aW cap' t w hn bw aq bc aK hm cP
 .exact pb b off n cap f b' aW m cap' t w hn lY bw aq (.inr hl)
end Go.Proofs.YtlmcblcijndipaaGreatDoor
namespace Go.Proofs.YtlmcblcijndipaaGreatDoor
section
open RowKit
variable {now shift:Int}{f:Nat->Mv}{t:Nat->Int}{n m:Nat}
def fB (now:Int)(m:Mv)(t:Int):Bool:=!(decide (t<now)||decide (t<now+4)&&m.prom==-1)
def mJ (now:Int)(f:Nat->Mv)(t:Nat->Int)(n:Nat):Bool:=(List.range n).all λi=>fB now (f i) (t i)
def bp (now shift:Int)(f:Nat->Mv)(n:Nat)(t:Nat->Int)(m:Nat):Bool:=iu now 0 10000&&iu shift 0 6&&dY f n t m&&mJ now f t n
theorem pC {i:Nat}(hi:i<n)(h:fB now (f i) (t i)=false):mJ now f t n=false:=by
 rw[Bool.eq_false_iff];intro hh;unfold mJ at hh;simp only[List.all_eq_true,List.mem_range]at hh;rw[hh i hi]at h;cases h
theorem pZ (h:∀i,i<n->fB now (f i) (t i)=true):mJ now f t n=true:=by
 unfold mJ;simp only[List.all_eq_true,List.mem_range];exact h
theorem qE (h:dY f n t m=false):bp now shift f n t m=false:=by unfold bp;simp[h]
theorem yF (h:iu now 0 10000=false):bp now shift f n t m=false:=by unfold bp;simp[h]
theorem tY (h:iu shift 0 6=false):bp now shift f n t m=false:=by unfold bp;simp[h]
theorem mZ (h:mJ now f t n=false):bp now shift f n t m=false:=by unfold bp;simp[h]
theorem ml (h1:iu now 0 10000=true)(h2:iu shift 0 6=true)(h3:dY f n t m=true)(h4:mJ now f t n=true):bp now shift f n t m=true:=by unfold bp;simp[h1,h2,h3,h4]
theorem nh (h:dY f n t m=true):aG f n=true/\m=n/\eH f t n:=by
 have hm:aG f n=true:=by
  cases e:aG f n with
  |true=>rfl
  |false=>rw[jv e]at h;cases h
 have hl:m=n:=by
  by_cases e:m=n
  .exact e
  .rw[tz e]at h;cases h
 subst hl;exact⟨hm,rfl,(fY hm).mp h⟩
theorem fL {n lo hi:Int}:iu n lo hi=true<->lo<=n/\n<=hi:=by unfold iu;simp
end
section
open RowKit
abbrev BI (w:World)(now shift:Int)(a:Option Addr)(n cap:Nat)(a':Option Addr)(m cap':Nat):World:=w.alloc (.cells #[now,shift,.slice a n cap,.slice a' m cap'] 29)
structure qC (w:World)(B:Nat)(now shift:Int)(a:Option Addr)(n cap:Nat)(a':Option Addr)(m cap':Nat):Prop where
 c0:w.cell? B=some (.int .i64 now)
 c1:w.cell? ⟨B,1,none⟩=some (.int .i64 shift)
 c2:w.cell? ⟨B,2,none⟩=some (.slice a n cap)
 c3:w.cell? ⟨B,3,none⟩=some (.slice a' m cap')
theorem oJ (w:World)(now shift:Int)(a:Option Addr)(n cap:Nat)(a':Option Addr)(m cap':Nat):qC (BI w now shift a n cap a' m cap') w.heap.size now shift a n cap a' m cap':=by
 constructor<;>simp[BI]
theorem qC.below {N B:Nat}{w w':World}{now shift:Int}{a:Option Addr}{n cap:Nat}{a':Option Addr}{m cap':Nat}(h:qC w B now shift a n cap a' m cap')(hb:Below N w w')(hB:B<N):qC w' B now shift a n cap a' m cap':=
 ⟨(hb.cell hB).trans h.c0,(hb.cell hB).trans h.c1,(hb.cell hB).trans h.c2,(hb.cell hB).trans h.c3⟩
theorem jt (w:World)(now shift:Int)(a:Option Addr)(n cap:Nat)(a':Option Addr)(m cap':Nat):Below w w (BI w now shift a n cap a' m cap'):=(aca _ _).alloc (ack _) _
theorem zu (now:Int){m:Mv}(t:Int)(fw:m.ok=true):
  (fB now m t=false/\decide (t<now)=true)\/(fB now m t=true/\decide (t<now)=false/\decide (t<now+4)=false)
  \/(fB now m t=false/\decide (t<now)=false/\decide (t<now+4)=true/\m.prom=-1)\/(fB now m t=true/\decide (t<now)=false/\decide (t<now+4)=true/\0<=m.prom):=by
 have hb:=Mv.fR fw;unfold fB;by_cases h1:t<now
 .left;simp[h1]
 .by_cases h2:t<now+4
  .rcases hb.2.2.2.1 with h3|h3
   .right;right;left;simp[h1,h2,h3]
   .right;right;right;have:m.prom≠-1:=by omega
    simp[h1,h2,this];omega
  .right;left;simp[h1,h2]
theorem nM (now shift:Int)(b off n cap:Nat)(f:Nat->Mv)(b' aW m cap':Nat)(t:Nat->Int)(w:World)(hn:n<=1048576)(lY:m<=maxLen)(bw:b<w)(aq:aM w b off n f)(hf:∀i,i<n->(f i).Fits)(bc:b'<w)(aK:aB w b' aW m t):
  Calls Tz.prog 39 #[.agg #[now,shift,.slice (some ⟨b,off,none⟩) n cap,.slice (some ⟨b',aW,none⟩) m cap']] w λe w'=>e=.returned (.bool (bp now shift f n t m))/\Below w w w':=by
 have bA:=jt w now shift (some ⟨b,off,none⟩) n cap (some ⟨b',aW,none⟩) m cap';have hA:=oJ w now shift (some ⟨b,off,none⟩) n cap (some ⟨b',aW,none⟩) m cap';have H1:=AQ b off n cap f b' aW m cap' t _ hn lY (acl bw bA.size) (aq.below bA bw) hf (acl bc bA.size) (aK.below bA bc);cases h1:iu now 0 10000 with
 |false=>
  have HB:Hid (bp now shift f n t m=false):=yF h1;go_enter Tz.func39,Tryz.ntmps39
  go_wp2_with(go_at_call 70;refine(gJ _ _ _ _).mono ?_;rintro e w' ⟨rfl,rfl⟩)
  go_ret;exact⟨bN HB.out.symm,bA⟩
 |true=>
  cases h2:iu shift 0 6 with
  |false=>
   have HB:Hid (bp now shift f n t m=false):=tY h2;go_enter Tz.func39,Tryz.ntmps39
   go_wp2_with(go_at_call 70;refine(gJ _ _ _ _).mono ?_;rintro e w' ⟨rfl,rfl⟩)
   go_ret;exact⟨bN HB.out.symm,bA⟩
  |true=>
   cases h3:dY f n t m with
   |false=>
    have HB:Hid (bp now shift f n t m=false):=qE h3;rw[h3]at H1;go_enter Tz.func39,Tryz.ntmps39
    go_wp2_with(first|(go_at_call 70;refine(gJ _ _ _ _).mono ?_;rintro e w' ⟨rfl,rfl⟩)|(go_at_call 71;refine H1.mono ?_;clear H1;rintro e w1 ⟨rfl,b1⟩))
    go_ret;exact⟨bN HB.out.symm,bA.trans (b1.mono bA.size)⟩
   |true=>
    obtain⟨hm,rfl,jQ⟩:=nh h3;have h6:=cg hm;have HM:Hid (aG f m=true):=hm;have HY:Hid (mJ now f t m=true->bp now shift f m t m=true):=by
     have h:mJ now f t m=true->bp now shift f m t m=true:=λh4=>ml h1 h2 h3 h4
     exact h
    have WX:=fL.mp h1;have Ao:IntKind.i64.wrap (now+4)=now+4:=gH;rw[h3]at H1;clear hm jQ;go_enter Tz.func39,Tryz.ntmps39
    go_wp2_with(first|(go_at_call 70;refine(gJ _ _ _ _).mono ?_;rintro e w' ⟨rfl,rfl⟩)|(go_at_call 71;refine H1.mono ?_;clear H1;rintro e w1 ⟨rfl,b1⟩))
    have mS:Below w w w1:=bA.trans (b1.mono bA.size);have fq:w.heap.size<w1:=acl aH b1.size;have JJ:=hA.below b1 aH;clear hA b1;go_loopw [3] (λx wr=>∃k:Nat,k<=m/\x=.int .i64 k/\(∀j,j<k->fB now (f j) (t j)=true)/\Below w1 w1 wr) (λx _=>m-(intOf x).toNat)
    case atStart=>exact⟨0,acp _,rfl,λj hj=>absurd hj (aco _),aca _ _⟩
    case round=>
     obtain⟨k,hk,rfl,cP,hB⟩:=hrel;have fK:Below w w wr:=mS.trans (hB.mono mS.size);obtain⟨a0,a1,a2,a3⟩:=JJ.below hB fq;by_cases aI:k<m
     .have dG:(k:Int)<m:=by omega
      have eM:=aK.below fK bc k aI;have hr:=aq.below fK bw k aI;have hne:=aE wr;have x0:=λx:aj wr=>x.cell a0
      have x2:=λx:aj wr=>x.cell a2
      have x3:=λx:aj wr=>x.cell a3
      have y5:=λx:aj wr=>x.cell hr.c5
      have y6:=λx:aj wr=>x.cell eM
      rcases zu now (t k) (bj HM.out k aI)with⟨hs,d1⟩|⟨hs,d1,d2⟩|⟨hs,d1,d2,d3⟩|⟨hs,d1,d2,d3⟩
      .have HB:Hid (bp now shift f m t m=false):=mZ (pC aI hs);have D1:Hid (decide (t k<now)=true):=d1;clear hs d1;go_wp2;have d1:=D1.out;refine ah ?_;repeat(go_big_quiet_step (fail))
       refine wpQuiet_nil (ak ?_);intro w2 cH;go_wp2;go_ret;exact⟨bN HB.out.symm,fK.trans (cH.mono fK.size)⟩
      .have HS:Hid (fB now (f k) (t k)=true):=hs;have D1:Hid (decide (t k<now)=false):=d1;have D2:Hid (decide (t k<now+4)=false):=d2;clear hs d1 d2;go_wp2;have d1:=D1.out;have d2:=D2.out;refine ah ?_;repeat(go_big_quiet_step (fail))
       refine wpQuiet_nil (ak ?_);intro w2 cH;go_wp2;go_roundw
       case rel=>exact⟨k+1,ab,by go_num,λj hj=>by
        by_cases e:j=k
        .subst e;exact HS.out
        .exact cP j ab,hB.trans (cH.mono hB.size)⟩
       case measure=>exact cf
      .have HB:Hid (bp now shift f m t m=false):=mZ (pC aI hs);have D1:Hid (decide (t k<now)=false):=d1;have D2:Hid (decide (t k<now+4)=true):=d2;have D3:Hid (decide ((f k).prom<0)=true):=by
        have h:decide ((f k).prom<0)=true:=by rw[d3];rfl
        exact h
       clear hs d1 d2 d3;go_wp2;have d1:=D1.out;have d2:=D2.out;have d3:=D3.out;refine ah ?_;repeat(go_big_quiet_step (fail))
       refine wpQuiet_nil (ak ?_);intro w2 cH;go_wp2;go_ret;exact⟨bN HB.out.symm,fK.trans (cH.mono fK.size)⟩
      .have HS:Hid (fB now (f k) (t k)=true):=hs;have D1:Hid (decide (t k<now)=false):=d1;have D2:Hid (decide (t k<now+4)=true):=d2;have D3:Hid (decide ((f k).prom<0)=false):=by
        have h:decide ((f k).prom<0)=false:=by simpa using d3
        exact h
       clear hs d1 d2 d3;go_wp2;have d1:=D1.out;have d2:=D2.out;have d3:=D3.out;refine ah ?_;repeat(go_big_quiet_step (fail))
       refine wpQuiet_nil (ak ?_);intro w2 cH;go_wp2;go_roundw
       case rel=>exact⟨k+1,ab,by go_num,λj hj=>by
        by_cases e:j=k
        .subst e;exact HS.out
        .exact cP j ab,hB.trans (cH.mono hB.size)⟩
       case measure=>exact cf
     .have HB:Hid (bp now shift f m t m=true):=by
       have h:bp now shift f m t m=true:=HY.out (pZ (λi hi=>cP i ab));exact h
      go_wp2;go_ret;exact⟨bN HB.out.symm,fK⟩
theorem sw (now shift:Int)(b off n cap:Nat)(f:Nat->Mv)(b' aW m cap':Nat)(t:Nat->Int)(w:World)(hn:n<=1048576)(lY:m<=maxLen)(bw:b<w)(aq:aM w b off n f)(bc:b'<w)(aK:aB w b' aW m t):
  Calls Tz.prog 16 #[.agg #[now,shift,.slice (some ⟨b,off,none⟩) n cap,.slice (some ⟨b',aW,none⟩) m cap']] w λe w'=>e=.returned (.bool (bp now shift f n t m))/\Below w w w':=by
 have bA:=jt w now shift (some ⟨b,off,none⟩) n cap (some ⟨b',aW,none⟩) m cap';have hA:=oJ w now shift (some ⟨b,off,none⟩) n cap (some ⟨b',aW,none⟩) m cap';have H1:=Aq b off n cap f b' aW m cap' t _ hn lY (acl bw bA.size) (aq.below bA bw) (acl bc bA.size) (aK.below bA bc);cases h1:iu now 0 10000 with
 |false=>
  have HB:Hid (bp now shift f n t m=false):=yF h1;have q:now<0\/¬now<0/\10000<now:=by unfold iu at h1;simp at h1;omega
  clear h1;rcases q with q|⟨q,q'⟩;all_goals
   go_enter Tz.func16,Tryz.ntmps16
   go_wp2;go_ret;exact⟨bN HB.out.symm,bA⟩
 |true=>
  have WX:=fL.mp h1;have q1:¬now<0:=ab;have q2:¬10000<now:=ab;cases h2:iu shift 0 6 with
  |false=>
   have HB:Hid (bp now shift f n t m=false):=tY h2;have q:shift<0\/¬shift<0/\6<shift:=by unfold iu at h2;simp at h2;omega
   clear h2;rcases q with q|⟨q,q'⟩;all_goals
    go_enter Tz.func16,Tryz.ntmps16
    go_wp2;go_ret;exact⟨bN HB.out.symm,bA⟩
  |true=>
   have jh:=fL.mp h2;have q3:¬shift<0:=ab;have q4:¬6<shift:=ab;cases h3:dY f n t m with
   |false=>
    have HB:Hid (bp now shift f n t m=false):=qE h3;rw[h3]at H1;go_enter Tz.func16,Tryz.ntmps16
    go_wp2_with(go_at_call 50;refine H1.mono ?_;clear H1;rintro e w1 ⟨rfl,b1⟩)
    go_ret;exact⟨bN HB.out.symm,bA.trans (b1.mono bA.size)⟩
   |true=>
    obtain⟨hm,rfl,jQ⟩:=nh h3;have h6:=cg hm;have HM:Hid (aG f m=true):=hm;have HY:Hid (mJ now f t m=true->bp now shift f m t m=true):=by
     have h:mJ now f t m=true->bp now shift f m t m=true:=λh4=>ml h1 h2 h3 h4
     exact h
    have Ao:IntKind.i64.wrap (now+4)=now+4:=gH;rw[h3]at H1;clear hm jQ;obtain⟨p0,p1,p2,p3⟩:=hA;go_enter Tz.func16,Tryz.ntmps16
    go_wp2_with(go_at_call 50;refine H1.mono ?_;clear H1;rintro e w1 ⟨rfl,b1⟩;obtain⟨g0,g1,g2,g3⟩:=(qC.mk p0 p1 p2 p3).below b1 aH)
    have mS:Below w w w1:=bA.trans (b1.mono bA.size);have fq:w.heap.size<w1:=acl aH b1.size;have JJ:=qC.mk g0 g1 g2 g3;clear p0 p1 p2 p3 b1;go_loopw [32] (λx wr=>∃k:Nat,k<=m/\x=.int .i64 k/\(∀j,j<k->fB now (f j) (t j)=true)/\Below w1 w1 wr) (λx _=>m-(intOf x).toNat)
    case atStart=>exact⟨0,acp _,rfl,λj hj=>absurd hj (aco _),aca _ _⟩
    case round=>
     obtain⟨k,hk,rfl,cP,hB⟩:=hrel;have fK:Below w w wr:=mS.trans (hB.mono mS.size);by_cases aI:k<m
     .have dG:(k:Int)<m:=by omega
      have eM:=aK.below fK bc k aI;obtain⟨c0,c1,c2,c3,c4,c5⟩:=aq.below fK bw k aI;have VH:=JJ.below hB fq;have bM:=fO wr (f k);have hM:=kC wr (f k);have lz:w.heap.size<wr:=acl fq hB.size;have Sg:=VH.below bM lz;have Xj:(dj wr (f k)).cell? ⟨b',aW+k,none⟩=some (.int .i64 (t k)):=(bM.cell (p:=⟨b',aW+k,none⟩) (acl bc fK.size)).trans eM;have hne:=aE (dj wr (f k));have x0:=λx:aj (dj wr (f k))=>x.cell Sg.c0
      have x3:=λx:aj (dj wr (f k))=>x.cell Sg.c3
      have y6:=λx:aj (dj wr (f k))=>x.cell Xj
      rcases zu now (t k) (bj HM.out k aI)with⟨hs,d1⟩|⟨hs,d1,d2⟩|⟨hs,d1,d2,d3⟩|⟨hs,d1,d2,d3⟩
      .have HB:Hid (bp now shift f m t m=false):=mZ (pC aI hs);have D1:Hid (decide (t k<now)=true):=d1;clear hs d1;go_wp2;have d1:=D1.out;refine ah ?_;repeat(go_big_quiet_step (fail))
       refine wpQuiet_nil (ak ?_);intro w2 cH;go_wp2;go_ret;exact⟨bN HB.out.symm,fK.trans ((bM.trans (cH.mono bM.size)).mono fK.size)⟩
      .have HS:Hid (fB now (f k) (t k)=true):=hs;have D1:Hid (decide (t k<now)=false):=d1;have D2:Hid (decide (t k<now+4)=false):=d2;clear hs d1 d2;go_wp2;have d1:=D1.out;refine ah ?_;repeat(go_big_quiet_step (fail))
       refine wpQuiet_nil (ak ?_);intro w2 cH;have o0:Below wr wr w2:=bM.trans (cH.mono bM.size);have Sr:=hM.below cH aH;have Qg:=Sg.below cH (acl lz bM.size);have Xk:w2.cell? ⟨b',aW+k,none⟩=some (.int .i64 (t k)):=(cH.cell (p:=⟨b',aW+k,none⟩) (acl (acl bc fK.size) bM.size)).trans Xj;clear x0 x3 y6 hne d1;have hne:=aE w2;have x0:=λx:aj w2=>x.cell Qg.c0
       have x3:=λx:aj w2=>x.cell Qg.c3
       have y6:=λx:aj w2=>x.cell Xk
       have z5:=λx:aj w2=>x.cell Sr.c5
       simp only[Nat.zero_add]at z5;have D4:Hid (((f k).prom==-1)=true\/((f k).prom==-1)=false):=by
        have h:((f k).prom==-1)=true\/((f k).prom==-1)=false:=by cases ((f k).prom==-1)<;>simp
        exact h
       go_wp2;have d2:=D2.out;rcases D4.out with d4|d4;all_goals
        refine ah ?_;repeat(go_big_quiet_step (fail))
        refine wpQuiet_nil (ak ?_);intro w3 gZ;go_wp2;go_roundw
        case rel=>exact⟨k+1,ab,by go_num,λj hj=>by
         by_cases e:j=k
         .subst e;exact HS.out
         .exact cP j ab,hB.trans ((o0.trans (gZ.mono o0.size)).mono hB.size)⟩
        case measure=>exact cf
      .have HB:Hid (bp now shift f m t m=false):=mZ (pC aI hs);have D1:Hid (decide (t k<now)=false):=d1;have D2:Hid (decide (t k<now+4)=true):=d2;have D3:Hid (((f k).prom==-1)=true):=by
        have h:((f k).prom==-1)=true:=by rw[d3];rfl
        exact h
       clear hs d1 d2 d3;go_wp2;have d1:=D1.out;refine ah ?_;repeat(go_big_quiet_step (fail))
       refine wpQuiet_nil (ak ?_);intro w2 cH;have o0:Below wr wr w2:=bM.trans (cH.mono bM.size);have Sr:=hM.below cH aH;have Qg:=Sg.below cH (acl lz bM.size);have Xk:w2.cell? ⟨b',aW+k,none⟩=some (.int .i64 (t k)):=(cH.cell (p:=⟨b',aW+k,none⟩) (acl (acl bc fK.size) bM.size)).trans Xj;clear x0 x3 y6 hne d1;have hne:=aE w2;have x0:=λx:aj w2=>x.cell Qg.c0
       have x3:=λx:aj w2=>x.cell Qg.c3
       have y6:=λx:aj w2=>x.cell Xk
       have z5:=λx:aj w2=>x.cell Sr.c5
       simp only[Nat.zero_add]at z5;go_wp2;have d2:=D2.out;have d3:=D3.out;refine ah ?_;repeat(go_big_quiet_step (fail))
       refine wpQuiet_nil (ak ?_);intro w3 gZ;go_wp2;go_ret;exact⟨bN HB.out.symm,fK.trans ((o0.trans (gZ.mono o0.size)).mono fK.size)⟩
      .have HS:Hid (fB now (f k) (t k)=true):=hs;have D1:Hid (decide (t k<now)=false):=d1;have D2:Hid (decide (t k<now+4)=true):=d2;have D3:Hid (((f k).prom==-1)=false):=by
        have h:((f k).prom==-1)=false:=cC;exact h
       clear hs d1 d2 d3;go_wp2;have d1:=D1.out;refine ah ?_;repeat(go_big_quiet_step (fail))
       refine wpQuiet_nil (ak ?_);intro w2 cH;have o0:Below wr wr w2:=bM.trans (cH.mono bM.size);have Sr:=hM.below cH aH;have Qg:=Sg.below cH (acl lz bM.size);have Xk:w2.cell? ⟨b',aW+k,none⟩=some (.int .i64 (t k)):=(cH.cell (p:=⟨b',aW+k,none⟩) (acl (acl bc fK.size) bM.size)).trans Xj;clear x0 x3 y6 hne d1;have hne:=aE w2;have x0:=λx:aj w2=>x.cell Qg.c0
       have x3:=λx:aj w2=>x.cell Qg.c3
       have y6:=λx:aj w2=>x.cell Xk
       have z5:=λx:aj w2=>x.cell Sr.c5
       simp only[Nat.zero_add]at z5;go_wp2;have d2:=D2.out;have d3:=D3.out;refine ah ?_;repeat(go_big_quiet_step (fail))
       refine wpQuiet_nil (ak ?_);intro w3 gZ;go_wp2;go_roundw
       case rel=>exact⟨k+1,ab,by go_num,λj hj=>by
        by_cases e:j=k
        .subst e;exact HS.out
        .exact cP j ab,hB.trans ((o0.trans (gZ.mono o0.size)).mono hB.size)⟩
       case measure=>exact cf
     .have HB:Hid (bp now shift f m t m=true):=by
       have h:bp now shift f m t m=true:=HY.out (pZ (λi hi=>cP i ab));exact h
      go_wp2;go_ret;exact⟨bN HB.out.symm,fK⟩
end
