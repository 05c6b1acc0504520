import Derived.Test.YtlmcblcijndipaaGreatDoora18
set_option linter.defProp false
set_option linter.unusedVariables false
set_option maxHeartbeats 4000000
set_option maxRecDepth 100000
namespace Go.Proofs.YtlmcblcijndipaaGreatDoor
open Go.RowKit Go.Shelf RowKit
variable {now shift:Int}{m n:Nat}
section
attribute [local go_sem] Oper.semAt_some
set_option linter.unusedVariables false
def Nr {W W':World}(h:Below W W W')(B:Nat):KeepsFrom B W W':=
 ⟨h.size,λk o _ hk _=>(h.block k (ac7.1 hk).1).trans hk⟩
def vB (b off n cap:Nat)(f:Nat->Mv)(b' ce cap':Nat)(t:Nat->Int)(w:World)(bH:b<w)(aq:aI w b off n f)(bI:b'<w)(aU:aA w b' ce n t)(hm:aE f n=true)(cE:∀i,i<n->(f i).fG (t i)=true):
  Calls Tz.prog 50 #[.slice (some ⟨b,off,none⟩) n cap,.slice (some ⟨b',ce,none⟩) n cap'] w λe w'=>e=.returned (.bool<|eI f n t n)/\Below w w w':=by
 have h6:=bZ hm;have hn:n<=1048576:=aa;have HM:Hid _:=hm;have mF:∀o1 o2 o3,Below w w (((w.alloc o1).alloc o2).alloc o3):=λo1 o2 o3=>(((acW _ w).alloc (ac5 _) _).alloc aF _).alloc cU _
 refine(callsIn_wide (n:=9)).1 ?_;refine callsIn_of_wp_marks Tz.func50 rfl trivial ?_ rfl;simp only[Tryz.ntmps50,List.size_toArray,List.length_cons,List.length_nil,Nat.reduceAdd,Nat.reduceSub,Array.replicate_succ,Array.replicate_zero,List.push_toArray,List.append_toArray,List.nil_append,List.cons_append];gi_wp2_with (refine⟨trivial,?_⟩;gi_at_call 75;refine(callsIn_wide.2<|fS _ _ _ _ f _ hn cU<|aq.below (mF _ _ _) bH).mono ?_;rintro e w1 ⟨rfl,bP⟩;let⟨kq,pE⟩:=jJ bP)
 have hz:=bP.size;simp at hz;have nQ:Below w w w1:=(mF _ _ _).trans<|bP.mono (mF _ _ _).size;have l0:w1.cell? w.heap.size=some (.slice (some ⟨b,off,none⟩) n cap):=by rw[kq w.heap.size 0 cU];simp[go_sem]
 have l1:w1.cell? ⟨w.heap.size+1,0,none⟩=some (.slice (some ⟨b',ce,none⟩) n cap'):=by rw[kq (w.heap.size+1) 0 aF];simp[go_sem]
 have l2:w1.cell? ⟨w.heap.size+1+1,0,none⟩=some (.bool false):=by rw[kq (w.heap.size+1+1) 0 aF];simp[go_sem]
 have l3:w1.frozen? ⟨w.heap.size+1+1,0,none⟩=false:=by rw[pE (w.heap.size+1+1) 0 aF];simp[go_sem]
 clear kq pE bP;gi_loopw [21] (λi wr=>∃k:Nat,k<=n/\i=.int .i64 k/\Below w1 w1 wr) (λi _=>n-(intOf i).toNat)
 case atStart=>exact⟨0,ada _,rfl,acW _ _⟩
 case round=>
  obtain⟨k,hk,rfl,hB⟩:=hrel;have gK:Below w w wr:=nQ.trans<|hB.mono nQ.size;have hzr:w1.heap.size<=wr:=hB.size;by_cases aB:k<n
  .have hr:=aq.below gK bH k aB;have gG:=aU.below gK bI k aB;let⟨c0,c1,c2,c3,c4,c5⟩:=hr;have dr:(k:Int)<n:=aa;have hA:=jK wr<|f k;have hM:=px wr<|f k;have m1:wr.cell? ⟨w.heap.size+1,0,none⟩=some (.slice (some ⟨b',ce,none⟩) n cap'):=(hB.cell (p:=⟨w.heap.size+1,0,none⟩) cU).trans l1;have hne:=aG<|fc wr<|f k;have e0:=λx:ai (fc wr<|f k)=>x.cell hM.c0
   have e1:=λx:ai (fc wr<|f k)=>x.cell hM.c1
   have e2:=λx:ai (fc wr<|f k)=>x.cell hM.c2
   have e3:=λx:ai (fc wr<|f k)=>x.cell hM.c3
   have e4:=λx:ai (fc wr<|f k)=>x.cell hM.c4
   have e5:=λx:ai (fc wr<|f k)=>x.cell hM.c5
   have e6:=λx:ai (fc wr<|f k)=>x.cell<|(hA.cell (p:=⟨w.heap.size+1,0,none⟩) cU).trans m1
   have e7:=λx:ai (fc wr<|f k)=>x.cell<|(hA.cell (p:=⟨b',ce+k,none⟩) cU).trans gG
   simp only[Nat.zero_add]at e0 e1 e2 e3 e4 e5;have hs:=cE k aB;gi_wp2
   refine np (Kp _) bD bD bD ?_;repeat(go_big_quiet_step ((go_at_call 76;exact bT<|um (f k) _ _)))
   refine wpQuiet_nil<|cf ?_;intro w2 cP;gi_wp2
   go_roundw
   case rel=>exact⟨k+1,aa,by go_num,hB.trans<|(hA.trans<|cP.mono hA.size).mono hB.size⟩
   case measure=>exact cI
  .have m0:wr.cell? w.heap.size=some (.slice (some ⟨b,off,none⟩) n cap):=(hB.cell (p:=w.heap.size) cU).trans l0;have m1:wr.cell? ⟨w.heap.size+1,0,none⟩=some (.slice (some ⟨b',ce,none⟩) n cap'):=(hB.cell (p:=⟨w.heap.size+1,0,none⟩) cU).trans l1;have m2:wr.cell? ⟨w.heap.size+1+1,0,none⟩=some (.bool false):=(hB.cell (p:=⟨w.heap.size+1+1,0,none⟩) cU).trans l2;have m3:wr.frozen? ⟨w.heap.size+1+1,0,none⟩=false:=(hB.frozen (p:=⟨w.heap.size+1+1,0,none⟩) cU).trans l3;gi_wp2_with (refine⟨trivial,?_⟩;gi_at_call 77;refine(callsIn_wide.2<|AN _ _).mono ?_;rintro e w' ⟨rfl,rfl⟩)
   obtain⟨WL,MD⟩:∃WL,wr.alloc (.cells #[.int .i64 (n:Int)] 3)=WL:=⟨_,rfl⟩;have hL:Below wr wr WL:=MD▸(acW _ _).alloc (ac5 _) _;have hzL:WL.heap.size=wr.heap.size+1:=by rw[<-MD];simp
   have hcL:WL.cell? wr.heap.size=some (.int .i64 (n:Int)):=by rw[<-MD];simp
   rw[MD];clear MD;have Ua:Below w w WL:=gK.trans<|hL.mono gK.size;have p0:=(hL.cell (p:=w.heap.size) cU).trans m0;have p1:=(hL.cell (p:=⟨w.heap.size+1,0,none⟩) cU).trans m1;have p2:=(hL.cell (p:=⟨w.heap.size+1+1,0,none⟩) cU).trans m2;have p3:=(hL.frozen (p:=⟨w.heap.size+1+1,0,none⟩) cU).trans m3;refine wpIn_rangeFunc_ownG rfl aa (gf:=108) (lb:=#[.pointer wr.heap.size]) rfl trivial (enters_of Tz.func108 bD rfl)
    (uS _ wr.heap.size WL.heap.size n WL hn aa (ac5 _) hcL) belowK_t (belowK_b<|ac5 _) (acW _ _) (λ_=>rfl)
    (λpre W=>(∀x∈pre,(f x.1.1).gP (f x.1.2) (t x.1.1) (t x.1.2)=false)/\Below WL WL W)
    (λc pre W=>(c=.ret/\eI f n t n=false)/\(W.cell? ⟨w.heap.size+1+1,0,none⟩=some (.bool false)/\W.frozen? ⟨w.heap.size+1+1,0,none⟩=false)/\Below w w W)
    (OwnFrom.and (ownFrom_pure _ _) (ownFrom_below (ac5 _)<|ac5 _))
    (λc=>OwnFrom.and (ownFrom_pure _ λ_=>c=.ret/\eI f n t n=false)<|OwnFrom.and (Own.from (λs A B row hs hg hr=>⟨cell_kept hs.1 hg hr,(frozen_kept hs.1 hg hr).trans hs.2⟩) _)<|ownFrom_below (ac5 _) aa)
    ⟨λx hx=>by simp at hx,acW _ _⟩
    ?a1 ?assign ?body ?done ?stop
   case assign=>
    intro l x W K hK;gi_wp2
    exact hK
   case body=>
    rintro l pre ⟨⟨i,j⟩,lH,Fw⟩ W ⟨Cb,BQ⟩ _;dsimp only at lH Fw;have O2:Below w w W:=Ua.trans<|BQ.mono Ua.size;have iv:i<n:=aa;have UE:(i:Int)<n:=aa;have acb:(j:Int)<n:=aa;have Kc:=aq.below O2 bH i iv;have WJ:=aq.below O2 bH j Fw;have hti:=aU.below O2 bI i iv;have htj:=aU.below O2 bI j Fw;let⟨ti0,ti1⟩:=vY HM.out iv<|cE i iv;let⟨tj0,tj1⟩:=vY HM.out Fw<|cE j Fw;have hne:=aG W;have q0:=λx:ai W=>x.cell<|(BQ.cell (p:=w.heap.size) cU).trans p0
    have q1:=λx:ai W=>x.cell<|(BQ.cell (p:=⟨w.heap.size+1,0,none⟩) cU).trans p1
    have a0:=λx:ai W=>x.cell Kc.c0
    have a1:=λx:ai W=>x.cell Kc.c1
    have a2:=λx:ai W=>x.cell Kc.c2
    have a3:=λx:ai W=>x.cell Kc.c3
    have a4:=λx:ai W=>x.cell Kc.c4
    have a5:=λx:ai W=>x.cell Kc.c5
    have b0:=λx:ai W=>x.cell WJ.c0
    have b1:=λx:ai W=>x.cell WJ.c1
    have b2:=λx:ai W=>x.cell WJ.c2
    have b3:=λx:ai W=>x.cell WJ.c3
    have b4:=λx:ai W=>x.cell WJ.c4
    have b5:=λx:ai W=>x.cell WJ.c5
    have d0:=λx:ai W=>x.cell hti
    have d1:=λx:ai W=>x.cell htj
    have U1:=BQ.size;have ZU:=(BQ.cell (p:=⟨w.heap.size+1+1,0,none⟩) cU).trans p2;have p3W:=(BQ.frozen (p:=⟨w.heap.size+1+1,0,none⟩) cU).trans p3;cases oJ:(f i).gP (f j) (t i) (t j)with
    |true=>
     have HF:Hid (eI f n t n=false):=wS lH Fw oJ;gi_wp2
     refine np (nZ _ _) bD bD bD ?_;repeat(go_big_quiet_step ((go_at_call 78;exact bT<|Ek (f i) (f j) _ _ _ ti0 ti1 tj0 tj1)))
     refine wpQuiet_nil<|cf ?_;intro w2 cP;have n2:=(cP.cell (p:=⟨w.heap.size+1+1,0,none⟩) cU).trans ZU;have n3:=(cP.frozen (p:=⟨w.heap.size+1+1,0,none⟩) cU).trans p3W;simp only[oJ];gi_wp2
     exact⟨(Nr cP _).trans ((KeepsOthers.setCell _ _ _).from _),⟨rfl,HF.out⟩,⟨World.cell?_setCell_same' _ _ _ (by rw[n2];rfl),by rw[World.frozen?_setCell];exact n3⟩,(O2.trans<|cP.mono O2.size).setCell cU _⟩
    |false=>
     have HN:Hid _:=oJ;gi_wp2
     refine np (nZ _ _) bD bD bD ?_;repeat(go_big_quiet_step ((go_at_call 78;exact bT<|Ek (f i) (f j) _ _ _ ti0 ti1 tj0 tj1)))
     refine wpQuiet_nil<|cf ?_;intro w2 cP;simp only[oJ];gi_wp2
     refine⟨Nr cP _,cP.mono U1,?_,BQ.trans<|cP.mono U1⟩;intro x hx;rcases adx.1 hx with h|h
     .exact Cb x h
     .simp at h;subst h;exact HN.out
   case done=>
    rintro D xs W hD hS ⟨Cb,BQ⟩ hK;have gE:eI f n t n=true:=(jp HM.out).mpr ⟨cE,λj k hk hj=>Cb _<|hS k j ⟨hk,hj⟩⟩;have HF:Hid _:=gE;clear gE;have O2:Below w w W:=Ua.trans<|BQ.mono Ua.size;have ZU:=(BQ.cell (p:=⟨w.heap.size+1+1,0,none⟩) cU).trans p2;have p3W:=(BQ.frozen (p:=⟨w.heap.size+1+1,0,none⟩) cU).trans p3;gi_wp2
    have hK':=(KeepsOthers.setCell W ⟨w.heap.size+1+1,0,none⟩ true).same D _ hK rfl;refine⟨aF,.inl ⟨_,_,rfl,run_takeDeferred hK',?_⟩⟩;have Yj:=cell_kept (World.cell?_setCell_same' W ⟨w.heap.size+1+1,0,none⟩ true<|by rw[ZU];rfl) (grownBy_putObj' _ D<|.deferred none) (λr e=>by cases e;exact⟨_,hK',rfl⟩);refine⟨.bool true,?_,by rw[HF.out],(O2.setCell (p:=⟨w.heap.size+1+1,0,none⟩) cU _).trans<|belowK_b (w:=w) (ac5 _) _ D _ _ aa hK' rfl rfl⟩;simp[results,Tryz.f50,go_sem,Yj]
   case stop=>
    rintro D c pre W hD _ ⟨⟨rfl,hF⟩,⟨Uy,fu⟩,BQ⟩ hK;have HF:Hid _:=hF;clear hF;gi_wp2
    refine⟨aF,.inl ⟨_,_,rfl,run_takeDeferred hK,?_⟩⟩;have Yj:=cell_kept Uy (grownBy_putObj' _ D<|.deferred none) (λr e=>by cases e;exact⟨_,hK,rfl⟩);refine⟨.bool false,?_,by rw[HF.out],BQ.trans<|belowK_b (w:=w) (ac5 _) W D _ _ aa hK rfl rfl⟩;simp[results,Tryz.f50,go_sem,Yj]
def Ci (b off n cap:Nat)(f:Nat->Mv)(b' ce m cap':Nat)(t:Nat->Int)(w:World)(hn:n<=1048576)(lU:m<=maxLen)(bH:b<w)(aq:aI w b off n f)(bI:b'<w)(aU:aA w b' ce m t):
  Calls Tz.prog 50 #[.slice (some ⟨b,off,none⟩) n cap,.slice (some ⟨b',ce,none⟩) m cap'] w λe w'=>e=.returned (.bool<|eI f n t m)/\Below w w w':=by
 by_cases hl:m=n
 .subst hl;cases hm:aE f m with
  |false=>exact pI b off m cap f b' ce m cap' t w hn lU bH aq (.inl hm)
  |true=>
   by_cases cE:∀i,i<m->(f i).fG (t i)=true
   .exact vB b off m cap f b' ce cap' t w bH aq bI aU hm cE
   .exact sP b off m cap f b' ce cap' t w hn bH aq bI aU hm cE
 .exact pI b off n cap f b' ce m cap' t w hn lU bH aq (.inr hl)
end
section
section
variable {f:Nat->Mv}{t:Nat->Int}
def iP (now:Int)(m:Mv)(t:Int):Bool:=!(decide (t<now)||decide (t<now+4)&&m.prom==-1)
def mc (now:Int)(f:Nat->Mv)(t:Nat->Int)(n:Nat):Bool:=(List.range n).all λi=>iP now (f i)<|t i
def aX (now shift:Int)(f:Nat->Mv)(n:Nat)(t:Nat->Int)(m:Nat):Bool:=iL now 0 10000&&iL shift 0 6&&eI f n t m&&mc now f t n
def ti {i:Nat}(hi:i<n)(h:iP now (f i) (t i)=false):mc now f t n=false:=by
 rw[Bool.eq_false_iff];intro hh;unfold mc at hh;simp only[List.all_eq_true,List.mem_range]at hh;rw[hh i hi]at h;cases h
def AZ (h:∀i,i<n->iP now (f i) (t i)=true):mc now f t n=true:=by
 unfold mc;simp only[List.all_eq_true,List.mem_range];exact h
def rh (h:eI f n t m=false):aX now shift f n t m=false:=by unfold aX;simp[h]
def Af (h:iL now 0 10000=false):aX now shift f n t m=false:=by unfold aX;simp[h]
def ux (h:iL shift 0 6=false):aX now shift f n t m=false:=by unfold aX;simp[h]
def nI (h:mc now f t n=false):aX now shift f n t m=false:=by unfold aX;simp[h]
def tL (h1:iL now 0 10000=true)(h2:iL shift 0 6=true)(h3:eI f n t m=true)(h4:mc now f t n=true):aX now shift f n t m=true:=by unfold aX;simp[h1,h2,h3,h4]
def rj (h:eI f n t m=true):aE f n=true/\m=n/\fk f t n:=by
 have hm:aE f n=true:=by
  cases e:aE f n with
  |true=>rfl
  |false=>rw[jM e]at h;cases h
 have hl:m=n:=by
  by_cases e:m=n
  .exact e
  .rw[tR e]at h;cases h
 subst hl;exact⟨hm,rfl,(jp hm).mp h⟩
def ff {n lo hi:Int}:iL n lo hi=true<->lo<=n/\n<=hi:=by unfold iL;simp
end
section
variable {t:Int}
def Hx (b off cap b' ce cap' n:Nat)(g:Nat->Int)(w:World)(hn:n<=1048576)(bH:b<w)(aq:aA w b off n g)(bI:b'<w)(aU:aA w b' ce n g):
  Calls Tz.prog 49 #[.slice (some ⟨b,off,none⟩) n cap,.slice (some ⟨b',ce,none⟩) n cap'] w λe w'=>e=.returned true/\Below w w w':=by
 go_enter Tz.func49,Tryz.ntmps49
 go_wp2;go_loopw [5] (λi w'=>∃k:Nat,k<=n/\i=.int .i64 k/\Below w w w') (λi _=>n-(intOf i).toNat)
 case atStart=>exact⟨0,ada _,rfl,acW _ _⟩
 case round=>
  obtain⟨k,hk,rfl,hB⟩:=hrel;by_cases aB:k<n
  .have hr:=aq.below hB bH k aB;have gG:=aU.below hB bI k aB;have dr:(k:Int)<n:=aa;have hne:=aG wr;have c0:=λx:ai wr=>x.cell hr
   have d0:=λx:ai wr=>x.cell gG
   go_wp2;refine kI ?_;intro w1 bP;go_wp2;go_roundw
   case rel=>exact⟨k+1,aa,by go_num,hB.trans<|bP.mono hB.size⟩
   case measure=>exact cI
  .go_wp2;go_ret;exact⟨rfl,hB⟩
def Hw (a a':Option Addr)(cap cap':Nat)(w:World):
  Calls Tz.prog 49 #[.slice a 0 cap,.slice a' 0 cap'] w λe w'=>e=.returned true/\Below w w w':=by
 go_enter Tz.func49,Tryz.ntmps49
 go_wp2;go_loopw [5] (λi w'=>i=.int .i64 0/\Below w w w') (λ_ _=>0)
 case atStart=>exact⟨rfl,acW _ _⟩
 case round=>
  obtain⟨rfl,hB⟩:=hrel;go_wp2;go_ret;exact⟨rfl,hB⟩
end
abbrev DB (w:World)(now shift:Int)(a:Option Addr)(n cap:Nat)(a':Option Addr)(m cap':Nat):World:=w.alloc<|.cells #[now,shift,.slice a n cap,.slice a' m cap'] 29
structure FK (w:World)(B:Nat)(now shift:Int)(a:Option Addr)(n cap:Nat)(a':Option Addr)(m cap':Nat):Prop where
 c0:w.cell? B=some (.int .i64 now)
 c1:w.cell? ⟨B,1,none⟩=some (.int .i64 shift)
 c2:w.cell? ⟨B,2,none⟩=some (.slice a n cap)
 c3:w.cell? ⟨B,3,none⟩=some (.slice a' m cap')
def sG (w:World)(now shift:Int)(a:Option Addr)(n cap:Nat)(a':Option Addr)(m cap':Nat):FK (DB w now shift a n cap a' m cap') w.heap.size now shift a n cap a' m cap':=by
 constructor<;>simp[DB]
def FK.below {N B:Nat}{w w':World}{a:Option Addr}{cap:Nat}{a':Option Addr}{cap':Nat}(h:FK w B now shift a n cap a' m cap')(hb:Below N w w')(hB:B<N):FK w' B now shift a n cap a' m cap':=
 ⟨(hb.cell hB).trans h.c0,(hb.cell hB).trans h.c1,(hb.cell hB).trans h.c2,(hb.cell hB).trans h.c3⟩
def lQ (w:World)(now shift:Int)(a:Option Addr)(n cap:Nat)(a':Option Addr)(m cap':Nat):Below w w (DB w now shift a n cap a' m cap'):=(acW _ _).alloc (ac5 _) _
def A0 (now:Int){m:Mv}(t:Int)(ez:m.ok=true):
  (iP now m t=false/\decide (t<now)=true)\/(iP now m t=true/\decide (t<now)=false/\decide (t<now+4)=false)
  \/(iP now m t=false/\decide (t<now)=false/\decide (t<now+4)=true/\m.prom=-1)\/(iP now m t=true/\decide (t<now)=false/\decide (t<now+4)=true/\0<=m.prom):=by
 have hb:=Mv.fX ez;unfold iP;by_cases h1:t<now
 .left;simp[h1]
 .by_cases h2:t<now+4
  .rcases hb.2.2.2.1 with h3|h3
   .right;right;left;simp[h1,h2,h3]
   .right;right;right;have:m.prom≠-1:=by omega
    simp[h1,h2,this];omega
  .right;left;simp[h1,h2]
def tj (now shift:Int)(b off n cap:Nat)(f:Nat->Mv)(b' ce m cap':Nat)(t:Nat->Int)(w:World)(hn:n<=1048576)(lU:m<=maxLen)(bH:b<w)(aq:aI w b off n f)(hf:∀i,i<n->(f i).Fits)(bI:b'<w)(aU:aA w b' ce m t):
  Calls Tz.prog 39 #[.agg #[now,shift,.slice (some ⟨b,off,none⟩) n cap,.slice (some ⟨b',ce,none⟩) m cap']] w λe w'=>e=.returned (.bool<|aX now shift f n t m)/\Below w w w':=by
 have bA:=lQ w now shift (some ⟨b,off,none⟩) n cap (some ⟨b',ce,none⟩) m cap';have hA:=sG w now shift (some ⟨b,off,none⟩) n cap (some ⟨b',ce,none⟩) m cap';have H1:=CL b off n cap f b' ce m cap' t _ hn lU (ac6 bH bA.size) (aq.below bA bH) hf (ac6 bI bA.size)<|aU.below bA bI;cases h1:iL now 0 10000 with
 |false=>
  have HB:Hid (aX now shift f n t m=false):=Af h1;go_enter Tz.func39,Tryz.ntmps39
  go_wp2_with(go_at_call 70;refine(ic _ _ _ _).mono ?_;rintro e w' ⟨rfl,rfl⟩)
  go_ret;exact⟨bQ HB.out.symm,bA⟩
 |true=>
  cases h2:iL shift 0 6 with
  |false=>
   have HB:Hid (aX now shift f n t m=false):=ux h2;go_enter Tz.func39,Tryz.ntmps39
   go_wp2_with(go_at_call 70;refine(ic _ _ _ _).mono ?_;rintro e w' ⟨rfl,rfl⟩)
   go_ret;exact⟨bQ HB.out.symm,bA⟩
  |true=>
   cases h3:eI f n t m with
   |false=>
    have HB:Hid (aX now shift f n t m=false):=rh h3;rw[h3]at H1;go_enter Tz.func39,Tryz.ntmps39
    go_wp2_with(first|(go_at_call 70;refine(ic _ _ _ _).mono ?_;rintro e w' ⟨rfl,rfl⟩)|(go_at_call 71;refine H1.mono ?_;clear H1;rintro e w1 ⟨rfl,b1⟩))
    go_ret;exact⟨bQ HB.out.symm,bA.trans<|b1.mono bA.size⟩
   |true=>
    obtain⟨hm,rfl,gE⟩:=rj h3;have h6:=bZ hm;have HM:Hid (aE f m=true):=hm;have HY:Hid (mc now f t m=true->aX now shift f m t m=true):=by
     have h:mc now f t m=true->aX now shift f m t m=true:=λh4=>tL h1 h2 h3 h4
     exact h
    have MU:=ff.mp h1;have Ce:IntKind.i64.wrap (now+4)=now+4:=hZ;rw[h3]at H1;clear hm gE;go_enter Tz.func39,Tryz.ntmps39
    go_wp2_with(first|(go_at_call 70;refine(ic _ _ _ _).mono ?_;rintro e w' ⟨rfl,rfl⟩)|(go_at_call 71;refine H1.mono ?_;clear H1;rintro e w1 ⟨rfl,b1⟩))
    have nQ:Below w w w1:=bA.trans<|b1.mono bA.size;have eO:w.heap.size<w1:=ac6 aF b1.size;have La:=hA.below b1 aF;clear hA b1;go_loopw [3] (λx wr=>∃k:Nat,k<=m/\x=.int .i64 k/\(∀j,j<k->iP now (f j) (t j)=true)/\Below w1 w1 wr) (λx _=>m-(intOf x).toNat)
    case atStart=>exact⟨0,ada _,rfl,λj hj=>absurd hj<|ac9 _,acW _ _⟩
    case round=>
     obtain⟨k,hk,rfl,cE,hB⟩:=hrel;have gK:Below w w wr:=nQ.trans<|hB.mono nQ.size;let⟨a0,a1,a2,a3⟩:=La.below hB eO;by_cases aB:k<m
     .have dr:(k:Int)<m:=by omega
      have gG:=aU.below gK bI k aB;have hr:=aq.below gK bH k aB;have hne:=aG wr;have x0:=λx:ai wr=>x.cell a0
      have x2:=λx:ai wr=>x.cell a2
      have x3:=λx:ai wr=>x.cell a3
      have y5:=λx:ai wr=>x.cell hr.c5
      have y6:=λx:ai wr=>x.cell gG
      rcases A0 now (t k) (bg HM.out k aB)with⟨hs,d1⟩|⟨hs,d1,d2⟩|⟨hs,d1,d2,d3⟩|⟨hs,d1,d2,d3⟩
      .have HB:Hid (aX now shift f m t m=false):=nI<|ti aB hs;have D1:Hid (decide (t k<now)=true):=d1;clear hs d1;go_wp2;have d1:=D1.out;refine kI ?_;intro w2 cP;go_wp2;go_ret;exact⟨bQ HB.out.symm,gK.trans<|cP.mono gK.size⟩
      .have HS:Hid (iP now (f k) (t k)=true):=hs;have D1:Hid (decide (t k<now)=false):=d1;have D2:Hid (decide (t k<now+4)=false):=d2;clear hs d1 d2;go_wp2;have d1:=D1.out;have d2:=D2.out;refine kI ?_;intro w2 cP;go_wp2;go_roundw
       case rel=>exact⟨k+1,aa,by go_num,λj hj=>by
        by_cases e:j=k
        .subst e;exact HS.out
        .exact cE j aa,hB.trans (cP.mono hB.size)⟩
       case measure=>exact cI
      .have HB:Hid (aX now shift f m t m=false):=nI<|ti aB hs;have D1:Hid (decide (t k<now)=false):=d1;have D2:Hid (decide (t k<now+4)=true):=d2;have D3:Hid (decide ((f k).prom<0)=true):=by
        have h:decide ((f k).prom<0)=true:=by rw[d3];rfl
        exact h
       clear hs d1 d2 d3;go_wp2;have d1:=D1.out;have d2:=D2.out;have d3:=D3.out;refine kI ?_;intro w2 cP;go_wp2;go_ret;exact⟨bQ HB.out.symm,gK.trans<|cP.mono gK.size⟩
      .have HS:Hid (iP now (f k) (t k)=true):=hs;have D1:Hid (decide (t k<now)=false):=d1;have D2:Hid (decide (t k<now+4)=true):=d2;have D3:Hid (decide ((f k).prom<0)=false):=by
        have h:decide ((f k).prom<0)=false:=by simpa using d3
        exact h
       clear hs d1 d2 d3;go_wp2;have d1:=D1.out;have d2:=D2.out;have d3:=D3.out;refine kI ?_;intro w2 cP;go_wp2;go_roundw
       case rel=>exact⟨k+1,aa,by go_num,λj hj=>by
        by_cases e:j=k
        .subst e;exact HS.out
        .exact cE j aa,hB.trans (cP.mono hB.size)⟩
       case measure=>exact cI
     .have HB:Hid (aX now shift f m t m=true):=by
       have h:aX now shift f m t m=true:=HY.out<|AZ λi hi=>cE i aa;exact h
      go_wp2;go_ret;exact⟨bQ HB.out.symm,gK⟩
def Cg (now shift:Int)(b off n cap:Nat)(f:Nat->Mv)(b' ce m cap':Nat)(t:Nat->Int)(w:World)(hn:n<=1048576)(lU:m<=maxLen)(bH:b<w)(aq:aI w b off n f)(bI:b'<w)(aU:aA w b' ce m t):
  Calls Tz.prog 16 #[.agg #[now,shift,.slice (some ⟨b,off,none⟩) n cap,.slice (some ⟨b',ce,none⟩) m cap']] w λe w'=>e=.returned (.bool<|aX now shift f n t m)/\Below w w w':=by
 have bA:=lQ w now shift (some ⟨b,off,none⟩) n cap (some ⟨b',ce,none⟩) m cap';have hA:=sG w now shift (some ⟨b,off,none⟩) n cap (some ⟨b',ce,none⟩) m cap';have H1:=Ci b off n cap f b' ce m cap' t _ hn lU (ac6 bH bA.size) (aq.below bA bH) (ac6 bI bA.size)<|aU.below bA bI;cases h1:iL now 0 10000 with
 |false=>
  have HB:Hid (aX now shift f n t m=false):=Af h1;have q:now<0\/¬now<0/\10000<now:=by unfold iL at h1;simp at h1;omega
  clear h1;rcases q with q|⟨q,q'⟩;all_goals
   go_enter Tz.func16,Tryz.ntmps16
   go_wp2;go_ret;exact⟨bQ HB.out.symm,bA⟩
 |true=>
  have MU:=ff.mp h1;have q1:¬now<0:=aa;have q2:¬10000<now:=aa;cases h2:iL shift 0 6 with
  |false=>
   have HB:Hid (aX now shift f n t m=false):=ux h2;have q:shift<0\/¬shift<0/\6<shift:=by unfold iL at h2;simp at h2;omega
   clear h2;rcases q with q|⟨q,q'⟩;all_goals
    go_enter Tz.func16,Tryz.ntmps16
    go_wp2;go_ret;exact⟨bQ HB.out.symm,bA⟩
  |true=>
   have ku:=ff.mp h2;have q3:¬shift<0:=aa;have q4:¬6<shift:=aa;cases h3:eI f n t m with
   |false=>
    have HB:Hid (aX now shift f n t m=false):=rh h3;rw[h3]at H1;go_enter Tz.func16,Tryz.ntmps16
    go_wp2_with(go_at_call 50;refine H1.mono ?_;clear H1;rintro e w1 ⟨rfl,b1⟩)
    go_ret;exact⟨bQ HB.out.symm,bA.trans<|b1.mono bA.size⟩
   |true=>
    obtain⟨hm,rfl,gE⟩:=rj h3;have h6:=bZ hm;have HM:Hid (aE f m=true):=hm;have HY:Hid (mc now f t m=true->aX now shift f m t m=true):=by
     have h:mc now f t m=true->aX now shift f m t m=true:=λh4=>tL h1 h2 h3 h4
     exact h
    have Ce:IntKind.i64.wrap (now+4)=now+4:=hZ;rw[h3]at H1;clear hm gE;let⟨p0,p1,p2,p3⟩:=hA;go_enter Tz.func16,Tryz.ntmps16
    go_wp2_with(go_at_call 50;refine H1.mono ?_;clear H1;rintro e w1 ⟨rfl,b1⟩;let⟨g0,g1,g2,g3⟩:=(FK.mk p0 p1 p2 p3).below b1 aF)
    have nQ:Below w w w1:=bA.trans<|b1.mono bA.size;have eO:w.heap.size<w1:=ac6 aF b1.size;have La:=FK.mk g0 g1 g2 g3;clear p0 p1 p2 p3 b1;go_loopw [32] (λx wr=>∃k:Nat,k<=m/\x=.int .i64 k/\(∀j,j<k->iP now (f j) (t j)=true)/\Below w1 w1 wr) (λx _=>m-(intOf x).toNat)
    case atStart=>exact⟨0,ada _,rfl,λj hj=>absurd hj<|ac9 _,acW _ _⟩
    case round=>
     obtain⟨k,hk,rfl,cE,hB⟩:=hrel;have gK:Below w w wr:=nQ.trans<|hB.mono nQ.size;by_cases aB:k<m
     .have dr:(k:Int)<m:=by omega
      have gG:=aU.below gK bI k aB;let⟨c0,c1,c2,c3,c4,c5⟩:=aq.below gK bH k aB;have XT:=La.below hB eO;have bM:=jK wr<|f k;have hM:=px wr<|f k;have lz:w.heap.size<wr:=ac6 eO hB.size;have T8:=XT.below bM lz;have Za:(fc wr<|f k).cell? ⟨b',ce+k,none⟩=some (.int .i64<|t k):=(bM.cell (p:=⟨b',ce+k,none⟩)<|ac6 bI gK.size).trans gG;have hne:=aG<|fc wr<|f k;have x0:=λx:ai (fc wr<|f k)=>x.cell T8.c0
      have x3:=λx:ai (fc wr<|f k)=>x.cell T8.c3
      have y6:=λx:ai (fc wr<|f k)=>x.cell Za
      rcases A0 now (t k) (bg HM.out k aB)with⟨hs,d1⟩|⟨hs,d1,d2⟩|⟨hs,d1,d2,d3⟩|⟨hs,d1,d2,d3⟩
      .have HB:Hid (aX now shift f m t m=false):=nI<|ti aB hs;have D1:Hid (decide (t k<now)=true):=d1;clear hs d1;go_wp2;have d1:=D1.out;refine kI ?_;intro w2 cP;go_wp2;go_ret;exact⟨bQ HB.out.symm,gK.trans<|(bM.trans<|cP.mono bM.size).mono gK.size⟩
      .have HS:Hid (iP now (f k) (t k)=true):=hs;have D1:Hid (decide (t k<now)=false):=d1;have D2:Hid (decide (t k<now+4)=false):=d2;clear hs d1 d2;go_wp2;have d1:=D1.out;refine kI ?_;intro w2 cP;have qj:Below wr wr w2:=bM.trans<|cP.mono bM.size;have X0:=hM.below cP aF;have R6:=T8.below cP<|ac6 lz bM.size;have Zb:w2.cell? ⟨b',ce+k,none⟩=some (.int .i64<|t k):=(cP.cell (p:=⟨b',ce+k,none⟩)<|ac6 (ac6 bI gK.size) bM.size).trans Za;clear x0 x3 y6 hne d1;have hne:=aG w2;have x0:=λx:ai w2=>x.cell R6.c0
       have x3:=λx:ai w2=>x.cell R6.c3
       have y6:=λx:ai w2=>x.cell Zb
       have z5:=λx:ai w2=>x.cell X0.c5
       simp only[Nat.zero_add]at z5;have D4:Hid (((f k).prom==-1)=true\/((f k).prom==-1)=false):=by
        have h:((f k).prom==-1)=true\/((f k).prom==-1)=false:=by cases ((f k).prom==-1)<;>simp
        exact h
       go_wp2;have d2:=D2.out;rcases D4.out with d4|d4;all_goals
        refine kI ?_;intro w3 iw;go_wp2;go_roundw
        case rel=>exact⟨k+1,aa,by go_num,λj hj=>by
         by_cases e:j=k
         .subst e;exact HS.out
         .exact cE j aa,hB.trans ((qj.trans<|iw.mono qj.size).mono hB.size)⟩
        case measure=>exact cI
      .have HB:Hid (aX now shift f m t m=false):=nI<|ti aB hs;have D1:Hid (decide (t k<now)=false):=d1;have D2:Hid (decide (t k<now+4)=true):=d2;have D3:Hid (((f k).prom==-1)=true):=by
        have h:((f k).prom==-1)=true:=by rw[d3];rfl
        exact h
       clear hs d1 d2 d3;go_wp2;have d1:=D1.out;refine kI ?_;intro w2 cP;have qj:Below wr wr w2:=bM.trans<|cP.mono bM.size;have X0:=hM.below cP aF;have R6:=T8.below cP<|ac6 lz bM.size;have Zb:w2.cell? ⟨b',ce+k,none⟩=some (.int .i64<|t k):=(cP.cell (p:=⟨b',ce+k,none⟩)<|ac6 (ac6 bI gK.size) bM.size).trans Za;clear x0 x3 y6 hne d1;have hne:=aG w2;have x0:=λx:ai w2=>x.cell R6.c0
       have x3:=λx:ai w2=>x.cell R6.c3
       have y6:=λx:ai w2=>x.cell Zb
       have z5:=λx:ai w2=>x.cell X0.c5
       simp only[Nat.zero_add]at z5;go_wp2;have d2:=D2.out;have d3:=D3.out;refine kI ?_;intro w3 iw;go_wp2;go_ret;exact⟨bQ HB.out.symm,gK.trans<|(qj.trans<|iw.mono qj.size).mono gK.size⟩
      .have HS:Hid (iP now (f k) (t k)=true):=hs;have D1:Hid (decide (t k<now)=false):=d1;have D2:Hid (decide (t k<now+4)=true):=d2;have D3:Hid (((f k).prom==-1)=false):=by
        have h:((f k).prom==-1)=false:=cU;exact h
       clear hs d1 d2 d3;go_wp2;have d1:=D1.out;refine kI ?_;intro w2 cP;have qj:Below wr wr w2:=bM.trans<|cP.mono bM.size;have X0:=hM.below cP aF;have R6:=T8.below cP<|ac6 lz bM.size;have Zb:w2.cell? ⟨b',ce+k,none⟩=some (.int .i64<|t k):=(cP.cell (p:=⟨b',ce+k,none⟩)<|ac6 (ac6 bI gK.size) bM.size).trans Za;clear x0 x3 y6 hne d1;have hne:=aG w2;have x0:=λx:ai w2=>x.cell R6.c0
       have x3:=λx:ai w2=>x.cell R6.c3
       have y6:=λx:ai w2=>x.cell Zb
       have z5:=λx:ai w2=>x.cell X0.c5
       simp only[Nat.zero_add]at z5;go_wp2;have d2:=D2.out;have d3:=D3.out;refine kI ?_;intro w3 iw;go_wp2;go_roundw
       case rel=>exact⟨k+1,aa,by go_num,λj hj=>by
        by_cases e:j=k
        .subst e;exact HS.out
        .exact cE j aa,hB.trans ((qj.trans<|iw.mono qj.size).mono hB.size)⟩
       case measure=>exact cI
     .have HB:Hid (aX now shift f m t m=true):=by
       have h:aX now shift f m t m=true:=HY.out<|AZ λi hi=>cE i aa;exact h
      go_wp2;go_ret;exact⟨bQ HB.out.symm,gK⟩
