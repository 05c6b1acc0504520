import Derived.Test.YtlmcblcijndipaaGreatDoora15
import Derived.Test.YtlmcblcijndipaaGreatDoora08c
set_option linter.defProp false
set_option maxHeartbeats 2000000
namespace Go.Proofs.YtlmcblcijndipaaGreatDoor
open Go.RowKit Go.Shelf RowKit
variable {n:Nat}{t:Nat->Int}{f:Nat->Mv}
def yE {m:Mv}(hm:m.Fits)(w:World):
  Calls Tz.prog 41 #[.agg #[m.name,m.aj,m.ap,m.aW,m.late,m.prom]] w λe w'=>e=.returned m.ok/\Below w w w':=CM _ _ _ _ _ _ _ hm.name
def mD (b off n cap:Nat)(f:Nat->Mv)(w:World)(hn:n<=1048576)(bH:b<w)(aq:aI w b off n f)(hf:∀i,i<n->(f i).Fits):
  Calls Tz.prog 99 #[.slice (some ⟨b,off,none⟩) n cap] w λe w'=>e=.returned (.bool<|aE f n)/\Below w w w':=by
 by_cases h6:6<n
 .have hm:aE f n=false:=uP aa;have I_:(6:Int)<n:=aa;go_enter Tz.func99,Tryz.ntmps99
  go_wp2;go_ret;exact⟨bQ hm.symm,acW _ _⟩
 .go_enter Tz.func99,Tryz.ntmps99
  go_wp2;go_loopw [3] (λi w'=>∃k:Nat,k<=n/\i=.int .i64 k/\kC f k/\Below w w w') (λi _=>n-(intOf i).toNat)
  case atStart=>exact⟨0,ada _,rfl,λi hi=>absurd hi<|ac9 _,acW _ _⟩
  case round=>
   obtain⟨k,hk,rfl,dz,hB⟩:=hrel;by_cases aB:k<n
   .have hr:=aq.below hB bH;let⟨c0,c1,c2,c3,c4,c5⟩:=hr k aB;have gE:=hf k aB;have dr:(k:Int)<n:=aa;have nR:b<wr:=ac6 bH hB.size;have hne:=aG wr;have d0:=λx:ai wr=>x.cell c0
    have d1:=λx:ai wr=>x.cell c1
    have d2:=λx:ai wr=>x.cell c2
    have d3:=λx:ai wr=>x.cell c3
    have d4:=λx:ai wr=>x.cell c4
    have d5:=λx:ai wr=>x.cell c5
    cases ez:(f k).ok with
    |false=>
     have tF:iu f k=false:=by unfold iu;rw[ez];rfl
     go_wp2;refine aS ?_;repeat(go_big_quiet_step ((go_at_call 41;exact bT<|yE gE _)))
     refine wpQuiet_nil<|cf ?_;intro w1 bP;go_wp2;go_ret;exact⟨bQ (ql aB tF).symm,hB.trans<|bP.mono hB.size⟩
    |true=>
     by_cases uE:k=0
     .have tF:iu f k=true:=by unfold iu;rw[ez,uE];rfl
      have HS:Hid (kC f<|k+1):=kD dz tF;go_wp2;have hz:decide (0<k)=false:=cU;clear uE;refine aS ?_;repeat(go_big_quiet_step ((go_at_call 41;exact bT<|yE gE _)))
      refine wpQuiet_nil<|cf ?_;intro w1 bP;go_wp2;go_roundw
      case rel=>exact⟨k+1,aa,by go_num,HS.out,hB.trans<|bP.mono hB.size⟩
      case measure=>exact cI
     .obtain⟨j,rfl⟩:∃j,k=j+1:=⟨k-1,aa⟩;have e0:=λx:ai wr=>x.cell (hr j aa).c0
      have hj1:(j:Int)<n:=aa;have hz:(0:Int)<(j:Int)+1:=aa;cases pF:bU (f j).name (f<|j+1).name with
      |true=>
       have HS:Hid (kC f<|j+1+1):=kD dz (by unfold iu;rw[ez];simpa using pF);unfold bU at pF;go_wp2;refine aS ?_;repeat(go_big_quiet_step ((go_at_call 41;exact bT<|yE gE _)))
       refine wpQuiet_nil<|cf ?_;intro w1 bP;go_wp2;go_roundw
       case rel=>exact⟨j+1+1,aa,by go_num,HS.out,hB.trans<|bP.mono hB.size⟩
       case measure=>exact cI
      |false=>
       have HS:Hid (aE f n=false):=ql aB (by unfold iu;rw[ez];simpa using pF);unfold bU at pF;go_wp2;refine aS ?_;repeat(go_big_quiet_step ((go_at_call 41;exact bT<|yE gE _)))
       refine wpQuiet_nil<|cf ?_;intro w1 bP;go_wp2;go_ret;exact⟨bQ HS.out.symm,hB.trans<|bP.mono hB.size⟩
   .go_wp2;go_ret;exact⟨bQ (jv (by omega)<|by rw[show n=k by omega];exact dz).symm,hB⟩
def xB (m:Mv)(w:World):
  Calls Tz.prog 106 #[.agg #[m.name,m.aj,m.ap,m.aW,m.late,m.prom]] w λe w'=>e=.returned m.ok/\Below w w w':=Ck _ _ _ _ _ _ _
def fS (b off n cap:Nat)(f:Nat->Mv)(w:World)(hn:n<=1048576)(bH:b<w)(aq:aI w b off n f):
  Calls Tz.prog 75 #[.slice (some ⟨b,off,none⟩) n cap] w λe w'=>e=.returned (.bool<|aE f n)/\Below w w w':=by
 by_cases h6:6<n
 .have hm:aE f n=false:=uP aa;have I_:(6:Int)<n:=aa;go_enter Tz.func75,Tryz.ntmps75
  go_wp2;go_ret;exact⟨bQ hm.symm,acW _ _⟩
 .go_enter Tz.func75,Tryz.ntmps75
  go_wp2;go_loopw [10] (λi w'=>∃k:Nat,k<=n/\i=.int .i64 k/\kC f k/\Below w w w') (λi _=>n-(intOf i).toNat)
  case atStart=>exact⟨0,ada _,rfl,λi hi=>absurd hi<|ac9 _,acW _ _⟩
  case round=>
   obtain⟨k,hk,rfl,dz,hB⟩:=hrel;by_cases aB:k<n
   .have hr:=aq.below hB bH;let⟨c0,c1,c2,c3,c4,c5⟩:=hr k aB;have dr:(k:Int)<n:=aa;have nR:b<wr:=ac6 bH hB.size;cases ez:(f k).ok with
    |false=>
     have HS:Hid (aE f n=false):=ql aB (by unfold iu;rw[ez];rfl);go_wp2_with(go_at_call 106;refine(xB (f k) _).mono ?_;rintro e w1 ⟨rfl,bP⟩;let⟨kq,pE⟩:=jJ bP)
     go_ret;exact⟨bQ HS.out.symm,hB.trans<|(lj (od wr _) bP).2.mono hB.size⟩
    |true=>
     by_cases uE:k=0
     .have HS:Hid (kC f<|k+1):=kD dz (by unfold iu;rw[ez,uE];rfl);have HK:Hid (k=0):=uE;clear uE;go_wp2_with(go_at_call 106;refine(xB (f k) _).mono ?_;rintro e w1 ⟨rfl,bP⟩;let⟨kq,pE⟩:=jJ bP)
      have hz:decide (0<k)=false:=by have:=HK.out;simp;omega
      have hq:=lj (od wr _) bP;have hne:=aG w1;refine kI ?_;intro w2 cP;go_wp2;go_roundw
      case rel=>exact⟨k+1,aa,by go_num,HS.out,hB.trans<|(hq.2.trans<|cP.mono hq.2.size).mono hB.size⟩
      case measure=>exact cI
     .obtain⟨j,rfl⟩:∃j,k=j+1:=⟨k-1,aa⟩;have hj1:(j:Int)<n:=aa;have hz:(0:Int)<(j:Int)+1:=aa;cases pF:bU (f j).name (f<|j+1).name with
      |true=>
       have HS:Hid (kC f<|j+1+1):=kD dz (by unfold iu;rw[ez];simpa using pF);unfold bU at pF;go_wp2_with(go_at_call 106;refine(xB (f<|j+1) _).mono ?_;rintro e w1 ⟨rfl,bP⟩;let⟨kq,pE⟩:=jJ bP)
       have hq:=lj (od wr _) bP;have hne:=aG w1;have g0:w1.cell? wr.heap.size=some (.string (f<|j+1).name):=by rw[kq _ _ aF,World.cell?_alloc_new];rfl
       have e0:=λx:ai w1=>x.cell g0
       have e1:=λx:ai w1=>x.cell ((hr.below hq.2 nR) j aa).c0
       refine kI ?_;intro w2 cP;go_wp2;go_roundw
       case rel=>exact⟨j+1+1,aa,by go_num,HS.out,hB.trans<|(hq.2.trans<|cP.mono hq.2.size).mono hB.size⟩
       case measure=>exact cI
      |false=>
       have HS:Hid (aE f n=false):=ql aB (by unfold iu;rw[ez];simpa using pF);unfold bU at pF;go_wp2_with(go_at_call 106;refine(xB (f<|j+1) _).mono ?_;rintro e w1 ⟨rfl,bP⟩;let⟨kq,pE⟩:=jJ bP)
       have hq:=lj (od wr _) bP;have hne:=aG w1;have g0:w1.cell? wr.heap.size=some (.string (f<|j+1).name):=by rw[kq _ _ aF,World.cell?_alloc_new];rfl
       have e0:=λx:ai w1=>x.cell g0
       have e1:=λx:ai w1=>x.cell ((hr.below hq.2 nR) j aa).c0
       refine kI ?_;intro w2 cP;go_wp2;go_ret;exact⟨bQ HS.out.symm,hB.trans<|(hq.2.trans<|cP.mono hq.2.size).mono hB.size⟩
   .go_wp2;go_ret;exact⟨bQ (jv (by omega)<|by rw[show n=k by omega];exact dz).symm,hB⟩
def GI (n lo hi:Int)(w:World):
  Calls Tz.prog 70 #[n,lo,hi] w λe w'=>e=.returned (.bool<|iL n lo hi)/\Below w w w':=
 (ic n lo hi w).mono λ_ _ ⟨he,hw⟩=>⟨he,hw▸acW _ _⟩
def vY (hm:aE f n=true){k:Nat}(hk:k<n)(hs:(f k).fG (t k)=true):0<=t k/\t k<=10000:=by
 have h1:=Mv.fX<|bg hm k hk;have h2:=iR hs;omega
def Kw (p t:Int):(0<=p/\(t !=p)=true)\/(0<=p/\(t !=p)=false)\/p<0:=by
 by_cases h:0<=p
 .cases e:(t !=p)with
  |true=>exact .inl ⟨h,rfl⟩
  |false=>exact .inr<|.inl ⟨h,rfl⟩
 .exact .inr (.inr aa)
def CL (b off n cap:Nat)(f:Nat->Mv)(b' ce m cap':Nat)(t:Nat->Int)(w:World)(hn:n<=1048576)(lU:m<=maxLen)(bH:b<w)(aq:aI w b off n f)(hf:∀i,i<n->(f i).Fits)(bI:b'<w)(aU:aA w b' ce m t):
  Calls Tz.prog 71 #[.slice (some ⟨b,off,none⟩) n cap,.slice (some ⟨b',ce,none⟩) m cap'] w λe w'=>e=.returned (.bool<|eI f n t m)/\Below w w w':=by
 unfold maxLen at lU;cases hm:aE f n with
 |false=>
  have HF:Hid (eI f n t m=false):=jM hm;go_enter Tz.func71,Tryz.ntmps71
  go_wp2_with(go_at_call 99;refine(mD _ _ _ _ f _ hn bH aq hf).mono ?_;rintro e w1 ⟨rfl,bP⟩)
  go_ret;exact⟨bQ HF.out.symm,bP⟩
 |true=>
  by_cases hlen:m=n
  .subst hlen;have HM:Hid (aE f m=true):=hm;have h6:=bZ hm;go_enter Tz.func71,Tryz.ntmps71
   go_wp2_with(go_at_call 99;refine(mD _ _ _ _ f _ hn bH aq hf).mono ?_;rintro e w1 ⟨rfl,bP⟩)
   clear hm;go_loopw [5] (λi w'=>∃k:Nat,k<=m/\i=.int .i64 k/\fk f t k/\Below w w w') (λi _=>m-(intOf i).toNat)
   case atStart=>exact⟨0,ada _,rfl,wh f t,bP⟩
   case round=>
    obtain⟨k,hk,rfl,gE,hB⟩:=hrel;by_cases aB:k<m
    .have hr:=aq.below hB bH;have gG:=aU.below hB bI;let⟨c0,c1,c2,c3,c4,c5⟩:=hr k aB;have d0:=gG k aB;have nR:b<wr:=ac6 bH hB.size;have Us:b'<wr:=ac6 bI hB.size;have dr:(k:Int)<m:=aa;have hne:=aG wr;have e3:=λx:ai wr=>x.cell c3
     have e4:=λx:ai wr=>x.cell c4
     have e5:=λx:ai wr=>x.cell c5
     have e6:=λx:ai wr=>x.cell d0
     have WM:=Hr (bg HM.out k aB)<|t k;cases hi:iL (t k) (f k).aW (f k).late with
     |false=>
      have HS:Hid ((f k).fG (t k)=false):=by rw[WM,hi];rfl
      clear WM;go_wp2;refine aS ?_;repeat(go_big_quiet_step ((go_at_call 70;exact bT<|GI _ _ _ _)))
      refine wpQuiet_nil<|cf ?_;intro w2 cP;go_wp2;go_ret;exact⟨bQ (ri aB HS.out).symm,hB.trans<|cP.mono hB.size⟩
     |true=>
      rcases Kw (f k).prom (t k)with⟨hp,Qo⟩|⟨hp,Qo⟩|hp
      .have Pv:(f k).fG (t k)=false:=by rw[WM,hi,Qo];simp[hp]
       have HS:Hid _:=Pv;clear WM Pv;go_wp2;refine aS ?_;repeat(go_big_quiet_step ((go_at_call 70;exact bT<|GI _ _ _ _)))
       refine wpQuiet_nil<|cf ?_;intro w2 cP;go_wp2;go_ret;exact⟨bQ (ri aB HS.out).symm,hB.trans<|cP.mono hB.size⟩
      all_goals
       have Pv:(f k).fG (t k)=true:=by rw[WM,hi];first|(rw[Qo];simp)|(simp;omega)
       have HS:Hid _:=Pv;have Cc:=vY HM.out aB Pv;let⟨Zm,Zn⟩:=Cc;clear WM Pv;go_wp2;try have O9:decide (0<=(f k).prom)=false:=by(simp;omega)
       refine aS ?_;repeat(go_big_quiet_step ((go_at_call 70;exact bT<|GI _ _ _ _)))
       refine wpQuiet_nil<|cf ?_;intro w2 cP;have rl:Below w w w2:=hB.trans<|cP.mono hB.size;go_wp2;go_loopw [6] (λi w'=>∃q:Nat,q<=k/\i=.int .i64 q/\(∀p,p<q->(f p).gP (f k) (t p) (t k)=false)/\Below w w w') (λi _=>k-(intOf i).toNat)
       case atStart=>exact⟨0,ada _,rfl,λp hp=>absurd hp<|ac9 _,rl⟩
       case round=>
        clear hB rl cP hr gG c0 c1 c2 c3 c4 c5 d0 nR Us hne e3 e4 e5 e6;obtain⟨q,hq,rfl,pg,hB⟩:=hrel;by_cases IG:q<k
        .have hr:=aq.below hB bH;have gG:=aU.below hB bI;have uE:=hr k aB;have Ka:=hr q aa;have hne:=aG wr;have a0:=λx:ai wr=>x.cell uE.c0
         have a1:=λx:ai wr=>x.cell uE.c1
         have a2:=λx:ai wr=>x.cell uE.c2
         have a3:=λx:ai wr=>x.cell uE.c3
         have a4:=λx:ai wr=>x.cell uE.c4
         have a5:=λx:ai wr=>x.cell uE.c5
         have b0:=λx:ai wr=>x.cell Ka.c0
         have b1:=λx:ai wr=>x.cell Ka.c1
         have b2:=λx:ai wr=>x.cell Ka.c2
         have b3:=λx:ai wr=>x.cell Ka.c3
         have b4:=λx:ai wr=>x.cell Ka.c4
         have b5:=λx:ai wr=>x.cell Ka.c5
         have d0:=λx:ai wr=>x.cell<|gG k aB
         have d1:=λx:ai wr=>x.cell<|gG q aa
         have hqm:q<m:=aa;have acs:(q:Int)<m:=aa;have acd:(k:Int)<m:=aa;let⟨Zo,Zp⟩:=vY HM.out hqm<|gE.1 q IG;cases oJ:(f q).gP (f k) (t q) (t k)with
         |true=>
          go_wp2;refine aS ?_;repeat(go_big_quiet_step ((go_at_call 100;exact bT<|zZ (f q) (f k) _ _ _ Zo Zp Zm Zn)))
          refine wpQuiet_nil<|cf ?_;intro w3 iw;go_wp2;go_ret;exact⟨bQ (wS IG aB oJ).symm,hB.trans<|iw.mono hB.size⟩
         |false=>
          go_wp2;refine aS ?_;repeat(go_big_quiet_step ((go_at_call 100;exact bT<|zZ (f q) (f k) _ _ _ Zo Zp Zm Zn)))
          refine wpQuiet_nil<|cf ?_;intro w3 iw;go_wp2;go_roundw
          case rel=>exact⟨q+1,aa,by go_num,λp hp=>by
           by_cases e:p=q
           .subst e;exact oJ
           .exact pg p aa,hB.trans (iw.mono hB.size)⟩
          case measure=>exact cI
        .go_wp2;go_roundw
         case rel=>exact⟨k+1,aa,by go_num,FL gE HS.out λp hp=>pg p aa,hB⟩
         case measure=>exact cI
    .go_wp2;go_ret;exact⟨bQ ((jp HM.out).mpr<|by rw[show m=k by omega];exact gE).symm,hB⟩
  .have HF:Hid (eI f n t m=false):=tR hlen;have mI:((m:Int)!=n)=true:=cU;go_enter Tz.func71,Tryz.ntmps71
   go_wp2_with(go_at_call 99;refine(mD _ _ _ _ f _ hn bH aq hf).mono ?_;rintro e w1 ⟨rfl,bP⟩)
   go_ret;exact⟨bQ HF.out.symm,bP⟩
section
attribute [local go_sem] Oper.semAt_some
abbrev OY (n:Nat):={p:Nat×Nat // p.1<p.2/\p.2<n}
abbrev OY.cm {n:Nat}(x:OY n):Array Value:=#[.int .i64 (x.1.1:Int),.int .i64 (x.1.2:Int)]
def Te (n:Nat)(xs:List (OY n)):Prop:=∀i j (h:i<j/\j<n),(⟨(i,j),h⟩:OY n)∈xs
def AN (n:Int)(w:World):
  Calls Tz.prog 77 #[n] w λe w'=>e=.returned (.func (.func 108) #[] #[.pointer w.heap.size])/\w'=w.alloc (.cells #[n] 3):=by
 go_enter Tz.func77,Tryz.ntmps77
 go_wp2;go_ret;exact⟨rfl,rfl⟩
def uS (m:Nat)(Bn ay n:Nat)(w:World)(hn:n<=1048576)(O1:Bn<ay)(abM:ay<=w)(hc:w.cell? Bn=some (.int .i64 (n:Int))):
  SeqStopsK Fence.wide m Tz.prog 108 #[.pointer Bn] (OY.cm (n:=n)) (Below ay) (Te n) (λ_=>True) (n*n) w:=λl J Jx W hW _ _ hY h0=>by
 have Y':W.cell? Bn=some (.int .i64 (n:Int)):=(hW.cell (p:=Bn) cU).trans hc;refine callsIn_of_wp Tz.func108 rfl trivial ?_ rfl;simp only[Tryz.ntmps108,List.size_toArray,List.length_cons,List.length_nil,Nat.reduceAdd,Nat.reduceSub,Array.replicate_succ,Array.replicate_zero,List.push_toArray,List.append_toArray,List.nil_append,List.cons_append];gi_wp2
 gi_loopw [6] (λi wr=>∃(k:Nat) (pre:List (OY n)),k<=n/\i=.int .i64 k/\pre.length<=k*n/\(∀i j (h:i<j/\j<n),i<k->(⟨(i,j),h⟩:OY n)∈pre)/\wr.cell? ⟨Bn,0,none⟩=some (.int .i64 (n:Int))/\J pre wr)
  (λi _=>n-(intOf i).toNat)
 case atStart=>exact⟨0,[],ada _,rfl,aF,λi j h hi=>absurd hi<|ac9 _,Y',h0⟩
 case round=>
  clear Y' h0;obtain⟨k,pre,hk,rfl,hlen,cE,Uy,hJ⟩:=hrel;by_cases aB:k<n
  .gi_wp2
   gi_loopw [4] (λi wr=>∃(q:Nat) (pre:List (OY n)),k<q/\q<=n/\i=.int .i64 q/\pre.length<=k*n+q/\(∀i j (h:i<j/\j<n),(i<k\/i=k/\j<q)->(⟨(i,j),h⟩:OY n)∈pre)/\wr.cell? ⟨Bn,0,none⟩=some (.int .i64 (n:Int))/\J pre wr)
    (λi _=>n-(intOf i).toNat)
   case atStart=>exact⟨k+1,pre,by omega,by omega,by go_num,by omega,λi j h hi=>cE i j h<|by omega,Uy,hJ⟩
   case round=>
    clear hlen cE Uy hJ;obtain⟨q,pre,hkq,hq,rfl,hlen,cE,Uy,hJ⟩:=hrel;by_cases IG:q<n
    .have hN:pre.length<n*n:=by
      have h1:(k+1)*n<=n*n:=Nat.mul_le_mul_right n aB;have h2:(k+1)*n=k*n+n:=Nat.succ_mul k n;omega
     let⟨fn,tmps,assign,body,hy,hR⟩:=hY pre ⟨(k,q),hkq,IG⟩ wr hJ hN;dsimp only[OY.cm]at hy;gi_wp2
     refine⟨λh=>(by simp[Fence.wide]at h),hR.mono ?_⟩;rintro e W3 (⟨rfl,XY,YI⟩|⟨rfl,aaD⟩)
     .have Yi:W3.cell? Bn=some (.int .i64 (n:Int)):=(YI.cell (p:=Bn) O1).trans Uy;gi_wp2
      go_roundw
      case rel=>exact⟨q+1,pre++[⟨(k,q),hkq,IG⟩],aa,aa,by go_num,cU,λi j h hi=>by
       by_cases e:i=k/\j=q
       .obtain⟨rfl,rfl⟩:=e;exact List.mem_append_right _ aF
       .exact List.mem_append_left _ (cE i j h aa),Yi,XY⟩
      case measure=>exact cI
     .gi_wp2
      refine bodyPost_ret (results_none rfl _ _ _) rfl ?_;exact⟨⟨_,rfl⟩,.inr ⟨_,trivial,aaD⟩⟩
    .gi_wp2
     go_roundw
     case rel=>exact⟨k+1,pre,aa,by go_num,by
      have h2:(k+1)*n=k*n+n:=Nat.succ_mul k n;omega,λi j h hi=>cE i j h aa,Uy,hJ⟩
     case measure=>exact cI
  .gi_wp2
   go_end0
   exact⟨⟨_,rfl⟩,.inl ⟨pre,λi j h=>cE i j h aa,hJ⟩⟩
end
section
attribute [local go_sem] Oper.semAt_some
set_option linter.unusedVariables false
def xA (b off n cap:Nat)(f:Nat->Mv)(a':Option Addr)(m cap':Nat)(t:Nat->Int)(w:World)(hn:n<=1048576)(lU:m<=maxLen)(bH:b<w)(aq:aI w b off n f)(h:aE f n=false\/m≠n):
  Calls Tz.prog 50 #[.slice (some ⟨b,off,none⟩) n cap,.slice a' m cap'] w λe w'=>e=.returned (.bool<|eI f n t m)/\Below w w w':=by
 unfold maxLen at lU;have mF:∀o1 o2 o3,Below w w (((w.alloc o1).alloc o2).alloc o3):=λo1 o2 o3=>(((acW _ w).alloc (ac5 _) _).alloc aF _).alloc cU _
 have hF0:eI f n t m=false:=by rcases h with h|h;exact jM h;exact tR h
 have HF:Hid (eI f n t m=false):=hF0;clear hF0;cases hm:aE f n with
 |false=>
  clear h;go_enter Tz.func50,Tryz.ntmps50
  go_wp2_with(go_at_call 75;refine(fS _ _ _ _ f _ hn cU<|aq.below (mF _ _ _) bH).mono ?_;rintro e w1 ⟨rfl,bP⟩;let⟨kq,pE⟩:=jJ bP)
  have hz:=bP.size;simp at hz;refine bodyPost_ret (v:=false) (by simp[results,Tryz.results50,go_sem,kq]) rfl ⟨bQ HF.out.symm,?_⟩;exact((mF _ _ _).trans<|bP.mono (mF _ _ _).size).setCell cU _
 |true=>
  have hl:m≠n:=by rcases h with h|h;rw[hm]at h;cases h;exact h
  have mI:((m:Int)!=n)=true:=cU;clear h;go_enter Tz.func50,Tryz.ntmps50
  go_wp2_with(go_at_call 75;refine(fS _ _ _ _ f _ hn cU<|aq.below (mF _ _ _) bH).mono ?_;rintro e w1 ⟨rfl,bP⟩;let⟨kq,pE⟩:=jJ bP)
  have hz:=bP.size;simp at hz;refine bodyPost_ret (v:=false) (by simp[results,Tryz.results50,go_sem,kq]) rfl ⟨bQ HF.out.symm,?_⟩;exact((mF _ _ _).trans<|bP.mono (mF _ _ _).size).setCell cU _
abbrev fc (w:World)(m:Mv):World:=w.alloc<|.cells #[m.name,m.aj,m.ap,m.aW,m.late,m.prom] 31
def pI (b off n cap:Nat)(f:Nat->Mv)(b' ce m cap':Nat)(t:Nat->Int)(w:World)(hn:n<=1048576)(lU:m<=maxLen)(bH:b<w)(aq:aI w b off n f)(h:aE f n=false\/m≠n):
  Calls Tz.prog 50 #[.slice (some ⟨b,off,none⟩) n cap,.slice (some ⟨b',ce,none⟩) m cap'] w λe w'=>e=.returned (.bool<|eI f n t m)/\Below w w w':=
 xA b off n cap f (some ⟨b',ce,none⟩) m cap' t w hn lU bH aq h
def px (w:World)(m:Mv):tH (fc w m) w.heap.size 0 m:=by
 constructor<;>simp[fc]
def jK (w:World)(m:Mv):Below w w (fc w m):=(acW _ _).alloc (ac5 _) _
def sP (b off n cap:Nat)(f:Nat->Mv)(b' ce cap':Nat)(t:Nat->Int)(w:World)(hn:n<=1048576)(bH:b<w)(aq:aI w b off n f)(bI:b'<w)(aU:aA w b' ce n t)(hm:aE f n=true)(pg:¬∀i,i<n->(f i).fG (t i)=true):
  Calls Tz.prog 50 #[.slice (some ⟨b,off,none⟩) n cap,.slice (some ⟨b',ce,none⟩) n cap'] w λe w'=>e=.returned (.bool<|eI f n t n)/\Below w w w':=by
 have mF:∀o1 o2 o3,Below w w (((w.alloc o1).alloc o2).alloc o3):=λo1 o2 o3=>(((acW _ w).alloc (ac5 _) _).alloc aF _).alloc cU _
 go_enter Tz.func50,Tryz.ntmps50
 go_wp2_with(go_at_call 75;refine(fS _ _ _ _ f _ hn cU<|aq.below (mF _ _ _) bH).mono ?_;rintro e w1 ⟨rfl,bP⟩;let⟨kq,pE⟩:=jJ bP)
 have hz:=bP.size;simp at hz;have nQ:Below w w w1:=(mF _ _ _).trans<|bP.mono (mF _ _ _).size;have l0:w1.cell? w.heap.size=some (.slice (some ⟨b,off,none⟩) n cap):=by rw[kq w.heap.size 0 cU];simp[go_sem]
 have l1:w1.cell? ⟨w.heap.size+1,0,none⟩=some (.slice (some ⟨b',ce,none⟩) n cap'):=by rw[kq (w.heap.size+1) 0 aF];simp[go_sem]
 have l2:w1.cell? ⟨w.heap.size+1+1,0,none⟩=some (.bool false):=by rw[kq (w.heap.size+1+1) 0 aF];simp[go_sem]
 have l3:w1.frozen? ⟨w.heap.size+1+1,0,none⟩=false:=by rw[pE (w.heap.size+1+1) 0 aF];simp[go_sem]
 clear kq pE bP;go_loopw [21] (λi wr=>∃k:Nat,k<=n/\i=.int .i64 k/\(∀j,j<k->(f j).fG (t j)=true)/\Below w1 w1 wr) (λi _=>n-(intOf i).toNat)
 case atStart=>exact⟨0,ada _,rfl,λj hj=>absurd hj<|ac9 _,acW _ _⟩
 case round=>
  obtain⟨k,hk,rfl,cE,hB⟩:=hrel;by_cases aB:k<n
  .have gK:Below w w wr:=nQ.trans<|hB.mono nQ.size;have hr:=aq.below gK bH k aB;have gG:=aU.below gK bI k aB;let⟨c0,c1,c2,c3,c4,c5⟩:=hr;have hzr:w1.heap.size<=wr:=hB.size;have dr:(k:Int)<n:=aa;have hA:=jK wr<|f k;have hM:=px wr<|f k;have m1:wr.cell? ⟨w.heap.size+1,0,none⟩=some (.slice (some ⟨b',ce,none⟩) n cap'):=(hB.cell (p:=⟨w.heap.size+1,0,none⟩) cU).trans l1;have m2:wr.cell? ⟨w.heap.size+1+1,0,none⟩=some (.bool false):=(hB.cell (p:=⟨w.heap.size+1+1,0,none⟩) cU).trans l2;have m3:wr.frozen? ⟨w.heap.size+1+1,0,none⟩=false:=(hB.frozen (p:=⟨w.heap.size+1+1,0,none⟩) cU).trans l3;have hne:=aG<|fc wr<|f k;have e0:=λx:ai (fc wr<|f k)=>x.cell hM.c0
   have e1:=λx:ai (fc wr<|f k)=>x.cell hM.c1
   have e2:=λx:ai (fc wr<|f k)=>x.cell hM.c2
   have e3:=λx:ai (fc wr<|f k)=>x.cell hM.c3
   have e4:=λx:ai (fc wr<|f k)=>x.cell hM.c4
   have e5:=λx:ai (fc wr<|f k)=>x.cell hM.c5
   have e6:=λx:ai (fc wr<|f k)=>x.cell<|(hA.cell (p:=⟨w.heap.size+1,0,none⟩) cU).trans m1
   have e7:=λx:ai (fc wr<|f k)=>x.cell<|(hA.cell (p:=⟨b',ce+k,none⟩) cU).trans gG
   simp only[Nat.zero_add]at e0 e1 e2 e3 e4 e5;cases hs:(f k).fG (t k)with
   |true=>
    have HS:Hid _:=hs;go_wp2;refine aS ?_;repeat(go_big_quiet_step ((go_at_call 76;exact bT<|um (f k) _ _)))
    refine wpQuiet_nil<|cf ?_;intro w2 cP;go_wp2;go_roundw
    case rel=>exact⟨k+1,aa,by go_num,λj hj=>by
     by_cases e:j=k
     .subst e;exact HS.out
     .exact cE j aa,hB.trans ((hA.trans<|cP.mono hA.size).mono hB.size)⟩
    case measure=>exact cI
   |false=>
    have HF:Hid (eI f n t n=false):=ri aB hs;go_wp2;refine aS ?_;repeat(go_big_quiet_step ((go_at_call 76;exact bT<|um (f k) _ _)))
    refine wpQuiet_nil<|cf ?_;intro w2 cP;have hq:Below wr wr w2:=hA.trans<|cP.mono hA.size;have n2:w2.cell? ⟨w.heap.size+1+1,0,none⟩=some (.bool false):=(hq.cell (p:=⟨w.heap.size+1+1,0,none⟩) cU).trans m2;have n3:w2.frozen? ⟨w.heap.size+1+1,0,none⟩=false:=(hq.frozen (p:=⟨w.heap.size+1+1,0,none⟩) cU).trans m3;go_wp2;refine bodyPost_ret (v:=false) (by simp[results,Tryz.results50,go_sem,n2]) rfl ⟨bQ HF.out.symm,?_⟩;exact(gK.trans<|hq.mono gK.size).setCell cU _
  .exact absurd (λi hi=>cE i aa) pg
end
section
def iC (f:Nat->Mv)(t:Nat->Int)(n:Nat):Prop:=∀j,j<n->0<=(f j).aW/\(f j).aW<=t j/\t j<=10000
def iC.sum (h:iC f t n)(i:Nat)(hi:i<=n):0<=sumTo f t i/\sumTo f t i<=10000*i/\0<=dc f t i/\dc f t i<=10000:=
 E7 i λj hj=>by have:=h j aa;omega
def iC.fits (hm:aE f n=true)(h:fk f t n):iC f t n:=λj hj=>by
 have h1:=Mv.fX<|bg hm j hj;have h2:=iR<|h.1 j hj;omega
def kA (b off n cap:Nat)(f:Nat->Mv)(b' ce m cap':Nat)(t:Nat->Int)(w:World)(h6:n<=6)(Av:n<=m)(bH:b<w)(aq:aI w b off n f)(bI:b'<w)(aU:aA w b' ce n t)(Lh:iC f t n):
  Calls Tz.prog 133 #[.slice (some ⟨b,off,none⟩) n cap,.slice (some ⟨b',ce,none⟩) m cap'] w λe w'=>e=.returned (.tuple #[.int .i64<|sumTo f t n,.int .i64<|dc f t n])/\Below w w w':=by
 go_enter Tz.func133,Tryz.ntmps133
 go_wp2;go_loopw [6,7,8] (λs z i w'=>∃k:Nat,k<=n/\i=.int .i64 k/\s=.int .i64 (sumTo f t k)/\z=.int .i64 (dc f t k)/\Below w w w') (λ_ _ i _=>n-(intOf i).toNat)
 case atStart=>exact⟨0,ada _,rfl,rfl,rfl,acW _ _⟩
 case round=>
  obtain⟨k,hk,rfl,rfl,rfl,hB⟩:=hrel;by_cases aB:k<n
  .have hr:=aq.below hB bH k aB;have gG:=aU.below hB bI k aB;have dr:(k:Int)<n:=aa;have aa5:(k:Int)<m:=aa;let⟨s0,s1,z0,z1⟩:=Lh.sum k hk;have xx:=Lh k aB;have HS:Hid (sumTo f t (k+1)=sumTo f t k+(t k-(f k).aW)):=rfl;have HM:Hid (dc f t (k+1)=if dc f t k<t k-(f k).aW then t k-(f k).aW else dc f t k):=rfl;have hne:=aG wr;have e3:=λx:ai wr=>x.cell hr.c3
   have e6:=λx:ai wr=>x.cell gG
   go_wp2;refine kI ?_;intro w1 bP;by_cases UD:dc f t k<t k-(f k).aW;all_goals
    go_wp2;go_roundw
    case rel=>exact⟨k+1,aa,by go_num,by rw[HS.out],by rw[HM.out];first|rw[if_pos UD]|rw[if_neg aa],hB.trans<|bP.mono hB.size⟩
    case measure=>exact cI
  .have tD:k=n:=by omega
   subst tD;go_wp2;go_ret2
   exact⟨rfl,hB⟩
def Cj (b off n cap:Nat)(f:Nat->Mv)(b' ce m cap':Nat)(t:Nat->Int)(w:World)(h6:n<=6)(Av:n<=m)(bH:b<w)(aq:aI w b off n f)(bI:b'<w)(aU:aA w b' ce n t)(Lh:iC f t n):
  Calls Tz.prog 150 #[.slice (some ⟨b,off,none⟩) n cap,.slice (some ⟨b',ce,none⟩) m cap'] w λe w'=>e=.returned (.tuple #[.int .i64<|sumTo f t n,.int .i64<|dc f t n])/\Below w w w':=by
 go_enter Tz.func150,Tryz.ntmps150
 go_wp2;go_loopw [6,7,13] (λs z i w'=>∃k:Nat,k<=n/\i=.int .i64 k/\s=.int .i64 (sumTo f t k)/\z=.int .i64 (dc f t k)/\Below w w w') (λ_ _ i _=>n-(intOf i).toNat)
 case atStart=>exact⟨0,ada _,rfl,rfl,rfl,acW _ _⟩
 case round=>
  obtain⟨k,hk,rfl,rfl,rfl,hB⟩:=hrel;by_cases aB:k<n
  .have hr:=aq.below hB bH k aB;have gG:=aU.below hB bI k aB;let⟨c0,c1,c2,c3,c4,c5⟩:=hr;have dr:(k:Int)<n:=aa;have aa5:(k:Int)<m:=aa;have Us:b'<wr:=ac6 bI hB.size;let⟨s0,s1,z0,z1⟩:=Lh.sum k hk;let⟨x0,x1,x2⟩:=Lh k aB;have HS:Hid (sumTo f t (k+1)=sumTo f t k+(t k-(f k).aW)):=rfl;have HM:Hid (dc f t (k+1)=if dc f t k<t k-(f k).aW then t k-(f k).aW else dc f t k):=rfl;have hA:=jK wr<|f k;have hM:=px wr<|f k;have hne:=aG<|fc wr<|f k;have e3:=λx:ai (fc wr<|f k)=>x.cell hM.c3
   have e6:=λx:ai (fc wr<|f k)=>x.cell<|(hA.cell (p:=⟨b',ce+k,none⟩) Us).trans gG
   simp only[Nat.zero_add]at e3;go_wp2;refine kI ?_;intro w1 bP;have hq:Below wr wr w1:=hA.trans<|bP.mono hA.size;by_cases UD:dc f t k<t k-(f k).aW;all_goals
    go_wp2;go_roundw
    case rel=>exact⟨k+1,aa,by go_num,by rw[HS.out],by rw[HM.out];first|rw[if_pos UD]|rw[if_neg aa],hB.trans<|hq.mono hB.size⟩
    case measure=>exact cI
  .have tD:k=n:=by omega
   subst tD;go_wp2;go_ret2
   exact⟨rfl,hB⟩
