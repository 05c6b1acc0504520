import Derived.Test.YtlmcblcijndipaaGreatDoorj16
import Derived.Test.YtlmcblcijndipaaGreatDoorj08c
set_option linter.defProp false
set_option maxHeartbeats 2000000
namespace Go.Proofs.YtlmcblcijndipaaGreatDoor
open Go.RowKit Go.Shelf RowKit
variable {n:Nat}{t:Nat->Int}{f:Nat->Mv}
def yO {m:Mv}(hm:m.Fits)(w:World):
  Calls Tz.prog 41 #[.agg #[m.name,m.ak,m.ap,m.bF,m.late,m.prom]] w λe w'=>e=.returned m.ok/\Below w w w':=C5 _ _ _ _ _ _ _ hm.name
def mH (b off n cap:Nat)(f:Nat->Mv)(w:World)(hn:n<=1048576)(bz:b<w)(am:aJ w b off n f)(hf:∀i,i<n->(f i).Fits):
  Calls Tz.prog 99 #[.slice (some ⟨b,off,none⟩) n cap] w λe w'=>e=.returned (.bool<|az f n)/\Below w w w':=by
 by_cases h6:6<n
 .have hm:az f n=false:=vh ab;have h6':(6:Int)<n:=ab;go_enter Tz.func99,Tryz.ntmps99
  go_wp2;go_ret;exact⟨bQ hm.symm,acU _ _⟩
 .go_enter Tz.func99,Tryz.ntmps99
  go_wp2;go_loopw [3] (λi w'=>∃k:Nat,k<=n/\i=.int .i64 k/\kz f k/\Below w w w') (λi _=>n-(intOf i).toNat)
  case atStart=>exact⟨0,ac8 _,rfl,λi hi=>absurd hi<|ac7 _,acU _ _⟩
  case round=>
   obtain⟨k,hk,rfl,de,hB⟩:=hrel;by_cases ay:k<n
   .have hr:=am.below hB bz;let⟨c0,c1,c2,c3,c4,c5⟩:=hr k ay;have gG:=hf k ay;have dq:(k:Int)<n:=ab;have lP:b<wr:=ac4 bz hB.size;have hne:=aF wr;have d0:=λx:ai wr=>x.cell c0
    have d1:=λx:ai wr=>x.cell c1
    have d2:=λx:ai wr=>x.cell c2
    have d3:=λx:ai wr=>x.cell c3
    have d4:=λx:ai wr=>x.cell c4
    have d5:=λx:ai wr=>x.cell c5
    cases eO:(f k).ok with
    |false=>
     have sK:ix f k=false:=by unfold ix;rw[eO];rfl
     go_wp2;refine aI ?_;repeat(go_big_quiet_step ((go_at_call 41;exact bw<|yO gG _)))
     refine wpQuiet_nil<|bL ?_;intro w1 bI;go_wp2;go_ret;exact⟨bQ (qr ay sK).symm,hB.trans<|bI.mono hB.size⟩
    |true=>
     by_cases uS:k=0
     .have sK:ix f k=true:=by unfold ix;rw[eO,uS];rfl
      have HS:Hid (kz f<|k+1):=kA de sK;go_wp2;have hz:decide (0<k)=false:=cH;clear uS;refine aI ?_;repeat(go_big_quiet_step ((go_at_call 41;exact bw<|yO gG _)))
      refine wpQuiet_nil<|bL ?_;intro w1 bI;go_wp2;go_roundw
      case rel=>exact⟨k+1,ab,by go_num,HS.out,hB.trans<|bI.mono hB.size⟩
      case measure=>exact bZ
     .obtain⟨j,rfl⟩:∃j,k=j+1:=⟨k-1,ab⟩;have e0:=λx:ai wr=>x.cell (hr j ab).c0
      have hj1:(j:Int)<n:=ab;have hz:(0:Int)<(j:Int)+1:=ab;cases pI:bX (f j).name (f<|j+1).name with
      |true=>
       have HS:Hid (kz f<|j+1+1):=kA de (by unfold ix;rw[eO];simpa using pI);unfold bX at pI;go_wp2;refine aI ?_;repeat(go_big_quiet_step ((go_at_call 41;exact bw<|yO gG _)))
       refine wpQuiet_nil<|bL ?_;intro w1 bI;go_wp2;go_roundw
       case rel=>exact⟨j+1+1,ab,by go_num,HS.out,hB.trans<|bI.mono hB.size⟩
       case measure=>exact bZ
      |false=>
       have HS:Hid (az f n=false):=qr ay (by unfold ix;rw[eO];simpa using pI);unfold bX at pI;go_wp2;refine aI ?_;repeat(go_big_quiet_step ((go_at_call 41;exact bw<|yO gG _)))
       refine wpQuiet_nil<|bL ?_;intro w1 bI;go_wp2;go_ret;exact⟨bQ HS.out.symm,hB.trans<|bI.mono hB.size⟩
   .go_wp2;go_ret;exact⟨bQ (jr (by omega)<|by rw[show n=k by omega];exact de).symm,hB⟩
def xR (m:Mv)(w:World):
  Calls Tz.prog 106 #[.agg #[m.name,m.ak,m.ap,m.bF,m.late,m.prom]] w λe w'=>e=.returned m.ok/\Below w w w':=Cx _ _ _ _ _ _ _
def fW (b off n cap:Nat)(f:Nat->Mv)(w:World)(hn:n<=1048576)(bz:b<w)(am:aJ w b off n f):
  Calls Tz.prog 75 #[.slice (some ⟨b,off,none⟩) n cap] w λe w'=>e=.returned (.bool<|az f n)/\Below w w w':=by
 by_cases h6:6<n
 .have hm:az f n=false:=vh ab;have h6':(6:Int)<n:=ab;go_enter Tz.func75,Tryz.ntmps75
  go_wp2;go_ret;exact⟨bQ hm.symm,acU _ _⟩
 .go_enter Tz.func75,Tryz.ntmps75
  go_wp2;go_loopw [10] (λi w'=>∃k:Nat,k<=n/\i=.int .i64 k/\kz f k/\Below w w w') (λi _=>n-(intOf i).toNat)
  case atStart=>exact⟨0,ac8 _,rfl,λi hi=>absurd hi<|ac7 _,acU _ _⟩
  case round=>
   obtain⟨k,hk,rfl,de,hB⟩:=hrel;by_cases ay:k<n
   .have hr:=am.below hB bz;let⟨c0,c1,c2,c3,c4,c5⟩:=hr k ay;have dq:(k:Int)<n:=ab;have lP:b<wr:=ac4 bz hB.size;cases eO:(f k).ok with
    |false=>
     have HS:Hid (az f n=false):=qr ay (by unfold ix;rw[eO];rfl);go_wp2_with(go_at_call 106;refine(xR (f k) _).mono ?_;rintro e w1 ⟨rfl,bI⟩;let⟨kY,pH⟩:=jF bI)
     go_ret;exact⟨bQ HS.out.symm,hB.trans<|(lp (oF wr _) bI).2.mono hB.size⟩
    |true=>
     by_cases uS:k=0
     .have HS:Hid (kz f<|k+1):=kA de (by unfold ix;rw[eO,uS];rfl);have HK:Hid (k=0):=uS;clear uS;go_wp2_with(go_at_call 106;refine(xR (f k) _).mono ?_;rintro e w1 ⟨rfl,bI⟩;let⟨kY,pH⟩:=jF bI)
      have hz:decide (0<k)=false:=by have:=HK.out;simp;omega
      have hq:=lp (oF wr _) bI;have hne:=aF w1;refine jR ?_;intro w2 cj;go_wp2;go_roundw
      case rel=>exact⟨k+1,ab,by go_num,HS.out,hB.trans<|(hq.2.trans<|cj.mono hq.2.size).mono hB.size⟩
      case measure=>exact bZ
     .obtain⟨j,rfl⟩:∃j,k=j+1:=⟨k-1,ab⟩;have hj1:(j:Int)<n:=ab;have hz:(0:Int)<(j:Int)+1:=ab;cases pI:bX (f j).name (f<|j+1).name with
      |true=>
       have HS:Hid (kz f<|j+1+1):=kA de (by unfold ix;rw[eO];simpa using pI);unfold bX at pI;go_wp2_with(go_at_call 106;refine(xR (f<|j+1) _).mono ?_;rintro e w1 ⟨rfl,bI⟩;let⟨kY,pH⟩:=jF bI)
       have hq:=lp (oF wr _) bI;have hne:=aF w1;have g0:w1.cell? wr.heap.size=some (.string (f<|j+1).name):=by rw[kY _ _ aG,World.cell?_alloc_new];rfl
       have e0:=λx:ai w1=>x.cell g0
       have e1:=λx:ai w1=>x.cell ((hr.below hq.2 lP) j ab).c0
       refine jR ?_;intro w2 cj;go_wp2;go_roundw
       case rel=>exact⟨j+1+1,ab,by go_num,HS.out,hB.trans<|(hq.2.trans<|cj.mono hq.2.size).mono hB.size⟩
       case measure=>exact bZ
      |false=>
       have HS:Hid (az f n=false):=qr ay (by unfold ix;rw[eO];simpa using pI);unfold bX at pI;go_wp2_with(go_at_call 106;refine(xR (f<|j+1) _).mono ?_;rintro e w1 ⟨rfl,bI⟩;let⟨kY,pH⟩:=jF bI)
       have hq:=lp (oF wr _) bI;have hne:=aF w1;have g0:w1.cell? wr.heap.size=some (.string (f<|j+1).name):=by rw[kY _ _ aG,World.cell?_alloc_new];rfl
       have e0:=λx:ai w1=>x.cell g0
       have e1:=λx:ai w1=>x.cell ((hr.below hq.2 lP) j ab).c0
       refine jR ?_;intro w2 cj;go_wp2;go_ret;exact⟨bQ HS.out.symm,hB.trans<|(hq.2.trans<|cj.mono hq.2.size).mono hB.size⟩
   .go_wp2;go_ret;exact⟨bQ (jr (by omega)<|by rw[show n=k by omega];exact de).symm,hB⟩
def G9 (n lo hi:Int)(w:World):
  Calls Tz.prog 70 #[n,lo,hi] w λe w'=>e=.returned (.bool<|iB n lo hi)/\Below w w w':=
 (ig n lo hi w).mono λ_ _ ⟨he,hw⟩=>⟨he,hw▸acU _ _⟩
def wG (hm:az f n=true){k:Nat}(hk:k<n)(hs:(f k).eM (t k)=true):0<=t k/\t k<=10000:=by
 have h1:=Mv.fp<|aW hm k hk;have h2:=fT hs;omega
def Le (p t:Int):(0<=p/\(t !=p)=true)\/(0<=p/\(t !=p)=false)\/p<0:=by
 by_cases h:0<=p
 .cases e:(t !=p)with
  |true=>exact .inl ⟨h,rfl⟩
  |false=>exact .inr<|.inl ⟨h,rfl⟩
 .exact .inr (.inr ab)
def C4 (b off n cap:Nat)(f:Nat->Mv)(b' aZ m cap':Nat)(t:Nat->Int)(w:World)(hn:n<=1048576)(nK:m<=maxLen)(bz:b<w)(am:aJ w b off n f)(hf:∀i,i<n->(f i).Fits)(bu:b'<w)(aP:aA w b' aZ m t):
  Calls Tz.prog 71 #[.slice (some ⟨b,off,none⟩) n cap,.slice (some ⟨b',aZ,none⟩) m cap'] w λe w'=>e=.returned (.bool<|eC f n t m)/\Below w w w':=by
 unfold maxLen at nK;cases hm:az f n with
 |false=>
  have HF:Hid (eC f n t m=false):=jJ hm;go_enter Tz.func71,Tryz.ntmps71
  go_wp2_with(go_at_call 99;refine(mH _ _ _ _ f _ hn bz am hf).mono ?_;rintro e w1 ⟨rfl,bI⟩)
  go_ret;exact⟨bQ HF.out.symm,bI⟩
 |true=>
  by_cases hlen:m=n
  .subst hlen;have HM:Hid (az f m=true):=hm;have h6:=bP hm;go_enter Tz.func71,Tryz.ntmps71
   go_wp2_with(go_at_call 99;refine(mH _ _ _ _ f _ hn bz am hf).mono ?_;rintro e w1 ⟨rfl,bI⟩)
   clear hm;go_loopw [5] (λi w'=>∃k:Nat,k<=m/\i=.int .i64 k/\dU f t k/\Below w w w') (λi _=>m-(intOf i).toNat)
   case atStart=>exact⟨0,ac8 _,rfl,wK f t,bI⟩
   case round=>
    obtain⟨k,hk,rfl,gG,hB⟩:=hrel;by_cases ay:k<m
    .have hr:=am.below hB bz;have fH:=aP.below hB bu;let⟨c0,c1,c2,c3,c4,c5⟩:=hr k ay;have d0:=fH k ay;have lP:b<wr:=ac4 bz hB.size;have Nz:b'<wr:=ac4 bu hB.size;have dq:(k:Int)<m:=ab;have hne:=aF wr;have e3:=λx:ai wr=>x.cell c3
     have e4:=λx:ai wr=>x.cell c4
     have e5:=λx:ai wr=>x.cell c5
     have e6:=λx:ai wr=>x.cell d0
     have XM:=Iu (aW HM.out k ay)<|t k;cases hi:iB (t k) (f k).bF (f k).late with
     |false=>
      have HS:Hid ((f k).eM (t k)=false):=by rw[XM,hi];rfl
      clear XM;go_wp2;refine aI ?_;repeat(go_big_quiet_step ((go_at_call 70;exact bw<|G9 _ _ _ _)))
      refine wpQuiet_nil<|bL ?_;intro w2 cj;go_wp2;go_ret;exact⟨bQ (rC ay HS.out).symm,hB.trans<|cj.mono hB.size⟩
     |true=>
      rcases Le (f k).prom (t k)with⟨hp,Rr⟩|⟨hp,Rr⟩|hp
      .have Qq:(f k).eM (t k)=false:=by rw[XM,hi,Rr];simp[hp]
       have HS:Hid _:=Qq;clear XM Qq;go_wp2;refine aI ?_;repeat(go_big_quiet_step ((go_at_call 70;exact bw<|G9 _ _ _ _)))
       refine wpQuiet_nil<|bL ?_;intro w2 cj;go_wp2;go_ret;exact⟨bQ (rC ay HS.out).symm,hB.trans<|cj.mono hB.size⟩
      all_goals
       have Qq:(f k).eM (t k)=true:=by rw[XM,hi];first|(rw[Rr];simp)|(simp;omega)
       have HS:Hid _:=Qq;have qU:=wG HM.out ay Qq;let⟨Z9,a_⟩:=qU;clear XM Qq;go_wp2;try have P4:decide (0<=(f k).prom)=false:=by(simp;omega)
       refine aI ?_;repeat(go_big_quiet_step ((go_at_call 70;exact bw<|G9 _ _ _ _)))
       refine wpQuiet_nil<|bL ?_;intro w2 cj;have qp:Below w w w2:=hB.trans<|cj.mono hB.size;go_wp2;go_loopw [6] (λi w'=>∃q:Nat,q<=k/\i=.int .i64 q/\(∀p,p<q->(f p).fF (f k) (t p) (t k)=false)/\Below w w w') (λi _=>k-(intOf i).toNat)
       case atStart=>exact⟨0,ac8 _,rfl,λp hp=>absurd hp<|ac7 _,qp⟩
       case round=>
        clear hB qp cj hr fH c0 c1 c2 c3 c4 c5 d0 lP Nz hne e3 e4 e5 e6;obtain⟨q,hq,rfl,lQ,hB⟩:=hrel;by_cases Jh:q<k
        .have hr:=am.below hB bz;have fH:=aP.below hB bu;have uS:=hr k ay;have TE:=hr q ab;have hne:=aF wr;have a0:=λx:ai wr=>x.cell uS.c0
         have a1:=λx:ai wr=>x.cell uS.c1
         have a2:=λx:ai wr=>x.cell uS.c2
         have a3:=λx:ai wr=>x.cell uS.c3
         have a4:=λx:ai wr=>x.cell uS.c4
         have a5:=λx:ai wr=>x.cell uS.c5
         have b0:=λx:ai wr=>x.cell TE.c0
         have b1:=λx:ai wr=>x.cell TE.c1
         have b2:=λx:ai wr=>x.cell TE.c2
         have b3:=λx:ai wr=>x.cell TE.c3
         have b4:=λx:ai wr=>x.cell TE.c4
         have b5:=λx:ai wr=>x.cell TE.c5
         have d0:=λx:ai wr=>x.cell<|fH k ay
         have d1:=λx:ai wr=>x.cell<|fH q ab
         have hqm:q<m:=ab;have acs:(q:Int)<m:=ab;have acd:(k:Int)<m:=ab;let⟨b_,c_⟩:=wG HM.out hqm<|gG.1 q Jh;cases pc:(f q).fF (f k) (t q) (t k)with
         |true=>
          go_wp2;refine aI ?_;repeat(go_big_quiet_step ((go_at_call 100;exact bw<|Ak (f q) (f k) _ _ _ b_ c_ Z9 a_)))
          refine wpQuiet_nil<|bL ?_;intro w3 iC;go_wp2;go_ret;exact⟨bQ (xl Jh ay pc).symm,hB.trans<|iC.mono hB.size⟩
         |false=>
          go_wp2;refine aI ?_;repeat(go_big_quiet_step ((go_at_call 100;exact bw<|Ak (f q) (f k) _ _ _ b_ c_ Z9 a_)))
          refine wpQuiet_nil<|bL ?_;intro w3 iC;go_wp2;go_roundw
          case rel=>exact⟨q+1,ab,by go_num,λp hp=>by
           by_cases e:p=q
           .subst e;exact pc
           .exact lQ p ab,hB.trans (iC.mono hB.size)⟩
          case measure=>exact bZ
        .go_wp2;go_roundw
         case rel=>exact⟨k+1,ab,by go_num,Gd gG HS.out λp hp=>lQ p ab,hB⟩
         case measure=>exact bZ
    .go_wp2;go_ret;exact⟨bQ ((fV HM.out).mpr<|by rw[show m=k by omega];exact gG).symm,hB⟩
  .have HF:Hid (eC f n t m=false):=uj hlen;have lZ:((m:Int)!=n)=true:=cH;go_enter Tz.func71,Tryz.ntmps71
   go_wp2_with(go_at_call 99;refine(mH _ _ _ _ f _ hn bz am hf).mono ?_;rintro e w1 ⟨rfl,bI⟩)
   go_ret;exact⟨bQ HF.out.symm,bI⟩
section
attribute [local go_sem] Oper.semAt_some
abbrev PO (n:Nat):={p:Nat×Nat // p.1<p.2/\p.2<n}
abbrev PO.cf {n:Nat}(x:PO n):Array Value:=#[.int .i64 (x.1.1:Int),.int .i64 (x.1.2:Int)]
def Ui (n:Nat)(xs:List (PO n)):Prop:=∀i j (h:i<j/\j<n),(⟨(i,j),h⟩:PO n)∈xs
def AU (n:Int)(w:World):
  Calls Tz.prog 77 #[n] w λe w'=>e=.returned (.func (.func 108) #[] #[.pointer w.heap.size])/\w'=w.alloc (.cells #[n] 3):=by
 go_enter Tz.func77,Tryz.ntmps77
 go_wp2;go_ret;exact⟨rfl,rfl⟩
def vl (m:Nat)(Bn cr n:Nat)(w:World)(hn:n<=1048576)(PR:Bn<cr)(abT:cr<=w)(hc:w.cell? Bn=some (.int .i64 (n:Int))):
  SeqStopsK Fence.wide m Tz.prog 108 #[.pointer Bn] (PO.cf (n:=n)) (Below cr) (Ui n) (λ_=>True) (n*n) w:=λl J Jx W hW _ _ hY h0=>by
 have hcW:W.cell? Bn=some (.int .i64 (n:Int)):=(hW.cell (p:=Bn) cH).trans hc;refine callsIn_of_wp Tz.func108 rfl trivial ?_ rfl;simp only[Tryz.ntmps108,List.size_toArray,List.length_cons,List.length_nil,Nat.reduceAdd,Nat.reduceSub,Array.replicate_succ,Array.replicate_zero,List.push_toArray,List.append_toArray,List.nil_append,List.cons_append];gi_wp2
 gi_loopw [6] (λi wr=>∃(k:Nat) (pre:List (PO n)),k<=n/\i=.int .i64 k/\pre.length<=k*n/\(∀i j (h:i<j/\j<n),i<k->(⟨(i,j),h⟩:PO n)∈pre)/\wr.cell? ⟨Bn,0,none⟩=some (.int .i64 (n:Int))/\J pre wr)
  (λi _=>n-(intOf i).toNat)
 case atStart=>exact⟨0,[],ac8 _,rfl,aG,λi j h hi=>absurd hi<|ac7 _,hcW,h0⟩
 case round=>
  clear hcW h0;obtain⟨k,pre,hk,rfl,hlen,cD,Vw,hJ⟩:=hrel;by_cases ay:k<n
  .gi_wp2
   gi_loopw [4] (λi wr=>∃(q:Nat) (pre:List (PO n)),k<q/\q<=n/\i=.int .i64 q/\pre.length<=k*n+q/\(∀i j (h:i<j/\j<n),(i<k\/i=k/\j<q)->(⟨(i,j),h⟩:PO n)∈pre)/\wr.cell? ⟨Bn,0,none⟩=some (.int .i64 (n:Int))/\J pre wr)
    (λi _=>n-(intOf i).toNat)
   case atStart=>exact⟨k+1,pre,by omega,by omega,by go_num,by omega,λi j h hi=>cD i j h<|by omega,Vw,hJ⟩
   case round=>
    clear hlen cD Vw hJ;obtain⟨q,pre,hkq,hq,rfl,hlen,cD,Vw,hJ⟩:=hrel;by_cases Jh:q<n
    .have hN:pre.length<n*n:=by
      have h1:(k+1)*n<=n*n:=Nat.mul_le_mul_right n ay;have h2:(k+1)*n=k*n+n:=Nat.succ_mul k n;omega
     let⟨fn,tmps,assign,body,hy,hR⟩:=hY pre ⟨(k,q),hkq,Jh⟩ wr hJ hN;dsimp only[PO.cf]at hy;gi_wp2
     refine⟨λh=>(by simp[Fence.wide]at h),hR.mono ?_⟩;rintro e W3 (⟨rfl,YQ,Zt⟩|⟨rfl,aaO⟩)
     .have Y5:W3.cell? Bn=some (.int .i64 (n:Int)):=(Zt.cell (p:=Bn) PR).trans Vw;gi_wp2
      go_roundw
      case rel=>exact⟨q+1,pre++[⟨(k,q),hkq,Jh⟩],ab,ab,by go_num,cH,λi j h hi=>by
       by_cases e:i=k/\j=q
       .obtain⟨rfl,rfl⟩:=e;exact List.mem_append_right _ aG
       .exact List.mem_append_left _ (cD i j h ab),Y5,YQ⟩
      case measure=>exact bZ
     .gi_wp2
      refine bodyPost_ret (results_none rfl _ _ _) rfl ?_;exact⟨⟨_,rfl⟩,.inr ⟨_,trivial,aaO⟩⟩
    .gi_wp2
     go_roundw
     case rel=>exact⟨k+1,pre,ab,by go_num,by
      have h2:(k+1)*n=k*n+n:=Nat.succ_mul k n;omega,λi j h hi=>cD i j h ab,Vw,hJ⟩
     case measure=>exact bZ
  .gi_wp2
   go_end0
   exact⟨⟨_,rfl⟩,.inl ⟨pre,λi j h=>cD i j h ab,hJ⟩⟩
end
section
attribute [local go_sem] Oper.semAt_some
set_option linter.unusedVariables false
def xQ (b off n cap:Nat)(f:Nat->Mv)(a':Option Addr)(m cap':Nat)(t:Nat->Int)(w:World)(hn:n<=1048576)(nK:m<=maxLen)(bz:b<w)(am:aJ w b off n f)(h:az f n=false\/m≠n):
  Calls Tz.prog 50 #[.slice (some ⟨b,off,none⟩) n cap,.slice a' m cap'] w λe w'=>e=.returned (.bool<|eC f n t m)/\Below w w w':=by
 unfold maxLen at nK;have lY:∀o1 o2 o3,Below w w (((w.alloc o1).alloc o2).alloc o3):=λo1 o2 o3=>(((acU _ w).alloc (ac3 _) _).alloc aG _).alloc cH _
 have hF0:eC f n t m=false:=by rcases h with h|h;exact jJ h;exact uj h
 have HF:Hid (eC f n t m=false):=hF0;clear hF0;cases hm:az f n with
 |false=>
  clear h;go_enter Tz.func50,Tryz.ntmps50
  go_wp2_with(go_at_call 75;refine(fW _ _ _ _ f _ hn cH<|am.below (lY _ _ _) bz).mono ?_;rintro e w1 ⟨rfl,bI⟩;let⟨kY,pH⟩:=jF bI)
  have hz:=bI.size;simp at hz;refine bodyPost_ret (v:=false) (by simp[results,Tryz.results50,go_sem,kY]) rfl ⟨bQ HF.out.symm,?_⟩;exact((lY _ _ _).trans<|bI.mono (lY _ _ _).size).setCell cH _
 |true=>
  have hl:m≠n:=by rcases h with h|h;rw[hm]at h;cases h;exact h
  have lZ:((m:Int)!=n)=true:=cH;clear h;go_enter Tz.func50,Tryz.ntmps50
  go_wp2_with(go_at_call 75;refine(fW _ _ _ _ f _ hn cH<|am.below (lY _ _ _) bz).mono ?_;rintro e w1 ⟨rfl,bI⟩;let⟨kY,pH⟩:=jF bI)
  have hz:=bI.size;simp at hz;refine bodyPost_ret (v:=false) (by simp[results,Tryz.results50,go_sem,kY]) rfl ⟨bQ HF.out.symm,?_⟩;exact((lY _ _ _).trans<|bI.mono (lY _ _ _).size).setCell cH _
abbrev cR (w:World)(m:Mv):World:=w.alloc<|.cells #[m.name,m.ak,m.ap,m.bF,m.late,m.prom] 31
def pM (b off n cap:Nat)(f:Nat->Mv)(b' aZ m cap':Nat)(t:Nat->Int)(w:World)(hn:n<=1048576)(nK:m<=maxLen)(bz:b<w)(am:aJ w b off n f)(h:az f n=false\/m≠n):
  Calls Tz.prog 50 #[.slice (some ⟨b,off,none⟩) n cap,.slice (some ⟨b',aZ,none⟩) m cap'] w λe w'=>e=.returned (.bool<|eC f n t m)/\Below w w w':=
 xQ b off n cap f (some ⟨b',aZ,none⟩) m cap' t w hn nK bz am h
def jH (w:World)(m:Mv):tW (cR w m) w.heap.size 0 m:=by
 constructor<;>simp[cR]
def fG (w:World)(m:Mv):Below w w (cR w m):=(acU _ _).alloc (ac3 _) _
def tf (b off n cap:Nat)(f:Nat->Mv)(b' aZ cap':Nat)(t:Nat->Int)(w:World)(hn:n<=1048576)(bz:b<w)(am:aJ w b off n f)(bu:b'<w)(aP:aA w b' aZ n t)(hm:az f n=true)(lQ:¬∀i,i<n->(f i).eM (t i)=true):
  Calls Tz.prog 50 #[.slice (some ⟨b,off,none⟩) n cap,.slice (some ⟨b',aZ,none⟩) n cap'] w λe w'=>e=.returned (.bool<|eC f n t n)/\Below w w w':=by
 have lY:∀o1 o2 o3,Below w w (((w.alloc o1).alloc o2).alloc o3):=λo1 o2 o3=>(((acU _ w).alloc (ac3 _) _).alloc aG _).alloc cH _
 go_enter Tz.func50,Tryz.ntmps50
 go_wp2_with(go_at_call 75;refine(fW _ _ _ _ f _ hn cH<|am.below (lY _ _ _) bz).mono ?_;rintro e w1 ⟨rfl,bI⟩;let⟨kY,pH⟩:=jF bI)
 have hz:=bI.size;simp at hz;have oa:Below w w w1:=(lY _ _ _).trans<|bI.mono (lY _ _ _).size;have l0:w1.cell? w.heap.size=some (.slice (some ⟨b,off,none⟩) n cap):=by rw[kY w.heap.size 0 cH];simp[go_sem]
 have l1:w1.cell? ⟨w.heap.size+1,0,none⟩=some (.slice (some ⟨b',aZ,none⟩) n cap'):=by rw[kY (w.heap.size+1) 0 aG];simp[go_sem]
 have l2:w1.cell? ⟨w.heap.size+1+1,0,none⟩=some (.bool false):=by rw[kY (w.heap.size+1+1) 0 aG];simp[go_sem]
 have l3:w1.frozen? ⟨w.heap.size+1+1,0,none⟩=false:=by rw[pH (w.heap.size+1+1) 0 aG];simp[go_sem]
 clear kY pH bI;go_loopw [21] (λi wr=>∃k:Nat,k<=n/\i=.int .i64 k/\(∀j,j<k->(f j).eM (t j)=true)/\Below w1 w1 wr) (λi _=>n-(intOf i).toNat)
 case atStart=>exact⟨0,ac8 _,rfl,λj hj=>absurd hj<|ac7 _,acU _ _⟩
 case round=>
  obtain⟨k,hk,rfl,cD,hB⟩:=hrel;by_cases ay:k<n
  .have gD:Below w w wr:=oa.trans<|hB.mono oa.size;have hr:=am.below gD bz k ay;have fH:=aP.below gD bu k ay;let⟨c0,c1,c2,c3,c4,c5⟩:=hr;have hzr:w1.heap.size<=wr:=hB.size;have dq:(k:Int)<n:=ab;have hA:=fG wr<|f k;have hM:=jH wr<|f k;have m1:wr.cell? ⟨w.heap.size+1,0,none⟩=some (.slice (some ⟨b',aZ,none⟩) n cap'):=(hB.cell (p:=⟨w.heap.size+1,0,none⟩) cH).trans l1;have m2:wr.cell? ⟨w.heap.size+1+1,0,none⟩=some (.bool false):=(hB.cell (p:=⟨w.heap.size+1+1,0,none⟩) cH).trans l2;have m3:wr.frozen? ⟨w.heap.size+1+1,0,none⟩=false:=(hB.frozen (p:=⟨w.heap.size+1+1,0,none⟩) cH).trans l3;have hne:=aF<|cR wr<|f k;have e0:=λx:ai (cR wr<|f k)=>x.cell hM.c0
   have e1:=λx:ai (cR wr<|f k)=>x.cell hM.c1
   have e2:=λx:ai (cR wr<|f k)=>x.cell hM.c2
   have e3:=λx:ai (cR wr<|f k)=>x.cell hM.c3
   have e4:=λx:ai (cR wr<|f k)=>x.cell hM.c4
   have e5:=λx:ai (cR wr<|f k)=>x.cell hM.c5
   have e6:=λx:ai (cR wr<|f k)=>x.cell<|(hA.cell (p:=⟨w.heap.size+1,0,none⟩) cH).trans m1
   have e7:=λx:ai (cR wr<|f k)=>x.cell<|(hA.cell (p:=⟨b',aZ+k,none⟩) cH).trans fH
   simp only[Nat.zero_add]at e0 e1 e2 e3 e4 e5;cases hs:(f k).eM (t k)with
   |true=>
    have HS:Hid _:=hs;go_wp2;refine aI ?_;repeat(go_big_quiet_step ((go_at_call 76;exact bw<|uC (f k) _ _)))
    refine wpQuiet_nil<|bL ?_;intro w2 cj;go_wp2;go_roundw
    case rel=>exact⟨k+1,ab,by go_num,λj hj=>by
     by_cases e:j=k
     .subst e;exact HS.out
     .exact cD j ab,hB.trans ((hA.trans<|cj.mono hA.size).mono hB.size)⟩
    case measure=>exact bZ
   |false=>
    have HF:Hid (eC f n t n=false):=rC ay hs;go_wp2;refine aI ?_;repeat(go_big_quiet_step ((go_at_call 76;exact bw<|uC (f k) _ _)))
    refine wpQuiet_nil<|bL ?_;intro w2 cj;have hq:Below wr wr w2:=hA.trans<|cj.mono hA.size;have n2:w2.cell? ⟨w.heap.size+1+1,0,none⟩=some (.bool false):=(hq.cell (p:=⟨w.heap.size+1+1,0,none⟩) cH).trans m2;have n3:w2.frozen? ⟨w.heap.size+1+1,0,none⟩=false:=(hq.frozen (p:=⟨w.heap.size+1+1,0,none⟩) cH).trans m3;go_wp2;refine bodyPost_ret (v:=false) (by simp[results,Tryz.results50,go_sem,n2]) rfl ⟨bQ HF.out.symm,?_⟩;exact(gD.trans<|hq.mono gD.size).setCell cH _
  .exact absurd (λi hi=>cD i ab) lQ
end
section
def iF (f:Nat->Mv)(t:Nat->Int)(n:Nat):Prop:=∀j,j<n->0<=(f j).bF/\(f j).bF<=t j/\t j<=10000
def iF.sum (h:iF f t n)(i:Nat)(hi:i<=n):0<=sumTo f t i/\sumTo f t i<=10000*i/\0<=cW f t i/\cW f t i<=10000:=
 FG i λj hj=>by have:=h j ab;omega
def iF.fits (hm:az f n=true)(h:dU f t n):iF f t n:=λj hj=>by
 have h1:=Mv.fp<|aW hm j hj;have h2:=fT<|h.1 j hj;omega
def ky (b off n cap:Nat)(f:Nat->Mv)(b' aZ m cap':Nat)(t:Nat->Int)(w:World)(h6:n<=6)(uU:n<=m)(bz:b<w)(am:aJ w b off n f)(bu:b'<w)(aP:aA w b' aZ n t)(I6:iF f t n):
  Calls Tz.prog 133 #[.slice (some ⟨b,off,none⟩) n cap,.slice (some ⟨b',aZ,none⟩) m cap'] w λe w'=>e=.returned (.tuple #[.int .i64<|sumTo f t n,.int .i64<|cW f t n])/\Below w w w':=by
 go_enter Tz.func133,Tryz.ntmps133
 go_wp2;go_loopw [6,7,8] (λs z i w'=>∃k:Nat,k<=n/\i=.int .i64 k/\s=.int .i64 (sumTo f t k)/\z=.int .i64 (cW f t k)/\Below w w w') (λ_ _ i _=>n-(intOf i).toNat)
 case atStart=>exact⟨0,ac8 _,rfl,rfl,rfl,acU _ _⟩
 case round=>
  obtain⟨k,hk,rfl,rfl,rfl,hB⟩:=hrel;by_cases ay:k<n
  .have hr:=am.below hB bz k ay;have fH:=aP.below hB bu k ay;have dq:(k:Int)<n:=ab;have abc:(k:Int)<m:=ab;let⟨s0,s1,z0,z1⟩:=I6.sum k hk;have xx:=I6 k ay;have HS:Hid (sumTo f t (k+1)=sumTo f t k+(t k-(f k).bF)):=rfl;have HM:Hid (cW f t (k+1)=if cW f t k<t k-(f k).bF then t k-(f k).bF else cW f t k):=rfl;have hne:=aF wr;have e3:=λx:ai wr=>x.cell hr.c3
   have e6:=λx:ai wr=>x.cell fH
   go_wp2;refine jR ?_;intro w1 bI;by_cases VC:cW f t k<t k-(f k).bF;all_goals
    go_wp2;go_roundw
    case rel=>exact⟨k+1,ab,by go_num,by rw[HS.out],by rw[HM.out];first|rw[if_pos VC]|rw[if_neg ab],hB.trans<|bI.mono hB.size⟩
    case measure=>exact bZ
  .have tS:k=n:=by omega
   subst tS;go_wp2;go_ret2
   exact⟨rfl,hB⟩
def Cw (b off n cap:Nat)(f:Nat->Mv)(b' aZ m cap':Nat)(t:Nat->Int)(w:World)(h6:n<=6)(uU:n<=m)(bz:b<w)(am:aJ w b off n f)(bu:b'<w)(aP:aA w b' aZ n t)(I6:iF f t n):
  Calls Tz.prog 150 #[.slice (some ⟨b,off,none⟩) n cap,.slice (some ⟨b',aZ,none⟩) m cap'] w λe w'=>e=.returned (.tuple #[.int .i64<|sumTo f t n,.int .i64<|cW f t n])/\Below w w w':=by
 go_enter Tz.func150,Tryz.ntmps150
 go_wp2;go_loopw [6,7,13] (λs z i w'=>∃k:Nat,k<=n/\i=.int .i64 k/\s=.int .i64 (sumTo f t k)/\z=.int .i64 (cW f t k)/\Below w w w') (λ_ _ i _=>n-(intOf i).toNat)
 case atStart=>exact⟨0,ac8 _,rfl,rfl,rfl,acU _ _⟩
 case round=>
  obtain⟨k,hk,rfl,rfl,rfl,hB⟩:=hrel;by_cases ay:k<n
  .have hr:=am.below hB bz k ay;have fH:=aP.below hB bu k ay;let⟨c0,c1,c2,c3,c4,c5⟩:=hr;have dq:(k:Int)<n:=ab;have abc:(k:Int)<m:=ab;have Nz:b'<wr:=ac4 bu hB.size;let⟨s0,s1,z0,z1⟩:=I6.sum k hk;let⟨x0,x1,x2⟩:=I6 k ay;have HS:Hid (sumTo f t (k+1)=sumTo f t k+(t k-(f k).bF)):=rfl;have HM:Hid (cW f t (k+1)=if cW f t k<t k-(f k).bF then t k-(f k).bF else cW f t k):=rfl;have hA:=fG wr<|f k;have hM:=jH wr<|f k;have hne:=aF<|cR wr<|f k;have e3:=λx:ai (cR wr<|f k)=>x.cell hM.c3
   have e6:=λx:ai (cR wr<|f k)=>x.cell<|(hA.cell (p:=⟨b',aZ+k,none⟩) Nz).trans fH
   simp only[Nat.zero_add]at e3;go_wp2;refine jR ?_;intro w1 bI;have hq:Below wr wr w1:=hA.trans<|bI.mono hA.size;by_cases VC:cW f t k<t k-(f k).bF;all_goals
    go_wp2;go_roundw
    case rel=>exact⟨k+1,ab,by go_num,by rw[HS.out],by rw[HM.out];first|rw[if_pos VC]|rw[if_neg ab],hB.trans<|hq.mono hB.size⟩
    case measure=>exact bZ
  .have tS:k=n:=by omega
   subst tS;go_wp2;go_ret2
   exact⟨rfl,hB⟩
