import Derived.Test.YtlmcblcijndipaaGreatDoorj16
import Derived.Test.YtlmcblcijndipaaGreatDoorj08c
set_option maxHeartbeats 2000000
namespace Go.Proofs.YtlmcblcijndipaaGreatDoor
open RowKit
theorem xf {m:Mv}(hm:m.Fits)(w:World):
  Calls Tz.prog 41 #[.agg #[m.name,m.an,m.aD,m.ba,m.late,m.prom]] w λe w'=>e=.returned m.ok/\Below w w w':=AR _ _ _ _ _ _ _ hm.name
theorem lR (b off n cap:Nat)(f:Nat->Mv)(w:World)(hn:n<=1048576)(bw:b<w)(aq:aM w b off n f)(hf:∀i,i<n->(f i).Fits):
  Calls Tz.prog 99 #[.slice (some ⟨b,off,none⟩) n cap] w λe w'=>e=.returned (.bool (aG f n))/\Below w w w':=by
 by_cases h6:6<n
 .have hm:aG f n=false:=uo ab;have YO:(6:Int)<n:=ab;go_enter Tz.func99,Tryz.ntmps99
  go_wp2;go_ret;exact⟨bN hm.symm,aca _ _⟩
 .go_enter Tz.func99,Tryz.ntmps99
  go_wp2;go_loopw [3] (λi w'=>∃k:Nat,k<=n/\i=.int .i64 k/\jW f k/\Below w w w') (λi _=>n-(intOf i).toNat)
  case atStart=>exact⟨0,acp _,rfl,λi hi=>absurd hi (aco _),aca _ _⟩
  case round=>
   obtain⟨k,hk,rfl,dJ,hB⟩:=hrel;by_cases aI:k<n
   .have hr:=aq.below hB bw;obtain⟨c0,c1,c2,c3,c4,c5⟩:=hr k aI;have jQ:=hf k aI;have dG:(k:Int)<n:=ab;have uc:b<wr:=acl bw hB.size;have hne:=aE wr;have d0:=λx:aj wr=>x.cell c0
    have d1:=λx:aj wr=>x.cell c1
    have d2:=λx:aj wr=>x.cell c2
    have d3:=λx:aj wr=>x.cell c3
    have d4:=λx:aj wr=>x.cell c4
    have d5:=λx:aj wr=>x.cell c5
    cases fw:(f k).ok with
    |false=>
     have Lu:gU f k=false:=by unfold gU;rw[fw];rfl
     go_wp2;refine ah ?_;repeat(go_big_quiet_step ((go_at_call 41;exact bP (xf jQ _))))
     refine wpQuiet_nil (ak ?_);intro w1 bF;go_wp2;go_ret;exact⟨bN (pR aI Lu).symm,hB.trans (bF.mono hB.size)⟩
    |true=>
     by_cases uZ:k=0
     .have Lu:gU f k=true:=by unfold gU;rw[fw,uZ];rfl
      have HS:Hid (jW f (k+1)):=jX dJ Lu;go_wp2;have hz:decide (0<k)=false:=cC;clear uZ;refine ah ?_;repeat(go_big_quiet_step ((go_at_call 41;exact bP (xf jQ _))))
      refine wpQuiet_nil (ak ?_);intro w1 bF;go_wp2;go_roundw
      case rel=>exact⟨k+1,ab,by go_num,HS.out,hB.trans (bF.mono hB.size)⟩
      case measure=>exact cf
     .obtain⟨j,rfl⟩:∃j,k=j+1:=⟨k-1,ab⟩;have e0:=λx:aj wr=>x.cell (hr j ab).c0
      have hj1:(j:Int)<n:=ab;have hz:(0:Int)<(j:Int)+1:=ab;cases oS:cQ (f j).name (f (j+1)).name with
      |true=>
       have HS:Hid (jW f (j+1+1)):=jX dJ (by unfold gU;rw[fw];simpa using oS);unfold cQ at oS;go_wp2;refine ah ?_;repeat(go_big_quiet_step ((go_at_call 41;exact bP (xf jQ _))))
       refine wpQuiet_nil (ak ?_);intro w1 bF;go_wp2;go_roundw
       case rel=>exact⟨j+1+1,ab,by go_num,HS.out,hB.trans (bF.mono hB.size)⟩
       case measure=>exact cf
      |false=>
       have HS:Hid (aG f n=false):=pR aI (by unfold gU;rw[fw];simpa using oS);unfold cQ at oS;go_wp2;refine ah ?_;repeat(go_big_quiet_step ((go_at_call 41;exact bP (xf jQ _))))
       refine wpQuiet_nil (ak ?_);intro w1 bF;go_wp2;go_ret;exact⟨bN HS.out.symm,hB.trans (bF.mono hB.size)⟩
   .go_wp2;go_ret;exact⟨bN (jd (by omega) (by rw[show n=k by omega];exact dJ)).symm,hB⟩
theorem At (m:Mv)(w:World):
  Calls Tz.prog 106 #[.agg #[m.name,m.an,m.aD,m.ba,m.late,m.prom]] w λe w'=>e=.returned m.ok/\Below w w w':=As _ _ _ _ _ _ _
theorem fG (b off n cap:Nat)(f:Nat->Mv)(w:World)(hn:n<=1048576)(bw:b<w)(aq:aM w b off n f):
  Calls Tz.prog 75 #[.slice (some ⟨b,off,none⟩) n cap] w λe w'=>e=.returned (.bool (aG f n))/\Below w w w':=by
 by_cases h6:6<n
 .have hm:aG f n=false:=uo ab;have YO:(6:Int)<n:=ab;go_enter Tz.func75,Tryz.ntmps75
  go_wp2;go_ret;exact⟨bN hm.symm,aca _ _⟩
 .go_enter Tz.func75,Tryz.ntmps75
  go_wp2;go_loopw [10] (λi w'=>∃k:Nat,k<=n/\i=.int .i64 k/\jW f k/\Below w w w') (λi _=>n-(intOf i).toNat)
  case atStart=>exact⟨0,acp _,rfl,λi hi=>absurd hi (aco _),aca _ _⟩
  case round=>
   obtain⟨k,hk,rfl,dJ,hB⟩:=hrel;by_cases aI:k<n
   .have hr:=aq.below hB bw;obtain⟨c0,c1,c2,c3,c4,c5⟩:=hr k aI;have dG:(k:Int)<n:=ab;have uc:b<wr:=acl bw hB.size;cases fw:(f k).ok with
    |false=>
     have HS:Hid (aG f n=false):=pR aI (by unfold gU;rw[fw];rfl);go_wp2_with(go_at_call 106;refine(At (f k) _).mono ?_;rintro e w1 ⟨rfl,bF⟩;obtain⟨kJ,uQ⟩:=jr bF)
     go_ret;exact⟨bN HS.out.symm,hB.trans ((kQ (nG wr _) bF).2.mono hB.size)⟩
    |true=>
     by_cases uZ:k=0
     .have HS:Hid (jW f (k+1)):=jX dJ (by unfold gU;rw[fw,uZ];rfl);have HK:Hid (k=0):=uZ;clear uZ;go_wp2_with(go_at_call 106;refine(At (f k) _).mono ?_;rintro e w1 ⟨rfl,bF⟩;obtain⟨kJ,uQ⟩:=jr bF)
      have hz:decide (0<k)=false:=by have:=HK.out;simp;omega
      have hq:=kQ (nG wr _) bF;have hne:=aE w1;refine ah ?_;repeat(go_big_quiet_step (fail))
      refine wpQuiet_nil (ak ?_);intro w2 cH;go_wp2;go_roundw
      case rel=>exact⟨k+1,ab,by go_num,HS.out,hB.trans ((hq.2.trans (cH.mono hq.2.size)).mono hB.size)⟩
      case measure=>exact cf
     .obtain⟨j,rfl⟩:∃j,k=j+1:=⟨k-1,ab⟩;have hj1:(j:Int)<n:=ab;have hz:(0:Int)<(j:Int)+1:=ab;cases oS:cQ (f j).name (f (j+1)).name with
      |true=>
       have HS:Hid (jW f (j+1+1)):=jX dJ (by unfold gU;rw[fw];simpa using oS);unfold cQ at oS;go_wp2_with(go_at_call 106;refine(At (f (j+1)) _).mono ?_;rintro e w1 ⟨rfl,bF⟩;obtain⟨kJ,uQ⟩:=jr bF)
       have hq:=kQ (nG wr _) bF;have hne:=aE w1;have g0:w1.cell? wr.heap.size=some (.string (f (j+1)).name):=by rw[kJ _ _ aH,World.cell?_alloc_new];rfl
       have e0:=λx:aj w1=>x.cell g0
       have e1:=λx:aj w1=>x.cell ((hr.below hq.2 uc) j ab).c0
       refine ah ?_;repeat(go_big_quiet_step (fail))
       refine wpQuiet_nil (ak ?_);intro w2 cH;go_wp2;go_roundw
       case rel=>exact⟨j+1+1,ab,by go_num,HS.out,hB.trans ((hq.2.trans (cH.mono hq.2.size)).mono hB.size)⟩
       case measure=>exact cf
      |false=>
       have HS:Hid (aG f n=false):=pR aI (by unfold gU;rw[fw];simpa using oS);unfold cQ at oS;go_wp2_with(go_at_call 106;refine(At (f (j+1)) _).mono ?_;rintro e w1 ⟨rfl,bF⟩;obtain⟨kJ,uQ⟩:=jr bF)
       have hq:=kQ (nG wr _) bF;have hne:=aE w1;have g0:w1.cell? wr.heap.size=some (.string (f (j+1)).name):=by rw[kJ _ _ aH,World.cell?_alloc_new];rfl
       have e0:=λx:aj w1=>x.cell g0
       have e1:=λx:aj w1=>x.cell ((hr.below hq.2 uc) j ab).c0
       refine ah ?_;repeat(go_big_quiet_step (fail))
       refine wpQuiet_nil (ak ?_);intro w2 cH;go_wp2;go_ret;exact⟨bN HS.out.symm,hB.trans ((hq.2.trans (cH.mono hq.2.size)).mono hB.size)⟩
   .go_wp2;go_ret;exact⟨bN (jd (by omega) (by rw[show n=k by omega];exact dJ)).symm,hB⟩
theorem Fa (n lo hi:Int)(w:World):
  Calls Tz.prog 70 #[n,lo,hi] w λe w'=>e=.returned (.bool (iu n lo hi))/\Below w w w':=
 (gJ n lo hi w).mono λ_ _ ⟨he,hw⟩=>⟨he,hw▸aca _ _⟩
theorem vk {f:Nat->Mv}{n:Nat}{t:Nat->Int}(hm:aG f n=true){k:Nat}(hk:k<n)(hs:(f k).eV (t k)=true):0<=t k/\t k<=10000:=by
 have h1:=Mv.fR (bj hm k hk);have h2:=gA hs;omega
theorem IZ (p t:Int):(0<=p/\(t !=p)=true)\/(0<=p/\(t !=p)=false)\/p<0:=by
 by_cases h:0<=p
 .cases e:(t !=p)with
  |true=>exact .inl ⟨h,rfl⟩
  |false=>exact .inr (.inl ⟨h,rfl⟩)
 .exact .inr (.inr ab)
theorem AQ (b off n cap:Nat)(f:Nat->Mv)(b' aW m cap':Nat)(t:Nat->Int)(w:World)(hn:n<=1048576)(lY:m<=maxLen)(bw:b<w)(aq:aM w b off n f)(hf:∀i,i<n->(f i).Fits)(bc:b'<w)(aK:aB w b' aW m t):
  Calls Tz.prog 71 #[.slice (some ⟨b,off,none⟩) n cap,.slice (some ⟨b',aW,none⟩) m cap'] w λe w'=>e=.returned (.bool (dY f n t m))/\Below w w w':=by
 unfold maxLen at lY;cases hm:aG f n with
 |false=>
  have HF:Hid (dY f n t m=false):=jv hm;go_enter Tz.func71,Tryz.ntmps71
  go_wp2_with(go_at_call 99;refine(lR _ _ _ _ f _ hn bw aq hf).mono ?_;rintro e w1 ⟨rfl,bF⟩)
  go_ret;exact⟨bN HF.out.symm,bF⟩
 |true=>
  by_cases hlen:m=n
  .subst hlen;have HM:Hid (aG f m=true):=hm;have h6:=cg hm;go_enter Tz.func71,Tryz.ntmps71
   go_wp2_with(go_at_call 99;refine(lR _ _ _ _ f _ hn bw aq hf).mono ?_;rintro e w1 ⟨rfl,bF⟩)
   clear hm;go_loopw [5] (λi w'=>∃k:Nat,k<=m/\i=.int .i64 k/\eH f t k/\Below w w w') (λi _=>m-(intOf i).toNat)
   case atStart=>exact⟨0,acp _,rfl,vp f t,bF⟩
   case round=>
    obtain⟨k,hk,rfl,jQ,hB⟩:=hrel;by_cases aI:k<m
    .have hr:=aq.below hB bw;have eM:=aK.below hB bc;obtain⟨c0,c1,c2,c3,c4,c5⟩:=hr k aI;have d0:=eM k aI;have uc:b<wr:=acl bw hB.size;have SI:b'<wr:=acl bc hB.size;have dG:(k:Int)<m:=ab;have hne:=aE wr;have e3:=λx:aj wr=>x.cell c3
     have e4:=λx:aj wr=>x.cell c4
     have e5:=λx:aj wr=>x.cell c5
     have e6:=λx:aj wr=>x.cell d0
     have UR:=F3 (bj HM.out k aI) (t k);cases hi:iu (t k) (f k).ba (f k).late with
     |false=>
      have HS:Hid ((f k).eV (t k)=false):=by rw[UR,hi];rfl
      clear UR;go_wp2;refine ah ?_;repeat(go_big_quiet_step ((go_at_call 70;exact bP (Fa _ _ _ _))))
      refine wpQuiet_nil (ak ?_);intro w2 cH;go_wp2;go_ret;exact⟨bN (qF aI HS.out).symm,hB.trans (cH.mono hB.size)⟩
     |true=>
      rcases IZ (f k).prom (t k)with⟨hp,OK⟩|⟨hp,OK⟩|hp
      .have NQ:(f k).eV (t k)=false:=by rw[UR,hi,OK];simp[hp]
       have HS:Hid _:=NQ;clear UR NQ;go_wp2;refine ah ?_;repeat(go_big_quiet_step ((go_at_call 70;exact bP (Fa _ _ _ _))))
       refine wpQuiet_nil (ak ?_);intro w2 cH;go_wp2;go_ret;exact⟨bN (qF aI HS.out).symm,hB.trans (cH.mono hB.size)⟩
      all_goals
       have NQ:(f k).eV (t k)=true:=by rw[UR,hi];first|(rw[OK];simp)|(simp;omega)
       have HS:Hid _:=NQ;have pa:=vk HM.out aI NQ;obtain⟨Xu,Xv⟩:=pa;clear UR NQ;go_wp2;try have Ns:decide (0<=(f k).prom)=false:=by(simp;omega)
       refine ah ?_;repeat(go_big_quiet_step ((go_at_call 70;exact bP (Fa _ _ _ _))))
       refine wpQuiet_nil (ak ?_);intro w2 cH;have qI:Below w w w2:=hB.trans (cH.mono hB.size);go_wp2;go_loopw [6] (λi w'=>∃q:Nat,q<=k/\i=.int .i64 q/\(∀p,p<q->(f p).gt (f k) (t p) (t k)=false)/\Below w w w') (λi _=>k-(intOf i).toNat)
       case atStart=>exact⟨0,acp _,rfl,λp hp=>absurd hp (aco _),qI⟩
       case round=>
        clear hB qI cH hr eM c0 c1 c2 c3 c4 c5 d0 uc SI hne e3 e4 e5 e6;obtain⟨q,hq,rfl,lp,hB⟩:=hrel;by_cases GM:q<k
        .have hr:=aq.below hB bw;have eM:=aK.below hB bc;have uZ:=hr k aI;have E4:=hr q ab;have hne:=aE wr;have a0:=λx:aj wr=>x.cell uZ.c0
         have a1:=λx:aj wr=>x.cell uZ.c1
         have a2:=λx:aj wr=>x.cell uZ.c2
         have a3:=λx:aj wr=>x.cell uZ.c3
         have a4:=λx:aj wr=>x.cell uZ.c4
         have a5:=λx:aj wr=>x.cell uZ.c5
         have b0:=λx:aj wr=>x.cell E4.c0
         have b1:=λx:aj wr=>x.cell E4.c1
         have b2:=λx:aj wr=>x.cell E4.c2
         have b3:=λx:aj wr=>x.cell E4.c3
         have b4:=λx:aj wr=>x.cell E4.c4
         have b5:=λx:aj wr=>x.cell E4.c5
         have d0:=λx:aj wr=>x.cell (eM k aI)
         have d1:=λx:aj wr=>x.cell (eM q ab)
         have hqm:q<m:=ab;have abI:(q:Int)<m:=ab;have abu:(k:Int)<m:=ab;obtain⟨Xw,Xx⟩:=vk HM.out hqm (jQ.1 q GM);cases oa:(f q).gt (f k) (t q) (t k)with
         |true=>
          go_wp2;refine ah ?_;repeat(go_big_quiet_step ((go_at_call 100;exact bP (yC (f q) (f k) _ _ _ Xw Xx Xu Xv))))
          refine wpQuiet_nil (ak ?_);intro w3 gZ;go_wp2;go_ret;exact⟨bN (vT GM aI oa).symm,hB.trans (gZ.mono hB.size)⟩
         |false=>
          go_wp2;refine ah ?_;repeat(go_big_quiet_step ((go_at_call 100;exact bP (yC (f q) (f k) _ _ _ Xw Xx Xu Xv))))
          refine wpQuiet_nil (ak ?_);intro w3 gZ;go_wp2;go_roundw
          case rel=>exact⟨q+1,ab,by go_num,λp hp=>by
           by_cases e:p=q
           .subst e;exact oa
           .exact lp p ab,hB.trans (gZ.mono hB.size)⟩
          case measure=>exact cf
        .go_wp2;go_roundw
         case rel=>exact⟨k+1,ab,by go_num,D9 jQ HS.out (λp hp=>lp p ab),hB⟩
         case measure=>exact cf
    .go_wp2;go_ret;exact⟨bN ((fY HM.out).mpr (by rw[show m=k by omega];exact jQ)).symm,hB⟩
  .have HF:Hid (dY f n t m=false):=tz hlen;have ll:((m:Int)!=n)=true:=cC;go_enter Tz.func71,Tryz.ntmps71
   go_wp2_with(go_at_call 99;refine(lR _ _ _ _ f _ hn bw aq hf).mono ?_;rintro e w1 ⟨rfl,bF⟩)
   go_ret;exact⟨bN HF.out.symm,bF⟩
end Go.Proofs.YtlmcblcijndipaaGreatDoor
namespace Go.Proofs.YtlmcblcijndipaaGreatDoor
open Go.RowKit Go.Shelf
attribute [local go_sem] Oper.semAt_some
abbrev Ni (n:Nat):={p:Nat×Nat // p.1<p.2/\p.2<n}
abbrev Ni.cj {n:Nat}(x:Ni n):Array Value:=#[.int .i64 (x.1.1:Int),.int .i64 (x.1.2:Int)]
def Rm (n:Nat)(xs:List (Ni n)):Prop:=∀i j (h:i<j/\j<n),(⟨(i,j),h⟩:Ni n)∈xs
theorem zg (n:Int)(w:World):
  Calls Tz.prog 77 #[n] w λe w'=>e=.returned (.func (.func 108) #[] #[.pointer w.heap.size])/\w'=w.alloc (.cells #[n] 3):=by
 go_enter Tz.func77,Tryz.ntmps77
 go_wp2;go_ret;exact⟨rfl,rfl⟩
theorem us (m:Nat)(Bn aC n:Nat)(w:World)(hn:n<=1048576)(YQ:Bn<aC)(aa7:aC<=w)(hc:w.cell? Bn=some (.int .i64 (n:Int))):
  SeqStopsK Fence.wide m Tz.prog 108 #[.pointer Bn] (Ni.cj (n:=n)) (Below aC) (Rm n) (λ_=>True) (n*n) w:=λl J Jx W hW _ _ hY h0=>by
 have Za:W.cell? Bn=some (.int .i64 (n:Int)):=(hW.cell (p:=Bn) cC).trans hc;refine callsIn_of_wp Tz.func108 rfl trivial ?_ rfl;simp only[Tryz.ntmps108,List.size_toArray,List.length_cons,List.length_nil,Nat.reduceAdd,Nat.reduceSub,Array.replicate_succ,Array.replicate_zero,List.push_toArray,List.append_toArray,List.nil_append,List.cons_append];gi_wp2
 gi_loopw [6] (λi wr=>∃(k:Nat) (pre:List (Ni n)),k<=n/\i=.int .i64 k/\pre.length<=k*n/\(∀i j (h:i<j/\j<n),i<k->(⟨(i,j),h⟩:Ni n)∈pre)/\wr.cell? ⟨Bn,0,none⟩=some (.int .i64 (n:Int))/\J pre wr)
  (λi _=>n-(intOf i).toNat)
 case atStart=>exact⟨0,[],acp _,rfl,aH,λi j h hi=>absurd hi (aco _),Za,h0⟩
 case round=>
  clear Za h0;obtain⟨k,pre,hk,rfl,hlen,cP,SM,hJ⟩:=hrel;by_cases aI:k<n
  .gi_wp2
   gi_loopw [4] (λi wr=>∃(q:Nat) (pre:List (Ni n)),k<q/\q<=n/\i=.int .i64 q/\pre.length<=k*n+q/\(∀i j (h:i<j/\j<n),(i<k\/i=k/\j<q)->(⟨(i,j),h⟩:Ni n)∈pre)/\wr.cell? ⟨Bn,0,none⟩=some (.int .i64 (n:Int))/\J pre wr)
    (λi _=>n-(intOf i).toNat)
   case atStart=>exact⟨k+1,pre,by omega,by omega,by go_num,by omega,λi j h hi=>cP i j h (by omega),SM,hJ⟩
   case round=>
    clear hlen cP SM hJ;obtain⟨q,pre,hkq,hq,rfl,hlen,cP,SM,hJ⟩:=hrel;by_cases GM:q<n
    .have hN:pre.length<n*n:=by
      have h1:(k+1)*n<=n*n:=Nat.mul_le_mul_right n aI;have h2:(k+1)*n=k*n+n:=Nat.succ_mul k n;omega
     obtain⟨fn,tmps,assign,body,hy,hR⟩:=hY pre ⟨(k,q),hkq,GM⟩ wr hJ hN;dsimp only[Ni.cj]at hy;gi_wp2
     refine⟨λh=>(by simp[Fence.wide]at h),hR.mono ?_⟩;rintro e W3 (⟨rfl,VM,WJ⟩|⟨rfl,E_⟩)
     .have Wc:W3.cell? Bn=some (.int .i64 (n:Int)):=(WJ.cell (p:=Bn) YQ).trans SM;gi_wp2
      go_roundw
      case rel=>exact⟨q+1,pre++[⟨(k,q),hkq,GM⟩],ab,ab,by go_num,cC,λi j h hi=>by
       by_cases e:i=k/\j=q
       .obtain⟨rfl,rfl⟩:=e;exact List.mem_append_right _ aH
       .exact List.mem_append_left _ (cP i j h ab),Wc,VM⟩
      case measure=>exact cf
     .gi_wp2
      refine bodyPost_ret (results_none rfl _ _ _) rfl ?_;exact⟨⟨_,rfl⟩,.inr ⟨_,trivial,E_⟩⟩
    .gi_wp2
     go_roundw
     case rel=>exact⟨k+1,pre,ab,by go_num,by
      have h2:(k+1)*n=k*n+n:=Nat.succ_mul k n;omega,λi j h hi=>cP i j h ab,SM,hJ⟩
     case measure=>exact cf
  .gi_wp2
   go_end0
   exact⟨⟨_,rfl⟩,.inl ⟨pre,λi j h=>cP i j h ab,hJ⟩⟩
end Go.Proofs.YtlmcblcijndipaaGreatDoor
namespace Go.Proofs.YtlmcblcijndipaaGreatDoor
open Go.RowKit Go.Shelf
attribute [local go_sem] Oper.semAt_some
set_option linter.unusedVariables false
theorem wm (b off n cap:Nat)(f:Nat->Mv)(a':Option Addr)(m cap':Nat)(t:Nat->Int)(w:World)(hn:n<=1048576)(lY:m<=maxLen)(bw:b<w)(aq:aM w b off n f)(h:aG f n=false\/m≠n):
  Calls Tz.prog 50 #[.slice (some ⟨b,off,none⟩) n cap,.slice a' m cap'] w λe w'=>e=.returned (.bool (dY f n t m))/\Below w w w':=by
 unfold maxLen at lY;have mQ:∀o1 o2 o3,Below w w (((w.alloc o1).alloc o2).alloc o3):=λo1 o2 o3=>(((aca _ w).alloc (ack _) _).alloc aH _).alloc cC _
 have hF0:dY f n t m=false:=by rcases h with h|h;exact jv h;exact tz h
 have HF:Hid (dY f n t m=false):=hF0;clear hF0;cases hm:aG f n with
 |false=>
  clear h;go_enter Tz.func50,Tryz.ntmps50
  go_wp2_with(go_at_call 75;refine(fG _ _ _ _ f _ hn cC (aq.below (mQ _ _ _) bw)).mono ?_;rintro e w1 ⟨rfl,bF⟩;obtain⟨kJ,uQ⟩:=jr bF)
  have hz:=bF.size;simp at hz;refine bodyPost_ret (v:=false) (by simp[results,Tryz.results50,go_sem,kJ]) rfl ⟨bN HF.out.symm,?_⟩;exact((mQ _ _ _).trans (bF.mono (mQ _ _ _).size)).setCell cC _
 |true=>
  have hl:m≠n:=by rcases h with h|h;rw[hm]at h;cases h;exact h
  have ll:((m:Int)!=n)=true:=cC;clear h;go_enter Tz.func50,Tryz.ntmps50
  go_wp2_with(go_at_call 75;refine(fG _ _ _ _ f _ hn cC (aq.below (mQ _ _ _) bw)).mono ?_;rintro e w1 ⟨rfl,bF⟩;obtain⟨kJ,uQ⟩:=jr bF)
  have hz:=bF.size;simp at hz;refine bodyPost_ret (v:=false) (by simp[results,Tryz.results50,go_sem,kJ]) rfl ⟨bN HF.out.symm,?_⟩;exact((mQ _ _ _).trans (bF.mono (mQ _ _ _).size)).setCell cC _
abbrev dj (w:World)(m:Mv):World:=w.alloc (.cells #[m.name,m.an,m.aD,m.ba,m.late,m.prom] 31)
theorem pb (b off n cap:Nat)(f:Nat->Mv)(b' aW m cap':Nat)(t:Nat->Int)(w:World)(hn:n<=1048576)(lY:m<=maxLen)(bw:b<w)(aq:aM w b off n f)(h:aG f n=false\/m≠n):
  Calls Tz.prog 50 #[.slice (some ⟨b,off,none⟩) n cap,.slice (some ⟨b',aW,none⟩) m cap'] w λe w'=>e=.returned (.bool (dY f n t m))/\Below w w w':=
 wm b off n cap f (some ⟨b',aW,none⟩) m cap' t w hn lY bw aq h
theorem kC (w:World)(m:Mv):ti (dj w m) w.heap.size 0 m:=by
 constructor<;>simp[dj]
theorem fO (w:World)(m:Mv):Below w w (dj w m):=(aca _ _).alloc (ack _) _
theorem sx (b off n cap:Nat)(f:Nat->Mv)(b' aW cap':Nat)(t:Nat->Int)(w:World)(hn:n<=1048576)(bw:b<w)(aq:aM w b off n f)(bc:b'<w)(aK:aB w b' aW n t)(hm:aG f n=true)(lp:¬∀i,i<n->(f i).eV (t i)=true):
  Calls Tz.prog 50 #[.slice (some ⟨b,off,none⟩) n cap,.slice (some ⟨b',aW,none⟩) n cap'] w λe w'=>e=.returned (.bool (dY f n t n))/\Below w w w':=by
 have mQ:∀o1 o2 o3,Below w w (((w.alloc o1).alloc o2).alloc o3):=λo1 o2 o3=>(((aca _ w).alloc (ack _) _).alloc aH _).alloc cC _
 go_enter Tz.func50,Tryz.ntmps50
 go_wp2_with(go_at_call 75;refine(fG _ _ _ _ f _ hn cC (aq.below (mQ _ _ _) bw)).mono ?_;rintro e w1 ⟨rfl,bF⟩;obtain⟨kJ,uQ⟩:=jr bF)
 have hz:=bF.size;simp at hz;have mS:Below w w w1:=(mQ _ _ _).trans (bF.mono (mQ _ _ _).size);have l0:w1.cell? w.heap.size=some (.slice (some ⟨b,off,none⟩) n cap):=by rw[kJ w.heap.size 0 cC];simp[go_sem]
 have l1:w1.cell? ⟨w.heap.size+1,0,none⟩=some (.slice (some ⟨b',aW,none⟩) n cap'):=by rw[kJ (w.heap.size+1) 0 aH];simp[go_sem]
 have l2:w1.cell? ⟨w.heap.size+1+1,0,none⟩=some (.bool false):=by rw[kJ (w.heap.size+1+1) 0 aH];simp[go_sem]
 have l3:w1.frozen? ⟨w.heap.size+1+1,0,none⟩=false:=by rw[uQ (w.heap.size+1+1) 0 aH];simp[go_sem]
 clear kJ uQ bF;go_loopw [21] (λi wr=>∃k:Nat,k<=n/\i=.int .i64 k/\(∀j,j<k->(f j).eV (t j)=true)/\Below w1 w1 wr) (λi _=>n-(intOf i).toNat)
 case atStart=>exact⟨0,acp _,rfl,λj hj=>absurd hj (aco _),aca _ _⟩
 case round=>
  obtain⟨k,hk,rfl,cP,hB⟩:=hrel;by_cases aI:k<n
  .have fK:Below w w wr:=mS.trans (hB.mono mS.size);have hr:=aq.below fK bw k aI;have eM:=aK.below fK bc k aI;obtain⟨c0,c1,c2,c3,c4,c5⟩:=hr;have hzr:w1.heap.size<=wr:=hB.size;have dG:(k:Int)<n:=ab;have hA:=fO wr (f k);have hM:=kC wr (f k);have m1:wr.cell? ⟨w.heap.size+1,0,none⟩=some (.slice (some ⟨b',aW,none⟩) n cap'):=(hB.cell (p:=⟨w.heap.size+1,0,none⟩) cC).trans l1;have m2:wr.cell? ⟨w.heap.size+1+1,0,none⟩=some (.bool false):=(hB.cell (p:=⟨w.heap.size+1+1,0,none⟩) cC).trans l2;have m3:wr.frozen? ⟨w.heap.size+1+1,0,none⟩=false:=(hB.frozen (p:=⟨w.heap.size+1+1,0,none⟩) cC).trans l3;have hne:=aE (dj wr (f k));have e0:=λx:aj (dj wr (f k))=>x.cell hM.c0
   have e1:=λx:aj (dj wr (f k))=>x.cell hM.c1
   have e2:=λx:aj (dj wr (f k))=>x.cell hM.c2
   have e3:=λx:aj (dj wr (f k))=>x.cell hM.c3
   have e4:=λx:aj (dj wr (f k))=>x.cell hM.c4
   have e5:=λx:aj (dj wr (f k))=>x.cell hM.c5
   have e6:=λx:aj (dj wr (f k))=>x.cell ((hA.cell (p:=⟨w.heap.size+1,0,none⟩) cC).trans m1)
   have e7:=λx:aj (dj wr (f k))=>x.cell ((hA.cell (p:=⟨b',aW+k,none⟩) cC).trans eM)
   simp only[Nat.zero_add]at e0 e1 e2 e3 e4 e5;cases hs:(f k).eV (t k)with
   |true=>
    have HS:Hid _:=hs;go_wp2;refine ah ?_;repeat(go_big_quiet_step ((go_at_call 76;exact bP (tR (f k) _ _))))
    refine wpQuiet_nil (ak ?_);intro w2 cH;go_wp2;go_roundw
    case rel=>exact⟨k+1,ab,by go_num,λj hj=>by
     by_cases e:j=k
     .subst e;exact HS.out
     .exact cP j ab,hB.trans ((hA.trans (cH.mono hA.size)).mono hB.size)⟩
    case measure=>exact cf
   |false=>
    have HF:Hid (dY f n t n=false):=qF aI hs;go_wp2;refine ah ?_;repeat(go_big_quiet_step ((go_at_call 76;exact bP (tR (f k) _ _))))
    refine wpQuiet_nil (ak ?_);intro w2 cH;have hq:Below wr wr w2:=hA.trans (cH.mono hA.size);have n2:w2.cell? ⟨w.heap.size+1+1,0,none⟩=some (.bool false):=(hq.cell (p:=⟨w.heap.size+1+1,0,none⟩) cC).trans m2;have n3:w2.frozen? ⟨w.heap.size+1+1,0,none⟩=false:=(hq.frozen (p:=⟨w.heap.size+1+1,0,none⟩) cC).trans m3;go_wp2;refine bodyPost_ret (v:=false) (by simp[results,Tryz.results50,go_sem,n2]) rfl ⟨bN HF.out.symm,?_⟩;exact(fK.trans (hq.mono fK.size)).setCell cC _
  .exact absurd (λi hi=>cP i ab) lp
end Go.Proofs.YtlmcblcijndipaaGreatDoor
namespace Go.Proofs.YtlmcblcijndipaaGreatDoor
open RowKit
variable {f:Nat->Mv}{t:Nat->Int}{n:Nat}
def ii (f:Nat->Mv)(t:Nat->Int)(n:Nat):Prop:=∀j,j<n->0<=(f j).ba/\(f j).ba<=t j/\t j<=10000
theorem ii.sum (h:ii f t n)(i:Nat)(hi:i<=n):0<=sumTo f t i/\sumTo f t i<=10000*i/\0<=cU f t i/\cU f t i<=10000:=
 Dy i λj hj=>by have:=h j ab;omega
theorem ii.fits (hm:aG f n=true)(h:eH f t n):ii f t n:=λj hj=>by
 have h1:=Mv.fR (bj hm j hj);have h2:=gA (h.1 j hj);omega
theorem jV (b off n cap:Nat)(f:Nat->Mv)(b' aW m cap':Nat)(t:Nat->Int)(w:World)(h6:n<=6)(uR:n<=m)(bw:b<w)(aq:aM w b off n f)(bc:b'<w)(aK:aB w b' aW n t)(No:ii f t n):
  Calls Tz.prog 133 #[.slice (some ⟨b,off,none⟩) n cap,.slice (some ⟨b',aW,none⟩) m cap'] w λe w'=>e=.returned (.tuple #[.int .i64 (sumTo f t n),.int .i64 (cU f t n)])/\Below w w w':=by
 go_enter Tz.func133,Tryz.ntmps133
 go_wp2;go_loopw [6,7,8] (λs z i w'=>∃k:Nat,k<=n/\i=.int .i64 k/\s=.int .i64 (sumTo f t k)/\z=.int .i64 (cU f t k)/\Below w w w') (λ_ _ i _=>n-(intOf i).toNat)
 case atStart=>exact⟨0,acp _,rfl,rfl,rfl,aca _ _⟩
 case round=>
  obtain⟨k,hk,rfl,rfl,rfl,hB⟩:=hrel;by_cases aI:k<n
  .have hr:=aq.below hB bw k aI;have eM:=aK.below hB bc k aI;have dG:(k:Int)<n:=ab;have aap:(k:Int)<m:=ab;obtain⟨s0,s1,z0,z1⟩:=No.sum k hk;obtain⟨x0,x1,x2⟩:=No k aI;have HS:Hid (sumTo f t (k+1)=sumTo f t k+(t k-(f k).ba)):=rfl;have HM:Hid (cU f t (k+1)=if cU f t k<t k-(f k).ba then t k-(f k).ba else cU f t k):=rfl;have hne:=aE wr;have e3:=λx:aj wr=>x.cell hr.c3
   have e6:=λx:aj wr=>x.cell eM
   go_wp2;refine ah ?_;repeat(go_big_quiet_step (fail))
   refine wpQuiet_nil (ak ?_);intro w1 bF;by_cases ST:cU f t k<t k-(f k).ba;all_goals
    go_wp2;go_roundw
    case rel=>exact⟨k+1,ab,by go_num,by rw[HS.out],by rw[HM.out];first|rw[if_pos ST]|rw[if_neg ab],hB.trans (bF.mono hB.size)⟩
    case measure=>exact cf
  .have qo:k=n:=by omega
   subst qo;go_wp2;go_ret2
   exact⟨rfl,hB⟩
theorem Ar (b off n cap:Nat)(f:Nat->Mv)(b' aW m cap':Nat)(t:Nat->Int)(w:World)(h6:n<=6)(uR:n<=m)(bw:b<w)(aq:aM w b off n f)(bc:b'<w)(aK:aB w b' aW n t)(No:ii f t n):
  Calls Tz.prog 150 #[.slice (some ⟨b,off,none⟩) n cap,.slice (some ⟨b',aW,none⟩) m cap'] w λe w'=>e=.returned (.tuple #[.int .i64 (sumTo f t n),.int .i64 (cU f t n)])/\Below w w w':=by
 go_enter Tz.func150,Tryz.ntmps150
 go_wp2;go_loopw [6,7,13] (λs z i w'=>∃k:Nat,k<=n/\i=.int .i64 k/\s=.int .i64 (sumTo f t k)/\z=.int .i64 (cU f t k)/\Below w w w') (λ_ _ i _=>n-(intOf i).toNat)
 case atStart=>exact⟨0,acp _,rfl,rfl,rfl,aca _ _⟩
 case round=>
  obtain⟨k,hk,rfl,rfl,rfl,hB⟩:=hrel;by_cases aI:k<n
  .have hr:=aq.below hB bw k aI;have eM:=aK.below hB bc k aI;obtain⟨c0,c1,c2,c3,c4,c5⟩:=hr;have dG:(k:Int)<n:=ab;have aap:(k:Int)<m:=ab;have SI:b'<wr:=acl bc hB.size;obtain⟨s0,s1,z0,z1⟩:=No.sum k hk;obtain⟨x0,x1,x2⟩:=No k aI;have HS:Hid (sumTo f t (k+1)=sumTo f t k+(t k-(f k).ba)):=rfl;have HM:Hid (cU f t (k+1)=if cU f t k<t k-(f k).ba then t k-(f k).ba else cU f t k):=rfl;have hA:=fO wr (f k);have hM:=kC wr (f k);have hne:=aE (dj wr (f k));have e3:=λx:aj (dj wr (f k))=>x.cell hM.c3
   have e6:=λx:aj (dj wr (f k))=>x.cell ((hA.cell (p:=⟨b',aW+k,none⟩) SI).trans eM)
   simp only[Nat.zero_add]at e3;go_wp2;refine ah ?_;repeat(go_big_quiet_step (fail))
   refine wpQuiet_nil (ak ?_);intro w1 bF;have hq:Below wr wr w1:=hA.trans (bF.mono hA.size);by_cases ST:cU f t k<t k-(f k).ba;all_goals
    go_wp2;go_roundw
    case rel=>exact⟨k+1,ab,by go_num,by rw[HS.out],by rw[HM.out];first|rw[if_pos ST]|rw[if_neg ab],hB.trans (hq.mono hB.size)⟩
    case measure=>exact cf
  .have qo:k=n:=by omega
   subst qo;go_wp2;go_ret2
   exact⟨rfl,hB⟩
