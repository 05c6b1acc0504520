import Derived.Test.YtlmcblcijndipabGreatDoorAd16
import Derived.Test.YtlmcblcijndipabGreatDoorAd04c
set_option linter.unusedVariables false
set_option maxHeartbeats 2000000
namespace Go.Proofs.YtlmcblcijndipabGreatDoor
open Go.RowKit
theorem ox {m:Mv}(hm:m.Fits)(w:World):
  Calls Tz.prog 32 #[.agg #[.string m.name,.bool m.lands,.int .i64 m.wake,.int .i64 m.est,.int .i64 m.late,.int .i64 m.prom]] w λe w'=>e=.returned (.bool m.ok)/\Below w.heap.size w w':=qP _ _ _ _ _ _ _ hm.name
theorem gE (b off n cap:Nat)(f:Nat->Mv)(w:World)(hn:n<=1048576)(hbs:b<w.heap.size)(hrow:ak w b off n f)(hf:∀i,i<n->(f i).Fits):
  Calls Tz.prog 83 #[.slice (some ⟨b,off,none⟩) n cap] w λe w'=>e=.returned (.bool (aw f n))/\Below w.heap.size w w':=by
 by_cases h6:6<n
 .have hm:aw f n=false:=mz (by omega);have h6':(6:Int)<n:=by omega
  go_enter Tz.func83,Tryz.ntmps83
  go_wp2;go_ret;exact⟨aK hm.symm,Gb _ _⟩
 .go_enter Tz.func83,Tryz.ntmps83
  go_wp2;go_loopw [3] (λi w'=>∃k:Nat,k<=n/\i=.int .i64 k/\fy f k/\Below w.heap.size w w') (λi _=>n-(intOf i).toNat)
  case atStart=>exact⟨0,Gs _,rfl,λi hi=>absurd hi (Gr _),Gb _ _⟩
  case round=>
   obtain⟨k,hk,rfl,hst,hB⟩:=hrel;by_cases hlt:k<n
   .have hr:=hrow.below hB hbs;obtain⟨c0,c1,c2,c3,c4,c5⟩:=hr k hlt;have hfit:=hf k hlt;have hlt':(k:Int)<n:=by omega
    have hbr:b<wr.heap.size:=Gn hbs hB.size;have hne:=ay wr;have d0:=λx:ag wr=>x.cell c0
    have d1:=λx:ag wr=>x.cell c1
    have d2:=λx:ag wr=>x.cell c2
    have d3:=λx:ag wr=>x.cell c3
    have d4:=λx:ag wr=>x.cell c4
    have d5:=λx:ag wr=>x.cell c5
    cases hok:(f k).ok with
    |false=>
     have hsb:dP f k=false:=by unfold dP;rw[hok];rfl
     go_wp2;refine af (by kernel_rfl) (by kernel_rfl) ?_;repeat(go_big_quiet_step ((go_at_call 32;exact aE (ox hfit _))))
     refine wpQuiet_nil (ai ?_);intro w1 hb1;go_wp2;go_ret;exact⟨aK (jB hlt hsb).symm,hB.trans (hb1.mono hB.size)⟩
    |true=>
     by_cases hk0:k=0
     .have hsb:dP f k=true:=by unfold dP;rw[hok,hk0];rfl
      have HS:Hid (fy f (k+1)):=fA hst hsb;go_wp2;have hz:decide (0<k)=false:=by simp;omega
      clear hk0;refine af (by kernel_rfl) (by kernel_rfl) ?_;repeat(go_big_quiet_step ((go_at_call 32;exact aE (ox hfit _))))
      refine wpQuiet_nil (ai ?_);intro w1 hb1;go_wp2;go_roundw
      case rel=>exact⟨k+1,by omega,by go_num,HS.out,hB.trans (hb1.mono hB.size)⟩
      case measure=>simp[intOf];omega
     .obtain⟨j,rfl⟩:∃j,k=j+1:=⟨k-1,by omega⟩;have e0:=λx:ag wr=>x.cell (hr j (by omega)).c0
      have hj1:(j:Int)<n:=by omega
      have hz:(0:Int)<(j:Int)+1:=by omega
      cases hless:aO (f j).name (f (j+1)).name with
      |true=>
       have HS:Hid (fy f (j+1+1)):=fA hst (by unfold dP;rw[hok];simpa using hless);unfold aO at hless;go_wp2;refine af (by kernel_rfl) (by kernel_rfl) ?_;repeat(go_big_quiet_step ((go_at_call 32;exact aE (ox hfit _))))
       refine wpQuiet_nil (ai ?_);intro w1 hb1;go_wp2;go_roundw
       case rel=>exact⟨j+1+1,by omega,by go_num,HS.out,hB.trans (hb1.mono hB.size)⟩
       case measure=>simp[intOf];omega
      |false=>
       have HS:Hid (aw f n=false):=jB hlt (by unfold dP;rw[hok];simpa using hless);unfold aO at hless;go_wp2;refine af (by kernel_rfl) (by kernel_rfl) ?_;repeat(go_big_quiet_step ((go_at_call 32;exact aE (ox hfit _))))
       refine wpQuiet_nil (ai ?_);intro w1 hb1;go_wp2;go_ret;exact⟨aK HS.out.symm,hB.trans (hb1.mono hB.size)⟩
   .go_wp2;go_ret;exact⟨aK (fJ (by omega) (by rw[show n=k by omega];exact hst)).symm,hB⟩
theorem oy (m:Mv)(w:World):
  Calls Tz.prog 146 #[.agg #[.string m.name,.bool m.lands,.int .i64 m.wake,.int .i64 m.est,.int .i64 m.late,.int .i64 m.prom]] w λe w'=>e=.returned (.bool m.ok)/\Below w.heap.size w w':=qQ _ _ _ _ _ _ _
theorem c9 (b off n cap:Nat)(f:Nat->Mv)(w:World)(hn:n<=1048576)(hbs:b<w.heap.size)(hrow:ak w b off n f):
  Calls Tz.prog 127 #[.slice (some ⟨b,off,none⟩) n cap] w λe w'=>e=.returned (.bool (aw f n))/\Below w.heap.size w w':=by
 by_cases h6:6<n
 .have hm:aw f n=false:=mz (by omega);have h6':(6:Int)<n:=by omega
  go_enter Tz.func127,Tryz.ntmps127
  go_wp2;go_ret;exact⟨aK hm.symm,Gb _ _⟩
 .go_enter Tz.func127,Tryz.ntmps127
  go_wp2;go_loopw [10] (λi w'=>∃k:Nat,k<=n/\i=.int .i64 k/\fy f k/\Below w.heap.size w w') (λi _=>n-(intOf i).toNat)
  case atStart=>exact⟨0,Gs _,rfl,λi hi=>absurd hi (Gr _),Gb _ _⟩
  case round=>
   obtain⟨k,hk,rfl,hst,hB⟩:=hrel;by_cases hlt:k<n
   .have hr:=hrow.below hB hbs;obtain⟨c0,c1,c2,c3,c4,c5⟩:=hr k hlt;have hlt':(k:Int)<n:=by omega
    have hbr:b<wr.heap.size:=Gn hbs hB.size;cases hok:(f k).ok with
    |false=>
     have HS:Hid (aw f n=false):=jB hlt (by unfold dP;rw[hok];rfl);go_wp2_with(go_at_call 146;refine(oy (f k) _).mono ?_;rintro e w1 ⟨rfl,hb1⟩;obtain⟨hc1,hf1⟩:=dE hb1)
     go_ret;exact⟨aK HS.out.symm,hB.trans ((fK (io wr _) hb1).2.mono hB.size)⟩
    |true=>
     by_cases hk0:k=0
     .have HS:Hid (fy f (k+1)):=fA hst (by unfold dP;rw[hok,hk0];rfl);have HK:Hid (k=0):=hk0;clear hk0;go_wp2_with(go_at_call 146;refine(oy (f k) _).mono ?_;rintro e w1 ⟨rfl,hb1⟩;obtain⟨hc1,hf1⟩:=dE hb1)
      have hz:decide (0<k)=false:=by have:=HK.out;simp;omega
      have hq:=fK (io wr _) hb1;have hne:=ay w1;refine af (by kernel_rfl) (by kernel_rfl) ?_;repeat(go_big_quiet_step (fail))
      refine wpQuiet_nil (ai ?_);intro w2 hb2;go_wp2;go_roundw
      case rel=>exact⟨k+1,by omega,by go_num,HS.out,hB.trans ((hq.2.trans (hb2.mono hq.2.size)).mono hB.size)⟩
      case measure=>simp[intOf];omega
     .obtain⟨j,rfl⟩:∃j,k=j+1:=⟨k-1,by omega⟩;have hj1:(j:Int)<n:=by omega
      have hz:(0:Int)<(j:Int)+1:=by omega
      cases hless:aO (f j).name (f (j+1)).name with
      |true=>
       have HS:Hid (fy f (j+1+1)):=fA hst (by unfold dP;rw[hok];simpa using hless);unfold aO at hless;go_wp2_with(go_at_call 146;refine(oy (f (j+1)) _).mono ?_;rintro e w1 ⟨rfl,hb1⟩;obtain⟨hc1,hf1⟩:=dE hb1)
       have hq:=fK (io wr _) hb1;have hne:=ay w1;have g0:w1.cell? ⟨wr.heap.size,0,none⟩=some (.string (f (j+1)).name):=by rw[hc1 _ _ (by simp),World.cell?_alloc_new];rfl
       have e0:=λx:ag w1=>x.cell g0
       have e1:=λx:ag w1=>x.cell ((hr.below hq.2 hbr) j (by omega)).c0
       refine af (by kernel_rfl) (by kernel_rfl) ?_;repeat(go_big_quiet_step (fail))
       refine wpQuiet_nil (ai ?_);intro w2 hb2;go_wp2;go_roundw
       case rel=>exact⟨j+1+1,by omega,by go_num,HS.out,hB.trans ((hq.2.trans (hb2.mono hq.2.size)).mono hB.size)⟩
       case measure=>simp[intOf];omega
      |false=>
       have HS:Hid (aw f n=false):=jB hlt (by unfold dP;rw[hok];simpa using hless);unfold aO at hless;go_wp2_with(go_at_call 146;refine(oy (f (j+1)) _).mono ?_;rintro e w1 ⟨rfl,hb1⟩;obtain⟨hc1,hf1⟩:=dE hb1)
       have hq:=fK (io wr _) hb1;have hne:=ay w1;have g0:w1.cell? ⟨wr.heap.size,0,none⟩=some (.string (f (j+1)).name):=by rw[hc1 _ _ (by simp),World.cell?_alloc_new];rfl
       have e0:=λx:ag w1=>x.cell g0
       have e1:=λx:ag w1=>x.cell ((hr.below hq.2 hbr) j (by omega)).c0
       refine af (by kernel_rfl) (by kernel_rfl) ?_;repeat(go_big_quiet_step (fail))
       refine wpQuiet_nil (ai ?_);intro w2 hb2;go_wp2;go_ret;exact⟨aK HS.out.symm,hB.trans ((hq.2.trans (hb2.mono hq.2.size)).mono hB.size)⟩
   .go_wp2;go_ret;exact⟨aK (fJ (by omega) (by rw[show n=k by omega];exact hst)).symm,hB⟩
theorem vl (n lo hi:Int)(w:World):
  Calls Tz.prog 59 #[.int .i64 n,.int .i64 lo,.int .i64 hi] w λe w'=>e=.returned (.bool (dN n lo hi))/\Below w.heap.size w w':=
 (dQ n lo hi w).mono λ_ _ ⟨he,hw⟩=>⟨he,hw▸Gb _ _⟩
theorem ns {f:Nat->Mv}{n:Nat}{t:Nat->Int}(hm:aw f n=true){k:Nat}(hk:k<n)(hs:(f k).suits (t k)=true):0<=t k/\t k<=10000:=by
 have h1:=Mv.ok_bd (aS hm k hk);have h2:=eZ hs;omega
theorem xR (p t:Int):(0<=p/\(t !=p)=true)\/(0<=p/\(t !=p)=false)\/p<0:=by
 by_cases h:0<=p
 .cases e:(t !=p)with
  |true=>exact .inl ⟨h,rfl⟩
  |false=>exact .inr (.inl ⟨h,rfl⟩)
 .exact .inr (.inr (by omega))
theorem rF (b off n cap:Nat)(f:Nat->Mv)(b' off' m cap':Nat)(t:Nat->Int)(w:World)(hn:n<=1048576)(hm1:m<=maxLen)(hbs:b<w.heap.size)(hrow:ak w b off n f)(hf:∀i,i<n->(f i).Fits)(hbs':b'<w.heap.size)(hrow':al w b' off' m t):
  Calls Tz.prog 60 #[.slice (some ⟨b,off,none⟩) n cap,.slice (some ⟨b',off',none⟩) m cap'] w λe w'=>e=.returned (.bool (bL f n t m))/\Below w.heap.size w w':=by
 unfold maxLen at hm1;cases hm:aw f n with
 |false=>
  have HF:Hid (bL f n t m=false):=fc hm;go_enter Tz.func60,Tryz.ntmps60
  go_wp2_with(go_at_call 83;refine(gE _ _ _ _ f _ hn hbs hrow hf).mono ?_;rintro e w1 ⟨rfl,hb1⟩)
  go_ret;exact⟨aK HF.out.symm,hb1⟩
 |true=>
  by_cases hlen:m=n
  .subst hlen;have HM:Hid (aw f m=true):=hm;have h6:=aN hm;go_enter Tz.func60,Tryz.ntmps60
   go_wp2_with(go_at_call 83;refine(gE _ _ _ _ f _ hn hbs hrow hf).mono ?_;rintro e w1 ⟨rfl,hb1⟩)
   clear hm;go_loopw [5] (λi w'=>∃k:Nat,k<=m/\i=.int .i64 k/\dU f t k/\Below w.heap.size w w') (λi _=>m-(intOf i).toNat)
   case atStart=>exact⟨0,Gs _,rfl,uA f t,hb1⟩
   case round=>
    obtain⟨k,hk,rfl,hfit,hB⟩:=hrel;by_cases hlt:k<m
    .have hr:=hrow.below hB hbs;have hr':=hrow'.below hB hbs';obtain⟨c0,c1,c2,c3,c4,c5⟩:=hr k hlt;have d0:=hr' k hlt;have hbr:b<wr.heap.size:=Gn hbs hB.size;have hbr':b'<wr.heap.size:=Gn hbs' hB.size;have hlt':(k:Int)<m:=by omega
     have hne:=ay wr;have e3:=λx:ag wr=>x.cell c3
     have e4:=λx:ag wr=>x.cell c4
     have e5:=λx:ag wr=>x.cell c5
     have e6:=λx:ag wr=>x.cell d0
     have hss:=uz (aS HM.out k hlt) (t k);cases hi:dN (t k) (f k).est (f k).late with
     |false=>
      have HS:Hid ((f k).suits (t k)=false):=by rw[hss,hi];rfl
      clear hss;go_wp2;refine af (by kernel_rfl) (by kernel_rfl) ?_;repeat(go_big_quiet_step ((go_at_call 59;exact aE (vl _ _ _ _))))
      refine wpQuiet_nil (ai ?_);intro w2 hb2;go_wp2;go_ret;exact⟨aK (kg hlt HS.out).symm,hB.trans (hb2.mono hB.size)⟩
     |true=>
      rcases xR (f k).prom (t k)with⟨hp,he'⟩|⟨hp,he'⟩|hp
      .have HS0:(f k).suits (t k)=false:=by rw[hss,hi,he'];simp[hp]
       have HS:Hid _:=HS0;clear hss HS0;go_wp2;refine af (by kernel_rfl) (by kernel_rfl) ?_;repeat(go_big_quiet_step ((go_at_call 59;exact aE (vl _ _ _ _))))
       refine wpQuiet_nil (ai ?_);intro w2 hb2;go_wp2;go_ret;exact⟨aK (kg hlt HS.out).symm,hB.trans (hb2.mono hB.size)⟩
      all_goals
       have HS0:(f k).suits (t k)=true:=by rw[hss,hi];first|(rw[he'];simp)|(simp;omega)
       have HS:Hid _:=HS0;have htk:=ns HM.out hlt HS0;obtain⟨htk0,htk1⟩:=htk;clear hss HS0;go_wp2;try have hp':decide (0<=(f k).prom)=false:=by(simp;omega)
       refine af (by kernel_rfl) (by kernel_rfl) ?_;repeat(go_big_quiet_step ((go_at_call 59;exact aE (vl _ _ _ _))))
       refine wpQuiet_nil (ai ?_);intro w2 hb2;have hB2:Below w.heap.size w w2:=hB.trans (hb2.mono hB.size);go_wp2;go_loopw [6] (λi w'=>∃q:Nat,q<=k/\i=.int .i64 q/\(∀p,p<q->(f p).near (f k) (t p) (t k)=false)/\Below w.heap.size w w') (λi _=>k-(intOf i).toNat)
       case atStart=>exact⟨0,Gs _,rfl,λp hp=>absurd hp (Gr _),hB2⟩
       case round=>
        clear hB hB2 hb2 hr hr' c0 c1 c2 c3 c4 c5 d0 hbr hbr' hne e3 e4 e5 e6;obtain⟨q,hq,rfl,hno,hB⟩:=hrel;by_cases hlq:q<k
        .have hr:=hrow.below hB hbs;have hr':=hrow'.below hB hbs';have hk0:=hr k hlt;have hq0:=hr q (by omega);have hne:=ay wr;have a0:=λx:ag wr=>x.cell hk0.c0
         have a1:=λx:ag wr=>x.cell hk0.c1
         have a2:=λx:ag wr=>x.cell hk0.c2
         have a3:=λx:ag wr=>x.cell hk0.c3
         have a4:=λx:ag wr=>x.cell hk0.c4
         have a5:=λx:ag wr=>x.cell hk0.c5
         have b0:=λx:ag wr=>x.cell hq0.c0
         have b1:=λx:ag wr=>x.cell hq0.c1
         have b2:=λx:ag wr=>x.cell hq0.c2
         have b3:=λx:ag wr=>x.cell hq0.c3
         have b4:=λx:ag wr=>x.cell hq0.c4
         have b5:=λx:ag wr=>x.cell hq0.c5
         have d0:=λx:ag wr=>x.cell (hr' k hlt)
         have d1:=λx:ag wr=>x.cell (hr' q (by omega))
         have hqm:q<m:=by omega
         have hqm':(q:Int)<m:=by omega
         have hkm':(k:Int)<m:=by omega
         obtain⟨htq0,htq1⟩:=ns HM.out hqm (hfit.1 q hlq);cases hnear:(f q).near (f k) (t q) (t k)with
         |true=>
          go_wp2;refine af (by kernel_rfl) (by kernel_rfl) ?_;repeat(go_big_quiet_step ((go_at_call 84;exact aE (pR (f q) (f k) _ _ _ htq0 htq1 htk0 htk1))))
          refine wpQuiet_nil (ai ?_);intro w3 hb3;go_wp2;go_ret;exact⟨aK (nG hlq hlt hnear).symm,hB.trans (hb3.mono hB.size)⟩
         |false=>
          go_wp2;refine af (by kernel_rfl) (by kernel_rfl) ?_;repeat(go_big_quiet_step ((go_at_call 84;exact aE (pR (f q) (f k) _ _ _ htq0 htq1 htk0 htk1))))
          refine wpQuiet_nil (ai ?_);intro w3 hb3;go_wp2;go_roundw
          case rel=>exact⟨q+1,by omega,by go_num,λp hp=>by
           by_cases e:p=q
           .subst e;exact hnear
           .exact hno p (by omega),hB.trans (hb3.mono hB.size)⟩
          case measure=>simp[intOf];omega
        .go_wp2;go_roundw
         case rel=>exact⟨k+1,by omega,by go_num,uB hfit HS.out (λp hp=>hno p (by omega)),hB⟩
         case measure=>simp[intOf];omega
    .go_wp2;go_ret;exact⟨aK ((gH HM.out).mpr (by rw[show m=k by omega];exact hfit)).symm,hB⟩
  .have HF:Hid (bL f n t m=false):=lG hlen;have hl':((m:Int)!=n)=true:=by simp;omega
   go_enter Tz.func60,Tryz.ntmps60
   go_wp2_with(go_at_call 83;refine(gE _ _ _ _ f _ hn hbs hrow hf).mono ?_;rintro e w1 ⟨rfl,hb1⟩)
   go_ret;exact⟨aK HF.out.symm,hb1⟩
end Go.Proofs.YtlmcblcijndipabGreatDoor
namespace Go.Proofs.YtlmcblcijndipabGreatDoor
open Go.RowKit Go.Shelf
attribute [local go_sem] Oper.semAt_some
abbrev AJ (n:Nat):={p:Nat×Nat // p.1<p.2/\p.2<n}
abbrev AJ.vals {n:Nat}(x:AJ n):Array Value:=#[.int .i64 (x.1.1:Int),.int .i64 (x.1.2:Int)]
def Dn (n:Nat)(xs:List (AJ n)):Prop:=∀i j (h:i<j/\j<n),(⟨(i,j),h⟩:AJ n)∈xs
theorem xV (n:Int)(w:World):
  Calls Tz.prog 129 #[.int .i64 n] w λe w'=>e=.returned (.func (.func 148) #[] #[.pointer (some ⟨w.heap.size,0,none⟩)])/\w'=w.alloc (.cells #[.int .i64 n] 3):=by
 go_enter Tz.func129,Tryz.ntmps129
 go_wp2;go_ret;exact⟨rfl,rfl⟩
theorem tK (m:Nat)(Bn FX n:Nat)(w:World)(hn:n<=1048576)(hBn:Bn<FX)(Fz:FX<=w.heap.size)(hc:w.cell? ⟨Bn,0,none⟩=some (.int .i64 (n:Int))):
  SeqStopsK Fence.wide m Tz.prog 148 #[.pointer (some ⟨Bn,0,none⟩)] (AJ.vals (n:=n)) (Below FX) (Dn n) (λ_=>True) (n*n) w:=λl J Jx W hW _ _ hY h0=>by
 have hcW:W.cell? ⟨Bn,0,none⟩=some (.int .i64 (n:Int)):=(hW.cell (p:=⟨Bn,0,none⟩) (by simp;omega)).trans hc;refine callsIn_of_wp Tz.func148 rfl trivial ?_ rfl;simp only[Tryz.ntmps148,List.size_toArray,List.length_cons,List.length_nil,Nat.reduceAdd,Nat.reduceSub,Array.replicate_succ,Array.replicate_zero,List.push_toArray,List.append_toArray,List.nil_append,List.cons_append];gi_wp2
 gi_loopw [6] (λi wr=>∃(k:Nat) (pre:List (AJ n)),k<=n/\i=.int .i64 k/\pre.length<=k*n/\(∀i j (h:i<j/\j<n),i<k->(⟨(i,j),h⟩:AJ n)∈pre)/\wr.cell? ⟨Bn,0,none⟩=some (.int .i64 (n:Int))/\J pre wr)
  (λi _=>n-(intOf i).toNat)
 case atStart=>exact⟨0,[],Gs _,rfl,by simp,λi j h hi=>absurd hi (Gr _),hcW,h0⟩
 case round=>
  clear hcW h0;obtain⟨k,pre,hk,rfl,hlen,hall,hcr,hJ⟩:=hrel;by_cases hlt:k<n
  .gi_wp2
   gi_loopw [4] (λi wr=>∃(q:Nat) (pre:List (AJ n)),k<q/\q<=n/\i=.int .i64 q/\pre.length<=k*n+q/\(∀i j (h:i<j/\j<n),(i<k\/i=k/\j<q)->(⟨(i,j),h⟩:AJ n)∈pre)/\wr.cell? ⟨Bn,0,none⟩=some (.int .i64 (n:Int))/\J pre wr)
    (λi _=>n-(intOf i).toNat)
   case atStart=>exact⟨k+1,pre,by omega,by omega,by go_num,by omega,λi j h hi=>hall i j h (by omega),hcr,hJ⟩
   case round=>
    clear hlen hall hcr hJ;obtain⟨q,pre,hkq,hq,rfl,hlen,hall,hcr,hJ⟩:=hrel;by_cases hlq:q<n
    .have hN:pre.length<n*n:=by
      have h1:(k+1)*n<=n*n:=Nat.mul_le_mul_right n hlt;have h2:(k+1)*n=k*n+n:=Nat.succ_mul k n;omega
     obtain⟨fn,tmps,assign,body,hy,hR⟩:=hY pre ⟨(k,q),hkq,hlq⟩ wr hJ hN;dsimp only[AJ.vals]at hy;gi_wp2
     refine⟨λh=>(by simp[Fence.wide]at h),hR.mono ?_⟩;rintro e W3 (⟨rfl,hJ3,hk3⟩|⟨rfl,hJx3⟩)
     .have hc3:W3.cell? ⟨Bn,0,none⟩=some (.int .i64 (n:Int)):=(hk3.cell (p:=⟨Bn,0,none⟩) hBn).trans hcr;gi_wp2
      go_roundw
      case rel=>exact⟨q+1,pre++[⟨(k,q),hkq,hlq⟩],by omega,by omega,by go_num,by simp;omega,λi j h hi=>by
       by_cases e:i=k/\j=q
       .obtain⟨rfl,rfl⟩:=e;exact List.mem_append_right _ (by simp)
       .exact List.mem_append_left _ (hall i j h (by omega)),hc3,hJ3⟩
      case measure=>simp[intOf];omega
     .gi_wp2
      refine bodyPost_ret (results_none rfl _ _ _) rfl ?_;exact⟨⟨_,rfl⟩,.inr ⟨_,trivial,hJx3⟩⟩
    .gi_wp2
     go_roundw
     case rel=>exact⟨k+1,pre,by omega,by go_num,by
      have h2:(k+1)*n=k*n+n:=Nat.succ_mul k n;omega,λi j h hi=>hall i j h (by omega),hcr,hJ⟩
     case measure=>simp[intOf];omega
  .gi_wp2
   go_end0
   exact⟨⟨_,rfl⟩,.inl ⟨pre,λi j h=>hall i j h (by omega),hJ⟩⟩
end Go.Proofs.YtlmcblcijndipabGreatDoor
namespace Go.Proofs.YtlmcblcijndipabGreatDoor
open Go.RowKit Go.Shelf
attribute [local go_sem] Oper.semAt_some
set_option linter.unusedVariables false
theorem oz (b off n cap:Nat)(f:Nat->Mv)(a':Option Addr)(m cap':Nat)(t:Nat->Int)(w:World)(hn:n<=1048576)(hm1:m<=maxLen)(hbs:b<w.heap.size)(hrow:ak w b off n f)(h:aw f n=false\/m≠n):
  Calls Tz.prog 111 #[.slice (some ⟨b,off,none⟩) n cap,.slice a' m cap'] w λe w'=>e=.returned (.bool (bL f n t m))/\Below w.heap.size w w':=by
 unfold maxLen at hm1;have hB0:∀o1 o2 o3,Below w.heap.size w (((w.alloc o1).alloc o2).alloc o3):=λo1 o2 o3=>(((Gb _ w).alloc (Gm _) _).alloc (by simp) _).alloc (by simp;omega) _
 have hF0:bL f n t m=false:=by rcases h with h|h;exact fc h;exact lG h
 have HF:Hid (bL f n t m=false):=hF0;clear hF0;cases hm:aw f n with
 |false=>
  clear h;go_enter Tz.func111,Tryz.ntmps111
  go_wp2_with(go_at_call 127;refine(c9 _ _ _ _ f _ hn (by simp;omega) (hrow.below (hB0 _ _ _) hbs)).mono ?_;rintro e w1 ⟨rfl,hb1⟩;obtain⟨hc1,hf1⟩:=dE hb1)
  have hz:=hb1.size;simp at hz;refine bodyPost_ret (v:=.bool false) (by simp[results,Tryz.results111,go_sem,hc1]) rfl ⟨aK HF.out.symm,?_⟩;exact((hB0 _ _ _).trans (hb1.mono (hB0 _ _ _).size)).setCell (by simp;omega) _
 |true=>
  have hl:m≠n:=by rcases h with h|h;rw[hm]at h;cases h;exact h
  have hl':((m:Int)!=n)=true:=by simp;omega
  clear h;go_enter Tz.func111,Tryz.ntmps111
  go_wp2_with(go_at_call 127;refine(c9 _ _ _ _ f _ hn (by simp;omega) (hrow.below (hB0 _ _ _) hbs)).mono ?_;rintro e w1 ⟨rfl,hb1⟩;obtain⟨hc1,hf1⟩:=dE hb1)
  have hz:=hb1.size;simp at hz;refine bodyPost_ret (v:=.bool false) (by simp[results,Tryz.results111,go_sem,hc1]) rfl ⟨aK HF.out.symm,?_⟩;exact((hB0 _ _ _).trans (hb1.mono (hB0 _ _ _).size)).setCell (by simp;omega) _
abbrev cg (w:World)(m:Mv):World:=w.alloc (.cells #[.string m.name,.bool m.lands,.int .i64 m.wake,.int .i64 m.est,.int .i64 m.late,.int .i64 m.prom] 36)
theorem jk (b off n cap:Nat)(f:Nat->Mv)(b' off' m cap':Nat)(t:Nat->Int)(w:World)(hn:n<=1048576)(hm1:m<=maxLen)(hbs:b<w.heap.size)(hrow:ak w b off n f)(h:aw f n=false\/m≠n):
  Calls Tz.prog 111 #[.slice (some ⟨b,off,none⟩) n cap,.slice (some ⟨b',off',none⟩) m cap'] w λe w'=>e=.returned (.bool (bL f n t m))/\Below w.heap.size w w':=
 oz b off n cap f (some ⟨b',off',none⟩) m cap' t w hn hm1 hbs hrow h
theorem jl (w:World)(m:Mv):lF (cg w m) w.heap.size 0 m:=by
 constructor<;>simp[cg]
theorem fh (w:World)(m:Mv):Below w.heap.size w (cg w m):=(Gb _ _).alloc (Gm _) _
theorem ld (b off n cap:Nat)(f:Nat->Mv)(b' off' cap':Nat)(t:Nat->Int)(w:World)(hn:n<=1048576)(hbs:b<w.heap.size)(hrow:ak w b off n f)(hbs':b'<w.heap.size)(hrow':al w b' off' n t)(hm:aw f n=true)(hno:¬∀i,i<n->(f i).suits (t i)=true):
  Calls Tz.prog 111 #[.slice (some ⟨b,off,none⟩) n cap,.slice (some ⟨b',off',none⟩) n cap'] w λe w'=>e=.returned (.bool (bL f n t n))/\Below w.heap.size w w':=by
 have hB0:∀o1 o2 o3,Below w.heap.size w (((w.alloc o1).alloc o2).alloc o3):=λo1 o2 o3=>(((Gb _ w).alloc (Gm _) _).alloc (by simp) _).alloc (by simp;omega) _
 go_enter Tz.func111,Tryz.ntmps111
 go_wp2_with(go_at_call 127;refine(c9 _ _ _ _ f _ hn (by simp;omega) (hrow.below (hB0 _ _ _) hbs)).mono ?_;rintro e w1 ⟨rfl,hb1⟩;obtain⟨hc1,hf1⟩:=dE hb1)
 have hz:=hb1.size;simp at hz;have hB1:Below w.heap.size w w1:=(hB0 _ _ _).trans (hb1.mono (hB0 _ _ _).size);have l0:w1.cell? ⟨w.heap.size,0,none⟩=some (.slice (some ⟨b,off,none⟩) n cap):=by rw[hc1 w.heap.size 0 (by simp;omega)];simp[go_sem]
 have l1:w1.cell? ⟨w.heap.size+1,0,none⟩=some (.slice (some ⟨b',off',none⟩) n cap'):=by rw[hc1 (w.heap.size+1) 0 (by simp)];simp[go_sem]
 have l2:w1.cell? ⟨w.heap.size+1+1,0,none⟩=some (.bool false):=by rw[hc1 (w.heap.size+1+1) 0 (by simp)];simp[go_sem]
 have l3:w1.frozen? ⟨w.heap.size+1+1,0,none⟩=false:=by rw[hf1 (w.heap.size+1+1) 0 (by simp)];simp[go_sem]
 clear hc1 hf1 hb1;go_loopw [21] (λi wr=>∃k:Nat,k<=n/\i=.int .i64 k/\(∀j,j<k->(f j).suits (t j)=true)/\Below w1.heap.size w1 wr) (λi _=>n-(intOf i).toNat)
 case atStart=>exact⟨0,Gs _,rfl,λj hj=>absurd hj (Gr _),Gb _ _⟩
 case round=>
  obtain⟨k,hk,rfl,hall,hB⟩:=hrel;by_cases hlt:k<n
  .have hBr:Below w.heap.size w wr:=hB1.trans (hB.mono hB1.size);have hr:=hrow.below hBr hbs k hlt;have hr':=hrow'.below hBr hbs' k hlt;obtain⟨c0,c1,c2,c3,c4,c5⟩:=hr;have hzr:w1.heap.size<=wr.heap.size:=hB.size;have hlt':(k:Int)<n:=by omega
   have hA:=fh wr (f k);have hM:=jl wr (f k);have m1:wr.cell? ⟨w.heap.size+1,0,none⟩=some (.slice (some ⟨b',off',none⟩) n cap'):=(hB.cell (p:=⟨w.heap.size+1,0,none⟩) (by simp;omega)).trans l1;have m2:wr.cell? ⟨w.heap.size+1+1,0,none⟩=some (.bool false):=(hB.cell (p:=⟨w.heap.size+1+1,0,none⟩) (by simp;omega)).trans l2;have m3:wr.frozen? ⟨w.heap.size+1+1,0,none⟩=false:=(hB.frozen (p:=⟨w.heap.size+1+1,0,none⟩) (by simp;omega)).trans l3;have hne:=ay (cg wr (f k));have e0:=λx:ag (cg wr (f k))=>x.cell hM.c0
   have e1:=λx:ag (cg wr (f k))=>x.cell hM.c1
   have e2:=λx:ag (cg wr (f k))=>x.cell hM.c2
   have e3:=λx:ag (cg wr (f k))=>x.cell hM.c3
   have e4:=λx:ag (cg wr (f k))=>x.cell hM.c4
   have e5:=λx:ag (cg wr (f k))=>x.cell hM.c5
   have e6:=λx:ag (cg wr (f k))=>x.cell ((hA.cell (p:=⟨w.heap.size+1,0,none⟩) (by simp;omega)).trans m1)
   have e7:=λx:ag (cg wr (f k))=>x.cell ((hA.cell (p:=⟨b',off'+k,none⟩) (by simp;omega)).trans hr')
   simp only[Nat.zero_add]at e0 e1 e2 e3 e4 e5;cases hs:(f k).suits (t k)with
   |true=>
    have HS:Hid _:=hs;go_wp2;refine af (by kernel_rfl) (by kernel_rfl) ?_;repeat(go_big_quiet_step ((go_at_call 128;exact aE (lH (f k) _ _))))
    refine wpQuiet_nil (ai ?_);intro w2 hb2;go_wp2;go_roundw
    case rel=>exact⟨k+1,by omega,by go_num,λj hj=>by
     by_cases e:j=k
     .subst e;exact HS.out
     .exact hall j (by omega),hB.trans ((hA.trans (hb2.mono hA.size)).mono hB.size)⟩
    case measure=>simp[intOf];omega
   |false=>
    have HF:Hid (bL f n t n=false):=kg hlt hs;go_wp2;refine af (by kernel_rfl) (by kernel_rfl) ?_;repeat(go_big_quiet_step ((go_at_call 128;exact aE (lH (f k) _ _))))
    refine wpQuiet_nil (ai ?_);intro w2 hb2;have hq:Below wr.heap.size wr w2:=hA.trans (hb2.mono hA.size);have n2:w2.cell? ⟨w.heap.size+1+1,0,none⟩=some (.bool false):=(hq.cell (p:=⟨w.heap.size+1+1,0,none⟩) (by simp;omega)).trans m2;have n3:w2.frozen? ⟨w.heap.size+1+1,0,none⟩=false:=(hq.frozen (p:=⟨w.heap.size+1+1,0,none⟩) (by simp;omega)).trans m3;go_wp2;refine bodyPost_ret (v:=.bool false) (by simp[results,Tryz.results111,go_sem,n2]) rfl ⟨aK HF.out.symm,?_⟩;exact(hBr.trans (hq.mono hBr.size)).setCell (by simp;omega) _
  .exact absurd (λi hi=>hall i (by omega)) hno
end Go.Proofs.YtlmcblcijndipabGreatDoor
namespace Go.Proofs.YtlmcblcijndipabGreatDoor
open Go.RowKit
def eu (f:Nat->Mv)(t:Nat->Int)(n:Nat):Prop:=∀j,j<n->0<=(f j).est/\(f j).est<=t j/\t j<=10000
theorem eu.sum {f:Nat->Mv}{t:Nat->Int}{n:Nat}(h:eu f t n)(i:Nat)(hi:i<=n):0<=sumTo f t i/\sumTo f t i<=10000*i/\0<=ba f t i/\ba f t i<=10000:=
 sN i λj hj=>by have:=h j (by omega);omega
theorem eu.fits {f:Nat->Mv}{t:Nat->Int}{n:Nat}(hm:aw f n=true)(h:dU f t n):eu f t n:=λj hj=>by
 have h1:=Mv.ok_bd (aS hm j hj);have h2:=eZ (h.1 j hj);omega
theorem fB (b off n cap:Nat)(f:Nat->Mv)(b' off' m cap':Nat)(t:Nat->Int)(w:World)(h6:n<=6)(hmn:n<=m)(hbs:b<w.heap.size)(hrow:ak w b off n f)(hbs':b'<w.heap.size)(hrow':al w b' off' n t)(hbd:eu f t n):
  Calls Tz.prog 110 #[.slice (some ⟨b,off,none⟩) n cap,.slice (some ⟨b',off',none⟩) m cap'] w λe w'=>e=.returned (.tuple #[.int .i64 (sumTo f t n),.int .i64 (ba f t n)])/\Below w.heap.size w w':=by
 go_enter Tz.func110,Tryz.ntmps110
 go_wp2;go_loopw [6,7,8] (λs z i w'=>∃k:Nat,k<=n/\i=.int .i64 k/\s=.int .i64 (sumTo f t k)/\z=.int .i64 (ba f t k)/\Below w.heap.size w w') (λ_ _ i _=>n-(intOf i).toNat)
 case atStart=>exact⟨0,Gs _,rfl,rfl,rfl,Gb _ _⟩
 case round=>
  obtain⟨k,hk,rfl,rfl,rfl,hB⟩:=hrel;by_cases hlt:k<n
  .have hr:=hrow.below hB hbs k hlt;have hr':=hrow'.below hB hbs' k hlt;have hlt':(k:Int)<n:=by omega
   have hlm':(k:Int)<m:=by omega
   obtain⟨s0,s1,z0,z1⟩:=hbd.sum k hk;obtain⟨x0,x1,x2⟩:=hbd k hlt;have HS:Hid (sumTo f t (k+1)=sumTo f t k+(t k-(f k).est)):=rfl;have HM:Hid (ba f t (k+1)=if ba f t k<t k-(f k).est then t k-(f k).est else ba f t k):=rfl;have hne:=ay wr;have e3:=λx:ag wr=>x.cell hr.c3
   have e6:=λx:ag wr=>x.cell hr'
   go_wp2;refine af (by kernel_rfl) (by kernel_rfl) ?_;repeat(go_big_quiet_step (fail))
   refine wpQuiet_nil (ai ?_);intro w1 hb1;by_cases hgt:ba f t k<t k-(f k).est;all_goals
    go_wp2;go_roundw
    case rel=>exact⟨k+1,by omega,by go_num,by rw[HS.out],by rw[HM.out];first|rw[if_pos hgt]|rw[if_neg (by omega)],hB.trans (hb1.mono hB.size)⟩
    case measure=>simp[intOf];omega
  .have hkn:k=n:=by omega
   subst hkn;go_wp2;go_ret2
   exact⟨rfl,hB⟩
theorem rH (b off n cap:Nat)(f:Nat->Mv)(b' off' m cap':Nat)(t:Nat->Int)(w:World)(h6:n<=6)(hmn:n<=m)(hbs:b<w.heap.size)(hrow:ak w b off n f)(hbs':b'<w.heap.size)(hrow':al w b' off' n t)(hbd:eu f t n):
  Calls Tz.prog 126 #[.slice (some ⟨b,off,none⟩) n cap,.slice (some ⟨b',off',none⟩) m cap'] w λe w'=>e=.returned (.tuple #[.int .i64 (sumTo f t n),.int .i64 (ba f t n)])/\Below w.heap.size w w':=by
 go_enter Tz.func126,Tryz.ntmps126
 go_wp2;go_loopw [6,7,13] (λs z i w'=>∃k:Nat,k<=n/\i=.int .i64 k/\s=.int .i64 (sumTo f t k)/\z=.int .i64 (ba f t k)/\Below w.heap.size w w') (λ_ _ i _=>n-(intOf i).toNat)
 case atStart=>exact⟨0,Gs _,rfl,rfl,rfl,Gb _ _⟩
 case round=>
  obtain⟨k,hk,rfl,rfl,rfl,hB⟩:=hrel;by_cases hlt:k<n
  .have hr:=hrow.below hB hbs k hlt;have hr':=hrow'.below hB hbs' k hlt;obtain⟨c0,c1,c2,c3,c4,c5⟩:=hr;have hlt':(k:Int)<n:=by omega
   have hlm':(k:Int)<m:=by omega
   have hbr':b'<wr.heap.size:=Gn hbs' hB.size;obtain⟨s0,s1,z0,z1⟩:=hbd.sum k hk;obtain⟨x0,x1,x2⟩:=hbd k hlt;have HS:Hid (sumTo f t (k+1)=sumTo f t k+(t k-(f k).est)):=rfl;have HM:Hid (ba f t (k+1)=if ba f t k<t k-(f k).est then t k-(f k).est else ba f t k):=rfl;have hA:=fh wr (f k);have hM:=jl wr (f k);have hne:=ay (cg wr (f k));have e3:=λx:ag (cg wr (f k))=>x.cell hM.c3
   have e6:=λx:ag (cg wr (f k))=>x.cell ((hA.cell (p:=⟨b',off'+k,none⟩) hbr').trans hr')
   simp only[Nat.zero_add]at e3;go_wp2;refine af (by kernel_rfl) (by kernel_rfl) ?_;repeat(go_big_quiet_step (fail))
   refine wpQuiet_nil (ai ?_);intro w1 hb1;have hq:Below wr.heap.size wr w1:=hA.trans (hb1.mono hA.size);by_cases hgt:ba f t k<t k-(f k).est;all_goals
    go_wp2;go_roundw
    case rel=>exact⟨k+1,by omega,by go_num,by rw[HS.out],by rw[HM.out];first|rw[if_pos hgt]|rw[if_neg (by omega)],hB.trans (hq.mono hB.size)⟩
    case measure=>simp[intOf];omega
  .have hkn:k=n:=by omega
   subst hkn;go_wp2;go_ret2
   exact⟨rfl,hB⟩
