import Derived.Test.YtlmcblcijndipaaGreatM24
import Derived.Test.YtlmcblcijndipaaGreatM14
import Derived.Test.YtlmcblcijndipaaGreatM17
set_option linter.unusedVariables false
set_option maxHeartbeats 4000000
namespace Go.Proofs.YtlmcblcijndipaaGreat
open Go.RowKit
theorem wO {a c:Int}{b d:Bool}(h:a=c)(h':b=d):Ending.returned (.tuple #[.int .i64 a,.bool b])=.returned (.tuple #[.int .i64 c,.bool d]):=by rw[h,h']
theorem wP (m:Mv)(t:Int)(w:World):
  Calls Tryz0.prog 71 #[.agg #[.string m.name,.bool m.lands,.int .i64 m.wake,.int .i64 m.est,.int .i64 m.late,.int .i64 m.prom],.int .i64 t] w λe w'=>e=.returned (.tuple #[.int .i64 (dV m t),.bool (dW m t)])/\Below w.heap.size w w':=by
 have hA:Below w.heap.size w (w.alloc (.cells #[.string m.name,.bool m.lands,.int .i64 m.wake,.int .i64 m.est,.int .i64 m.late,.int .i64 m.prom] 42)):=(Below.refl _ _).alloc (Nat.le_refl _) _;have g4:(w.alloc (.cells #[.string m.name,.bool m.lands,.int .i64 m.wake,.int .i64 m.est,.int .i64 m.late,.int .i64 m.prom] 42)).cell? ⟨w.heap.size,4,none⟩=some (.int .i64 m.late):=by simp
 have g5:(w.alloc (.cells #[.string m.name,.bool m.lands,.int .i64 m.wake,.int .i64 m.est,.int .i64 m.late,.int .i64 m.prom] 42)).cell? ⟨w.heap.size,5,none⟩=some (.int .i64 m.prom):=by simp
 have hne:=ax (w.alloc (.cells #[.string m.name,.bool m.lands,.int .i64 m.wake,.int .i64 m.est,.int .i64 m.late,.int .i64 m.prom] 42));have e4:=λx:af (w.alloc (.cells #[.string m.name,.bool m.lands,.int .i64 m.wake,.int .i64 m.est,.int .i64 m.late,.int .i64 m.prom] 42))=>x.cell g4
 have e5:=λx:af (w.alloc (.cells #[.string m.name,.bool m.lands,.int .i64 m.wake,.int .i64 m.est,.int .i64 m.late,.int .i64 m.prom] 42))=>x.cell g5
 clear g4 g5;by_cases hp:m.prom=-1
 .have hp':(m.prom !=-1)=false:=by simpa using hp
  have HV0:dV m t=t:=by unfold dV;rw[if_pos hp]
  have HV:Hid (dV m t=t):=HV0;have HB0:dW m t=decide (t<=m.late):=by unfold dW;rw[if_pos hp]
  have HB:Hid (dW m t=decide (t<=m.late)):=HB0;clear HV0 HB0 hp;go_enter Tryz0.func71,Tryz.ntmps71
  go_wp2;refine ac (by kernel_rfl) (by kernel_rfl) ?_;repeat(go_big_quiet_step (fail))
  refine wpQuiet_nil (ag ?_);intro w1 hb1;go_wp2;go_ret2
  exact⟨wO HV.out.symm HB.out.symm,hA.trans (hb1.mono hA.size)⟩
 .have hp':(m.prom !=-1)=true:=by simpa using hp
  have HV0:dV m t=m.prom:=by unfold dV;rw[if_neg hp]
  have HV:Hid (dV m t=m.prom):=HV0;have HB0:dW m t=decide (t<=m.prom):=by unfold dW;rw[if_neg hp]
  have HB:Hid (dW m t=decide (t<=m.prom)):=HB0;clear HV0 HB0 hp;go_enter Tryz0.func71,Tryz.ntmps71
  go_wp2;refine ac (by kernel_rfl) (by kernel_rfl) ?_;repeat(go_big_quiet_step (fail))
  refine wpQuiet_nil (ag ?_);intro w1 hb1;go_wp2;go_ret2
  exact⟨wO HV.out.symm HB.out.symm,hA.trans (hb1.mono hA.size)⟩
theorem wQ (a p:Nat)(bt bl:Nat)(b off n cap:Nat)(f:Nat->Mv)(tb:Nat)(T:Nat->Int)(w:World)(ha:a<n)(hp:p<n)(hn:n<=1048576)
  (hT:0<=T a/\T a<=10000)
  (ct:w.cell? ⟨bt,0,none⟩=some (.slice (some ⟨tb,0,none⟩) n n))(cl:w.cell? ⟨bl,0,none⟩=some (.slice (some ⟨b,off,none⟩) n cap))(hrow:aw w b off n f)(hown:aq w tb n T):
  Calls Tryz0.prog 70 #[.int .i64 (a:Int),.int .i64 (p:Int),.pointer (some ⟨bt,0,none⟩),.pointer (some ⟨bl,0,none⟩)] w λe w'=>e=.returned (.int .i64 (T a+(f a).gap (f p)))/\Below w.heap.size w w':=by
 have hg1:=eX (f a).lands (f a).wake (f p).wake;have hg2:=mE (f a).lands (f a).wake (f p).wake;have hg:1<=(f a).gap (f p)/\(f a).gap (f p)<=4:=⟨hg1,hg2⟩;clear hg1 hg2;obtain⟨hg1,hg2⟩:=hg;obtain⟨hT0,hT1⟩:=hT;have ha':(a:Int)<n:=by omega
 have hp':(p:Int)<n:=by omega
 have hra:=hrow a ha;have hrp:=hrow p hp;have hne:=ax w;have x0:=λx:af w=>x.cell ct
 have x1:=λx:af w=>x.cell cl
 have x2:=λx:af w=>x.cell (hown.cellAt a ha)
 have a0:=λx:af w=>x.cell hra.c0
 have a1:=λx:af w=>x.cell hra.c1
 have a2:=λx:af w=>x.cell hra.c2
 have a3:=λx:af w=>x.cell hra.c3
 have a4:=λx:af w=>x.cell hra.c4
 have a5:=λx:af w=>x.cell hra.c5
 have b0:=λx:af w=>x.cell hrp.c0
 have b1:=λx:af w=>x.cell hrp.c1
 have b2:=λx:af w=>x.cell hrp.c2
 have b3:=λx:af w=>x.cell hrp.c3
 have b4:=λx:af w=>x.cell hrp.c4
 have b5:=λx:af w=>x.cell hrp.c5
 go_enter Tryz0.func70,Tryz.ntmps70
 go_wp2;refine ac (by kernel_rfl) (by kernel_rfl) ?_;repeat(go_big_quiet_step ((go_at_call 62;exact aF (iP (f a) (f p) _))))
 refine wpQuiet_nil (ag ?_);intro w1 hb1;go_wp2;go_ret;exact⟨rfl,hb1⟩
def gE (r:Option (Nat->Int))(n:Nat)(w:World)(e:Ending)(w':World):Prop:=
 match r with
 |some T=>∃B cap,w.heap.size<=B/\e=.returned (.tuple #[.slice (some ⟨B,0,none⟩) n cap,.bool true])/\aq w' B n T/\n<=cap
 |none=>∃a cap,e=.returned (.tuple #[.slice a 0 cap,.bool false])
def yB (r:Option (Nat->Int))(n:Nat)(w:World)(e:Ending)(w':World):Prop:=
 match r with
 |some T=>∃B,w.heap.size<=B/\e=.returned (.tuple #[.slice (some ⟨B,0,none⟩) n n,.bool true])/\aq w' B n T
 |none=>e=.returned (.tuple #[.slice none 0 0,.bool false])
theorem qi (b off n cap:Nat)(f:Nat->Mv)(b' off' cap':Nat)(o:Nat->Nat)(w:World)(hm:ap f n=true)(ho:∀i,i<n->o i<n)(hcap:n<=cap')(hbs:b<w.heap.size)(hrow:aw w b off n f)(hbs':b'<w.heap.size)(hrow':ak w b' off' n (λi=>(o i:Int))):
  Calls Tryz0.prog 37 #[.slice (some ⟨b',off',none⟩) n cap',.slice (some ⟨b,off,none⟩) n cap] w λe w'=>yB (bZ f o n) n w e w'/\Below w.heap.size w w':=by
 have h6:=aR hm;have HM:Hid (ap f n=true):=hm;clear hm;have hmk:=ly n (by omega);go_enter Tryz0.func37,Tryz.ntmps37
 go_wp2;go_loopw [21] (λi wr=>∃(k:Nat) (T:Nat->Int),k<=n/\i=.int .i64 k/\bZ f o k=some T/\aq wr (w.heap.size+1) n T/\wr.cell? ⟨w.heap.size,0,none⟩=some (.slice (some ⟨b,off,none⟩) n cap)/\wr.cell? ⟨w.heap.size+1+1,0,none⟩=some (.slice (some ⟨w.heap.size+1,0,none⟩) n n)/\Below w.heap.size w wr) (λi _=>n-(intOf i).toNat)
 case atStart=>
  refine⟨0,_,Nat.zero_le _,rfl,rfl,?_,by simp[go_sem],by simp[go_sem],?_⟩
  .have:=gB (w.alloc (.cells #[.slice (some ⟨b,off,none⟩) n cap] 23)) n;simp only[World.size_alloc]at this;exact this.below ((Below.refl _ _).alloc (Nat.le_refl _) _) this.lt
  .exact(((Below.refl _ w).alloc (Nat.le_refl _) _).alloc (by simp) _).alloc (by simp;omega) _
 case round=>
  obtain⟨k,T,hk,rfl,hT,hown,cl,cb,hB⟩:=hrel;have HT:Hid (bZ f o k=some T):=hT;clear hT;have hTb:=qh HM.out ho k T hk HT.out;by_cases hlt:k<n
  .have hlt':(k:Int)<n:=by omega
   have hp:=ho k hlt;have hp':((o k:Nat):Int)<n:=by omega
   have hc:wr.cell? ⟨b',off'+k,none⟩=some (.int .i64 ((o k:Nat):Int)):=(hrow'.below hB hbs') k hlt;have hok:=aE HM.out (o k) hp;obtain⟨z0,z1,z2,z3,z4,z5⟩:=Mv.ok_bd hok;have hrp:=(hrow.below hB hbs) (o k) hp;have c3:=hrp.c3;have hkc:(k:Int)<=cap':=by omega
   go_wp2;go_loopw [10,35] (λl j wr=>∃q:Nat,q<=k/\j=.int .i64 q/\l=.int .i64 (aC f o T (o k) q)/\aq wr (w.heap.size+1) n T/\wr.cell? ⟨w.heap.size,0,none⟩=some (.slice (some ⟨b,off,none⟩) n cap)/\wr.cell? ⟨w.heap.size+1+1,0,none⟩=some (.slice (some ⟨w.heap.size+1,0,none⟩) n n)/\Below w.heap.size w wr) (λ_ j _=>k-(intOf j).toNat)
   case atStart=>exact⟨0,Nat.zero_le _,rfl,rfl,hown,cl,cb,hB⟩
   case round=>
    clear hown cl cb hB hc hrp c3;obtain⟨q,hq,rfl,rfl,hown,cl,cb,hB⟩:=hrel;have hlb:=ig (o:=o) (p:=o k) ⟨z0,by omega⟩ hTb q;obtain⟨hl0,hl1⟩:=hlb;have hz1:=hown.lt;have hz2:=block_lt_of_cell cl;have hz3:=block_lt_of_cell cb;by_cases hlq:q<k
    .have hlq':(q:Int)<k:=by omega
     have ha:=ho q (by omega);have hcq:wr.cell? ⟨b',off'+q,none⟩=some (.int .i64 ((o q:Nat):Int)):=(hrow'.below hB hbs') q (by omega);have hg1:1<=(f (o q)).gap (f (o k)):=eX _ _ _;have hg2:(f (o q)).gap (f (o k))<=4:=mE _ _ _;obtain⟨t0,t1⟩:=hTb (o q);have HL:Hid (aC f o T (o k) (q+1)=if aC f o T (o k) q<T (o q)+(f (o q)).gap (f (o k))then T (o q)+(f (o q)).gap (f (o k))else aC f o T (o k) q):=rfl;have HC:=wQ (o q) (o k) (w.heap.size+1+1) w.heap.size b off n cap f (w.heap.size+1) T wr ha hp (by omega) ⟨t0,t1⟩ cb cl (hrow.below hB hbs) hown;by_cases hgt:aC f o T (o k) q<T (o q)+(f (o q)).gap (f (o k));all_goals
      go_wp2_with(go_at_call 70;refine HC.mono ?_;clear HC;rintro e w1 ⟨rfl,hb1⟩)
      go_roundw
      case rel=>exact⟨q+1,by omega,by go_num,by rw[HL.out];first|rw[if_pos hgt]|rw[if_neg (by omega)],hown.below hb1 hz1,(hb1.cell (p:=⟨w.heap.size,0,none⟩) hz2).trans cl,(hb1.cell (p:=⟨w.heap.size+1+1,0,none⟩) hz3).trans cb,hB.trans (hb1.mono hB.size)⟩
      case measure=>simp[intOf];omega
    .have hqk:q=k:=by omega
     subst hqk;obtain⟨c0,c1,c2,c3,c4,c5⟩:=(hrow.below hB hbs) (o q) hp;have hd:=hown.cellAt (o q) hp;have hfz:=hown.frozen (o q);have HK:=wP (f (o q)) (aC f o T (o q) q) wr;cases hkb:dW (f (o q)) (aC f o T (o q) q)with
     |true=>
      have HE:Hid (bZ f o (q+1)=some (λp=>if p=o q then dV (f (o q)) (aC f o T (o q) q)else T p)):=nG HT.out hkb;rw[hkb]at HK;go_wp2_with(go_at_call 71;refine HK.mono ?_;clear HK;rintro e w1 ⟨rfl,hb1⟩;have hd1:=(hb1.cell (p:=⟨w.heap.size+1,o q,none⟩) hz1).trans hd;have hf1:=(hb1.frozen (p:=⟨w.heap.size+1,o q,none⟩) hz1).trans hfz;have cb1:=(hb1.cell (p:=⟨w.heap.size+1+1,0,none⟩) hz3).trans cb;have cl1:=(hb1.cell (p:=⟨w.heap.size,0,none⟩) hz2).trans cl)
      have hown1:=hown.below hb1 hz1;go_roundw
      case rel=>exact⟨q+1,_,by omega,by go_num,HE.out,hown1.set (o q) hp _,(World.cell?_setCell_other _ _ _ _ (by simp)).trans cl1,(World.cell?_setCell_other _ _ _ _ (by simp)).trans cb1,(hB.trans (hb1.mono hB.size)).setCell (by simp) _⟩
      case measure=>simp[intOf];omega
     |false=>
      have HE:Hid (bZ f o n=none):=qg HT.out hkb hlt;rw[hkb]at HK;go_wp2_with(go_at_call 71;refine HK.mono ?_;clear HK;rintro e w1 ⟨rfl,hb1⟩)
      go_ret2
      refine⟨?_,hB.trans (hb1.mono hB.size)⟩;rw[HE.out];exact rfl
  .have hkn:k=n:=by omega
   subst hkn;go_wp2;go_ret2
   refine⟨?_,hB⟩;rw[HT.out];exact⟨w.heap.size+1,by omega,rfl,hown⟩
abbrev ux (w:World)(m:Mv):World:=w.alloc (.cells #[.string m.name,.bool m.lands,.int .i64 m.wake,.int .i64 m.est,.int .i64 m.late,.int .i64 m.prom] 42)
theorem xl (w:World)(m:Mv):lA (ux w m) w.heap.size 0 m:=by
 constructor<;>simp[ux]
theorem f7 (b off n cap:Nat)(f:Nat->Mv)(b' off' cap':Nat)(o:Nat->Nat)(w:World)(hm:ap f n=true)(ho:∀i,i<n->o i<n)(hbs:b<w.heap.size)(hrow:aw w b off n f)(hbs':b'<w.heap.size)(hrow':ak w b' off' n (λi=>(o i:Int))):
  Calls Tryz0.prog 58 #[.slice (some ⟨b,off,none⟩) n cap,.slice (some ⟨b',off',none⟩) n cap'] w λe w'=>gE (bZ f o n) n w e w'/\Below w.heap.size w w':=by
 have h6:=aR hm;have HM:Hid (ap f n=true):=hm;clear hm;have hmk:=ly n (by omega);go_enter Tryz0.func58,Tryz.ntmps58
 go_wp2;go_loopw [7] (λi wr=>∃(k:Nat) (T:Nat->Int),k<=n/\i=.int .i64 k/\bZ f o k=some T/\aq wr w.heap.size n T/\Below w.heap.size w wr) (λi _=>n-(intOf i).toNat)
 case atStart=>exact⟨0,_,Nat.zero_le _,rfl,rfl,gB w n,(Below.refl _ w).alloc (Nat.le_refl _) _⟩
 case round=>
  obtain⟨k,T,hk,rfl,hT,hown,hB⟩:=hrel;have HT:Hid (bZ f o k=some T):=hT;clear hT;have hTb:=qh HM.out ho k T hk HT.out;by_cases hlt:k<n
  .have hlt':(k:Int)<n:=by omega
   have hp:=ho k hlt;have hp':((o k:Nat):Int)<n:=by omega
   have hc:wr.cell? ⟨b',off'+k,none⟩=some (.int .i64 ((o k:Nat):Int)):=(hrow'.below hB hbs') k hlt;have hok:=aE HM.out (o k) hp;obtain⟨z0,z1,z2,z3,z4,z5⟩:=Mv.ok_bd hok;obtain⟨c0,c1,c2,c3,c4,c5⟩:=(hrow.below hB hbs) (o k) hp;have hA:Below wr.heap.size wr (ux wr (f (o k))):=(Below.refl _ _).alloc (Nat.le_refl _) _;have hM:=xl wr (f (o k));have hownA:=hown.below hA hown.lt;have hBA:Below w.heap.size w (ux wr (f (o k))):=hB.trans (hA.mono hB.size);have hzw:w.heap.size<=wr.heap.size:=hB.size;have hzo:w.heap.size<wr.heap.size:=hown.lt;have HZ:Hid (w.heap.size≠wr.heap.size):=by
    have h:w.heap.size≠wr.heap.size:=by omega
    exact h
   go_wp2;obtain⟨Bm,hBm⟩:∃Bm,Bm=wr.heap.size:=⟨_,rfl⟩;rw[<-hBm]at hM hzw hzo⊢;go_loopw [9,10] (λl j wr=>∃q:Nat,q<=k/\j=.int .i64 q/\l=.int .i64 (aC f o T (o k) q)/\aq wr w.heap.size n T/\lA wr Bm 0 (f (o k))/\Below w.heap.size w wr) (λ_ j _=>k-(intOf j).toNat)
   case atStart=>exact⟨0,Nat.zero_le _,rfl,rfl,hownA,hM,hBA⟩
   case round=>
    clear hown hB hc c0 c1 c2 c3 c4 c5 hA hM hownA hBA HZ hBm;obtain⟨q,hq,rfl,rfl,hown,hM,hB⟩:=hrel;have hlb:=ig (o:=o) (p:=o k) ⟨z0,by omega⟩ hTb q;obtain⟨hl0,hl1⟩:=hlb;have hz1:=hown.lt;have hz2:=block_lt_of_cell hM.c0;by_cases hlq:q<k
    .have hlq':(q:Int)<k:=by omega
     have hqn':(q:Int)<n:=by omega
     have ha:=ho q (by omega);have ha':((o q:Nat):Int)<n:=by omega
     have hcq:wr.cell? ⟨b',off'+q,none⟩=some (.int .i64 ((o q:Nat):Int)):=(hrow'.below hB hbs') q (by omega);have hg1:1<=(f (o q)).gap (f (o k)):=eX _ _ _;have hg2:(f (o q)).gap (f (o k))<=4:=mE _ _ _;obtain⟨t0,t1⟩:=hTb (o q);have HL:Hid (aC f o T (o k) (q+1)=if aC f o T (o k) q<T (o q)+(f (o q)).gap (f (o k))then T (o q)+(f (o q)).gap (f (o k))else aC f o T (o k) q):=rfl;have hra:=(hrow.below hB hbs) (o q) ha;have hne:=ax wr;have x0:=λx:af wr=>x.cell hcq
     have x1:=λx:af wr=>x.cell (hown.cellAt (o q) ha)
     have a0:=λx:af wr=>x.cell hra.c0
     have a1:=λx:af wr=>x.cell hra.c1
     have a2:=λx:af wr=>x.cell hra.c2
     have a3:=λx:af wr=>x.cell hra.c3
     have a4:=λx:af wr=>x.cell hra.c4
     have a5:=λx:af wr=>x.cell hra.c5
     have b0:=λx:af wr=>x.cell hM.c0
     have b1:=λx:af wr=>x.cell hM.c1
     have b2:=λx:af wr=>x.cell hM.c2
     have b3:=λx:af wr=>x.cell hM.c3
     have b4:=λx:af wr=>x.cell hM.c4
     have b5:=λx:af wr=>x.cell hM.c5
     simp only[Nat.zero_add]at b0 b1 b2 b3 b4 b5;by_cases hgt:aC f o T (o k) q<T (o q)+(f (o q)).gap (f (o k));all_goals
      go_wp2;refine ac (by kernel_rfl) (by kernel_rfl) ?_;repeat(go_big_quiet_step ((go_at_call 114;exact aF (iQ (f (o q)) (f (o k)) _))))
      refine wpQuiet_nil (ag ?_);intro w1 hb1;go_wp2;go_roundw
      case rel=>exact⟨q+1,by omega,by go_num,by rw[HL.out];first|rw[if_pos hgt]|rw[if_neg (by omega)],hown.below hb1 hz1,hM.below hb1 hz2,hB.trans (hb1.mono hB.size)⟩
      case measure=>simp[intOf];omega
    .have hqk:q=k:=by omega
     subst hqk;obtain⟨m0,m1,m2,m3,m4,m5⟩:=hM;simp only[Nat.zero_add]at m0 m1 m2 m3 m4 m5;have hc:wr.cell? ⟨b',off'+q,none⟩=some (.int .i64 ((o q:Nat):Int)):=(hrow'.below hB hbs') q hlt;have hd:=hown.cellAt (o q) hp;have hfz:=hown.frozen (o q);have hqn':(q:Int)<n:=by omega
     by_cases hpr:(f (o q)).prom=-1
     .have hpn:(f (o q)).prom<0:=by omega
      by_cases hle:aC f o T (o q) q<=(f (o q)).late
      .have HE0:=nG HT.out (by unfold dW;rw[if_pos hpr];simpa using hle);have HV:dV (f (o q)) (aC f o T (o q) q)=aC f o T (o q) q:=by unfold dV;rw[if_pos hpr]
       rw[HV]at HE0;have HE:Hid (bZ f o (q+1)=some (λp=>if p=o q then aC f o T (o q) q else T p)):=HE0;clear HE0 HV hpr;go_wp2;go_roundw
       case rel=>exact⟨q+1,_,by omega,by go_num,HE.out,hown.set (o q) hp _,hB.setCell (by simp) _⟩
       case measure=>simp[intOf];omega
      .have HE:Hid (bZ f o n=none):=qg HT.out (by unfold dW;rw[if_pos hpr];simpa using hle) hlt;clear hpr;go_wp2;go_ret2
       refine⟨?_,?_⟩
       .rw[HE.out];exact⟨_,_,rfl⟩
       .first|exact hB|exact hB.alloc hB.size _
     .have hpn:0<=(f (o q)).prom:=by omega
      have hpl:(f (o q)).prom<=(f (o q)).late:=by omega
      by_cases hle:aC f o T (o q) q<=(f (o q)).prom
      .have HE0:=nG HT.out (by unfold dW;rw[if_neg hpr];simpa using hle);have HV:dV (f (o q)) (aC f o T (o q) q)=(f (o q)).prom:=by unfold dV;rw[if_neg hpr]
       rw[HV]at HE0;have HE:Hid (bZ f o (q+1)=some (λp=>if p=o q then(f (o q)).prom else T p)):=HE0;clear HE0 HV hpr;go_wp2;go_roundw
       case rel=>exact⟨q+1,_,by omega,by go_num,HE.out,hown.set (o q) hp _,hB.setCell (by simp) _⟩
       case measure=>simp[intOf];omega
      .have HE:Hid (bZ f o n=none):=qg HT.out (by unfold dW;rw[if_neg hpr];simpa using hle) hlt;clear hpr;go_wp2;go_ret2
       refine⟨?_,?_⟩
       .rw[HE.out];exact⟨_,_,rfl⟩
       .first|exact hB|exact hB.alloc hB.size _
  .have hkn:k=n:=by omega
   subst hkn;go_wp2;go_ret2
   refine⟨?_,hB⟩;rw[HT.out];exact⟨w.heap.size,k,Nat.le_refl _,rfl,hown,Nat.le_refl _⟩
end Go.Proofs.YtlmcblcijndipaaGreat
