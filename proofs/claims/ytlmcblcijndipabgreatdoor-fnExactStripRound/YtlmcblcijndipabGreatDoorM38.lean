import Derived.Test.YtlmcblcijndipabGreatDoorM25
import Derived.Test.YtlmcblcijndipabGreatDoorM33
import Derived.Test.YtlmcblcijndipabGreatDoorM34
import Derived.Test.YtlmcblcijndipabGreatDoorM16d
import Derived.Test.YtlmcblcijndipabGreatDoorM30
import Derived.Test.YtlmcblcijndipabGreatDoorM31
import Derived.Test.YtlmcblcijndipabGreatDoorM12e
import Derived.Test.YtlmcblcijndipabGreatDoorM26
import Derived.Test.YtlmcblcijndipabGreatDoorM10
set_option linter.unusedVariables false
set_option maxHeartbeats 4000000
set_option maxRecDepth 10000
namespace Go.Proofs.YtlmcblcijndipabGreatDoor
open Go.RowKit
theorem mZ (b off n cap:Nat)(f:Nat->Mv)(B1 c1 B2 c2:Nat)(T S:Nat->Int)(w:World)(h6:n<=6)(hbs:b<w.heap.size)(hrow:an w b off n f)(hb1:B1<w.heap.size)(hT:al w B1 0 n T)(hbT:dA f T n)(hb2:B2<w.heap.size)(hS:al w B2 0 n S)(hbS:dA f S n):
  Calls Tryz0.prog 89 #[.slice (some ⟨b,off,none⟩) n cap,.slice (some ⟨B1,0,none⟩) n c1,.slice (some ⟨B2,0,none⟩) n c2] w λe w'=>e=.returned (.bool (cY (cO f n T) (cO f n S)))/\Below w.heap.size w w':=by
 have H1:=eI b off n cap f B1 0 n c1 T w h6 (Nat.le_refl _) hbs hrow hb1 hT hbT;have HK:cY (cO f n T) (cO f n S)=if sumTo f T n=sumTo f S n then(if aO f T n=aO f S n then cY (dO T n 0) (dO S n 0)else decide (aO f T n<aO f S n))else decide (sumTo f T n<sumTo f S n):=rfl
 obtain⟨R,hR⟩:∃R,cY (cO f n T) (cO f n S)=R:=⟨_,rfl⟩;rw[hR]at HK;rw[hR];clear hR;obtain⟨s1,e1⟩:∃s1,sumTo f T n=s1:=⟨_,rfl⟩;obtain⟨s2,e2⟩:∃s2,sumTo f S n=s2:=⟨_,rfl⟩;obtain⟨t1,e3⟩:∃t1,aO f T n=t1:=⟨_,rfl⟩;obtain⟨t2,e4⟩:∃t2,aO f S n=t2:=⟨_,rfl⟩;rw[e1,e2,e3,e4]at HK;by_cases hs:s1=s2
 .rw[if_pos hs]at HK;have hs':(s1 !=s2)=false:=by simp[hs]
  clear hs;by_cases ht:t1=t2
  .rw[if_pos ht]at HK;have ht':(t1 !=t2)=false:=by simp[ht]
   clear ht;have HK:Hid _:=HK;go_enter Tryz0.func89,Tryz.ntmps89
   go_wp2_with(first|(go_at_call 110;refine H1.mono ?_;clear H1;rintro e w1 ⟨rfl,hbw1⟩;rw[e1,e3])|(go_at_call 110;refine(eI b off n cap f B2 0 n c2 S _ h6 (Nat.le_refl _) (Nat.lt_of_lt_of_le hbs hbw1.size) (hrow.below hbw1 hbs) (Nat.lt_of_lt_of_le hb2 hbw1.size) (hS.below hbw1 hb2) hbS).mono ?_;rintro e w2 ⟨rfl,hbw2⟩;rw[e2,e4]))
   have hB2:Below w.heap.size w w2:=hbw1.trans (hbw2.mono hbw1.size);clear hbw1 hbw2;go_loopw [11] (λi wr=>∃k:Nat,k<=n/\i=.int .i64 k/\cY (dO T n 0) (dO S n 0)=cY (dO T (n-k) k) (dO S (n-k) k)/\Below w.heap.size w wr) (λi _=>n-(intOf i).toNat)
   case atStart=>exact⟨0,Nat.zero_le _,rfl,rfl,hB2⟩
   case round=>
    obtain⟨k,hk,rfl,hlx,hB⟩:=hrel;by_cases hlt:k<n
    .have hlt':(k:Int)<n:=by omega
     have cT:=hT.below hB hb1 k hlt;have cS:=hS.below hB hb2 k hlt;simp only[Nat.zero_add]at cT cS;have hx:cY (dO T (n-k) k) (dO S (n-k) k)=if T k=S k then cY (dO T (n-(k+1)) (k+1)) (dO S (n-(k+1)) (k+1))else decide (T k<S k):=by
      rw[show n-k=(n-(k+1))+1 by omega];rfl
     by_cases he:T k=S k
     .rw[if_pos he]at hx;have he':(T k !=S k)=false:=by simp[he]
      have HX:Hid _:=hlx.trans hx;clear hlx hx he;go_wp2;go_quiet (fail)
      go_wp2;go_roundw
      case rel=>exact⟨k+1,by omega,by go_num,HX.out,bQ hB _⟩
      case measure=>simp[intOf];omega
     .rw[if_neg he]at hx;have he':(T k !=S k)=true:=by simp[he]
      have HX:Hid _:=HK.out.trans (hlx.trans hx);clear hlx hx he HK;go_wp2;go_quiet (fail)
      go_wp2;go_quiet (fail)
      go_wp2;go_ret;exact⟨aD HX.out.symm,bQ (bQ hB _) _⟩
    .obtain rfl:k=n:=by omega
     rw[Nat.sub_self]at hlx;have HX:Hid _:=HK.out.trans hlx;clear hlx HK;go_wp2;go_ret;exact⟨aD HX.out.symm,hB⟩
  .rw[if_neg ht]at HK;have ht':(t1 !=t2)=true:=by simp[ht]
   clear ht;have HK:Hid _:=HK;go_enter Tryz0.func89,Tryz.ntmps89
   go_wp2_with(first|(go_at_call 110;refine H1.mono ?_;clear H1;rintro e w1 ⟨rfl,hbw1⟩;rw[e1,e3])|(go_at_call 110;refine(eI b off n cap f B2 0 n c2 S _ h6 (Nat.le_refl _) (Nat.lt_of_lt_of_le hbs hbw1.size) (hrow.below hbw1 hbs) (Nat.lt_of_lt_of_le hb2 hbw1.size) (hS.below hbw1 hb2) hbS).mono ?_;rintro e w2 ⟨rfl,hbw2⟩;rw[e2,e4]))
   go_ret;exact⟨aD HK.out.symm,hbw1.trans (hbw2.mono hbw1.size)⟩
 .rw[if_neg hs]at HK;have hs':(s1 !=s2)=true:=by simp[hs]
  clear hs;have HK:Hid _:=HK;go_enter Tryz0.func89,Tryz.ntmps89
  go_wp2_with(first|(go_at_call 110;refine H1.mono ?_;clear H1;rintro e w1 ⟨rfl,hbw1⟩;rw[e1,e3])|(go_at_call 110;refine(eI b off n cap f B2 0 n c2 S _ h6 (Nat.le_refl _) (Nat.lt_of_lt_of_le hbs hbw1.size) (hrow.below hbw1 hbs) (Nat.lt_of_lt_of_le hb2 hbw1.size) (hS.below hbw1 hb2) hbS).mono ?_;rintro e w2 ⟨rfl,hbw2⟩;rw[e2,e4]))
  go_ret;exact⟨aD HK.out.symm,hbw1.trans (hbw2.mono hbw1.size)⟩
theorem s9 (f:Nat->Mv)(n:Nat)(L:List (List Nat))(l:List Nat):cz f n (L++[l])=bP f n (cz f n L) l:=by simp[cz,List.foldl_append]
theorem jZ (p:List Nat->Bool){A:List (List Nat)}{k:Nat}{l:List Nat}(h:A[k]?=some l):(A.take (k+1)).filter p=(A.take k).filter p++(if p l then[l]else[]):=by
 rw[List.take_add_one,h,List.filter_append];simp[List.filter_cons]
def pU (r:Option (Nat->Int))(f:Nat->Mv)(n lo:Nat)(v fv:Value)(wr:World):Prop:=
 match r with
 |some T=>fv=.bool true/\dA f T n/\∃B c,v=.slice (some ⟨B,0,none⟩) n c/\lo<=B/\ah wr B n T/\n<=c
 |none=>fv=.bool false/\∃a c,v=.slice a 0 c
theorem pU.later {r:Option (Nat->Int)}{f:Nat->Mv}{n lo:Nat}{v fv:Value}{wr wr':World}(h:pU r f n lo v fv wr)(hb:Below wr.heap.size wr wr'):pU r f n lo v fv wr':=by
 cases r with
 |none=>exact h
 |some T=>obtain⟨h1,h2,B,c,h3,h4,h5,h6⟩:=h;exact⟨h1,h2,B,c,h3,h4,h5.below hb h5.lt,h6⟩
theorem td (b off n cap:Nat)(f:Nat->Mv)(shift:Int)(w:World)(hm:ap f n=true)(hbs:b<w.heap.size)(hrow:an w b off n f)(p:List Nat->Bool)
  (hp:∀g,aT f n g->∀l∈ax n,∀r,bF (λi=>((pl l i:Nat):Int)) (λi=>((g i:Nat):Int)) n r->(p l=true<->r<=shift)):
  Calls Tryz0.prog 63 #[.slice (some ⟨b,off,none⟩) n cap,.int .i64 shift] w λe w'=>fW (cz f n ((ax n).filter p)) n w e w'/\Below w.heap.size w w':=by
 have h6:=aN hm;obtain⟨hN720,hN0⟩:=eu n h6;have hB0:∀o1,Below w.heap.size w (w.alloc o1):=λo1=>(Below.refl _ w).alloc (Nat.le_refl _) _
 have H1:=λo1=>jf b off n cap f (w.alloc o1) (by omega) (by simp;omega) (hrow.below (hB0 o1) hbs)
 go_enter Tryz0.func63,Tryz.ntmps63
 go_wp2_with(first|(go_at_call 85;refine(H1 _).mono ?_;clear H1;rintro e w1 ⟨⟨g,FB,Fc,hg,rfl,hFB,hFr⟩,b1⟩)|(go_at_call 86;refine(oN n _ h6).mono ?_;rintro e w2 ⟨⟨vL,vals,rfl,own2,rows2⟩,b2⟩;obtain⟨M,hM⟩:∃M,(ax n).length=M+1:=⟨(ax n).length-1,by omega⟩;rw[hM]at own2;obtain⟨LB,Lc,rfl⟩:=iB own2))
 have hBw1:Below w.heap.size w w1:=(hB0 _).trans (b1.mono (by simp));have hBw2:Below w.heap.size w w2:=hBw1.trans (b2.mono hBw1.size);have hFr2:=hFr.below b2 hFB;have hFB2:FB<w2.heap.size:=Nat.lt_of_lt_of_le hFB b2.size;have hLB1:=(mV own2).1;have hall:∀(I:Nat) (lst:List Nat),(ax n)[I]?=some lst->∃tb tc,w2.cell? ⟨LB,I,none⟩=some (.slice (some ⟨tb,0,none⟩) n tc)/\tb<w2.heap.size/\al w2 tb 0 n (λi=>((pl lst i:Nat):Int)):=λI lst hI=>by
  obtain⟨tb,tc,h1,h2,⟨cs,h3⟩,h4⟩:=rows2 I lst hI;have hlt:=(List.getElem?_eq_some_iff.1 hI).1;exact⟨tb,tc,by rw[own2.cellAt I (by omega)];exact h1,(Array.getElem?_eq_some_iff.1 h3).1,h4⟩
 clear own2 rows2 hFr hFB b1 b2;have HM:Hid _:=hm;clear hm;go_loopw [6,7,10] (λv fv x wr=>∃I:Nat,I<=(ax n).length/\x=.int .i64 I/\pU (cz f n (((ax n).take I).filter p)) f n w.heap.size v fv wr/\Below w2.heap.size w2 wr) (λ_ _ x _=>(ax n).length-(intOf x).toNat)
 case atStart=>exact⟨0,Nat.zero_le _,rfl,⟨rfl,_,_,rfl⟩,Below.refl _ _⟩
 case round=>
  obtain⟨I,hI,rfl,hbest,hB⟩:=hrel;by_cases hlI:I<(ax n).length
  .obtain⟨lst,hlst⟩:∃x,(ax n)[I]?=some x:=⟨_,List.getElem?_eq_getElem hlI⟩;have hlI':(I:Int)<(M:Int)+1:=by omega
   have hmem:=List.mem_of_getElem? hlst;obtain⟨tb,tc,hc1,ht2,hr1⟩:=hall I lst hlst;obtain⟨hll,hlow,hdif⟩:=dB hmem;have hc2:wr.cell? ⟨LB,I,none⟩=some (.slice (some ⟨tb,0,none⟩) n tc):=(hB.cell (p:=⟨LB,I,none⟩) hLB1).trans hc1;have hz2:=hB.size;have hBwr:Below w.heap.size w wr:=hBw2.trans (hB.mono hBw2.size);have H2:=nR tb 0 n tc FB 0 n Fc (λi=>((pl lst i:Nat):Int)) (λi=>((g i:Nat):Int)) wr (by omega) (by omega) (by omega) (hr1.below hB ht2) (by omega) (hFr2.below hB hFB2);have hordl:dQ (λi=>((pl lst i:Nat):Int)) n n:=⟨λi hi=>by have:=hlow i hi;dsimp only;omega,λi j hij hj=>by have:=hdif i j hij hj;dsimp only;omega⟩;have hsh:∀r,bg (λi=>((pl lst i:Nat):Int)) n (λi=>((g i:Nat):Int)) n r->(p lst=true<->r<=shift):=λr hr=>by
    unfold bg at hr;rw[if_pos ⟨rfl,mD hordl,mD hg.ord⟩]at hr;exact hp g hg lst hmem r hr
   have hsn:=λ(h:p lst=true)=>(by rw[jZ p hlst,if_pos h,s9]:cz f n (((ax n).take (I+1)).filter p)=bP f n (cz f n (((ax n).take I).filter p)) lst)
   have hsn':=λ(h:p lst=false)=>(by rw[jZ p hlst,if_neg (by simp[h]),List.append_nil]:cz f n (((ax n).take (I+1)).filter p)=cz f n (((ax n).take I).filter p))
   cases hpl:p lst with
   |false=>
    have hE:=hsn' hpl;have HE:Hid _:=hE;clear hsn hsn' hE;rw[hpl]at hsh;have HSH:Hid _:=hsh;clear hsh;go_wp2_with(go_at_call 87;refine H2.mono ?_;clear H2;rintro e w3 ⟨⟨r,rfl,hr⟩,b3⟩;have hrs:shift<r:=(by have:=(HSH.out r hr);simp at this;exact this))
    go_roundw
    case rel=>exact⟨I+1,by omega,by go_num,by rw[HE.out];exact hbest.later b3,hB.trans (b3.mono hB.size)⟩
    case measure=>simp[intOf];omega
   |true=>
    have hE:=hsn hpl;clear hsn hsn';rw[hpl]at hsh;have HSH:Hid _:=hsh;clear hsh;cases hEa:bw f (pl lst) n with
    |none=>
     have HE:Hid (cz f n (((ax n).take (I+1)).filter p)=cz f n (((ax n).take I).filter p)):=by rw[hE];unfold bP;rw[hEa];exact rfl
     clear hE;go_wp2_with(first|(go_at_call 87;refine H2.mono ?_;clear H2;rintro e w3 ⟨⟨r,rfl,hr⟩,b3⟩;have hrs:r<=shift:=(by have:=(HSH.out r hr);simp at this;exact this);have hc3:w3.cell? ⟨LB,I,none⟩=some (.slice (some ⟨tb,0,none⟩) n tc):=(b3.cell (p:=⟨LB,I,none⟩) (by simp;omega)).trans hc2)|(go_at_call 88;refine(fy b off n cap f tb 0 tc (pl lst) w3 HM.out hlow (by have:=b3.size;have:=hBwr.size;omega) (hrow.below (hBwr.trans (b3.mono hBwr.size)) hbs) (by have:=b3.size;omega) ((hr1.below hB ht2).below b3 (by omega))).mono ?_;rintro e w4 ⟨hs4,b4⟩;rw[hEa]at hs4;obtain⟨ta,tcc,rfl⟩:=hs4))
     go_roundw
     case rel=>exact⟨I+1,by omega,by go_num,by rw[HE.out];exact(hbest.later b3).later b4,(hB.trans (b3.mono hB.size)).trans (b4.mono (by have:=hB.size;have:=b3.size;omega))⟩
     case measure=>simp[intOf];omega
    |some T=>
     have hlT:dA f T n:=dA.fits HM.out (oC HM.out hlow hdif hEa).fit;cases hres:cz f n (((ax n).take I).filter p)with
     |none=>
      have HE:Hid (cz f n (((ax n).take (I+1)).filter p)=some T):=by rw[hE,hres];unfold bP;rw[hEa];exact rfl
      clear hE;rw[hres]at hbest;obtain⟨rfl,a,c,rfl⟩:=hbest;go_wp2_with(first|(go_at_call 87;refine H2.mono ?_;clear H2;rintro e w3 ⟨⟨r,rfl,hr⟩,b3⟩;have hrs:r<=shift:=(by have:=(HSH.out r hr);simp at this;exact this);have hc3:w3.cell? ⟨LB,I,none⟩=some (.slice (some ⟨tb,0,none⟩) n tc):=(b3.cell (p:=⟨LB,I,none⟩) (by simp;omega)).trans hc2)|(go_at_call 88;refine(fy b off n cap f tb 0 tc (pl lst) w3 HM.out hlow (by have:=b3.size;have:=hBwr.size;omega) (hrow.below (hBwr.trans (b3.mono hBwr.size)) hbs) (by have:=b3.size;omega) ((hr1.below hB ht2).below b3 (by omega))).mono ?_;rintro e w4 ⟨hs4,b4⟩;rw[hEa]at hs4;obtain⟨TB,Tc,hTB,rfl,hTo,hTc⟩:=hs4))
      go_roundw
      case rel=>exact⟨I+1,by omega,by go_num,by rw[HE.out];exact⟨rfl,hlT,TB,Tc,rfl,by have:=b3.size;have:=hBwr.size;omega,hTo,hTc⟩,(hB.trans (b3.mono hB.size)).trans (b4.mono (by have:=hB.size;have:=b3.size;omega))⟩
      case measure=>simp[intOf];omega
     |some S=>
      rw[hres]at hbest;obtain⟨rfl,hlS,B,c,rfl,hBl,hown,hcb⟩:=hbest;cases hlx:cY (cO f n T) (cO f n S)with
      |true=>
       have h0:cz f n (((ax n).take (I+1)).filter p)=some T:=by rw[hE,hres];unfold bP;rw[hEa];simp[hlx]
       have HE:Hid _:=h0;clear h0;clear hE;go_wp2_with(first|(go_at_call 87;refine H2.mono ?_;clear H2;rintro e w3 ⟨⟨r,rfl,hr⟩,b3⟩;have hrs:r<=shift:=(by have:=(HSH.out r hr);simp at this;exact this);have hc3:w3.cell? ⟨LB,I,none⟩=some (.slice (some ⟨tb,0,none⟩) n tc):=(b3.cell (p:=⟨LB,I,none⟩) (by simp;omega)).trans hc2)|(go_at_call 88;refine(fy b off n cap f tb 0 tc (pl lst) w3 HM.out hlow (by have:=b3.size;have:=hBwr.size;omega) (hrow.below (hBwr.trans (b3.mono hBwr.size)) hbs) (by have:=b3.size;omega) ((hr1.below hB ht2).below b3 (by omega))).mono ?_;rintro e w4 ⟨hs4,b4⟩;rw[hEa]at hs4;obtain⟨TB,Tc,hTB,rfl,hTo,hTc⟩:=hs4)|(go_at_call 89;refine(mZ b off n cap f TB Tc B c T S w4 h6 (by have:=b3.size;have:=b4.size;have:=hBwr.size;omega) (hrow.below ((hBwr.trans (b3.mono hBwr.size)).trans (b4.mono (by have:=b3.size;have:=hBwr.size;omega))) hbs) hTo.lt hTo.2 hlT (by have:=hown.lt;have:=b3.size;have:=b4.size;omega) ((hown.below b3 hown.lt).below b4 (Nat.lt_of_lt_of_le hown.lt b3.size)).2 hlS).mono ?_;rintro e w5 ⟨rfl,b5⟩;rw[hlx]))
       go_roundw
       case rel=>exact⟨I+1,by omega,by go_num,by rw[HE.out];exact⟨rfl,hlT,TB,Tc,rfl,by have:=b3.size;have:=hBwr.size;omega,hTo.below b5 hTo.lt,hTc⟩,((hB.trans (b3.mono hB.size)).trans (b4.mono (by have:=hB.size;have:=b3.size;omega))).trans (b5.mono (by have:=hB.size;have:=b3.size;have:=b4.size;omega))⟩
       case measure=>simp[intOf];omega
      |false=>
       have h0:cz f n (((ax n).take (I+1)).filter p)=some S:=by rw[hE,hres];unfold bP;rw[hEa];simp[hlx]
       have HE:Hid _:=h0;clear h0;clear hE;go_wp2_with(first|(go_at_call 87;refine H2.mono ?_;clear H2;rintro e w3 ⟨⟨r,rfl,hr⟩,b3⟩;have hrs:r<=shift:=(by have:=(HSH.out r hr);simp at this;exact this);have hc3:w3.cell? ⟨LB,I,none⟩=some (.slice (some ⟨tb,0,none⟩) n tc):=(b3.cell (p:=⟨LB,I,none⟩) (by simp;omega)).trans hc2)|(go_at_call 88;refine(fy b off n cap f tb 0 tc (pl lst) w3 HM.out hlow (by have:=b3.size;have:=hBwr.size;omega) (hrow.below (hBwr.trans (b3.mono hBwr.size)) hbs) (by have:=b3.size;omega) ((hr1.below hB ht2).below b3 (by omega))).mono ?_;rintro e w4 ⟨hs4,b4⟩;rw[hEa]at hs4;obtain⟨TB,Tc,hTB,rfl,hTo,hTc⟩:=hs4)|(go_at_call 89;refine(mZ b off n cap f TB Tc B c T S w4 h6 (by have:=b3.size;have:=b4.size;have:=hBwr.size;omega) (hrow.below ((hBwr.trans (b3.mono hBwr.size)).trans (b4.mono (by have:=b3.size;have:=hBwr.size;omega))) hbs) hTo.lt hTo.2 hlT (by have:=hown.lt;have:=b3.size;have:=b4.size;omega) ((hown.below b3 hown.lt).below b4 (Nat.lt_of_lt_of_le hown.lt b3.size)).2 hlS).mono ?_;rintro e w5 ⟨rfl,b5⟩;rw[hlx]))
       go_roundw
       case rel=>exact⟨I+1,by omega,by go_num,by rw[HE.out];exact⟨rfl,hlS,B,c,rfl,hBl,((hown.below b3 hown.lt).below b4 (Nat.lt_of_lt_of_le hown.lt b3.size)).below b5 (by have:=hown.lt;have:=b3.size;have:=b4.size;omega),hcb⟩,((hB.trans (b3.mono hB.size)).trans (b4.mono (by have:=hB.size;have:=b3.size;omega))).trans (b5.mono (by have:=hB.size;have:=b3.size;have:=b4.size;omega))⟩
       case measure=>simp[intOf];omega
  .obtain rfl:I=(ax n).length:=by omega
   have hlI':¬(((ax n).length:Nat):Int)<(M:Int)+1:=by omega
   rw[List.take_length]at hbest;cases hres:cz f n ((ax n).filter p)with
   |none=>
    rw[hres]at hbest;obtain⟨rfl,a,c,rfl⟩:=hbest;go_wp2;go_ret2
    exact⟨⟨a,c,rfl⟩,hBw2.trans (hB.mono hBw2.size)⟩
   |some T=>
    rw[hres]at hbest;obtain⟨rfl,_,B,c,rfl,hBl,hown,hcb⟩:=hbest;go_wp2;go_ret2
    exact⟨⟨B,c,hBl,rfl,hown,hcb⟩,hBw2.trans (hB.mono hBw2.size)⟩
def jg (f:Nat->Mv)(n:Nat)(shift:Int)(p:List Nat->Bool):Option (Nat->Int):=if ap f n=true/\0<=shift/\shift<=6 then cz f n ((ax n).filter p)else none
def ue (f:Nat->Mv)(n:Nat)(shift:Int)(p:List Nat->Bool):Prop:=∀g,aT f n g->∀l∈ax n,∀r,bF (λi=>((pl l i:Nat):Int)) (λi=>((g i:Nat):Int)) n r->(p l=true<->r<=shift)
theorem vn {r:Option (Nat->Int)}{n:Nat}{w:World}{e:Ending}{w':World}(h:fW r n w e w'):∃a k c bo,e=.returned (.tuple #[.slice a k c,.bool bo]):=by
 cases r with
 |none=>obtain⟨a,c,rfl⟩:=h;exact⟨a,0,c,false,rfl⟩
 |some T=>obtain⟨B,c,_,rfl,_⟩:=h;exact⟨_,n,c,true,rfl⟩
theorem xy {r:Option (Nat->Int)}{n:Nat}{w w1:World}{e:Ending}{w':World}(h:fW r n w1 e w')(hl:w.heap.size<=w1.heap.size):fW r n w e w':=by
 cases r with
 |none=>exact h
 |some T=>obtain⟨B,c,h1,h2⟩:=h;exact⟨B,c,Nat.le_trans hl h1,h2⟩
end Go.Proofs.YtlmcblcijndipabGreatDoor
namespace Go.Proofs.YtlmcblcijndipabGreatDoor
open Go Go.RowKit
noncomputable def iC (f:Nat->Mv)(n:Nat)(shift:Int)(l:List Nat):Bool:=@decide (∃g r,aT f n g/\bF (λi=>((pl l i:Nat):Int)) (λi=>((g i:Nat):Int)) n r/\r<=shift) (Classical.propDecidable _)
theorem vo {f:Nat->Mv}{n:Nat}{shift:Int}{l:List Nat}:iC f n shift l=true<->∃g r,aT f n g/\bF (λi=>((pl l i:Nat):Int)) (λi=>((g i:Nat):Int)) n r/\r<=shift:=by
 unfold iC;simp only[decide_eq_true_eq]
theorem bF.congr {a a' b b':Nat->Int}{n:Nat}{r:Int}(h:bF a b n r)(ha:∀i,i<n->a i=a' i)(hb:∀i,i<n->b i=b' i):bF a' b' n r:=
 ⟨h.low,h.high,λi k hi hk e=>h.most i k hi hk (by rw[ha i hi,hb k hk];exact e),h.some.imp id λ⟨i,k,hi,hk,e,x⟩=>⟨i,k,hi,hk,by rw[<-ha i hi,<-hb k hk];exact e,x⟩⟩
theorem m9 (f:Nat->Mv)(n:Nat)(shift:Int):ue f n shift (iC f n shift):=λg hg l hl r hr=>by
 rw[vo];constructor
 .rintro⟨g',r',hg',hr',hle⟩;have:=hr.unique (hr'.congr (λ_ _=>rfl) λi hi=>by rw[hg'.unique hg i hi]);omega
 .intro h;exact⟨g,r,hg,hr,h⟩
structure Bj (f:Nat->Mv)(n:Nat)(shift:Int)(T:Nat->Int):Prop where
 moves:ap f n=true
 low:0<=shift
 high:shift<=6
 is:∃l,l∈ax n/\iC f n shift l=true/\bw f (pl l) n=some T
 least:∀l,l∈ax n->iC f n shift l=true->∀S,bw f (pl l) n=some S->cY (cO f n S) (cO f n T)=false
def Ak:Mv:=⟨ByteArray.empty,false,0,0,0,0⟩
def eF (l:List Mv)(i:Nat):Mv:=l.getD i Ak
theorem pY {l:List Mv}{i:Nat}(h:i<l.length):eF l i=l[i]:=by simp[eF,h]
theorem uf {l:List Mv}{i:Nat}(h:i<l.length):eF l i∈l:=by rw[pY h];exact List.getElem_mem h
theorem ug {l:List Mv}{m:Mv}{i:Nat}:eF (l++[m]) i=if i=l.length then m else eF l i:=by
 unfold eF;rw[List.getD_eq_getElem?_getD,List.getD_eq_getElem?_getD,List.getElem?_append];split
 .rw[if_neg (by omega)]
 .split
  .rename_i h1 h2;subst h2;simp
  .rename_i h1 h2;rw[List.getElem?_eq_none (l:=l) (by omega),List.getElem?_eq_none (by simp;omega)]
def nf (m:Mv)(tick:Int):Mv:={m with est:=tick+6,prom:=-1}
def ff (f:Nat->Mv)(t:Nat->Int)(p k:Nat):Mv:=if k=p then nf (f p) (t p)else bH (f k) (t k) (t p)
def af (f:Nat->Mv)(t:Nat->Int)(p:Nat):Nat->List Mv
 |0=>[]
 |k+1=>if t k<t p then af f t p k else af f t p k++[ff f t p k]
def d8 (m:Mv)(frm:Int):Mv:=if m.prom=-1 then{m with est:=max m.est frm}else m
def bT (m:Mv)(frm:Int):Bool:=!(m.prom==-1)||decide (frm<=m.late)
def cg (g:Nat->Mv)(frm:Int)(i:Nat):Mv:=d8 (g i) frm
noncomputable def fg (g:Nat->Mv)(k:Nat)(now shift:Int):Option (Nat->Int):=
 if∀i,i<k->bT (g i) (now+4)=true then jg (cg g (now+4)) k shift (iC (cg g (now+4)) k shift)else none
noncomputable def cy (f:Nat->Mv)(n:Nat)(t:Nat->Int)(p:Nat):Option (Nat->Int):=
 if t p+6<=(f p).late then fg (eF (af f t p n)) (af f t p n).length (t p) 6 else none
def AN (f:Nat->Mv)(n:Nat)(t:Nat->Int):Prop:=∀p,p<n->(f p).lands=true->(cy f n t p).isSome=true
theorem dp (f:Nat->Mv)(t:Nat->Int)(p:Nat):∀k,(af f t p k).length<=k
 |0=>Nat.le_refl _
 |k+1=>by
  have:=dp f t p k;simp only[af];split
  .omega
  .simp;omega
theorem rr (f:Nat->Mv)(t:Nat->Int)(p k:Nat):(ff f t p k).name=(f k).name:=by
 unfold ff;split
 .rename_i h;subst h;rfl
 .unfold bH;split<;>rfl
theorem iP {f:Nat->Mv}{t:Nat->Int}{p:Nat}:∀{k:Nat} {m:Mv},m∈af f t p k->∃i,i<k/\t p<=t i/\m=ff f t p i
 |0,m,h=>by simp[af]at h
 |k+1,m,h=>by
  simp only[af]at h;split at h
  .obtain⟨i,h1,h2⟩:=iP h;exact⟨i,by omega,h2⟩
  .rename_i hk;rcases List.mem_append.1 h with h|h
   .obtain⟨i,h1,h2⟩:=iP h;exact⟨i,by omega,h2⟩
   .simp at h;exact⟨k,by omega,by omega,h⟩
theorem lm (f:Nat->Mv)(t:Nat->Int)(p:Nat):∀k,List.Sublist ((af f t p k).map Mv.name) ((List.range k).map λi=>(f i).name)
 |0=>by simp[af]
 |k+1=>by
  have ih:=lm f t p k;simp only[af,List.range_succ,List.map_append,List.map_cons,List.map_nil];split
  .exact ih.trans (List.sublist_append_left _ _)
  .rw[List.map_append,List.map_cons,List.map_nil,rr];exact ih.append (List.Sublist.refl _)
theorem xB {f:Nat->Mv}{n:Nat}(h:ap f n=true):∀j,j<n->∀i,i<j->aY (f i).name (f j).name=true:=by
 have hs:∀j,j<n->0<j->aY (f (j-1)).name (f j).name=true:=λj hj h0=>by
  unfold ap at h;simp only[Bool.and_eq_true,decide_eq_true_eq,List.all_eq_true,List.mem_range]at h;have:=h.2 j hj;unfold ee at this;simp only[Bool.and_eq_true,Bool.or_eq_true,beq_iff_eq]at this;exact this.2.resolve_left (by omega)
 intro j;induction j with
 |zero=>intro _ i hi;omega
 |succ j ih=>
  intro hj i hi;have h1:=hs (j+1) hj (by omega);simp only[Nat.add_sub_cancel]at h1;by_cases e:i=j
  .subst e;exact h1
  .exact mE (ih (by omega) i (by omega)) h1
theorem te {f:Nat->Mv}{n:Nat}(h:ap f n=true):((List.range n).map λi=>(f i).name).Pairwise (λa b=>aY a b=true):=by
 rw[List.pairwise_map,List.pairwise_iff_getElem];intro i j hi hj hij;simp only[List.getElem_range];simp at hj;exact xB h j hj i hij
theorem tf {g:Nat->Mv}{l:List Mv}(h6:l.length<=6)(hok:∀i,i<l.length->(g i).ok=true)(hn:∀i,i<l.length->(g i).name=(eF l i).name)(hp:(l.map Mv.name).Pairwise (λa b=>aY a b=true)):ap g l.length=true:=by
 refine jr h6 λi hi=>?_
 unfold ee;rw[hok i hi];by_cases h0:i=0
 .subst h0;simp
 .rw[List.pairwise_map,List.pairwise_iff_getElem]at hp;have:=hp (i-1) i (by omega) hi (by omega);rw[hn i hi,hn (i-1) (by omega),pY hi,pY (by omega:i-1<l.length),this];simp
theorem Mv.ok_of {m m':Mv}(h:m.ok=true)(hn:m'.name=m.name)(hw:m'.wake=m.wake)(h1:0<=m'.est)(h2:m'.est<=m'.late)(h3:m'.late<=10000)(h4:m'.prom=-1\/m'.est<=m'.prom/\m'.prom<=m'.late):m'.ok=true:=by
 unfold Mv.ok mt mq dN at*;simp only[Bool.and_eq_true,Bool.or_eq_true,decide_eq_true_eq,beq_iff_eq,hn,hw]at*;refine⟨⟨⟨⟨h.1.1.1.1,?_⟩,?_⟩,?_⟩,?_⟩<;>omega
theorem uh {f:Nat->Mv}{n:Nat}{t:Nat->Int}(hm:ap f n=true)(hf:dm f t n){p:Nat}(hp:p<n)(hl:t p+6<=(f p).late){i:Nat}(hi:i<n):(ff f t p i).ok=true:=by
 have b1:=Mv.ok_bd (aQ hm i hi);have b2:=Mv.ok_bd (aQ hm p hp);have s1:=eh (hf.1 i hi);have s2:=eh (hf.1 p hp);unfold ff;split
 .rename_i e;refine Mv.ok_of (aQ hm p hp) rfl rfl ?_ ?_ ?_ (.inl rfl)<;>simp only[nf]<;>omega
 .unfold bH;split
  .refine Mv.ok_of (aQ hm i hi) rfl rfl b1.1 b1.2.1 b1.2.2.1 (.inr ⟨?_,?_⟩)<;>simp only<;>omega
  .exact aQ hm i hi
theorem xC {m:Mv}{frm:Int}(h:m.ok=true)(h0:0<=frm)(hr:bT m frm=true):(d8 m frm).ok=true:=by
 have b:=Mv.ok_bd h;unfold bT at hr;simp only[Bool.or_eq_true,Bool.not_eq_true',beq_eq_false_iff_ne,ne_eq,decide_eq_true_eq]at hr;unfold d8;split
 .rename_i e;have hle:frm<=m.late:=hr.resolve_left (λx=>x e);refine Mv.ok_of h rfl rfl ?_ ?_ b.2.2.1 (.inl e)<;>simp only<;>omega
 .exact h
theorem pZ (m:Mv)(frm:Int):(d8 m frm).name=m.name:=by unfold d8;split<;>rfl
theorem ru {f:Nat->Mv}{n:Nat}{t:Nat->Int}(hm:ap f n=true)(hf:dm f t n){p:Nat}(hp:p<n)(hl:t p+6<=(f p).late)(hr:∀i,i<(af f t p n).length->bT (eF (af f t p n) i) (t p+4)=true):
  ap (cg (eF (af f t p n)) (t p+4)) (af f t p n).length=true:=by
 have h6:=aN hm;have hz:=dp f t p n;have b2:=Mv.ok_bd (aQ hm p hp);have s2:=eh (hf.1 p hp);refine tf (by omega) (λi hi=>?_) (λi hi=>pZ _ _) ((te hm).sublist (lm f t p n));obtain⟨k,hk,_,e⟩:=iP (uf hi);have:=hr i hi;unfold cg;rw[e]at this⊢;exact xC (uh hm hf hp hl hk) (by omega) this
theorem ng {f:Nat->Mv}{n:Nat}{t:Nat->Int}(hm:ap f n=true)(hf:dm f t n){p:Nat}(hp:p<n)(hl:t p+6<=(f p).late){i:Nat}(hi:i<(af f t p n).length):(eF (af f t p n) i).ok=true:=by
 obtain⟨k,hk,_,e⟩:=iP (uf hi);rw[e];exact uh hm hf hp hl hk
end Go.Proofs.YtlmcblcijndipabGreatDoor
