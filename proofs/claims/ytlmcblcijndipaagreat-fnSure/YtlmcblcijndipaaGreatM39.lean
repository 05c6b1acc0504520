import Derived.Test.YtlmcblcijndipaaGreatM35
import Derived.Test.YtlmcblcijndipaaGreatM20
import Derived.Test.YtlmcblcijndipaaGreatM30
import Derived.Test.YtlmcblcijndipaaGreatM24d
import Derived.Test.YtlmcblcijndipaaGreatM25
set_option linter.unusedVariables false
set_option maxHeartbeats 1000000
namespace Go.Proofs.YtlmcblcijndipaaGreat
open Go.RowKit
theorem nV (b off n cap:Nat)(f:Nat->Mv)(B1 c1 B2 c2:Nat)(T S:Nat->Int)(w:World)(h6:n<=6)(hbs:b<w.heap.size)(hrow:aw w b off n f)(hb1:B1<w.heap.size)(hT:ak w B1 0 n T)(hbT:dX f T n)(hb2:B2<w.heap.size)(hS:ak w B2 0 n S)(hbS:dX f S n):
  Calls Tryz0.prog 59 #[.slice (some ⟨b,off,none⟩) n cap,.slice (some ⟨B1,0,none⟩) n c1,.slice (some ⟨B2,0,none⟩) n c2] w λe w'=>e=.returned (.bool (dw (dq f n T) (dq f n S)))/\Below w.heap.size w w':=by
 have H1:=ft b off n cap f B1 0 n c1 T w h6 (Nat.le_refl _) hbs hrow hb1 hT hbT;have HK:dw (dq f n T) (dq f n S)=if sumTo f T n=sumTo f S n then(if aX f T n=aX f S n then dw (dO T n 0) (dO S n 0)else decide (aX f T n<aX f S n))else decide (sumTo f T n<sumTo f S n):=rfl
 obtain⟨R,hR⟩:∃R,dw (dq f n T) (dq f n S)=R:=⟨_,rfl⟩;rw[hR]at HK;rw[hR];clear hR;obtain⟨s1,e1⟩:∃s1,sumTo f T n=s1:=⟨_,rfl⟩;obtain⟨s2,e2⟩:∃s2,sumTo f S n=s2:=⟨_,rfl⟩;obtain⟨t1,e3⟩:∃t1,aX f T n=t1:=⟨_,rfl⟩;obtain⟨t2,e4⟩:∃t2,aX f S n=t2:=⟨_,rfl⟩;rw[e1,e2,e3,e4]at HK;by_cases hs:s1=s2
 .rw[if_pos hs]at HK;have hs':(s1 !=s2)=false:=by simp[hs]
  clear hs;by_cases ht:t1=t2
  .rw[if_pos ht]at HK;have ht':(t1 !=t2)=false:=by simp[ht]
   clear ht;have HK:Hid _:=HK;go_enter Tryz0.func59,Tryz.ntmps59
   go_wp2_with(first|(go_at_call 115;refine H1.mono ?_;clear H1;rintro e w1 ⟨rfl,hbw1⟩;rw[e1,e3])|(go_at_call 115;refine(ft b off n cap f B2 0 n c2 S _ h6 (Nat.le_refl _) (Nat.lt_of_lt_of_le hbs hbw1.size) (hrow.below hbw1 hbs) (Nat.lt_of_lt_of_le hb2 hbw1.size) (hS.below hbw1 hb2) hbS).mono ?_;rintro e w2 ⟨rfl,hbw2⟩;rw[e2,e4]))
   have hB2:Below w.heap.size w w2:=hbw1.trans (hbw2.mono hbw1.size);clear hbw1 hbw2;go_loopw [11] (λi wr=>∃k:Nat,k<=n/\i=.int .i64 k/\dw (dO T n 0) (dO S n 0)=dw (dO T (n-k) k) (dO S (n-k) k)/\Below w.heap.size w wr) (λi _=>n-(intOf i).toNat)
   case atStart=>exact⟨0,Nat.zero_le _,rfl,rfl,hB2⟩
   case round=>
    obtain⟨k,hk,rfl,hlx,hB⟩:=hrel;by_cases hlt:k<n
    .have hlt':(k:Int)<n:=by omega
     have cT:=hT.below hB hb1 k hlt;have cS:=hS.below hB hb2 k hlt;simp only[Nat.zero_add]at cT cS;have hx:dw (dO T (n-k) k) (dO S (n-k) k)=if T k=S k then dw (dO T (n-(k+1)) (k+1)) (dO S (n-(k+1)) (k+1))else decide (T k<S k):=by
      rw[show n-k=(n-(k+1))+1 by omega];rfl
     by_cases he:T k=S k
     .rw[if_pos he]at hx;have he':(T k !=S k)=false:=by simp[he]
      have HX:Hid _:=hlx.trans hx;clear hlx hx he;go_wp2;go_quiet (fail)
      go_wp2;go_roundw
      case rel=>exact⟨k+1,by omega,by go_num,HX.out,cC hB _⟩
      case measure=>simp[intOf];omega
     .rw[if_neg he]at hx;have he':(T k !=S k)=true:=by simp[he]
      have HX:Hid _:=HK.out.trans (hlx.trans hx);clear hlx hx he HK;go_wp2;go_quiet (fail)
      go_wp2;go_quiet (fail)
      go_wp2;go_ret;exact⟨aJ HX.out.symm,cC (cC hB _) _⟩
    .obtain rfl:k=n:=by omega
     rw[Nat.sub_self]at hlx;have HX:Hid _:=HK.out.trans hlx;clear hlx HK;go_wp2;go_ret;exact⟨aJ HX.out.symm,hB⟩
  .rw[if_neg ht]at HK;have ht':(t1 !=t2)=true:=by simp[ht]
   clear ht;have HK:Hid _:=HK;go_enter Tryz0.func59,Tryz.ntmps59
   go_wp2_with(first|(go_at_call 115;refine H1.mono ?_;clear H1;rintro e w1 ⟨rfl,hbw1⟩;rw[e1,e3])|(go_at_call 115;refine(ft b off n cap f B2 0 n c2 S _ h6 (Nat.le_refl _) (Nat.lt_of_lt_of_le hbs hbw1.size) (hrow.below hbw1 hbs) (Nat.lt_of_lt_of_le hb2 hbw1.size) (hS.below hbw1 hb2) hbS).mono ?_;rintro e w2 ⟨rfl,hbw2⟩;rw[e2,e4]))
   go_ret;exact⟨aJ HK.out.symm,hbw1.trans (hbw2.mono hbw1.size)⟩
 .rw[if_neg hs]at HK;have hs':(s1 !=s2)=true:=by simp[hs]
  clear hs;have HK:Hid _:=HK;go_enter Tryz0.func59,Tryz.ntmps59
  go_wp2_with(first|(go_at_call 115;refine H1.mono ?_;clear H1;rintro e w1 ⟨rfl,hbw1⟩;rw[e1,e3])|(go_at_call 115;refine(ft b off n cap f B2 0 n c2 S _ h6 (Nat.le_refl _) (Nat.lt_of_lt_of_le hbs hbw1.size) (hrow.below hbw1 hbs) (Nat.lt_of_lt_of_le hb2 hbw1.size) (hS.below hbw1 hb2) hbS).mono ?_;rintro e w2 ⟨rfl,hbw2⟩;rw[e2,e4]))
  go_ret;exact⟨aJ HK.out.symm,hbw1.trans (hbw2.mono hbw1.size)⟩
def BI (g:Nat->Int)(i:Nat):Nat:=(g i).toNat
def A8 (f:Nat->Mv)(n:Nat)(g:Nat->Int)(m:Nat):Option (Nat->Int):=if ap f n=true/\gC g m n=true then bZ f (BI g) n else none
end Go.Proofs.YtlmcblcijndipaaGreat
