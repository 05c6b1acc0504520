import Derived.Test.YtlmcblcijndipaaGreatDoorj17d
import Derived.Test.YtlmcblcijndipaaGreatDoorj23
import Derived.Test.YtlmcblcijndipaaGreatDoorj21
set_option linter.unusedVariables false
set_option maxHeartbeats 1000000
namespace Go.Proofs.YtlmcblcijndipaaGreatDoor
section
open RowKit
variable {f:Nat->Mv}{n m:Nat}{g:Nat->Int}{w w':World}{r:Option (Nat->Int)}{e:Ending}
def plc (g:Nat->Int)(i:Nat):Nat:=(g i).toNat
def aaM (f:Nat->Mv)(n:Nat)(g:Nat->Int)(m:Nat):Option (Nat->Int):=if aG f n=true/\mE g m n=true then d9 f (plc g) n else none
end
section
open RowKit
def aa5 (f:Nat->Mv)(n:Nat)(t:Nat->Int)(m:Nat):Int×Int:=if dY f n t m=true then(sumTo f t n,cU f t n)else(0,0)
end
section
open RowKit
variable {t:Int}
theorem Ga (b off cap b' aW cap' n:Nat)(g:Nat->Int)(w:World)(hn:n<=1048576)(bw:b<w)(aq:aB w b off n g)(bc:b'<w)(aK:aB w b' aW n g):
  Calls Tz.prog 49 #[.slice (some ⟨b,off,none⟩) n cap,.slice (some ⟨b',aW,none⟩) n cap'] w λe w'=>e=.returned true/\Below w w w':=by
 go_enter Tz.func49,Tryz.ntmps49
 go_wp2;go_loopw [5] (λi w'=>∃k:Nat,k<=n/\i=.int .i64 k/\Below w w w') (λi _=>n-(intOf i).toNat)
 case atStart=>exact⟨0,acp _,rfl,aca _ _⟩
 case round=>
  obtain⟨k,hk,rfl,hB⟩:=hrel;by_cases aI:k<n
  .have hr:=aq.below hB bw k aI;have eM:=aK.below hB bc k aI;have dG:(k:Int)<n:=ab;have hne:=aE wr;have c0:=λx:aj wr=>x.cell hr
   have d0:=λx:aj wr=>x.cell eM
   go_wp2;refine ah ?_;repeat(go_big_quiet_step (fail))
   refine wpQuiet_nil (ak ?_);intro w1 bF;go_wp2;go_roundw
   case rel=>exact⟨k+1,ab,by go_num,hB.trans (bF.mono hB.size)⟩
   case measure=>exact cf
  .go_wp2;go_ret;exact⟨rfl,hB⟩
theorem F9 (a a':Option Addr)(cap cap':Nat)(w:World):
  Calls Tz.prog 49 #[.slice a 0 cap,.slice a' 0 cap'] w λe w'=>e=.returned true/\Below w w w':=by
 go_enter Tz.func49,Tryz.ntmps49
 go_wp2;go_loopw [5] (λi w'=>i=.int .i64 0/\Below w w w') (λ_ _=>0)
 case atStart=>exact⟨rfl,aca _ _⟩
 case round=>
  obtain⟨rfl,hB⟩:=hrel;go_wp2;go_ret;exact⟨rfl,hB⟩
end
