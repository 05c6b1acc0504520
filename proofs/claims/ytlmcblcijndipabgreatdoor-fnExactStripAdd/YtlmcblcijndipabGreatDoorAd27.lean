import Derived.Test.YtlmcblcijndipabGreatDoorAd17d
import Derived.Test.YtlmcblcijndipabGreatDoorAd25
import Derived.Test.YtlmcblcijndipabGreatDoorAd23
set_option linter.unusedVariables false
namespace Go.Proofs.YtlmcblcijndipabGreatDoor
open Go.RowKit
def EW (g:Nat->Int)(i:Nat):Nat:=(g i).toNat
def Ew (f:Nat->Mv)(n:Nat)(g:Nat->Int)(m:Nat):Option (Nat->Int):=if aw f n=true/\gK g m n=true then bK f (EW g) n else none
def EH (f:Nat->Mv)(n:Nat)(t:Nat->Int)(m:Nat):Int×Int:=if bL f n t m=true then(sumTo f t n,ba f t n)else(0,0)
