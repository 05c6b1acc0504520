import Derived.Test.YtlmcblcijndipabGreatDoorDr16d
import Derived.Test.YtlmcblcijndipabGreatDoorDr28
import Derived.Test.YtlmcblcijndipabGreatDoorDr23
import Derived.Test.YtlmcblcijndipabGreatDoorDr24
set_option linter.unusedVariables false
namespace Go.Proofs.YtlmcblcijndipabGreatDoor
open Go.RowKit
def De (g:Nat->Int)(i:Nat):Nat:=(g i).toNat
def CU (f:Nat->Mv)(n:Nat)(g:Nat->Int)(m:Nat):Option (Nat->Int):=if aq f n=true/\gC g m n=true then bL f (De g) n else none
def CZ (f:Nat->Mv)(n:Nat)(t:Nat->Int)(m:Nat):Int×Int:=if bN f n t m=true then(sumTo f t n,aS f t n)else(0,0)
end Go.Proofs.YtlmcblcijndipabGreatDoor
