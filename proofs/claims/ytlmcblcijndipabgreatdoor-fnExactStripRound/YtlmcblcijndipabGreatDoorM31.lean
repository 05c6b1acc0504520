import Derived.Test.YtlmcblcijndipabGreatDoorM16d
import Derived.Test.YtlmcblcijndipabGreatDoorM30
import Derived.Test.YtlmcblcijndipabGreatDoorM25
import Derived.Test.YtlmcblcijndipabGreatDoorM26
set_option linter.unusedVariables false
namespace Go.Proofs.YtlmcblcijndipabGreatDoor
open Go.RowKit
def BF (g:Nat->Int)(i:Nat):Nat:=(g i).toNat
def Bc (f:Nat->Mv)(n:Nat)(g:Nat->Int)(m:Nat):Option (Nat->Int):=if ap f n=true/\fU g m n=true then bw f (BF g) n else none
def Bh (f:Nat->Mv)(n:Nat)(t:Nat->Int)(m:Nat):Int×Int:=if bz f n t m=true then(sumTo f t n,aO f t n)else(0,0)
end Go.Proofs.YtlmcblcijndipabGreatDoor
