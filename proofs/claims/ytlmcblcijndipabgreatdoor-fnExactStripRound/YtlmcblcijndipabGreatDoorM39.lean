import Derived.Test.YtlmcblcijndipabGreatDoorM38
import Derived.Test.YtlmcblcijndipabGreatDoorM20
set_option linter.unusedVariables false
namespace Go.Proofs.YtlmcblcijndipabGreatDoor
open Go Go.RowKit
def BH (f:Nat->Mv)(k:Nat)(m:Mv)(i:Nat):Mv:=if i<k then f i else if i=k then m else f (i-1)
def wL (f:Nat->Mv)(t:Nat->Int)(p k:Nat):List Mv:=(af f t p k).map λm=>d8 m (t p+4)
end Go.Proofs.YtlmcblcijndipabGreatDoor
