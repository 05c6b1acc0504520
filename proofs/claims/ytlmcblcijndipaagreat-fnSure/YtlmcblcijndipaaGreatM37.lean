import Derived.Test.YtlmcblcijndipaaGreatM35
import Derived.Test.YtlmcblcijndipaaGreatM36
set_option linter.unusedVariables false
namespace Go.Proofs.YtlmcblcijndipaaGreat
open Go.RowKit
def Bj (f:Nat->Mv)(n:Nat)(t:Nat->Int)(m:Nat):Int×Int:=if ca f n t m=true then(sumTo f t n,aX f t n)else(0,0)
end Go.Proofs.YtlmcblcijndipaaGreat
