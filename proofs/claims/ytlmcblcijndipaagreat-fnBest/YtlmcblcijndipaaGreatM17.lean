/- Texts of the proof, one behind another: F1. -/
import Derived.Test.YtlmcblcijndipaaGreatM16
import Derived.Test.YtlmcblcijndipaaGreatM04
import Derived.Test.YtlmcblcijndipaaGreatM07
/- The model's StripFits, walked. -/
namespace Go.Proofs.YtlmcblcijndipaaGreat
open Go.RowKit

/-- the bounds of ticks that suit moves that are ok -/
theorem tick_bd {f : Nat → Mv} {n : Nat} {t : Nat → Int} (hm : movesB f n = true) {k : Nat} (hk : k < n) (hs : (f k).suits (t k) = true) : 0 ≤ t k ∧ t k ≤ 10000 := by
  have h1 := Mv.ok_bd (movesB_ok hm k hk)
  have h2 := suits_bd hs
  omega

end Go.Proofs.YtlmcblcijndipaaGreat
