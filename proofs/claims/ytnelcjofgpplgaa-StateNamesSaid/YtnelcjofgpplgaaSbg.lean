/- The law's begun, run by the engine. -/
import Derived.Test.YtnelcjofgpplgaaSymB
namespace Go.Proofs.Ytnelcjofgpplgaa.sta
open Go eng fil
set_option maxRecDepth 1000000 in
theorem ranB : isTrue ((theEng Try.prog fil.noOrc 100000).call 9 [] ⟨.nil, 0, []⟩) = true := by kernel_rfl
end Go.Proofs.Ytnelcjofgpplgaa.sta
