/- MarkForms: run by the engine. -/
import Derived.Test.YtegfdigljpnhcaaMrg5
namespace Go.Proofs.Ytegfdigljpnhcaa.markForms
open Go eng

set_option maxRecDepth 1000000 in
theorem ran : isTrue ((theEng Try.prog fil.noOrc 100000).call 9 [] ⟨.nil, 0, []⟩) = true := by kernel_rfl
theorem walk (w : World) : Calls Try.prog 9 #[] w fun e w' => e = .returned (.bool true) ∧ Ex w w' := calls_true fil.names_ok fil.mixed_ok fil.noOrc_ok (args := []) ran w

end Go.Proofs.Ytegfdigljpnhcaa.markForms
