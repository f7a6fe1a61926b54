/- DirForms: run by the engine. -/
import Derived.Test.YtfcdbknmajfkaaaEngDsk
namespace Go.Proofs.Ytfcdbknmajfkaaa.dirForms
open Go eng

set_option maxRecDepth 1000000 in
theorem ran : isTrue ((theEng Try.prog orcD 100000).call 10 [] ⟨.nil, 0, []⟩) = true := by kernel_rfl
theorem walk (w : World) : Calls Try.prog 10 #[] w fun e w' => e = .returned (.bool true) ∧ Ex w w' := calls_true names_ok mixed_ok orcD_ok (args := []) ran w

end Go.Proofs.Ytfcdbknmajfkaaa.dirForms
