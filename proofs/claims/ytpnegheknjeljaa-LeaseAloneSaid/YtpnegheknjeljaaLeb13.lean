/- LeaseForms: begun, by a closed run. -/
import Derived.Test.YtpnegheknjeljaaLed
namespace Go.Proofs.Ytpnegheknjeljaa.leb13
open Go Go.RowKit eng SX Fact fil led
set_option linter.unusedVariables false
set_option maxRecDepth 1000000
theorem ranB:Zix (runTo Try.prog orcE 100000 5 (ETrue 8) [] [] hStop)=true:=by kernel_rfl
theorem begunLit (k:Nat):ToldF 5 (ETrue 8) (spec RTrue):=told_lit fil.mixed_ok fil.names_ok orcE_ok (fun ps qs h=>Zbd h) ranB
end Go.Proofs.Ytpnegheknjeljaa.leb13
