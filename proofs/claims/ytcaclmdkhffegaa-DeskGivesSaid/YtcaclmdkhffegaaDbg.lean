/- Law 15's begun, by a closed run. -/
import Derived.Test.YtcaclmdkhffegaaWli
import Derived.Test.YtcaclmdkhffegaaLed
namespace Go.Proofs.Ytcaclmdkhffegaa.dkb
open Go Go.RowKit eng SX Fact fil
set_option linter.unusedVariables false
set_option maxRecDepth 1000000
def tabE (f:FuncId):Option (FnE × (List SX->Option (List SX))):=cond (Nat.beq f 55) (some (lec.EGr 1,led.litGr)) (cond (Nat.beq f 26) (some (leb.EDr 2,led.litDr)) (cond (Nat.beq f 50) (some (leb.EPr 3,led.litPr)) (cond (Nat.beq f 62) (some (lec.ECl 5,led.litCl)) (cond (Nat.beq f 61) (some (wpu.EPu 1,wli.litPu)) (cond (Nat.beq f 56) (some (wto.EDw 2,wli.litDw)) (cond (Nat.beq f 67) (some (wpu.EAh 3,wli.litAh)) (none)))))))
theorem Znz:∀ f E lit,tabE f=some (E,lit)->LitOk f E lit:=by
 intro f E lit h
 simp only [tabE,cond_eq_ite,Nat.beq_eq] at h
 split at h
 ·rename_i hf;subst hf;cases h;exact led.litGr_ok
 split at h
 ·rename_i hf;subst hf;cases h;exact led.litDr_ok
 split at h
 ·rename_i hf;subst hf;cases h;exact led.litPr_ok
 split at h
 ·rename_i hf;subst hf;cases h;exact led.litCl_ok
 split at h
 ·rename_i hf;subst hf;cases h;exact wli.litPu_ok
 split at h
 ·rename_i hf;subst hf;cases h;exact wli.litDw_ok
 split at h
 ·rename_i hf;subst hf;cases h;exact wli.litAh_ok
 ·cases h
def orcE:Orc:=Znh tabE
theorem orcE_ok:OrcOk Try.prog orcE:=orcLit_ok tabE Znz
theorem ranB:Zmm (runTo Try.prog orcE 100000 9 (ETrue 8) [] [] hStop)=true:=by kernel_rfl
theorem begunLit (k:Nat):ToldF 9 (ETrue 8) (spec RTrue):=told_lit fil.mixed_ok fil.names_ok orcE_ok (fun ps qs h=>Zal h) ranB
end Go.Proofs.Ytcaclmdkhffegaa.dkb
