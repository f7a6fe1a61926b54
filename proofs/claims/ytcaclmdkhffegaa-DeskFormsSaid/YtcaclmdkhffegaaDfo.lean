/- DeskForms: the law, by a closed run. -/
import Derived.Test.YtcaclmdkhffegaaDbg
namespace Go.Proofs.Ytcaclmdkhffegaa.deskForms
open Go Go.RowKit eng SX Fact fil dkb
set_option linter.unusedVariables false
set_option maxRecDepth 1000000
def litB:List SX->Option (List SX) | []=>some [.con (.bool true)] | _=>none
theorem litB_ok:LitOk 9 (ETrue 8) litB:=by
 refine ⟨spec RTrue,begunLit 0,?_⟩
 intro es rs h
 unfold litB at h
 split at h
 ·cases h;exact ⟨[],[.v (.bool true)],rfl,Zav fTrue ⟨rfl,rfl⟩,rfl⟩
 ·cases h
def tabM (f:FuncId):Option (FnE × (List SX->Option (List SX))):=cond (Nat.beq f 9) (some (ETrue 8,litB)) (tabE f)
theorem tabM_ok:∀ f E lit,tabM f=some (E,lit)->LitOk f E lit:=by
 intro f E lit h
 simp only [tabM,cond_eq_ite,Nat.beq_eq] at h
 split at h
 ·rename_i hf;subst hf;cases h;exact litB_ok
 ·exact Zic f E lit h
def orcT:Orc:=Zh2 tabM
theorem orcT_ok:OrcOk Try.prog orcT:=Zg9 tabM tabM_ok
theorem ranF:Zhb (runTo Try.prog orcT 100000 6 (ETrue 9) [] [] hStop)=true:=by kernel_rfl
theorem told:ToldF 6 (ETrue 9) (spec RTrue):=told_lit fil.mixed_ok fil.names_ok orcT_ok (fun ps qs h=>Zaw h) ranF
theorem walk (w:World):Calls Try.prog 6 #[] w fun e w'=>e=.returned (.bool true)/\Ex w w':=by
 refine told_true told rfl (us:=[]) (ps:=[]) (Zav fTrue ⟨rfl,rfl⟩) rfl rfl (fun i p u hp hu=>by simp at hp)
end Go.Proofs.Ytcaclmdkhffegaa.deskForms
