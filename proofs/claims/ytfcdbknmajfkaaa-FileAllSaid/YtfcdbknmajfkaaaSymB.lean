/- What the symbolic engine's user needs, more of it. -/
import Derived.Test.YtfcdbknmajfkaaaFil
namespace Go.Proofs.Ytfcdbknmajfkaaa.eng
open Go Go.RowKit
set_option linter.unusedVariables false
set_option linter.unusedSimpArgs false
@[simp] theorem ex_kz (k0 : IntKind) (x : Int) (p : Int → Prop) : (∃ k z, (k0 = k ∧ x = z) ∧ p z) ↔ p x := ⟨fun ⟨_, _, ⟨_, h⟩, hp⟩ => h ▸ hp, fun h => ⟨_, _, ⟨rfl, rfl⟩, h⟩⟩
end Go.Proofs.Ytfcdbknmajfkaaa.eng
