/- What the symbolic engine's user needs, more of it. -/
import Derived.Test.YtfcdbknmajfkaaaFil
namespace Go.Proofs.Ytfcdbknmajfkaaa.eng
open Go Go.RowKit
set_option linter.unusedVariables false
set_option linter.unusedSimpArgs false
@[simp] theorem ex_kz (k0 : IntKind) (x : Int) (p : Int → Prop) : (∃ k z, (k0 = k ∧ x = z) ∧ p z) ↔ p x := ⟨fun ⟨_, _, ⟨_, h⟩, hp⟩ => h ▸ hp, fun h => ⟨_, _, ⟨rfl, rfl⟩, h⟩⟩
theorem lenPV_r (n : Nat) (cs : List PV) : lenPV (.row n cs) = some (pI n) := rfl
@[simp] theorem ex_one : (∃ z : Nat, (1 : Int) = (z : Int)) ↔ True := ⟨fun _ => trivial, fun _ => ⟨1, rfl⟩⟩
@[simp] theorem ex_one' (K : Nat) : (∃ z : Nat, (1 : Int) = (z : Int) ∧ z ≤ K) ↔ 1 ≤ K := ⟨fun ⟨z, h, h2⟩ => by omega, fun h => ⟨1, rfl, h⟩⟩
def blockBody : Code → Code | .block _ b => b | _ => .skip
/-- A block that is no loop: in it, and on behind it. -/
theorem block_in {P : Program} {id : Nat} {c : Code} {k : List Code} {Q : Exit → Act → World → Prop} {a : Act} {w : World}
    (h : wpL P (flat c) (fun e a' w' => (e = .normal ∧ wpL P k Q a' w') ∨ (e = .exit id ∧ wpL P k Q a' w') ∨ (e = .ret ∧ Q .ret a' w') ∨ (∃ j, j ≠ id ∧ e = .exit j ∧ Q (.exit j) a' w') ∨ (∃ ch, e = .panic ch ∧ Q (.panic ch) a' w')) a w) : wpL P (.block id c :: k) Q a w := by
  refine wp_block (wp_mono (wp_of_flat h) ?_)
  rintro e a' w' (⟨rfl, hk⟩ | ⟨rfl, hk⟩ | ⟨rfl, hq⟩ | ⟨j, hj, rfl, hq⟩ | ⟨ch, rfl, hq⟩)
  · exact hk
  · simp only [Exit.inBlock, if_true]
    exact hk
  · exact hq
  · simp only [Exit.inBlock, if_neg hj]
    exact hq
  · exact hq
end Go.Proofs.Ytfcdbknmajfkaaa.eng
