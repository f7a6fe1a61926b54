/- Openers for a law's row: things of plain fields that came in, rows of such, rows of texts; no program in it. -/
import Derived.Test.YtegfdigljpnhcaaFrame
import Derived.SliceStrings
namespace Go.Proofs.Ytegfdigljpnhcaa
open Go.ChangeShapes Go.WideShapes Go.ChangeAt Go.RowKit

/-- What a cell may be. -/
inductive LK where
  | int (k : IntKind)
  | str
  | bool
def LK.ok : LK → Value → Prop
  | .int k, u => ∃ z, u = .int k z ∧ (Lit.int k z).wf = true
  | .str, u => ∃ s, u = .string s ∧ s.size ≤ maxLen
  | .bool, u => ∃ b, u = .bool b
def LK.is (P : Program) (k : LK) (t : TypeId) : Bool := match k, P.underlying t with
  | .int kd, some (.int kd') => decide (kd = kd')
  | .str, some .string => true
  | .bool, some .bool => true
  | _, _ => false

section
variable {H : Type} {enc : TypeId × Value → H} {P : Program} {W : World} {base : Nat} {v : Value} {d : DataW H} {p : List MemPlace}
end
section
variable {H : Type} {enc : TypeId × Value → H} {P : Program} {W : World} {base : Nat} {sp : Nat → Bool} {held : Bool} {v : Value} {d : DataW H} {p : List MemPlace}

end
end Go.Proofs.Ytegfdigljpnhcaa
