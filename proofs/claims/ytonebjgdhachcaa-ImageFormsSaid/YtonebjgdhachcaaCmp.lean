/- Parts of texts, and things compared, as the symbolic engine has them. -/
import Derived.Test.YtonebjgdhachcaaSymB
namespace Go.Proofs.Ytonebjgdhachcaa.symD
open Go Go.RowKit eng
set_option linter.unusedVariables false
set_option linter.unusedSimpArgs false
set_option maxRecDepth 100000

theorem Zoh (P : Program) (v : Value) : Zc7 P (Sem.pure (.value v)) = some (.inl v) := rfl
theorem Zoe {α β : Type} (a : α) (f : α -> Sem β) : (Sem.pure a).bind f = f a := rfl
theorem Zsa {α : Type} (a : α) : (pure a : Sem α) = Sem.pure a := rfl
theorem Zsb {α β : Type} (x : Sem α) (f : α -> Sem β) : (x >>= f) = x.bind f := rfl


end Go.Proofs.Ytonebjgdhachcaa.symD
