/- Parts of texts, and things compared, as the symbolic engine has them. -/
import Derived.Test.YtonebjgdhachcaaSymB
namespace Go.Proofs.Ytonebjgdhachcaa.symD
open Go Go.RowKit eng
set_option linter.unusedVariables false
set_option linter.unusedSimpArgs false
set_option maxRecDepth 100000

theorem Zor (P:Program) (v:Value):Zc8 P (Sem.pure (.value v))=some (.inl v):=rfl
theorem Zon {α β:Type} (a:α) (f:α->Sem β):(Sem.pure a).bind f=f a:=rfl
theorem Zsv {α:Type} (a:α):(pure a:Sem α)=Sem.pure a:=rfl
theorem Zsw {α β:Type} (x:Sem α) (f:α->Sem β):(x >>= f)=x.bind f:=rfl


end Go.Proofs.Ytonebjgdhachcaa.symD
