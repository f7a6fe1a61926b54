/- The contracts of disk where the answer is known. -/
import Derived.Test.YtegfdigljpnhcaaDskD
namespace Go.Proofs.Ytegfdigljpnhcaa.dsk
set_option maxRecDepth 100000
open Go.RowKit
/-- p points to a variable that holds d. -/
def Holds (w : World) (p : Value) (d : D) : Prop :=
  ∃ b al cl aw cw, p = .pointer (some ⟨b, 0, none⟩) ∧ BoxD w b al d.last.length cl aw d.wait.length cw d.arm d.down ∧ IsD w (.agg #[.slice al d.last.length cl, .slice aw d.wait.length cw, .int .i64 (d.arm : Int), .bool d.down]) d
theorem Holds.ex {w w' : World} {p : Value} {d : D} (h : Holds w p d) (g : Ex w w') : Holds w' p d := by
  obtain ⟨b, al, cl, aw, cw, e, h1, h2⟩ := h
  exact ⟨b, al, cl, aw, cw, e, h1.ex g, h2.ex g⟩

end Go.Proofs.Ytegfdigljpnhcaa.dsk
