/- Worlds that have grown: new blocks alone. Regions whose order is open, where each operation yields one value in every world that has grown from the one at hand: one walk in the order of the text serves every order. -/
import Derived.WalkKit
import Derived.ProofKit
import Derived.BigQuiet
import Derived.Deep.QuietTactic
import Derived.Below
import Derived.Handy
import Derived.Lib.Hide
namespace Go.Proofs.Ytgdegpifjljnoaa
open Go.RowKit

abbrev Ex (w w':World):Prop:=Below w.heap.size w w'

theorem Ex.refl (w:World):Ex w w:=Below.refl _ w
theorem Ex.trans {a b c:World} (h:Ex a b) (k:Ex b c):Ex a c:=Below.trans h (Below.mono k h.size)
theorem Ex.cell {a b:World} (h:Ex a b) (p:Addr) (hp:(a.cell? p).isSome=true):b.cell? p=a.cell? p:=by
 obtain ⟨u,hu⟩:=Option.isSome_iff_exists.1 hp
 exact Below.cell h (World.block_lt_of_cell? a _ hu)
theorem Ex.frozen {a b:World} (h:Ex a b) (p:Addr) (hp:(a.cell? p).isSome=true):b.frozen? p=a.frozen? p:=by
 obtain ⟨u,hu⟩:=Option.isSome_iff_exists.1 hp
 exact Below.frozen h (World.block_lt_of_cell? a _ hu)
theorem Ex.on {a b:World} (h:Ex a b) {p:Addr} {v:Value} (hp:a.cell? p=some v):b.cell? p=some v :=
 (Ex.cell h p (by rw [hp];rfl)).trans hp

structure After (W:World) where
 w:World
 ex:Ex W w

instance (W:World):Nonempty (After W):=⟨⟨W,Ex.refl W⟩⟩

@[simp,go_sem] theorem After.cell {W:World} (g:After W) (p:Addr) (h:(W.cell? p).isSome=true):g.w.cell? p=W.cell? p:=Ex.cell g.ex p h




end Go.Proofs.Ytgdegpifjljnoaa
