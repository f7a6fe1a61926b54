/- Regions whose order is open, where each operation yields one value in every world that has grown from the one at hand: one walk in the order of the text serves every order. -/
import Derived.WalkKit
import Derived.ProofKit
import Derived.BigQuiet
import Derived.Deep.QuietTactic
import Derived.ChangeFn
namespace Go.Proofs.Ytfcmbmhlnpklcaa
open Go.RowKit

theorem grown_drewN (w : World) (n : Nat) : Grown w (w.drewN n) := Grown.refl w
theorem grown_trans {a b c : World} (h : Grown a b) (k : Grown b c) : Grown a c := by
  obtain ⟨h1, h2, h3⟩ := h
  obtain ⟨k1, k2, k3⟩ := k
  exact ⟨World.keptBut_trans h1 k1, fun x => (k2 x).trans (h2 x), Nat.le_trans h3 k3⟩
theorem grown_cell {a b : World} (h : Grown a b) (k o : Nat) (hp : (a.cell? ⟨k, o, none⟩).isSome = true) : b.cell? ⟨k, o, none⟩ = a.cell? ⟨k, o, none⟩ := by
  obtain ⟨u, hu⟩ := Option.isSome_iff_exists.1 hp
  exact World.keptBut.cell h.1 (World.block_lt_of_cell? a _ hu) (fun f => f)

/-- A world that has grown from W. -/
structure After (W : World) where
  w : World
  grown : Grown W w

instance (W : World) : Nonempty (After W) := ⟨⟨W, Grown.refl W⟩⟩

@[simp, go_sem] theorem After.cell {W : World} (g : After W) (k o : Nat) (h : (W.cell? ⟨k, o, none⟩).isSome = true) : g.w.cell? ⟨k, o, none⟩ = W.cell? ⟨k, o, none⟩ :=
  grown_cell g.grown k o h

theorem wp_region_after {P : Program} {id : Nat} {Q : Exit → Act → World → Prop} {a : Act} {W : World} {l : List Oper} (hm : P.follows .mixedOrders = true) (hB : Region.lexB .any l.toArray = true)
    (h : wpQuiet P l.toArray (fun w' => ∃ g : After W, w' = g.w) (fun a' => ∀ w', (∃ g : After W, w' = g.w) → Q .normal a' w') l a) : (Code.region id l.toArray true).wp P Q a W :=
  wp_region_quiet (C := fun w' => ∃ g : After W, w' = g.w) hm hB ⟨⟨_, grown_drewN W 1⟩, rfl⟩ (by simpa using h)

theorem after_grown {W w' : World} (h : ∃ g : After W, w' = g.w) : Grown W w' := by
  obtain ⟨g, rfl⟩ := h
  exact g.grown
theorem cell_on {a b : World} (h : Grown a b) {k o : Nat} {v : Value} (hp : a.cell? ⟨k, o, none⟩ = some v) : b.cell? ⟨k, o, none⟩ = some v :=
  (grown_cell h k o (by rw [hp]; rfl)).trans hp

theorem after_of {P : Program} {f : FuncId} {args : Array Value} {W : World} {g : After W} {v : Value}
    (h : Calls P f args g.w fun e w' => e = .returned v ∧ Grown g.w w') : Calls P f args g.w fun e w'' => e = .returned v ∧ ∃ g' : After W, w'' = g'.w :=
  h.mono fun _ w'' ⟨he, hg⟩ => ⟨he, ⟨w'', grown_trans g.grown hg⟩, rfl⟩
theorem after_of_same {P : Program} {f : FuncId} {args : Array Value} {W : World} {g : After W} {v : Value}
    (h : Calls P f args g.w fun e w' => e = .returned v ∧ g.w = w') : Calls P f args g.w fun e w'' => e = .returned v ∧ ∃ g' : After W, w'' = g'.w :=
  h.mono fun _ _ ⟨he, hg⟩ => ⟨he, g, hg.symm⟩

end Go.Proofs.Ytfcmbmhlnpklcaa
