/- What the disk's laws need: Crash, begun. -/
import Derived.Test.YtfcdbknmajfkaaaSymD
import Derived.Test.YtfcdbknmajfkaaaDskBegun
namespace Go.Proofs.Ytfcdbknmajfkaaa.symD
open Go Go.RowKit eng dsk
set_option linter.unusedVariables false
set_option linter.unusedSimpArgs false
set_option maxRecDepth 100000

def RBegun (ps qs : List PV) : Prop := ps = [] ∧ qs = [pB true]
def EBegun : FnE := { k := 5, ins := [], leaks := [], outs := [none], kinds := [.truth] }
theorem fBegun : ∀ ps q1 q2, RBegun ps q1 → RBegun ps q2 → q1 = q2 := by
  rintro ps q1 q2 ⟨_, rfl⟩ ⟨_, rfl⟩; rfl
theorem toldBegun : ToldF 12 EBegun (spec RBegun) := by
  intro w FP us ps qs hs hul hpl hFP hrd
  obtain ⟨rfl, rfl⟩ := of_spec hs
  obtain rfl : us = [] := List.eq_nil_of_length_eq_zero (by simpa using hul)
  refine (begun_any5 w).mono ?_
  rintro e w' ⟨rfl, hex⟩
  refine ⟨[.bool true], fun _ => none, rfl, rfl, owns_none rfl, fun j q u hq hu w2 _ => ?_, rfl, hex⟩
  match j, hq, hu with
  | 0, hq, hu => simp at hq hu; subst hq; subst hu; exact plain_reads rfl
  | j + 1, hq, hu => simp at hq

theorem toldCrash (k : Nat) : ToldF 17 (ECrash k) (spec RCrash) := by
  intro w FP us ps qs hs hul hpl hFP hrd
  obtain ⟨d, keep, ok, rfl, rfl⟩ := of_spec hs
  obtain ⟨a, b, c, e, x, rfl⟩ := len5 hul
  have hd := isD_of (hrd 0 _ _ rfl rfl).1 (hrd 1 _ _ rfl rfl).1 (hrd 2 _ _ rfl rfl).1 (hrd 3 _ _ rfl rfl).1
  have h4 := (reads_row encI).1 (hrd 4 _ _ rfl rfl).1
  exact fin_D rfl rfl (crash_any _ x d keep w hd h4 ok)
end Go.Proofs.Ytfcdbknmajfkaaa.symD
