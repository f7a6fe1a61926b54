/- CrcForms: some sums. A closed statement: no condition. -/
import Derived.Test.YtobhmanalnaemaaRows
import Derived.Test.YtobhmanalnaemaaCrcLaws
namespace Go.Proofs.Ytobhmanalnaemaa.crcForms
open Go.ChangeShapes Go.WideShapes Go.ChangeAt Go.RowKit
open crc

theorem walk (w : World) : Calls Try.prog 5 #[] w fun e w' => e = .returned (.bool true) ∧ Ex w w' := by
  have kc := conv_lit
  go_enter Try.func5, Try.ntmps5
  go_wp2_with fail
  refine (begun_any _).mono ?_
  rintro e w1 ⟨rfl, g1⟩
  go_wp2_with fail
  refine (sum_one 0 0 _ _ (by omega) (by decide +kernel) (by simp [lit_cell, go_sem])).mono ?_
  rintro e w' ⟨rfl, rfl⟩
  go_wp2_with fail
  refine (sum_one 1 49345 _ _ (by omega) (by decide +kernel) (by simp [lit_cell, go_sem])).mono ?_
  rintro e w' ⟨rfl, rfl⟩
  go_wp2_with fail
  refine (sum_one 65 12480 _ _ (by omega) (by decide +kernel) (by simp [lit_cell, go_sem])).mono ?_
  rintro e w' ⟨rfl, rfl⟩
  go_wp2_with fail
  refine (sum_one 255 16448 _ _ (by omega) (by decide +kernel) (by simp [lit_cell, go_sem])).mono ?_
  rintro e w' ⟨rfl, rfl⟩
  go_wp2_with fail
  refine (sum_lit [0, 0, 0] 3 0 _ _ rfl (by omega) (by decide) (by decide +kernel) ?_).mono ?_
  · intro i hi
    rcases (show i = 0 ∨ i = 1 ∨ i = 2 by omega) with rfl | rfl | rfl <;> simp [lit_cell, go_sem]
  rintro e w' ⟨rfl, rfl⟩
  go_wp2_with fail
  go_ret
  exact ⟨rfl, Ex.trans g1 (by go_grown)⟩

end Go.Proofs.Ytobhmanalnaemaa.crcForms
