/- Whether clock does anything yet: it does. -/
import Derived.Test.YtfcmbmhlnpklcaaClk
namespace Go.Proofs.Ytfcmbmhlnpklcaa.clk
open Go.RowKit

theorem begun_any (w : World) : Calls Try.prog 8 #[] w fun e w' => e = .returned (.bool true) ∧ Ex w w' := by
  go_enter Try.func8, Try.ntmps8
  go_wp2_with fail
  refine (add_is 2 3 5 _ (by decide) (by omega) (by omega)).mono ?_
  rintro e w1 ⟨rfl, g1⟩
  go_wp2_with fail
  refine (short_is 60 100 49 _ (by decide)).mono ?_
  rintro e w2 ⟨rfl, g2⟩
  go_wp2_with fail
  refine (long_is 60 100 74 _ (by decide)).mono ?_
  rintro e w3 ⟨rfl, g3⟩
  go_wp2_with fail
  refine (fits_is 10 11 100 true _ (by decide) (by omega)).mono ?_
  rintro e w4 ⟨rfl, g4⟩
  go_wp2_with fail
  refine (fits_is 10 12 100 false _ (by decide) (by omega)).mono ?_
  rintro e w5 ⟨rfl, g5⟩
  go_wp2_with fail
  go_ret
  exact ⟨rfl, Ex.trans (Ex.trans (Ex.trans (Ex.trans g1 g2) g3) g4) g5⟩

end Go.Proofs.Ytfcmbmhlnpklcaa.clk
