/- ClockGrows: of a longer term more is counted, and of a wider bound less is held and more is waited. No condition. -/
import Derived.Test.YtfcmbmhlnpklcaaRows
import Derived.Test.YtfcmbmhlnpklcaaClkBegun
import Derived.Deep.DeepCutAuto
namespace Go.Proofs.Ytfcmbmhlnpklcaa.clockGrows
open Go.ChangeShapes Go.WideShapes Go.ChangeAt Go.RowKit
open clk

def RTU (w1 : World) (s9 s10 : Value) (wx : World) : Prop := ∃ t u : Int, s9 = .int .i64 t ∧ s10 = .int .i64 u ∧ 0 ≤ t ∧ t ≤ u ∧ u ≤ 4294967295 ∧ wx = w1
def RXY (w1 : World) (s11 s12 : Value) (wx : World) : Prop := ∃ x y : Int, s11 = .int .i64 x ∧ s12 = .int .i64 y ∧ 0 ≤ x ∧ x ≤ 500 ∧ 0 ≤ y ∧ y ≤ 500 ∧ wx = w1
def RXYo (w1 : World) (s11 s12 : Value) (wx : World) : Prop := ∃ x y : Int, s11 = .int .i64 x ∧ s12 = .int .i64 y ∧ 0 ≤ x ∧ x ≤ y ∧ y ≤ 500 ∧ wx = w1

set_option maxRecDepth 100000 in
set_option maxHeartbeats 1000000 in
theorem walk (w : World) (a0 : Int) (w0 : (Lit.int .u32 a0).wf = true) (a1 : Int) (w1 : (Lit.int .u32 a1).wf = true) (a2 : Int) (w2 : (Lit.int .u16 a2).wf = true) (a3 : Int) (w3 : (Lit.int .u16 a3).wf = true) :
    Calls Try.prog 7 #[.int .u32 a0, .int .u32 a1, .int .u16 a2, .int .u16 a3] w fun e w' => e = .returned (.bool true) ∧ Ex w w' := by
  have b0 := bounds_u32 w0
  have b1 := bounds_u32 w1
  have b2 := bounds_u16 w2
  have b3 := bounds_u16 w3
  clear w0 w1 w2 w3
  go_enter Try.func7, Try.ntmps7
  go_wp2_with fail
  refine (begun_any _).mono ?_
  rintro e w1 ⟨rfl, g1⟩
  go_upto_region 3 with fail
  go_cut [9, 10] (RTU w1)
  case first =>
    go_wp2_with fail
    all_goals
      go_meet
      refine ⟨_, _, rfl, rfl, ?_, ?_, ?_, rfl⟩ <;> omega
  case rest =>
    obtain ⟨t, u, rfl, rfl, ht0, htu, hu, rfl⟩ := hcut
    go_upto_region 4 with fail
    go_cut [11, 12] (RXY _)
    case first =>
      go_wp2_with fail
      all_goals
        go_meet
        refine ⟨_, _, rfl, rfl, ?_, ?_, ?_, ?_, rfl⟩ <;> omega
    case rest =>
      obtain ⟨x, y, rfl, rfl, hx0, hx, hy0, hy, rfl⟩ := hcut
      go_upto_if 35 with fail
      go_cut [11, 12] (RXYo _)
      case first =>
        go_wp2_with fail
        all_goals
          go_meet
          refine ⟨_, _, rfl, rfl, ?_, ?_, ?_, rfl⟩ <;> omega
      case rest =>
        clear hx0 hx hy0 hy
        clear x y
        obtain ⟨x, y, rfl, rfl, hx0, hxy, hy, rfl⟩ := hcut
        have mt : ∀ z, 0 ≤ z → z ≤ 500 → May t z := fun z h1 h2 => ⟨by omega, by omega, h1, h2⟩
        have mu : May u x := ⟨by omega, by omega, by omega, by omega⟩
        have mtx := mt x (by omega) (by omega)
        have mty := mt y (by omega) (by omega)
        have ml : May (longS t x) x := ⟨Int.le_trans ht0 (self_le_long t x mtx), by have := long_bd t x 12884901885 mtx (by omega); omega, by omega, by omega⟩
        have d1 : decide (shortS t x ≤ shortS u x) = true := decide_eq_true (short_up t u x mtx mu htu)
        have d2 : decide (longS t x ≤ longS u x) = true := decide_eq_true (long_up t u x mtx mu htu)
        have d3 : decide (shortS t y ≤ shortS t x) = true := decide_eq_true (short_wide t x y mtx mty hxy)
        have d4 : decide (longS t x ≤ longS t y) = true := decide_eq_true (long_wide t x y mtx mty hxy)
        have d5 : decide (t ≤ shortS (longS t x) x) = true := decide_eq_true (short_long t x mtx ml)
        have d6 : decide (longS (shortS t x) x ≤ t) = true := decide_eq_true (long_short t x mtx)
        clear mt mu mtx mty ml
        go_wp2_with (first
          | (go_at_call 11; refine (short_any _ _ _).mono ?_; rintro e w' ⟨rfl, g2⟩; replace g1 := Ex.trans g1 g2; clear g2)
          | (go_at_call 13; refine (long_any _ _ _).mono ?_; rintro e w' ⟨rfl, g2⟩; replace g1 := Ex.trans g1 g2; clear g2))
        go_ret
        exact ⟨rfl, g1⟩

end Go.Proofs.Ytfcmbmhlnpklcaa.clockGrows
