/- ClockSums: time that passes piece by piece within its bound is within it all together, and sums do not go round. No condition. -/
import Derived.Test.YtfcmbmhlnpklcaaRows
import Derived.Test.YtfcmbmhlnpklcaaClkBegun
import Derived.Test.YtfcmbmhlnpklcaaFrame
import Derived.Deep.DeepCutAuto
namespace Go.Proofs.Ytfcmbmhlnpklcaa.clockSums
open Go.ChangeShapes Go.WideShapes Go.ChangeAt Go.RowKit
open clk

def RL (wc : World) (eps : Int) (len : Nat) (s10 s11 s12 : Value) (wr : World) : Prop :=
  ∃ (k : Nat) (b g : Int), k ≤ len ∧ s10 = .int .i64 b ∧ s11 = .int .i64 g ∧ s12 = .int .i64 k ∧ fitsS b g eps = true ∧ 0 ≤ b ∧ b ≤ 255 * k ∧ 0 ≤ g ∧ g ≤ 1000 * k ∧ Ex wc wr
def RXY (w1 : World) (s15 s16 : Value) (wx : World) : Prop := ∃ x y : Int, s15 = .int .i64 x ∧ s16 = .int .i64 y ∧ 0 ≤ x ∧ x ≤ 9223372036854775807 ∧ 0 ≤ y ∧ y ≤ 9223372036854775807 ∧ w1 = wx

set_option maxRecDepth 100000 in
set_option maxHeartbeats 4000000 in
theorem walk (w : World) (a0 : Int) (w0 : (Lit.int .u16 a0).wf = true) (v : Value) (len : Nat) (Z : Nat → Nat → Int) (hg : IsGrid 2 w v len Z) (a2 : Int) (w2 : (Lit.int .i64 a2).wf = true) (a3 : Int) (w3 : (Lit.int .i64 a3).wf = true) :
    Calls Try.prog 5 #[.int .u16 a0, v, .int .i64 a2, .int .i64 a3] w fun e w' => e = .returned (.bool true) ∧ Ex w w' := by
  have b0 := bounds_u16 w0
  have b2 := bounds_i64 w2
  have b3 := bounds_i64 w3
  clear w0 w2 w3
  obtain ⟨a, cap, rfl, hlc, hcm, hcells⟩ := hg
  unfold maxLen at hcm
  by_cases hl : len ≤ 12
  · have e0 : 0 ≤ a0 % 501 := by omega
    have e1 : a0 % 501 ≤ 500 := by omega
    go_enter Try.func5, Try.ntmps5
    go_wp2_with fail
    refine (begun_any _).mono ?_
    rintro e w1 ⟨rfl, g1⟩
    go_wp2_with fail
    generalize a0 % 501 = eps at *
    go_loopw [10, 11, 12] (RL w1 eps len) (fun _ _ i _ => len - (intOf i).toNat)
    case atStart => exact ⟨0, 0, 0, by omega, rfl, rfl, rfl, fits_zero _ e0 e1, by omega, by omega, by omega, by omega, Ex.refl _⟩
    case round =>
      obtain ⟨k, b', g', hk, rfl, rfl, rfl, hf, hb0, hb, hg0, hg', gk⟩ := hrel
      by_cases hlt : k < len
      · obtain ⟨b, off, rfl, hc⟩ := hcells (by omega)
        have c0 : wr.cell? ⟨b, off + k * 2, none⟩ = some (.int .u8 (Z k 0)) := gk.on (g1.on (hc k hlt 0 (by omega)).1)
        have c1 := gk.on (g1.on (hc k hlt 1 (by omega)).1)
        obtain ⟨z00, z01⟩ := (hc k hlt 0 (by omega)).2
        obtain ⟨z10, z11⟩ := (hc k hlt 1 (by omega)).2
        have i0 : (0 : Int) ≤ (k : Int) := by omega
        have i1 : (k : Int) < (len : Int) := by omega
        generalize Z k 0 = z0 at *
        generalize Z k 1 = z1 at *
        clear hc hcells
        have m0 : 0 ≤ z1 % (z0 / 2 + 1) := Int.emod_nonneg _ (by omega)
        have m1 : z1 % (z0 / 2 + 1) ≤ 255 := by have := Int.emod_lt_of_pos z1 (show 0 < z0 / 2 + 1 by omega); omega
        have HF := Lib.hid hf
        clear hf
        go_wp2_with fail
        have y0 : 0 ≤ z0 - z0 / 4 + z1 % (z0 / 2 + 1) := by omega
        have y1 : z0 - z0 / 4 + z1 % (z0 / 2 + 1) ≤ 1000 := by omega
        generalize z0 - z0 / 4 + z1 % (z0 / 2 + 1) = y at y0 y1 ⊢
        by_cases hy : fitsS z0 y eps = true
        · have HS := Lib.hid (fits_sum HF.out hy (by omega))
          have HY := Lib.hid hy
          clear hy
          refine (fits_is _ _ _ true _ HY.out (by omega)).mono ?_
          rintro e w' ⟨rfl, g3⟩
          replace gk := Ex.trans gk g3
          clear g3
          go_wp2_with fail
          go_roundw
          case rel => exact ⟨k + 1, b' + z0, g' + y, by omega, rfl, rfl, by go_num, HS.out, by omega, by omega, by omega, by omega, gk⟩
          case measure => simp [intOf]; omega
        · have HY := Lib.hid (Bool.eq_false_iff.2 hy)
          clear hy
          refine (fits_is _ _ _ false _ HY.out (by omega)).mono ?_
          rintro e w' ⟨rfl, g3⟩
          replace gk := Ex.trans gk g3
          clear g3
          go_wp2_with fail
          go_roundw
          case rel => exact ⟨k + 1, b', g', by omega, rfl, rfl, by go_num, HF.out, by omega, by omega, by omega, by omega, gk⟩
          case measure => simp [intOf]; omega
      · replace gk := Ex.trans g1 gk
        have HF := Lib.hid hf
        clear hf hcells
        go_upto_region 14 with fail
        go_cut [15, 16] (RXY wr)
        case first =>
          go_wp2_with fail
          all_goals
            go_meet
            refine ⟨_, _, rfl, rfl, ?_, ?_, ?_, ?_, rfl⟩ <;> omega
        case rest =>
          obtain ⟨x, y, rfl, rfl, hx0, hx1, hy0, hy1, rfl⟩ := hcut
          obtain ⟨s1, s2, s3, s4⟩ := addS_facts x y hx0 hy0 hx1 hy1
          have HC := Lib.hid (addS_comm y x)
          go_wp2_with fail
          refine (add_any _ _ _ hx1 hy1).mono ?_
          rintro e w' ⟨rfl, g3⟩
          replace gk := Ex.trans gk g3
          clear g3
          have HA := Lib.hid (add_is y x (addS x y) · HC.out hy1 hx1)
          generalize addS x y = s at s1 s2 s3 s4 HA ⊢
          have d1 : decide (x ≤ s) = true := decide_eq_true s1
          have d2 : decide (y ≤ s) = true := decide_eq_true s2
          by_cases h4 : s = 9223372036854775807
          · have d3 : (s == 9223372036854775807) = true := beq_iff_eq.2 h4
            clear h4 s4
            go_wp2_with fail
            refine (fits_is _ _ _ true _ HF.out (by omega)).mono ?_
            rintro e w' ⟨rfl, g3⟩
            replace gk := Ex.trans gk g3
            clear g3
            go_wp2_with fail
            refine (HA.out _).mono ?_
            rintro e w' ⟨rfl, g3⟩
            replace gk := Ex.trans gk g3
            clear g3
            go_wp2_with fail
            go_ret
            exact ⟨by simp, gk⟩
          · have d3 : (s == 9223372036854775807) = false := beq_eq_false_iff_ne.2 h4
            have d4 : (s - x == y) = true := beq_iff_eq.2 (by omega)
            clear h4 s4
            go_wp2_with fail
            refine (fits_is _ _ _ true _ HF.out (by omega)).mono ?_
            rintro e w' ⟨rfl, g3⟩
            replace gk := Ex.trans gk g3
            clear g3
            go_wp2_with fail
            refine (HA.out _).mono ?_
            rintro e w' ⟨rfl, g3⟩
            replace gk := Ex.trans gk g3
            clear g3
            go_wp2_with fail
            go_ret
            exact ⟨by simp, gk⟩
  · have hl' : (12 : Int) < (len : Int) := by omega
    clear hcells
    go_enter Try.func5, Try.ntmps5
    go_wp2_with fail
    refine (begun_any _).mono ?_
    rintro e w1 ⟨rfl, g1⟩
    go_wp2_with fail
    go_ret
    exact ⟨rfl, g1⟩

end Go.Proofs.Ytfcmbmhlnpklcaa.clockSums
