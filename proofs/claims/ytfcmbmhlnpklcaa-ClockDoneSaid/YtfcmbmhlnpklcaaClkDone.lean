/- ClockDone: whoever counts Short of a term by its own clock is done ahead of whoever counts the term by another one. No condition. -/
import Derived.Test.YtfcmbmhlnpklcaaRows
import Derived.Test.YtfcmbmhlnpklcaaClkBegun
import Derived.Test.YtfcmbmhlnpklcaaFrame
import Derived.Deep.DeepCutAuto
namespace Go.Proofs.Ytfcmbmhlnpklcaa.clockDone
open Go.ChangeShapes Go.WideShapes Go.ChangeAt Go.RowKit
open clk

def RB (wr : World) (s12 s13 s14 : Value) (wx : World) : Prop :=
  ∃ b x y : Int, s12 = .int .i64 b ∧ s13 = .int .i64 x ∧ s14 = .int .i64 y ∧ 0 ≤ b ∧ b ≤ 2550 ∧ x ≤ 10000 ∧ y ≤ 10000 ∧ wr = wx
def RL (wc : World) (eps : Int) (len : Nat) (s9 s10 s11 : Value) (wr : World) : Prop :=
  ∃ (k : Nat) (T m i : Int), k ≤ len ∧ s9 = .int .i64 m ∧ s10 = .int .i64 i ∧ s11 = .int .i64 k ∧ Two eps T m i ∧ m ≤ 10000 * k ∧ i ≤ 10000 * k ∧ Ex wc wr

theorem prod_bd (a b A B : Int) (h1 : 0 ≤ a) (h2 : a ≤ A) (h3 : 0 ≤ b) (h4 : b ≤ B) : 0 ≤ a * b ∧ a * b ≤ A * B :=
  ⟨Int.mul_nonneg h1 h3, Int.le_trans (Int.mul_le_mul_of_nonneg_right h2 h3) (Int.mul_le_mul_of_nonneg_left h4 (by omega))⟩

set_option maxRecDepth 100000 in
set_option maxHeartbeats 4000000 in
theorem walk (w : World) (a0 : Int) (w0 : (Lit.int .u16 a0).wf = true) (a1 : Int) (w1 : (Lit.int .u16 a1).wf = true) (v : Value) (len : Nat) (Z : Nat → Nat → Int) (hg : IsGrid 3 w v len Z) :
    Calls Try.prog 4 #[.int .u16 a0, .int .u16 a1, v] w fun e w' => e = .returned (.bool true) ∧ Ex w w' := by
  have b0 := bounds_u16 w0
  have b1 := bounds_u16 w1
  clear w0 w1
  obtain ⟨a, cap, rfl, hlc, hcm, hcells⟩ := hg
  unfold maxLen at hcm
  by_cases hl : len ≤ 12
  · have e0 : 0 ≤ a1 % 501 := by omega
    have e1 : a1 % 501 ≤ 500 := by omega
    go_enter Try.func4, Try.ntmps4
    go_wp2_with fail
    refine (begun_any _).mono ?_
    rintro e w1 ⟨rfl, g1⟩
    go_wp2_with fail
    generalize a1 % 501 = eps at *
    go_loopw [9, 10, 11] (RL w1 eps len) (fun _ _ i _ => len - (intOf i).toNat)
    case atStart => exact ⟨0, 0, 0, 0, by omega, rfl, rfl, rfl, Two.start _, by omega, by omega, Ex.refl _⟩
    case round =>
      obtain ⟨k, T, m, i, hk, rfl, rfl, rfl, h2, hm, hi, gk⟩ := hrel
      by_cases hlt : k < len
      · obtain ⟨b, off, rfl, hc⟩ := hcells (by omega)
        have c0 : wr.cell? ⟨b, off + k * 3, none⟩ = some (.int .u8 (Z k 0)) := gk.on (g1.on (hc k hlt 0 (by omega)).1)
        have c1 := gk.on (g1.on (hc k hlt 1 (by omega)).1)
        have c2 := gk.on (g1.on (hc k hlt 2 (by omega)).1)
        obtain ⟨z00, z01⟩ := (hc k hlt 0 (by omega)).2
        obtain ⟨z10, z11⟩ := (hc k hlt 1 (by omega)).2
        obtain ⟨z20, z21⟩ := (hc k hlt 2 (by omega)).2
        have i0 : (0 : Int) ≤ (k : Int) := by omega
        have i1 : (k : Int) < (len : Int) := by omega
        generalize Z k 0 = z0 at *
        generalize Z k 1 = z1 at *
        generalize Z k 2 = z2 at *
        clear hc hcells
        have p1 := prod_bd (z0 * 10) eps 2550 500 (by omega) (by omega) (by omega) (by omega)
        have p2 := prod_bd (2 * (z0 * 10)) eps 5100 500 (by omega) (by omega) (by omega) (by omega)
        have p3 := prod_bd z1 (2 * (z0 * 10) * eps / 1000 + 1) 255 2551 (by omega) (by omega) (by omega) (by omega)
        have p4 := prod_bd z2 (2 * (z0 * 10) * eps / 1000 + 1) 255 2551 (by omega) (by omega) (by omega) (by omega)
        go_wp2_with fail
        have x1 : z0 * 10 - z0 * 10 * eps / 1000 + z1 * (2 * (z0 * 10) * eps / 1000 + 1) / 256 ≤ 10000 := by omega
        have y1 : z0 * 10 - z0 * 10 * eps / 1000 + z2 * (2 * (z0 * 10) * eps / 1000 + 1) / 256 ≤ 10000 := by omega
        generalize z0 * 10 - z0 * 10 * eps / 1000 + z1 * (2 * (z0 * 10) * eps / 1000 + 1) / 256 = x at x1 ⊢
        generalize z0 * 10 - z0 * 10 * eps / 1000 + z2 * (2 * (z0 * 10) * eps / 1000 + 1) / 256 = y at y1 ⊢
        clear p1 p2 p3 p4
        have ma : May a0 eps := ⟨by omega, by omega, by omega, by omega⟩
        by_cases hx : fitsS (z0 * 10) x eps = true
        · by_cases hy : fitsS (z0 * 10) y eps = true
          · have xs := Two.step h2 hx hy
            have x0 := ((fits_iff _ _ _).1 hx).2.1
            have y0 := ((fits_iff _ _ _).1 hy).2.1
            have m0 := h2.m0
            have i00 := h2.i0
            have HX := Lib.hid hx
            have HY := Lib.hid hy
            clear hx hy
            refine (fits_is _ _ _ true _ HX.out (by omega)).mono ?_
            rintro e w' ⟨rfl, g3⟩
            replace gk := Ex.trans gk g3
            clear g3
            go_wp2_with fail
            refine (fits_is _ _ _ true _ HY.out (by omega)).mono ?_
            rintro e w' ⟨rfl, g3⟩
            replace gk := Ex.trans gk g3
            clear g3
            go_wp2_with fail
            refine (add_is m x (m + x) _ (addS_of _ _ (by omega) (by omega) (by omega)) (by omega) (by omega)).mono ?_
            rintro e w' ⟨rfl, g3⟩
            replace gk := Ex.trans gk g3
            clear g3
            go_wp2_with fail
            refine (add_is i y (i + y) _ (addS_of _ _ (by omega) (by omega) (by omega)) (by omega) (by omega)).mono ?_
            rintro e w' ⟨rfl, g3⟩
            replace gk := Ex.trans gk g3
            clear g3
            have ns := xs.short ma
            have nl := xs.long ma
            have mb : m + x ≤ 10000 * (k + 1 : Nat) := by omega
            have ib : i + y ≤ 10000 * (k + 1 : Nat) := by omega
            generalize m + x = m' at *
            generalize i + y = i' at *
            have HM := Lib.hid ma
            have HXs := Lib.hid xs
            clear ma xs h2
            go_wp2_with fail
            refine (short_any _ _ _).mono ?_
            rintro e w' ⟨rfl, g3⟩
            replace gk := Ex.trans gk g3
            clear g3
            by_cases cs : m' < shortS a0 eps
            · have d1 : decide (m' < shortS a0 eps) = true := decide_eq_true cs
              have d2 : decide (a0 ≤ i') = false := decide_eq_false (fun h => by have := ns h; omega)
              have d3 : ¬ longS a0 eps ≤ m' := fun h => by have := nl h; have := ns this; omega
              have d4 : decide (longS a0 eps ≤ m') = false := decide_eq_false d3
              clear ns nl cs d3
              go_wp2_with fail
              refine (long_any _ _ _).mono ?_
              rintro e w' ⟨rfl, g3⟩
              replace gk := Ex.trans gk g3
              clear g3
              go_wp2_with fail
              go_roundw
              case rel => exact ⟨k + 1, _, m', i', by omega, rfl, rfl, by go_num, HXs.out, mb, ib, gk⟩
              case measure => simp [intOf]; omega
            · have d1 : decide (m' < shortS a0 eps) = false := decide_eq_false cs
              by_cases cl : longS a0 eps ≤ m'
              · have d2 : decide (longS a0 eps ≤ m') = true := decide_eq_true cl
                have d3 : decide (i' < a0) = false := decide_eq_false (fun h => by have := nl cl; omega)
                clear ns nl cs cl
                go_wp2_with fail
                refine (long_any _ _ _).mono ?_
                rintro e w' ⟨rfl, g3⟩
                replace gk := Ex.trans gk g3
                clear g3
                go_wp2_with fail
                go_roundw
                case rel => exact ⟨k + 1, _, m', i', by omega, rfl, rfl, by go_num, HXs.out, mb, ib, gk⟩
                case measure => simp [intOf]; omega
              · have d2 : decide (longS a0 eps ≤ m') = false := decide_eq_false cl
                clear ns nl cs cl
                go_wp2_with fail
                refine (long_any _ _ _).mono ?_
                rintro e w' ⟨rfl, g3⟩
                replace gk := Ex.trans gk g3
                clear g3
                go_wp2_with fail
                go_roundw
                case rel => exact ⟨k + 1, _, m', i', by omega, rfl, rfl, by go_num, HXs.out, mb, ib, gk⟩
                case measure => simp [intOf]; omega
          · have HX := Lib.hid hx
            have HY := Lib.hid (Bool.eq_false_iff.2 hy)
            have H2 := Lib.hid h2
            clear hx hy h2
            refine (fits_is _ _ _ true _ HX.out (by omega)).mono ?_
            rintro e w' ⟨rfl, g3⟩
            replace gk := Ex.trans gk g3
            clear g3
            go_wp2_with fail
            refine (fits_is _ _ _ false _ HY.out (by omega)).mono ?_
            rintro e w' ⟨rfl, g3⟩
            replace gk := Ex.trans gk g3
            clear g3
            go_wp2_with fail
            go_roundw
            case rel => exact ⟨k + 1, T, m, i, by omega, rfl, rfl, by go_num, H2.out, by omega, by omega, gk⟩
            case measure => simp [intOf]; omega
        · have HX := Lib.hid (Bool.eq_false_iff.2 hx)
          have H2 := Lib.hid h2
          clear hx h2
          refine (fits_is _ _ _ false _ HX.out (by omega)).mono ?_
          rintro e w' ⟨rfl, g3⟩
          replace gk := Ex.trans gk g3
          clear g3
          go_wp2_with fail
          go_roundw
          case rel => exact ⟨k + 1, T, m, i, by omega, rfl, rfl, by go_num, H2.out, by omega, by omega, gk⟩
          case measure => simp [intOf]; omega
      · replace gk := Ex.trans g1 gk
        have ma : May a0 eps := ⟨by omega, by omega, by omega, by omega⟩
        have d1 : decide (shortS a0 eps ≤ a0) = true := decide_eq_true (short_le_self _ _ ma)
        have d2 : decide (a0 ≤ longS a0 eps) = true := decide_eq_true (self_le_long _ _ ma)
        clear ma h2 hcells
        go_wp2_with fail
        refine (short_any _ _ _).mono ?_
        rintro e w' ⟨rfl, g3⟩
        replace gk := Ex.trans gk g3
        clear g3
        go_wp2_with fail
        refine (long_any _ _ _).mono ?_
        rintro e w' ⟨rfl, g3⟩
        replace gk := Ex.trans gk g3
        clear g3
        go_wp2_with fail
        go_ret
        exact ⟨rfl, gk⟩
  · have hl' : (12 : Int) < (len : Int) := by omega
    clear hcells
    go_enter Try.func4, Try.ntmps4
    go_wp2_with fail
    refine (begun_any _).mono ?_
    rintro e w1 ⟨rfl, g1⟩
    go_wp2_with fail
    go_ret
    exact ⟨rfl, g1⟩

end Go.Proofs.Ytfcmbmhlnpklcaa.clockDone
