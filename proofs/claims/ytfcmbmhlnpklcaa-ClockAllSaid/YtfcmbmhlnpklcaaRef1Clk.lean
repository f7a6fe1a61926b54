/- Contracts of the document's answer to clock (tenancyref1): the same plain numbers. -/
import Derived.Test.YtfcmbmhlnpklcaaClk
namespace Go.Proofs.Ytfcmbmhlnpklcaa.clk
open Go.RowKit

theorem refMay_yes (t e : Int) (w : World) (h : May t e) :
    Calls Try.prog 22 #[.int .i64 t, .int .i64 e] w fun en w' => en = .returned (.bool true) ∧ w = w' := by
  obtain ⟨h1, h2, h3, h4⟩ := h
  go_enter Try.func22, Try.ntmps22
  go_wp2
  go_ret
  exact ⟨rfl, rfl⟩

theorem refMay_no (t e : Int) (w : World) (h : ¬ May t e) :
    Calls Try.prog 22 #[.int .i64 t, .int .i64 e] w fun en w' => en = .returned (.bool false) ∧ w = w' := by
  by_cases h1 : 0 ≤ t
  · by_cases h2 : t ≤ 1099511627776
    · by_cases h3 : 0 ≤ e
      · have h4 : ¬ e ≤ 500 := by unfold May at h; omega
        have hd : decide (e ≤ 500) = false := decide_eq_false h4
        clear h
        go_enter Try.func22, Try.ntmps22
        go_wp2
        go_ret
        exact ⟨rfl, rfl⟩
      · clear h
        go_enter Try.func22, Try.ntmps22
        go_wp2
        go_ret
        exact ⟨rfl, rfl⟩
    · clear h
      go_enter Try.func22, Try.ntmps22
      go_wp2
      go_ret
      exact ⟨rfl, rfl⟩
  · clear h
    go_enter Try.func22, Try.ntmps22
    go_wp2
    go_ret
    exact ⟨rfl, rfl⟩

theorem refAdd (a b : Int) (w : World) (h1 : 0 ≤ a) (h2 : 0 ≤ b) (h3 : a ≤ 9223372036854775807) (h4 : b ≤ 9223372036854775807) :
    Calls Try.prog 10 #[.int .i64 a, .int .i64 b] w fun en w' => en = .returned (.int .i64 (addS a b)) ∧ w = w' := by
  have HS := Lib.hid (show addS a b = min (a + b) 9223372036854775807 by simp [addS, h1, h2])
  go_enter Try.func10, Try.ntmps10
  go_wp2
  all_goals
    go_ret
    exact ⟨by rw [HS.out]; exact congrArg Ending.returned (vint (by omega)), rfl⟩

theorem refShort (t e : Int) (w : World) :
    Calls Try.prog 12 #[.int .i64 t, .int .i64 e] w fun en w' => en = .returned (.int .i64 (shortS t e)) ∧ w = w' := by
  by_cases h : May t e
  · have HS := Lib.hid (show shortS t e = t * (1000 - e) / (1000 + e) by simp [shortS, h])
    have HM := Lib.hid h
    obtain ⟨h1, h2, h3, h4⟩ := h
    obtain ⟨b1, b2⟩ := mul_bd t (1000 - e) 1000 h1 h2 (by omega) (by omega)
    go_enter Try.func12, Try.ntmps12
    go_wp2_with (go_at_call 22; refine (refMay_yes _ _ _ HM.out).mono ?_; rintro e w' ⟨rfl, rfl⟩)
    go_ret
    exact ⟨by rw [HS.out]; exact congrArg Ending.returned (vint rfl), rfl⟩
  · have HS := Lib.hid (show shortS t e = 0 by simp [shortS, h])
    have HM := Lib.hid h
    clear h
    go_enter Try.func12, Try.ntmps12
    go_wp2_with (go_at_call 22; refine (refMay_no _ _ _ HM.out).mono ?_; rintro e w' ⟨rfl, rfl⟩)
    go_ret
    exact ⟨by rw [HS.out]; exact congrArg Ending.returned (vint rfl), rfl⟩

theorem cdiv_eq (n d : Int) (h1 : 0 ≤ n) (h2 : 0 < d) (h : n % d = 0) : (n + d - 1) / d = n / d := by
  obtain ⟨k, rfl⟩ := Int.dvd_of_emod_eq_zero h
  rw [show d * k + d - 1 = (d - 1) + d * k by omega, Int.add_mul_ediv_left _ _ (by omega), Int.mul_ediv_cancel_left _ (by omega), Int.ediv_eq_zero_of_lt (by omega) (by omega)]
  omega
theorem cdiv_ne (n d : Int) (h2 : 0 < d) (h : ¬ n % d = 0) : (n + d - 1) / d = n / d + 1 := by
  have e := Int.mul_ediv_add_emod n d
  have p := Int.emod_nonneg n (by omega : d ≠ 0)
  have q := Int.emod_lt_of_pos n h2
  rw [show n + d - 1 = (n % d - 1) + d * (n / d + 1) by rw [Int.mul_add]; omega, Int.add_mul_ediv_left _ _ (by omega), Int.ediv_eq_zero_of_lt (by omega) (by omega)]
  omega

theorem refLong (t e : Int) (w : World) :
    Calls Try.prog 14 #[.int .i64 t, .int .i64 e] w fun en w' => en = .returned (.int .i64 (longS t e)) ∧ w = w' := by
  by_cases h : May t e
  · have HS := Lib.hid (show longS t e = (t * (1000 + e) + (1000 - e) - 1) / (1000 - e) by simp [longS, h])
    have HM := Lib.hid h
    obtain ⟨h1, h2, h3, h4⟩ := h
    obtain ⟨b1, b2⟩ := mul_bd t (1000 + e) 1500 h1 h2 (by omega) (by omega)
    by_cases hz : t * (1000 + e) % (1000 - e) = 0
    · have HC := Lib.hid (cdiv_eq _ _ b1 (by omega : 0 < 1000 - e) hz)
      have hd : (t * (1000 + e) % (1000 - e) == 0) = true := by simpa using hz
      clear hz
      go_enter Try.func14, Try.ntmps14
      go_wp2_with (go_at_call 22; refine (refMay_yes _ _ _ HM.out).mono ?_; rintro e w' ⟨rfl, rfl⟩)
      go_ret
      exact ⟨by rw [HS.out, HC.out]; exact congrArg Ending.returned (vint rfl), rfl⟩
    · have HC := Lib.hid (cdiv_ne _ _ (by omega : 0 < 1000 - e) hz)
      have hd : (t * (1000 + e) % (1000 - e) == 0) = false := by simpa using hz
      have hq : t * (1000 + e) / (1000 - e) ≤ t * (1000 + e) := Int.ediv_le_self _ b1
      have hq0 : 0 ≤ t * (1000 + e) / (1000 - e) := Int.ediv_nonneg b1 (by omega)
      clear hz
      go_enter Try.func14, Try.ntmps14
      go_wp2_with (go_at_call 22; refine (refMay_yes _ _ _ HM.out).mono ?_; rintro e w' ⟨rfl, rfl⟩)
      go_ret
      exact ⟨by rw [HS.out, HC.out]; exact congrArg Ending.returned (vint rfl), rfl⟩
  · have HS := Lib.hid (show longS t e = 0 by simp [longS, h])
    have HM := Lib.hid h
    clear h
    go_enter Try.func14, Try.ntmps14
    go_wp2_with (go_at_call 22; refine (refMay_no _ _ _ HM.out).mono ?_; rintro e w' ⟨rfl, rfl⟩)
    go_ret
    exact ⟨by rw [HS.out]; exact congrArg Ending.returned (vint rfl), rfl⟩

theorem refFits (t g e : Int) (w : World) :
    Calls Try.prog 16 #[.int .i64 t, .int .i64 g, .int .i64 e] w fun en w' => en = .returned (.bool (fitsS t g e)) ∧ w = w' := by
  by_cases h : May t e
  · have HM := Lib.hid h
    obtain ⟨h1, h2, h3, h4⟩ := id h
    obtain ⟨b1, b2⟩ := mul_bd t (1000 - e) 1000 h1 h2 (by omega) (by omega)
    obtain ⟨c1, c2⟩ := mul_bd t (1000 + e) 1500 h1 h2 (by omega) (by omega)
    by_cases hg0 : 0 ≤ g
    · by_cases hg2 : g ≤ 2199023255552
      · by_cases hl : t * (1000 - e) ≤ g * 1000
        · have HS := Lib.hid (show fitsS t g e = decide (g * 1000 ≤ t * (1000 + e)) by
            have : (t * (1000 - e) + 999) / 1000 ≤ g := by omega
            have k : (g ≤ t * (1000 + e) / 1000) ↔ (g * 1000 ≤ t * (1000 + e)) := by omega
            simp [fitsS, h, hg0, this, k])
          clear h
          have hd : decide (t * (1000 - e) ≤ g * 1000) = true := by simpa using hl
          go_enter Try.func16, Try.ntmps16
          go_wp2_with (go_at_call 22; refine (refMay_yes _ _ _ HM.out).mono ?_; rintro e w' ⟨rfl, rfl⟩)
          go_ret
          exact ⟨by rw [HS.out]; rfl, rfl⟩
        · have HS := Lib.hid (show fitsS t g e = false by
            have : ¬ (t * (1000 - e) + 999) / 1000 ≤ g := by omega
            simp [fitsS, this])
          clear h
          have hd : decide (t * (1000 - e) ≤ g * 1000) = false := by simpa using hl
          go_enter Try.func16, Try.ntmps16
          go_wp2_with (go_at_call 22; refine (refMay_yes _ _ _ HM.out).mono ?_; rintro e w' ⟨rfl, rfl⟩)
          go_ret
          exact ⟨by rw [HS.out]; rfl, rfl⟩
      · have HS := Lib.hid (show fitsS t g e = false by
          have : ¬ g ≤ t * (1000 + e) / 1000 := by omega
          simp [fitsS, this])
        clear h
        go_enter Try.func16, Try.ntmps16
        go_wp2_with (go_at_call 22; refine (refMay_yes _ _ _ HM.out).mono ?_; rintro e w' ⟨rfl, rfl⟩)
        go_ret
        exact ⟨by rw [HS.out]; rfl, rfl⟩
    · have HS := Lib.hid (show fitsS t g e = false by simp [fitsS, hg0])
      clear h
      go_enter Try.func16, Try.ntmps16
      go_wp2_with (go_at_call 22; refine (refMay_yes _ _ _ HM.out).mono ?_; rintro e w' ⟨rfl, rfl⟩)
      go_ret
      exact ⟨by rw [HS.out]; rfl, rfl⟩
  · have HS := Lib.hid (show fitsS t g e = false by simp [fitsS, h])
    have HM := Lib.hid h
    clear h
    go_enter Try.func16, Try.ntmps16
    go_wp2_with (go_at_call 22; refine (refMay_no _ _ _ HM.out).mono ?_; rintro e w' ⟨rfl, rfl⟩)
    go_ret
    exact ⟨by rw [HS.out]; rfl, rfl⟩

end Go.Proofs.Ytfcmbmhlnpklcaa.clk
