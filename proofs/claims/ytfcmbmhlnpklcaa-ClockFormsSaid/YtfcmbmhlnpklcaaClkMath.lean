/- What times come to, as plain numbers: sums, Short, Long, Fits. -/
namespace Go.Proofs.Ytfcmbmhlnpklcaa.clk

/-- The sum, at most the greatest int. -/
def addS (a b : Int) : Int := if 0 ≤ a ∧ 0 ≤ b then min (a + b) 9223372036854775807 else 0
def May (t e : Int) : Prop := 0 ≤ t ∧ t ≤ 1099511627776 ∧ 0 ≤ e ∧ e ≤ 500
instance (t e : Int) : Decidable (May t e) := by unfold May; exact inferInstance
def shortS (t e : Int) : Int := if May t e then t * (1000 - e) / (1000 + e) else 0
def longS (t e : Int) : Int := if May t e then (t * (1000 + e) + (1000 - e) - 1) / (1000 - e) else 0
def fitsS (b g e : Int) : Bool := decide (May b e ∧ 0 ≤ g ∧ (b * (1000 - e) + 999) / 1000 ≤ g ∧ g ≤ b * (1000 + e) / 1000)

theorem mul_bd (t m M : Int) (h1 : 0 ≤ t) (h2 : t ≤ 1099511627776) (h3 : 0 ≤ m) (h4 : m ≤ M) : 0 ≤ t * m ∧ t * m ≤ 1099511627776 * M :=
  ⟨Int.mul_nonneg h1 h3, Int.le_trans (Int.mul_le_mul_of_nonneg_right h2 h3) (Int.mul_le_mul_of_nonneg_left h4 (by omega))⟩

theorem le_short (t e g : Int) (h : May t e) : g ≤ shortS t e ↔ g * (1000 + e) ≤ t * (1000 - e) := by
  obtain ⟨h1, h2, h3, h4⟩ := id h
  rw [shortS, if_pos h, Int.le_ediv_iff_mul_le (by omega)]
theorem long_le (t e g : Int) (h : May t e) : longS t e ≤ g ↔ t * (1000 + e) ≤ g * (1000 - e) := by
  obtain ⟨h1, h2, h3, h4⟩ := id h
  rw [longS, if_pos h]
  rw [show (t * (1000 + e) + (1000 - e) - 1) / (1000 - e) ≤ g ↔ (t * (1000 + e) + (1000 - e) - 1) / (1000 - e) < g + 1 by omega, Int.ediv_lt_iff_lt_mul (by omega), Int.add_mul]
  omega
theorem mul_mono {a b m : Int} (h : a ≤ b) (hm : 0 ≤ m) : a * m ≤ b * m := Int.mul_le_mul_of_nonneg_right h hm
theorem mul_mono' {a b m : Int} (h : a ≤ b) (hm : 0 ≤ m) : m * a ≤ m * b := Int.mul_le_mul_of_nonneg_left h hm
theorem short_nonneg (t e : Int) : 0 ≤ shortS t e := by
  by_cases h : May t e
  · obtain ⟨h1, h2, h3, h4⟩ := id h
    rw [le_short t e 0 h]
    have := mul_bd t (1000 - e) 1000 h1 h2 (by omega) (by omega)
    omega
  · simp [shortS, h]
theorem short_le_self (t e : Int) (h : May t e) : shortS t e ≤ t := by
  obtain ⟨h1, h2, h3, h4⟩ := id h
  have := (le_short t e _ h).1 (Int.le_refl _)
  have hs := short_nonneg t e
  have a := mul_mono' (a := 1000 - e) (b := 1000 + e) (m := t) (by omega) h1
  by_cases c : shortS t e ≤ t
  · exact c
  · have b := mul_mono (a := t + 1) (b := shortS t e) (m := 1000 + e) (by omega) (by omega)
    rw [Int.add_mul] at b
    omega
theorem self_le_long (t e : Int) (h : May t e) : t ≤ longS t e := by
  obtain ⟨h1, h2, h3, h4⟩ := id h
  have k := (long_le t e _ h).1 (Int.le_refl _)
  have a := mul_mono' (a := 1000 - e) (b := 1000 + e) (m := t) (by omega) h1
  by_cases c : t ≤ longS t e
  · exact c
  · have b := mul_mono (a := longS t e + 1) (b := t) (m := 1000 - e) (by omega) (by omega)
    rw [Int.add_mul] at b
    omega
theorem long_bd (t e M : Int) (h : May t e) (hM : 3 * t ≤ M) : longS t e ≤ M := by
  obtain ⟨h1, h2, h3, h4⟩ := id h
  rw [long_le t e _ h]
  have a := mul_mono' (a := 1000 + e) (b := 1500) (m := t) (by omega) h1
  have b := mul_mono (a := 3 * t) (b := M) (m := 1000 - e) hM (by omega)
  have c := mul_mono' (a := 500) (b := 1000 - e) (m := 3 * t) (by omega) (by omega)
  omega
theorem short_up (t u x : Int) (h : May t x) (h' : May u x) (htu : t ≤ u) : shortS t x ≤ shortS u x := by
  obtain ⟨h1, h2, h3, h4⟩ := id h
  rw [le_short u x _ h']
  have k := (le_short t x _ h).1 (Int.le_refl _)
  have := mul_mono (m := 1000 - x) htu (by omega)
  omega
theorem long_up (t u x : Int) (h : May t x) (h' : May u x) (htu : t ≤ u) : longS t x ≤ longS u x := by
  obtain ⟨h1, h2, h3, h4⟩ := id h
  rw [long_le t x _ h]
  have k := (long_le u x _ h').1 (Int.le_refl _)
  have := mul_mono (m := 1000 + x) htu (by omega)
  omega
theorem short_wide (t x y : Int) (h : May t x) (h' : May t y) (hxy : x ≤ y) : shortS t y ≤ shortS t x := by
  obtain ⟨h1, h2, h3, h4⟩ := id h
  rw [le_short t x _ h]
  have k := (le_short t y _ h').1 (Int.le_refl _)
  have a := mul_mono' (a := 1000 + x) (b := 1000 + y) (m := shortS t y) (by omega) (short_nonneg t y)
  have b := mul_mono' (a := 1000 - y) (b := 1000 - x) (m := t) (by omega) h1
  omega
theorem long_wide (t x y : Int) (h : May t x) (h' : May t y) (hxy : x ≤ y) : longS t x ≤ longS t y := by
  obtain ⟨h1, h2, h3, h4⟩ := id h
  rw [long_le t x _ h]
  have k := (long_le t y _ h').1 (Int.le_refl _)
  have hl := self_le_long t y h'
  have a := mul_mono' (a := 1000 + x) (b := 1000 + y) (m := t) (by omega) h1
  have b := mul_mono' (a := 1000 - y) (b := 1000 - x) (m := longS t y) (by omega) (by omega)
  omega
theorem short_long (t x : Int) (h : May t x) (h' : May (longS t x) x) : t ≤ shortS (longS t x) x := by
  rw [le_short _ x _ h']
  exact (long_le t x _ h).1 (Int.le_refl _)
theorem long_short (t x : Int) (h : May t x) : longS (shortS t x) x ≤ t := by
  obtain ⟨h1, h2, h3, h4⟩ := id h
  have hs := short_le_self t x h
  have hn := short_nonneg t x
  rw [long_le _ x _ ⟨hn, by omega, h3, h4⟩]
  exact (le_short t x _ h).1 (Int.le_refl _)

end Go.Proofs.Ytfcmbmhlnpklcaa.clk
