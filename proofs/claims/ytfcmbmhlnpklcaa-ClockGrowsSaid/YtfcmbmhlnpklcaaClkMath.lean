/- What times come to, as plain numbers: sums, Short, Long, Fits. -/
namespace Go.Proofs.Ytfcmbmhlnpklcaa.clk

/-- The sum, at most the greatest int. -/
def addS (a b : Int) : Int := if 0 ≤ a ∧ 0 ≤ b then min (a + b) 9223372036854775807 else 0
def May (t e : Int) : Prop := 0 ≤ t ∧ t ≤ 1099511627776 ∧ 0 ≤ e ∧ e ≤ 500
instance (t e : Int) : Decidable (May t e) := by unfold May; exact inferInstance
def shortS (t e : Int) : Int := if May t e then t * (1000 - e) / (1000 + e) else 0
def longS (t e : Int) : Int := if May t e then (t * (1000 + e) + (1000 - e) - 1) / (1000 - e) else 0
def fitsS (b g e : Int) : Bool := decide (May b e ∧ 0 ≤ g ∧ (b * (1000 - e) + 999) / 1000 ≤ g ∧ g ≤ b * (1000 + e) / 1000)

theorem mul_bd (t m M : Int) (h1 : 0 ≤ t) (h2 : t ≤ 1099511627776) (h3 : 0 ≤ m) (h4 : m ≤ M) : 0 ≤ t * m ∧ t * m ≤ 1099511627776 * M :=
  ⟨Int.mul_nonneg h1 h3, Int.le_trans (Int.mul_le_mul_of_nonneg_right h2 h3) (Int.mul_le_mul_of_nonneg_left h4 (by omega))⟩

theorem le_short (t e g : Int) (h : May t e) : g ≤ shortS t e ↔ g * (1000 + e) ≤ t * (1000 - e) := by
  obtain ⟨h1, h2, h3, h4⟩ := id h
  rw [shortS, if_pos h, Int.le_ediv_iff_mul_le (by omega)]
theorem long_le (t e g : Int) (h : May t e) : longS t e ≤ g ↔ t * (1000 + e) ≤ g * (1000 - e) := by
  obtain ⟨h1, h2, h3, h4⟩ := id h
  rw [longS, if_pos h]
  rw [show (t * (1000 + e) + (1000 - e) - 1) / (1000 - e) ≤ g ↔ (t * (1000 + e) + (1000 - e) - 1) / (1000 - e) < g + 1 by omega, Int.ediv_lt_iff_lt_mul (by omega), Int.add_mul]
  omega
theorem mul_mono {a b m : Int} (h : a ≤ b) (hm : 0 ≤ m) : a * m ≤ b * m := Int.mul_le_mul_of_nonneg_right h hm
theorem mul_mono' {a b m : Int} (h : a ≤ b) (hm : 0 ≤ m) : m * a ≤ m * b := Int.mul_le_mul_of_nonneg_left h hm
theorem short_nonneg (t e : Int) : 0 ≤ shortS t e := by
  by_cases h : May t e
  · obtain ⟨h1, h2, h3, h4⟩ := id h
    rw [le_short t e 0 h]
    have := mul_bd t (1000 - e) 1000 h1 h2 (by omega) (by omega)
    omega
  · simp [shortS, h]
theorem short_le_self (t e : Int) (h : May t e) : shortS t e ≤ t := by
  obtain ⟨h1, h2, h3, h4⟩ := id h
  have := (le_short t e _ h).1 (Int.le_refl _)
  have hs := short_nonneg t e
  have a := mul_mono' (a := 1000 - e) (b := 1000 + e) (m := t) (by omega) h1
  by_cases c : shortS t e ≤ t
  · exact c
  · have b := mul_mono (a := t + 1) (b := shortS t e) (m := 1000 + e) (by omega) (by omega)
    rw [Int.add_mul] at b
    omega
theorem self_le_long (t e : Int) (h : May t e) : t ≤ longS t e := by
  obtain ⟨h1, h2, h3, h4⟩ := id h
  have k := (long_le t e _ h).1 (Int.le_refl _)
  have a := mul_mono' (a := 1000 - e) (b := 1000 + e) (m := t) (by omega) h1
  by_cases c : t ≤ longS t e
  · exact c
  · have b := mul_mono (a := longS t e + 1) (b := t) (m := 1000 - e) (by omega) (by omega)
    rw [Int.add_mul] at b
    omega
theorem long_bd (t e M : Int) (h : May t e) (hM : 3 * t ≤ M) : longS t e ≤ M := by
  obtain ⟨h1, h2, h3, h4⟩ := id h
  rw [long_le t e _ h]
  have a := mul_mono' (a := 1000 + e) (b := 1500) (m := t) (by omega) h1
  have b := mul_mono (a := 3 * t) (b := M) (m := 1000 - e) hM (by omega)
  have c := mul_mono' (a := 500) (b := 1000 - e) (m := 3 * t) (by omega) (by omega)
  omega
theorem short_up (t u x : Int) (h : May t x) (h' : May u x) (htu : t ≤ u) : shortS t x ≤ shortS u x := by
  obtain ⟨h1, h2, h3, h4⟩ := id h
  rw [le_short u x _ h']
  have k := (le_short t x _ h).1 (Int.le_refl _)
  have := mul_mono (m := 1000 - x) htu (by omega)
  omega
theorem long_up (t u x : Int) (h : May t x) (h' : May u x) (htu : t ≤ u) : longS t x ≤ longS u x := by
  obtain ⟨h1, h2, h3, h4⟩ := id h
  rw [long_le t x _ h]
  have k := (long_le u x _ h').1 (Int.le_refl _)
  have := mul_mono (m := 1000 + x) htu (by omega)
  omega
theorem short_wide (t x y : Int) (h : May t x) (h' : May t y) (hxy : x ≤ y) : shortS t y ≤ shortS t x := by
  obtain ⟨h1, h2, h3, h4⟩ := id h
  rw [le_short t x _ h]
  have k := (le_short t y _ h').1 (Int.le_refl _)
  have a := mul_mono' (a := 1000 + x) (b := 1000 + y) (m := shortS t y) (by omega) (short_nonneg t y)
  have b := mul_mono' (a := 1000 - y) (b := 1000 - x) (m := t) (by omega) h1
  omega
theorem long_wide (t x y : Int) (h : May t x) (h' : May t y) (hxy : x ≤ y) : longS t x ≤ longS t y := by
  obtain ⟨h1, h2, h3, h4⟩ := id h
  rw [long_le t x _ h]
  have k := (long_le t y _ h').1 (Int.le_refl _)
  have hl := self_le_long t y h'
  have a := mul_mono' (a := 1000 + x) (b := 1000 + y) (m := t) (by omega) h1
  have b := mul_mono' (a := 1000 - y) (b := 1000 - x) (m := longS t y) (by omega) (by omega)
  omega
theorem short_long (t x : Int) (h : May t x) (h' : May (longS t x) x) : t ≤ shortS (longS t x) x := by
  rw [le_short _ x _ h']
  exact (long_le t x _ h).1 (Int.le_refl _)
theorem long_short (t x : Int) (h : May t x) : longS (shortS t x) x ≤ t := by
  obtain ⟨h1, h2, h3, h4⟩ := id h
  have hs := short_le_self t x h
  have hn := short_nonneg t x
  rw [long_le _ x _ ⟨hn, by omega, h3, h4⟩]
  exact (le_short t x _ h).1 (Int.le_refl _)

theorem fits_iff (b g e : Int) : fitsS b g e = true ↔ May b e ∧ 0 ≤ g ∧ b * (1000 - e) ≤ g * 1000 ∧ g * 1000 ≤ b * (1000 + e) := by
  unfold fitsS
  rw [decide_eq_true_eq]
  constructor
  · rintro ⟨h, h1, h2, h3⟩; exact ⟨h, h1, by omega, by omega⟩
  · rintro ⟨h, h1, h2, h3⟩; exact ⟨h, h1, by omega, by omega⟩
theorem addS_of (a b : Int) (h1 : 0 ≤ a) (h2 : 0 ≤ b) (h3 : a + b ≤ 9223372036854775807) : addS a b = a + b := by
  rw [addS, if_pos ⟨h1, h2⟩]; omega
/-- What two clocks counted while T went by. -/
structure Two (eps T m i : Int) : Prop where
  t : 0 ≤ T
  m0 : 0 ≤ m
  i0 : 0 ≤ i
  ml : T * (1000 - eps) ≤ m * 1000
  mh : m * 1000 ≤ T * (1000 + eps)
  il : T * (1000 - eps) ≤ i * 1000
  ih : i * 1000 ≤ T * (1000 + eps)
theorem Two.start (eps : Int) : Two eps 0 0 0 := ⟨by omega, by omega, by omega, by omega, by omega, by omega, by omega⟩
theorem Two.step {eps T m i b x y : Int} (h : Two eps T m i) (hx : fitsS b x eps = true) (hy : fitsS b y eps = true) : Two eps (T + b) (m + x) (i + y) := by
  obtain ⟨h0, h1, h2, h3, h4, h5, h6⟩ := h
  obtain ⟨⟨a1, _, _, _⟩, a2, a3, a4⟩ := (fits_iff _ _ _).1 hx
  obtain ⟨_, b2, b3, b4⟩ := (fits_iff _ _ _).1 hy
  refine ⟨by omega, by omega, by omega, ?_, ?_, ?_, ?_⟩ <;> rw [Int.add_mul, Int.add_mul] <;> omega
theorem Two.short {eps T m i t : Int} (h : Two eps T m i) (ht : May t eps) (hi : t ≤ i) : shortS t eps ≤ m := by
  obtain ⟨h0, h1, h2, h3, h4, h5, h6⟩ := h
  obtain ⟨t1, t2, t3, t4⟩ := id ht
  have k := (le_short t eps _ ht).1 (Int.le_refl _)
  have a := mul_mono' (a := t * 1000) (b := T * (1000 + eps)) (m := 1000 - eps) (by omega) (by omega)
  have b := mul_mono' (a := T * (1000 - eps)) (b := m * 1000) (m := 1000 + eps) (by omega) (by omega)
  have e1 : (1000 - eps) * (t * 1000) = 1000 * (t * (1000 - eps)) := by rw [Int.mul_comm t 1000, ← Int.mul_assoc, Int.mul_comm (1000 - eps) 1000, Int.mul_assoc, Int.mul_comm (1000 - eps) t]
  have e2 : (1000 - eps) * (T * (1000 + eps)) = (1000 + eps) * (T * (1000 - eps)) := by rw [← Int.mul_assoc, ← Int.mul_assoc, Int.mul_comm (1000 - eps) T, Int.mul_comm (1000 + eps) T, Int.mul_assoc, Int.mul_assoc, Int.mul_comm (1000 - eps)]
  have e3 : (1000 + eps) * (m * 1000) = 1000 * (m * (1000 + eps)) := by rw [Int.mul_comm m 1000, ← Int.mul_assoc, Int.mul_comm (1000 + eps) 1000, Int.mul_assoc, Int.mul_comm (1000 + eps) m]
  have c : shortS t eps * (1000 + eps) ≤ m * (1000 + eps) := by omega
  exact Int.le_of_mul_le_mul_right c (by omega)
theorem Two.long {eps T m i t : Int} (h : Two eps T m i) (ht : May t eps) (hm : longS t eps ≤ m) : t ≤ i := by
  obtain ⟨h0, h1, h2, h3, h4, h5, h6⟩ := h
  obtain ⟨t1, t2, t3, t4⟩ := id ht
  have k := (long_le t eps m ht).1 hm
  have a := mul_mono' (a := m * 1000) (b := T * (1000 + eps)) (m := 1000 - eps) (by omega) (by omega)
  have b := mul_mono' (a := T * (1000 - eps)) (b := i * 1000) (m := 1000 + eps) (by omega) (by omega)
  have e1 : (1000 - eps) * (m * 1000) = 1000 * (m * (1000 - eps)) := by rw [Int.mul_comm m 1000, ← Int.mul_assoc, Int.mul_comm (1000 - eps) 1000, Int.mul_assoc, Int.mul_comm (1000 - eps) m]
  have e2 : (1000 - eps) * (T * (1000 + eps)) = (1000 + eps) * (T * (1000 - eps)) := by rw [← Int.mul_assoc, ← Int.mul_assoc, Int.mul_comm (1000 - eps) T, Int.mul_comm (1000 + eps) T, Int.mul_assoc, Int.mul_assoc, Int.mul_comm (1000 - eps)]
  have e3 : (1000 + eps) * (i * 1000) = 1000 * (i * (1000 + eps)) := by rw [Int.mul_comm i 1000, ← Int.mul_assoc, Int.mul_comm (1000 + eps) 1000, Int.mul_assoc, Int.mul_comm (1000 + eps) i]
  have c : t * (1000 + eps) ≤ i * (1000 + eps) := by omega
  exact Int.le_of_mul_le_mul_right c (by omega)

theorem fits_sum {b g x y e : Int} (h : fitsS b g e = true) (k : fitsS x y e = true) (hm : b + x ≤ 1099511627776) : fitsS (b + x) (g + y) e = true := by
  obtain ⟨⟨a1, a2, a3, a4⟩, b2, b3, b4⟩ := (fits_iff _ _ _).1 h
  obtain ⟨⟨c1, _, _, _⟩, d2, d3, d4⟩ := (fits_iff _ _ _).1 k
  refine (fits_iff _ _ _).2 ⟨⟨by omega, hm, a3, a4⟩, by omega, ?_, ?_⟩ <;> rw [Int.add_mul, Int.add_mul] <;> omega
theorem fits_zero (e : Int) (h1 : 0 ≤ e) (h2 : e ≤ 500) : fitsS 0 0 e = true := (fits_iff _ _ _).2 ⟨⟨by omega, by omega, h1, h2⟩, by omega, by omega, by omega⟩
theorem addS_comm (a b : Int) : addS a b = addS b a := by
  unfold addS
  by_cases h : 0 ≤ a ∧ 0 ≤ b
  · rw [if_pos h, if_pos ⟨h.2, h.1⟩, Int.add_comm]
  · rw [if_neg h, if_neg (fun k => h ⟨k.2, k.1⟩)]
theorem addS_facts (a b : Int) (h1 : 0 ≤ a) (h2 : 0 ≤ b) (h3 : a ≤ 9223372036854775807) (h4 : b ≤ 9223372036854775807) :
    a ≤ addS a b ∧ b ≤ addS a b ∧ addS a b ≤ 9223372036854775807 ∧ (addS a b = 9223372036854775807 ∨ addS a b - a = b) := by
  rw [addS, if_pos ⟨h1, h2⟩]
  omega

end Go.Proofs.Ytfcmbmhlnpklcaa.clk
