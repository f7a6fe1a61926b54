/- Whether gauge does anything yet: it does. -/
import Derived.Test.YtigafjnnadopbaaFlo4
import Derived.Deep.RegionHeld3
namespace Go.Proofs.Ytigafjnnadopbaa.flo
open Go.RowKit

/-- Four cells hold these floats, and all that was there is as it was. -/
def H4 (W : World) (b off : Nat) (x0 x1 x2 x3 : Nat) (w : World) : Prop :=
  w.cell? ⟨b, off, none⟩ = some (.float .f64 x0) ∧ w.cell? ⟨b, off + 1, none⟩ = some (.float .f64 x1) ∧ w.cell? ⟨b, off + 2, none⟩ = some (.float .f64 x2) ∧ w.cell? ⟨b, off + 3, none⟩ = some (.float .f64 x3) ∧ Ex W w
theorem H4.ex {W w w' : World} {b off x0 x1 x2 x3 : Nat} (h : H4 W b off x0 x1 x2 x3 w) (g : Ex w w') : H4 W b off x0 x1 x2 x3 w' :=
  ⟨g.on h.1, g.on h.2.1, g.on h.2.2.1, g.on h.2.2.2.1, Ex.trans h.2.2.2.2 g⟩
theorem H4.up {W w : World} {b off x0 x1 x2 x3 : Nat} (h : H4 W b off x0 x1 x2 x3 w) : Ex W w := h.2.2.2.2
theorem ex_alloc (w : World) (o : Obj) : Ex w (w.alloc o) := (Below.refl _ _).alloc (Nat.le_refl _) o
theorem ex_drew (w : World) : Ex w w.drew := (Below.refl _ _).drew

theorem eq1 : (FloatKind.f64.format.order 4607182418800017408 4607182418800017408 == some .eq) = true := by decide +kernel
theorem eq2 : (FloatKind.f64.format.order 4611686018427387904 4611686018427387904 == some .eq) = true := by decide +kernel
theorem eq3 : (FloatKind.f64.format.order 4613937818241073152 4613937818241073152 == some .eq) = true := by decide +kernel
theorem eqh : (FloatKind.f64.format.order 4602678819172646912 4602678819172646912 == some .eq) = true := by decide +kernel
theorem least21 {x : Nat} (h : LeastOf [4611686018427387904, 4607182418800017408] x) : x = 4607182418800017408 := by
  obtain ⟨h1, h2⟩ := h
  have := h2 4607182418800017408 (by simp)
  rcases List.mem_cons.1 h1 with rfl | h1
  · exact absurd this (by decide +kernel)
  · simpa using h1
theorem most21 {x : Nat} (h : MostOf [4611686018427387904, 4607182418800017408] x) : x = 4611686018427387904 := by
  obtain ⟨h1, h2⟩ := h
  have := h2 4611686018427387904 (by simp)
  rcases List.mem_cons.1 h1 with rfl | h1
  · rfl
  · simp at h1; subst h1; exact absurd this (by decide +kernel)
theorem sum21 {x : Nat} (h : IsF (sumF [4611686018427387904, 4607182418800017408]) x) : x = 4613937818241073152 :=
  (h.some _ (by decide +kernel)).1

theorem mean_nil (w : World) : Calls Try.prog 13 #[.slice none 0 0] w fun e w' => ∃ x, e = .returned (.float .f64 x) ∧ nanB x = true ∧ x < 18446744073709551616 ∧ Ex w w' :=
  (mean_any _ [] w (RowV.nil w)).mono fun e w' ⟨x, he, hx, hg⟩ => ⟨x, he, hx.none (by decide +kernel), hx.lt, hg⟩
theorem ord_nan (x y : Nat) (h : nanB x = true) (k : nanB y = true) : ordI x y = 0 := by rw [ordI_zero, (okey_nan x).1 h, (okey_nan y).1 k]

theorem made2 (w : World) (x y : Nat) (e : TypeId) : RowV (w.alloc (.cells #[.float .f64 x, .float .f64 y] e)) (.slice (some ⟨w.heap.size, 0, none⟩) 2 2) (f64s [x, y]) :=
  RowV.made w (f64s [x, y]) e 2 (by simp) (by simp [maxLen])
theorem fits2 : Fits64 [4611686018427387904, 4607182418800017408] := by intro z hz; simp at hz; omega
theorem least_c (w : World) (n : Nat) (h : n = w.heap.size) :
    Calls Try.prog 10 #[.slice (some ⟨n, 0, none⟩) 2 2] (w.alloc (.cells #[.float .f64 4611686018427387904, .float .f64 4607182418800017408] 22)) fun e w' => e = .returned (.float .f64 4607182418800017408) ∧ (w.alloc (.cells #[.float .f64 4611686018427387904, .float .f64 4607182418800017408] 22)) = w' := by
  subst h
  exact (least_any _ _ _ (made2 w _ _ _) fits2 (by simp)).mono fun e w' ⟨x, he, hx, hw⟩ => by rw [he, least21 hx]; exact ⟨rfl, hw⟩
theorem most_c (w : World) (n : Nat) (h : n = w.heap.size) :
    Calls Try.prog 11 #[.slice (some ⟨n, 0, none⟩) 2 2] (w.alloc (.cells #[.float .f64 4611686018427387904, .float .f64 4607182418800017408] 22)) fun e w' => e = .returned (.float .f64 4611686018427387904) ∧ (w.alloc (.cells #[.float .f64 4611686018427387904, .float .f64 4607182418800017408] 22)) = w' := by
  subst h
  exact (most_any _ _ _ (made2 w _ _ _) fits2 (by simp)).mono fun e w' ⟨x, he, hx, hw⟩ => by rw [he, most21 hx]; exact ⟨rfl, hw⟩
theorem sum_c (w : World) (n : Nat) (h : n = w.heap.size) :
    Calls Try.prog 12 #[.slice (some ⟨n, 0, none⟩) 2 2] (w.alloc (.cells #[.float .f64 4611686018427387904, .float .f64 4607182418800017408] 22)) fun e w' => e = .returned (.float .f64 4613937818241073152) ∧ Ex (w.alloc (.cells #[.float .f64 4611686018427387904, .float .f64 4607182418800017408] 22)) w' := by
  subst h
  exact (sum_any _ _ _ (made2 w _ _ _)).mono fun e w' ⟨x, he, hx, hw⟩ => by rw [he, sum21 hx]; exact ⟨rfl, hw⟩
theorem whole_c (w : World) (v : Value) (h : RowV w v (f64s [9223372036854775808, 0, 9218868437227405312, 9221120237041090561])) :
    Calls Try.prog 14 #[v] w fun e w' => ∃ a c, e = .returned (.slice a 2 c) ∧ Ex w w' := by
  refine (wholes_any v _ w h (by intro z hz; simp at hz; omega) (by simp)).mono fun e w' ⟨u, he, ho, hg⟩ => ?_
  obtain ⟨hr, hl⟩ := RowV.of_own ho
  obtain ⟨a, c, rfl, _⟩ := hr.len
  rw [show (f64s ([9223372036854775808, 0, 9218868437227405312, 9221120237041090561].filter whole)).length = 2 by decide +kernel] at he
  exact ⟨a, c, he, hg⟩

set_option maxRecDepth 100000 in
set_option maxHeartbeats 1000000 in
theorem begun_any (w : World) : Calls Try.prog 7 #[] w fun e w' => e = .returned (.bool true) ∧ Ex w w' := by
  have e1 := eq1
  have e2 := eq2
  have e3 := eq3
  have eh := eqh
  have o1 : ordI 9223372036854775808 0 = -1 := by decide +kernel
  have o2 : ordI 9221120237041090561 9218868437227405312 = 1 := by decide +kernel
  go_enter Try.func7, Try.ntmps7
  go_wp2_with fail
  refine (floats_any _ [3, 4, 1, 0] _ (RowV.made w (u8s [3, 4, 1, 0]) _ 4 (by simp) (by simp [maxLen])) (by intro z hz; simp at hz; omega) (by simp)).mono ?_
  rintro e w1 ⟨v, rfl, hown, g1⟩
  rw [show fbs [3, 4, 1, 0] = [9223372036854775808, 0, 9218868437227405312, 9221120237041090561] by decide +kernel] at hown
  replace g1 := Ex.trans (ex_alloc w _) g1
  obtain ⟨hr, _⟩ := RowV.of_own hown
  have HR := Lib.hid hr
  obtain ⟨a, cap, rfl, _, _, hcc⟩ := hr
  obtain ⟨b, off, rfl, hc⟩ := hcc (by simp)
  clear hcc
  have c0 := hc 0 _ rfl
  have c1 := hc 1 _ rfl
  have c2 := hc 2 _ rfl
  have c3 := hc 3 _ rfl
  rw [Nat.add_zero] at c0
  clear hc hown
  simp only [f64s_length, List.length_cons, List.length_nil, Nat.reduceAdd] at HR ⊢
  have H0 : H4 w1 b off 9223372036854775808 0 9218868437227405312 9221120237041090561 w1 := ⟨c0, c1, c2, c3, Ex.refl _⟩
  clear c0 c1 c2 c3
  go_wp2_with fail
  go_region_held3 (fun w' => w'.cell? ⟨b, off, none⟩ = some (.float .f64 9223372036854775808) ∧ w'.cell? ⟨b, off + 1, none⟩ = some (.float .f64 0) ∧ w'.cell? ⟨b, off + 2, none⟩ = some (.float .f64 9218868437227405312) ∧ w'.cell? ⟨b, off + 3, none⟩ = some (.float .f64 9221120237041090561) ∧ Ex w1 w')
    (first | exact H0 | exact H4.ex H0 (ex_drew _) | exact H4.ex (by assumption) (by assumption) | exact H4.ex (by assumption) (ex_alloc _ _) | assumption)
    (first
      | (go_at_call 9; refine (order_any _ _ (by omega) (by omega) _).mono ?_; rintro e w' ⟨rfl, rfl⟩; (try rw [o1]); (try rw [o2]); (try rw [ord_nan _ _ (by decide +kernel) hnan]))
      | (go_at_call 13; refine (mean_nil _).mono ?_; rintro e w' ⟨x, rfl, hnan, hxl, gm⟩)
      | (go_at_call 16; refine (ratio12 _).mono ?_; rintro e w' ⟨rfl, rfl⟩)
      | (go_at_call 14; refine (whole_c _ _ (HR.out.ex (@H4.up w1 _ b off 9223372036854775808 0 9218868437227405312 9221120237041090561 (by assumption)))).mono ?_; rintro e w' ⟨wa, wc, rfl, gm⟩)
      | (go_at_call 10; refine (least_c _ _ (by simp)).mono ?_; rintro e w' ⟨rfl, rfl⟩)
      | (go_at_call 11; refine (most_c _ _ (by simp)).mono ?_; rintro e w' ⟨rfl, rfl⟩)
      | (go_at_call 12; refine (sum_c _ _ (by simp)).mono ?_; rintro e w' ⟨rfl, gm⟩))
  have gk := @H4.up w1 _ b off 9223372036854775808 0 9218868437227405312 9221120237041090561 (by assumption)
  clear e1 e2 e3 eh o1 o2 H0
  go_wp2_with fail
  go_ret
  exact ⟨rfl, Ex.trans g1 gk⟩

end Go.Proofs.Ytigafjnnadopbaa.flo
