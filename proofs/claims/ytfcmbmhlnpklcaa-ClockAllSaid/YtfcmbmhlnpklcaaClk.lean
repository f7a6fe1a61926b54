/- Contracts of package clock: what each exported function answers, for every input; the memory only grows. -/
import Derived.Test.YtfcmbmhlnpklcaaChecked
import Derived.Test.YtfcmbmhlnpklcaaClkMath
import Derived.Test.YtfcmbmhlnpklcaaAfter
import Derived.WalkKit
import Derived.ProofKit
import Derived.OpenShut
import Derived.Handy
import Derived.Defers
import Derived.Recover
import Derived.BigQuiet
import Derived.Deep.QuietTactic
import Derived.WalkLawsBesides
import Derived.KernelRfl
import Derived.Lib.Hide
namespace Go.Proofs.Ytfcmbmhlnpklcaa.clk
open Go.RowKit

/-- The call panicked with some value of its own; memory as it was. -/
def Boom (w : World) (e : Ending) (w' : World) : Prop := ∃ u v, e = .panicked [{ v := .iface u v, recovered := false }] ∧ w = w'

theorem mustBe_ok (v a b : Int) (w : World) (h1 : a ≤ v) (h2 : v ≤ b) :
    Calls Try.prog 19 #[.int .i64 v, .int .i64 a, .int .i64 b] w fun e w' => e = .returned (.tuple #[]) ∧ w = w' := by
  go_enter Try.func19, Try.ntmps19
  go_wp2
  go_end0
  exact ⟨rfl, rfl⟩

theorem mustBe_no (v a b : Int) (w : World) (h1 : v < a ∨ b < v) :
    Calls Try.prog 19 #[.int .i64 v, .int .i64 a, .int .i64 b] w (Boom w) := by
  rcases h1 with h1 | h1
  · go_enter Try.func19, Try.ntmps19
    go_wp2
    exact ⟨rfl, _, _, rfl, rfl⟩
  · go_enter Try.func19, Try.ntmps19
    go_wp2
    all_goals exact ⟨rfl, _, _, rfl, rfl⟩

theorem mustCount_ok (t e : Int) (w : World) (h1 : 0 ≤ t) (h2 : t ≤ 1099511627776) (h3 : 0 ≤ e) (h4 : e ≤ 500) :
    Calls Try.prog 21 #[.int .i64 t, .int .i64 e] w fun e w' => e = .returned (.tuple #[]) ∧ w = w' := by
  go_enter Try.func21, Try.ntmps21
  go_wp2_with (go_at_call 19; refine (mustBe_ok _ _ _ _ (by omega) (by omega)).mono ?_; rintro e w' ⟨rfl, rfl⟩)
  go_end0
  exact ⟨rfl, rfl⟩

theorem mustCount_no (t e : Int) (w : World) (h : t < 0 ∨ 1099511627776 < t ∨ e < 0 ∨ 500 < e) :
    Calls Try.prog 21 #[.int .i64 t, .int .i64 e] w (Boom w) := by
  by_cases ht : t < 0 ∨ 1099511627776 < t
  · go_enter Try.func21, Try.ntmps21
    go_wp2_with fail
    refine (mustBe_no _ _ _ _ (by omega)).mono ?_
    rintro e w' ⟨u, v, rfl, rfl⟩
    exact ⟨rfl, _, _, rfl, rfl⟩
  · go_enter Try.func21, Try.ntmps21
    go_wp2_with fail
    refine (mustBe_ok _ _ _ _ (by omega) (by omega)).mono ?_
    rintro e w' ⟨rfl, rfl⟩
    go_wp2_with fail
    refine (mustBe_no _ _ _ _ (by omega)).mono ?_
    rintro e w' ⟨u, v, rfl, rfl⟩
    exact ⟨rfl, _, _, rfl, rfl⟩

/-- What a guarded call answers: what the inner one answers, or nought where it panics. -/
def Inner (R : Value → World → Prop) (zero : Value) (e : Ending) (w' : World) : Prop :=
  match e with
  | .returned v => R v w'
  | .panicked [{ v := .iface _ _, recovered := false, goexit := false }] => R zero w'
  | _ => False

def Outer (R : Value → World → Prop) (e : Ending) (w' : World) : Prop := ∃ v, e = .returned v ∧ R v w'

theorem recover_panicking_int (u : TypeId) (pv : Value) (older : List PanicEntry) (w : World) :
    CallsD Try.prog 27 #[] (.panicking ({ v := .iface u pv, recovered := false } :: older)) w fun e u' w' =>
      e = .returned (.tuple #[]) ∧ u' = .panicking ({ v := .iface u pv, recovered := true } :: older) ∧ w' = w := by
  refine callsD_of_wpS Try.func27 rfl fun c₀ cs hu => ?_
  apply wpS_region
  simp [wpOpsS, go_sem, recoverD, hu, Try.ntmps27, bodyPostS, results, Try.results27]

theorem recover_idle_int (w : World) :
    CallsD Try.prog 27 #[] .returning w fun e u' w' => e = .returned (.tuple #[]) ∧ u' = .returning ∧ w' = w := by
  refine callsD_of_wpS Try.func27 rfl fun c₀ cs hu => ?_
  apply wpS_region
  simp [wpOpsS, go_sem, recoverD, hu, Try.ntmps27, bodyPostS, results, Try.results27]
  cases c₀
  simp_all

theorem orZero_int (fid : FuncId) (cap : Array Value) (w : World) (R : Value → World → Prop) (hc : ∀ w, (callFunc fid cap).run Try.prog w = .ok (.enter fid cap) w)
    (h : Calls Try.prog fid cap w (Inner R (.int .i64 0))) :
    Calls Try.prog 17 #[.func (.func fid) #[] cap] w (Outer R) := by
  have H := Lib.hid h
  clear h
  go_enter_defers Try.func17, Try.ntmps17
  go_wp2_with fail
  refine H.out.mono ?_
  intro e w' he
  unfold Inner at he
  split at he
  · go_wp2_with fail
    refine leaves_cons (f := 27) (args := #[]) (by simp) (by simp [go_sem]) ?_
    refine (recover_idle_int _).mono ?_
    rintro e u' w'' ⟨rfl, rfl, rfl⟩
    simp [Leaves, settle, results, Try.results17, go_sem, Outer]
    exact he
  · refine leaves_cons (f := 27) (args := #[]) (by simp) (by simp [go_sem]) ?_
    refine (recover_panicking_int _ _ _ _).mono ?_
    rintro e u' w'' ⟨rfl, rfl, rfl⟩
    simp [Leaves, settle, results, Try.results17, go_sem, Outer]
    exact he
  · exact he.elim

theorem recover_panicking_bool (u : TypeId) (pv : Value) (older : List PanicEntry) (w : World) :
    CallsD Try.prog 28 #[] (.panicking ({ v := .iface u pv, recovered := false } :: older)) w fun e u' w' =>
      e = .returned (.tuple #[]) ∧ u' = .panicking ({ v := .iface u pv, recovered := true } :: older) ∧ w' = w := by
  refine callsD_of_wpS Try.func28 rfl fun c₀ cs hu => ?_
  apply wpS_region
  simp [wpOpsS, go_sem, recoverD, hu, Try.ntmps28, bodyPostS, results, Try.results28]

theorem recover_idle_bool (w : World) :
    CallsD Try.prog 28 #[] .returning w fun e u' w' => e = .returned (.tuple #[]) ∧ u' = .returning ∧ w' = w := by
  refine callsD_of_wpS Try.func28 rfl fun c₀ cs hu => ?_
  apply wpS_region
  simp [wpOpsS, go_sem, recoverD, hu, Try.ntmps28, bodyPostS, results, Try.results28]
  cases c₀
  simp_all

theorem orZero_bool (fid : FuncId) (cap : Array Value) (w : World) (R : Value → World → Prop) (hc : ∀ w, (callFunc fid cap).run Try.prog w = .ok (.enter fid cap) w)
    (h : Calls Try.prog fid cap w (Inner R (.bool false))) :
    Calls Try.prog 25 #[.func (.func fid) #[] cap] w (Outer R) := by
  have H := Lib.hid h
  clear h
  go_enter_defers Try.func25, Try.ntmps25
  go_wp2_with fail
  refine H.out.mono ?_
  intro e w' he
  unfold Inner at he
  split at he
  · go_wp2_with fail
    refine leaves_cons (f := 28) (args := #[]) (by simp) (by simp [go_sem]) ?_
    refine (recover_idle_bool _).mono ?_
    rintro e u' w'' ⟨rfl, rfl, rfl⟩
    simp [Leaves, settle, results, Try.results25, go_sem, Outer]
    exact he
  · refine leaves_cons (f := 28) (args := #[]) (by simp) (by simp [go_sem]) ?_
    refine (recover_panicking_bool _ _ _ _).mono ?_
    rintro e u' w'' ⟨rfl, rfl, rfl⟩
    simp [Leaves, settle, results, Try.results25, go_sem, Outer]
    exact he
  · exact he.elim

theorem upBy_any (n d : Int) (w : World) (h1 : 0 ≤ n) (h2 : n ≤ 1649267441664000) (h3 : 1 ≤ d) (h4 : d ≤ 1000) :
    Calls Try.prog 24 #[.int .i64 n, .int .i64 d] w fun e w' => e = .returned (.int .i64 ((n + d - 1) / d)) ∧ w = w' := by
  go_enter Try.func24, Try.ntmps24
  go_wp2
  go_ret
  exact ⟨rfl, rfl⟩

theorem callAdd (cap : Array Value) (w : World) : (callFunc 18 cap).run Try.prog w = .ok (.enter 18 cap) w := by
  simp [go_sem]
theorem callShort (cap : Array Value) (w : World) : (callFunc 20 cap).run Try.prog w = .ok (.enter 20 cap) w := by
  simp [go_sem]
theorem callLong (cap : Array Value) (w : World) : (callFunc 23 cap).run Try.prog w = .ok (.enter 23 cap) w := by
  simp [go_sem]
theorem callFits (cap : Array Value) (w : World) : (callFunc 26 cap).run Try.prog w = .ok (.enter 26 cap) w := by
  simp [go_sem]

def Gives (w : World) (r : Value) (v : Value) (w' : World) : Prop := v = r ∧ Ex w w'

theorem addIn (a b : Int) (pa pb : Addr) (w : World) (ha : w.cell? pa = some (.int .i64 a)) (hb : w.cell? pb = some (.int .i64 b))
    (h3 : a ≤ 9223372036854775807) (h4 : b ≤ 9223372036854775807) :
    Calls Try.prog 18 #[.pointer (some pa), .pointer (some pb)] w (Inner (Gives w (.int .i64 (addS a b))) (.int .i64 0)) := by
  by_cases h1 : 0 ≤ a
  · by_cases h2 : 0 ≤ b
    · have HS := Lib.hid (show addS a b = min (a + b) 9223372036854775807 by simp [addS, h1, h2])
      go_enter Try.func18, Try.ntmps18
      go_wp2_with (go_at_call 19; refine (mustBe_ok _ _ _ _ (by omega) (by omega)).mono ?_; rintro e w' ⟨rfl, rfl⟩)
      all_goals
        go_ret
        exact ⟨by rw [HS.out]; exact vint (by omega), Ex.refl _⟩
    · have HS := Lib.hid (show addS a b = 0 by simp [addS, h2])
      go_enter Try.func18, Try.ntmps18
      go_wp2_with fail
      refine (mustBe_ok _ _ _ _ (by omega) (by omega)).mono ?_
      rintro e w' ⟨rfl, rfl⟩
      go_wp2_with fail
      refine (mustBe_no _ _ _ _ (by omega)).mono ?_
      rintro e w' ⟨u, v, rfl, rfl⟩
      exact ⟨rfl, by rw [HS.out], Ex.refl _⟩
  · have HS := Lib.hid (show addS a b = 0 by simp [addS, h1])
    go_enter Try.func18, Try.ntmps18
    go_wp2_with fail
    refine (mustBe_no _ _ _ _ (by omega)).mono ?_
    rintro e w' ⟨u, v, rfl, rfl⟩
    exact ⟨rfl, by rw [HS.out], Ex.refl _⟩

theorem shortIn (t ep : Int) (pa pb : Addr) (w : World) (ha : w.cell? pa = some (.int .i64 t)) (hb : w.cell? pb = some (.int .i64 ep)) :
    Calls Try.prog 20 #[.pointer (some pa), .pointer (some pb)] w (Inner (Gives w (.int .i64 (shortS t ep))) (.int .i64 0)) := by
  by_cases h : May t ep
  · have HS := Lib.hid (show shortS t ep = t * (1000 - ep) / (1000 + ep) by simp [shortS, h])
    obtain ⟨h1, h2, h3, h4⟩ := h
    obtain ⟨b1, b2⟩ := mul_bd t (1000 - ep) 1000 h1 h2 (by omega) (by omega)
    go_enter Try.func20, Try.ntmps20
    go_wp2_with (go_at_call 21; refine (mustCount_ok _ _ _ (by omega) (by omega) (by omega) (by omega)).mono ?_; rintro e w' ⟨rfl, rfl⟩)
    go_ret
    exact ⟨by rw [HS.out]; exact vint rfl, Ex.refl _⟩
  · have HS := Lib.hid (show shortS t ep = 0 by simp [shortS, h])
    have h' : t < 0 ∨ 1099511627776 < t ∨ ep < 0 ∨ 500 < ep := by unfold May at h; omega
    have H' := Lib.hid h'
    clear h h'
    go_enter Try.func20, Try.ntmps20
    go_wp2_with fail
    refine (mustCount_no _ _ _ H'.out).mono ?_
    rintro e w' ⟨u, v, rfl, rfl⟩
    exact ⟨rfl, by rw [HS.out], Ex.refl _⟩

theorem longIn (t ep : Int) (pa pb : Addr) (w : World) (ha : w.cell? pa = some (.int .i64 t)) (hb : w.cell? pb = some (.int .i64 ep)) :
    Calls Try.prog 23 #[.pointer (some pa), .pointer (some pb)] w (Inner (Gives w (.int .i64 (longS t ep))) (.int .i64 0)) := by
  by_cases h : May t ep
  · have HS := Lib.hid (show longS t ep = (t * (1000 + ep) + (1000 - ep) - 1) / (1000 - ep) by simp [longS, h])
    obtain ⟨h1, h2, h3, h4⟩ := h
    obtain ⟨b1, b2⟩ := mul_bd t (1000 + ep) 1500 h1 h2 (by omega) (by omega)
    go_enter Try.func23, Try.ntmps23
    go_wp2_with (first | (go_at_call 21; refine (mustCount_ok _ _ _ (by omega) (by omega) (by omega) (by omega)).mono ?_; rintro e w' ⟨rfl, rfl⟩) | (go_at_call 24; refine (upBy_any _ _ _ (by omega) (by omega) (by omega) (by omega)).mono ?_; rintro e w' ⟨rfl, rfl⟩))
    go_ret
    exact ⟨by rw [HS.out]; exact vint rfl, Ex.refl _⟩
  · have HS := Lib.hid (show longS t ep = 0 by simp [longS, h])
    have h' : t < 0 ∨ 1099511627776 < t ∨ ep < 0 ∨ 500 < ep := by unfold May at h; omega
    have H' := Lib.hid h'
    clear h h'
    go_enter Try.func23, Try.ntmps23
    go_wp2_with fail
    refine (mustCount_no _ _ _ H'.out).mono ?_
    rintro e w' ⟨u, v, rfl, rfl⟩
    exact ⟨rfl, by rw [HS.out], Ex.refl _⟩

theorem fitsIn (t g ep : Int) (pa pb pc : Addr) (w : World) (ha : w.cell? pa = some (.int .i64 t)) (hb : w.cell? pb = some (.int .i64 ep)) (hc : w.cell? pc = some (.int .i64 g)) (hg : g ≤ 9223372036854775807) :
    Calls Try.prog 26 #[.pointer (some pa), .pointer (some pb), .pointer (some pc)] w (Inner (Gives w (.bool (fitsS t g ep))) (.bool false)) := by
  by_cases h : May t ep
  · by_cases hg0 : 0 ≤ g
    · obtain ⟨h1, h2, h3, h4⟩ := id h
      obtain ⟨b1, b2⟩ := mul_bd t (1000 - ep) 1000 h1 h2 (by omega) (by omega)
      obtain ⟨c1, c2⟩ := mul_bd t (1000 + ep) 1500 h1 h2 (by omega) (by omega)
      by_cases hl : (t * (1000 - ep) + 1000 - 1) / 1000 ≤ g
      · have HS := Lib.hid (show fitsS t g ep = decide (g ≤ t * (1000 + ep) / 1000) by
          have : (t * (1000 - ep) + 999) / 1000 ≤ g := by omega
          simp [fitsS, h, hg0, this])
        clear h
        have hd : decide ((t * (1000 - ep) + 1000 - 1) / 1000 ≤ g) = true := by simpa using hl
        go_enter Try.func26, Try.ntmps26
        go_wp2_with (first | (go_at_call 21; refine (mustCount_ok _ _ _ (by omega) (by omega) (by omega) (by omega)).mono ?_; rintro e w' ⟨rfl, rfl⟩) | (go_at_call 19; refine (mustBe_ok _ _ _ _ (by omega) (by omega)).mono ?_; rintro e w' ⟨rfl, rfl⟩))
        go_quiet ((go_at_call 24; exact Calls.quiet_of_same ((upBy_any _ _ _ (by omega) (by omega) (by omega) (by omega)).mono fun _ _ ⟨a, b⟩ => ⟨a, b.symm⟩)))
        go_wp2
        go_ret
        exact ⟨by rw [HS.out]; rfl, Ex.drewN _ _⟩
      · have HS := Lib.hid (show fitsS t g ep = false by
          have : ¬ (t * (1000 - ep) + 999) / 1000 ≤ g := by omega
          simp [fitsS, this])
        clear h
        have hd : decide ((t * (1000 - ep) + 1000 - 1) / 1000 ≤ g) = false := by simpa using hl
        go_enter Try.func26, Try.ntmps26
        go_wp2_with (first | (go_at_call 21; refine (mustCount_ok _ _ _ (by omega) (by omega) (by omega) (by omega)).mono ?_; rintro e w' ⟨rfl, rfl⟩) | (go_at_call 19; refine (mustBe_ok _ _ _ _ (by omega) (by omega)).mono ?_; rintro e w' ⟨rfl, rfl⟩))
        go_quiet ((go_at_call 24; exact Calls.quiet_of_same ((upBy_any _ _ _ (by omega) (by omega) (by omega) (by omega)).mono fun _ _ ⟨a, b⟩ => ⟨a, b.symm⟩)))
        go_wp2
        go_ret
        exact ⟨by rw [HS.out]; rfl, Ex.drewN _ _⟩
    · have HS := Lib.hid (show fitsS t g ep = false by simp [fitsS, hg0])
      obtain ⟨h1, h2, h3, h4⟩ := h
      go_enter Try.func26, Try.ntmps26
      go_wp2_with fail
      refine (mustCount_ok _ _ _ (by omega) (by omega) (by omega) (by omega)).mono ?_
      rintro e w' ⟨rfl, rfl⟩
      go_wp2_with fail
      refine (mustBe_no _ _ _ _ (by omega)).mono ?_
      rintro e w' ⟨u, v, rfl, rfl⟩
      exact ⟨rfl, by rw [HS.out], Ex.refl _⟩
  · have HS := Lib.hid (show fitsS t g ep = false by simp [fitsS, h])
    have h' : t < 0 ∨ 1099511627776 < t ∨ ep < 0 ∨ 500 < ep := by unfold May at h; omega
    have H' := Lib.hid h'
    clear h h'
    go_enter Try.func26, Try.ntmps26
    go_wp2_with fail
    refine (mustCount_no _ _ _ H'.out).mono ?_
    rintro e w' ⟨u, v, rfl, rfl⟩
    exact ⟨rfl, by rw [HS.out], Ex.refl _⟩

theorem short_any (a b : Int) (w : World) :
    Calls Try.prog 11 #[.int .i64 a, .int .i64 b] w fun e w' => e = .returned (.int .i64 (shortS a b)) ∧ Ex w w' := by
  go_enter Try.func11, Try.ntmps11
  go_wp2_with fail
  refine (orZero_int _ _ _ _ (callShort _) (shortIn a b _ _ _ (by simp [go_sem]) (by simp [go_sem]))).mono ?_
  rintro e w' ⟨v, rfl, rfl, hg⟩
  go_wp2_with fail
  go_ret
  exact ⟨rfl, Ex.trans (by go_grown) hg⟩

theorem long_any (a b : Int) (w : World) :
    Calls Try.prog 13 #[.int .i64 a, .int .i64 b] w fun e w' => e = .returned (.int .i64 (longS a b)) ∧ Ex w w' := by
  go_enter Try.func13, Try.ntmps13
  go_wp2_with fail
  refine (orZero_int _ _ _ _ (callLong _) (longIn a b _ _ _ (by simp [go_sem]) (by simp [go_sem]))).mono ?_
  rintro e w' ⟨v, rfl, rfl, hg⟩
  go_wp2_with fail
  go_ret
  exact ⟨rfl, Ex.trans (by go_grown) hg⟩

theorem add_any (a b : Int) (w : World) (h1 : a ≤ 9223372036854775807) (h2 : b ≤ 9223372036854775807) :
    Calls Try.prog 9 #[.int .i64 a, .int .i64 b] w fun e w' => e = .returned (.int .i64 (addS a b)) ∧ Ex w w' := by
  go_enter Try.func9, Try.ntmps9
  go_wp2_with fail
  refine (orZero_int _ _ _ _ (callAdd _) (addIn a b _ _ _ (by simp [go_sem]) (by simp [go_sem]) h1 h2)).mono ?_
  rintro e w' ⟨v, rfl, rfl, hg⟩
  go_wp2_with fail
  go_ret
  exact ⟨rfl, Ex.trans (by go_grown) hg⟩

theorem fits_any (a b c : Int) (w : World) (h1 : b ≤ 9223372036854775807) :
    Calls Try.prog 15 #[.int .i64 a, .int .i64 b, .int .i64 c] w fun e w' => e = .returned (.bool (fitsS a b c)) ∧ Ex w w' := by
  go_enter Try.func15, Try.ntmps15
  go_wp2_with fail
  refine (orZero_bool _ _ _ _ (callFits _) (fitsIn a b c _ _ _ _ (by simp [go_sem]) (by simp [go_sem]) (by simp [go_sem]) h1)).mono ?_
  rintro e w' ⟨v, rfl, rfl, hg⟩
  go_wp2_with fail
  go_ret
  exact ⟨rfl, Ex.trans (by go_grown) hg⟩

theorem add_is (a b r : Int) (w : World) (h : addS a b = r) (h1 : a ≤ 9223372036854775807) (h2 : b ≤ 9223372036854775807) :
    Calls Try.prog 9 #[.int .i64 a, .int .i64 b] w fun e w' => e = .returned (.int .i64 r) ∧ Ex w w' := by
  rw [← h]; exact add_any a b w h1 h2
theorem short_is (a b r : Int) (w : World) (h : shortS a b = r) :
    Calls Try.prog 11 #[.int .i64 a, .int .i64 b] w fun e w' => e = .returned (.int .i64 r) ∧ Ex w w' := by
  rw [← h]; exact short_any a b w
theorem long_is (a b r : Int) (w : World) (h : longS a b = r) :
    Calls Try.prog 13 #[.int .i64 a, .int .i64 b] w fun e w' => e = .returned (.int .i64 r) ∧ Ex w w' := by
  rw [← h]; exact long_any a b w
theorem fits_is (a b c : Int) (r : Bool) (w : World) (h : fitsS a b c = r) (h1 : b ≤ 9223372036854775807) :
    Calls Try.prog 15 #[.int .i64 a, .int .i64 b, .int .i64 c] w fun e w' => e = .returned (.bool r) ∧ Ex w w' := by
  rw [← h]; exact fits_any a b c w h1

end Go.Proofs.Ytfcmbmhlnpklcaa.clk
