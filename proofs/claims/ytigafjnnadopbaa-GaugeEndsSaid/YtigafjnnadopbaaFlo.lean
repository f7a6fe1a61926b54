/- Contracts of package gauge: what each function answers, for every input; the memory only grows. -/
import Derived.Test.YtigafjnnadopbaaChecked
import Derived.Test.YtigafjnnadopbaaFloMath
import Derived.Test.YtigafjnnadopbaaRow
import Derived.WalkKit
import Derived.ProofKit
import Derived.OpenShut
import Derived.Handy
import Derived.BigQuiet
import Derived.Deep.QuietTactic
import Derived.WalkLawsBesides
import Derived.KernelRfl
import Derived.Lib.Hide
import Derived.Laws.FloatArith
import Derived.Laws.Externs
import Derived.Laws.BitsAllLaws
import Derived.Outline
namespace Go.Proofs.Ytigafjnnadopbaa.flo
open Go.RowKit

theorem run_float_any {P : Program} (w : World) (op : BinOp) (t : TypeId) (x y : Nat) (h : op = .add ∨ op = .sub ∨ op = .quo) :
    ∃ r n, (binOp op t (.float .f64 x) (.float .f64 y)).run P w = .ok (.float .f64 r) (w.drewN n) ∧ FRes (floatBits op .f64 x y) r := by
  cases hb : floatBits op .f64 x y with
  | some r =>
    refine ⟨r, 0, run_float_arith w op t .f64 x y r hb, ⟨fun v hv => by cases hv; rfl, (fun hn => by cases hn), ?_⟩⟩
    have := floatBits_wf hb
    simp [Lit.wf] at this
    exact this
  | none =>
    have h2 : ∀ z : Nat, nanB ((z % 2) * 2 ^ 63 + 0x7ff0000000000000 + 1 + (z / 2) % (2 ^ 52 - 1)) = true ∧ (z % 2) * 2 ^ 63 + 0x7ff0000000000000 + 1 + (z / 2) % (2 ^ 52 - 1) < 18446744073709551616 := by
      intro z
      have a1 : z % 2 < 2 := Nat.mod_lt _ (by omega)
      have a2 : (z / 2) % (2 ^ 52 - 1) < 2 ^ 52 - 1 := Nat.mod_lt _ (by omega)
      generalize z % 2 = x at *
      generalize (z / 2) % (2 ^ 52 - 1) = y at *
      refine ⟨decide_eq_true ?_, ?_⟩
      · rcases (show x = 0 ∨ x = 1 by omega) with rfl | rfl <;> omega
      · omega
    refine ⟨(w.tape w.drawn (.nanBits .f64 x y) % 2) * 2 ^ 63 + 0x7ff0000000000000 + 1 + (w.tape w.drawn (.nanBits .f64 x y) / 2) % (2 ^ 52 - 1), 1, ?_, ⟨(fun v hv => by cases hv), fun _ => (h2 _).1, (h2 _).2⟩⟩
    rcases h with rfl | rfl | rfl <;> (unfold floatBits at hb; simp only at hb; simp [binOp, Op.floatArith, hb, choose, Sem.run, Question.forced, Question.cut, World.drewN])

theorem bits_run (b : Nat) (w : World) : (callFunc 28 #[.float .f64 b]).run Try.prog w = .ok (.value (.int .u64 (b : Int))) w :=
  (run_callFunc_extern (e := Extern.MathFloatBits.float64bits) Try.func28 (by kernel_rfl) (by kernel_rfl) (by kernel_rfl) (by kernel_rfl) _ w).trans rfl
theorem from_run (b : Int) (w : World) : (callFunc 17 #[.int .u64 b]).run Try.prog w = .ok (.value (.float .f64 b.toNat)) w :=
  (run_callFunc_extern (e := Extern.MathFloatBits.float64frombits) Try.func17 (by kernel_rfl) (by kernel_rfl) (by kernel_rfl) (by kernel_rfl) _ w).trans rfl

theorem ret_bool {a b : Bool} (h : a = b) : Ending.returned (.bool a) = .returned (.bool b) := by rw [h]
theorem ret_flo {a b : Nat} (h : a = b) : Ending.returned (.float .f64 a) = .returned (.float .f64 b) := by rw [h]
theorem ret_i64 {a b : Int} (h : a = b) : Ending.returned (.int .i64 a) = .returned (.int .i64 b) := by rw [h]
theorem low63 (b : Nat) (hb : b < 18446744073709551616) : bits .andNot .u64 (b : Int) 9223372036854775808 = ((b % 9223372036854775808 : Nat) : Int) := by
  have := u64_andNot_nat b 9223372036854775808 hb (by omega)
  rw [show ((9223372036854775808 : Nat) : Int) = 9223372036854775808 from rfl] at this
  rw [this]
  congr 1
  exact Nat.and_two_pow_sub_one_eq_mod b 63
theorem inf_gtr (b : Nat) : (FloatKind.f64.format.order (b % 9223372036854775808) 9218868437227405311 == some .gt) = decide (b % 9223372036854775808 = 9218868437227405312) := by
  have h := gtr_iff (b % 9223372036854775808) 9218868437227405311 (by omega) (by omega)
  refine h.trans ?_
  have n0 : nanB 9218868437227405311 = false := rfl
  have z0 : zkey 9218868437227405311 = 9218868437227405311 := rfl
  rw [n0, z0]
  unfold nanB zkey
  rw [Nat.mod_mod, if_neg (by omega)]
  rw [Bool.eq_iff_iff]
  simp
  omega

theorem signbit_any (b : Nat) (hb : b < 18446744073709551616) (w : World) :
    Calls Try.prog 24 #[.float .f64 b] w fun e w' => e = .returned (.bool (negB b)) ∧ w = w' := by
  have hbits := bits_run
  go_enter Try.func24, Try.ntmps24
  go_wp2
  go_ret
  exact ⟨ret_bool (by unfold negB wrap64; rw [decide_eq_decide]; omega), rfl⟩
theorem isnan_any (b : Nat) (hb : b < 18446744073709551616) (w : World) :
    Calls Try.prog 25 #[.float .f64 b] w fun e w' => e = .returned (.bool (nanB b)) ∧ w = w' := by
  go_enter Try.func25, Try.ntmps25
  go_wp2
  go_ret
  refine ⟨ret_bool ?_, rfl⟩
  have := eql_self b hb
  show (!(Ieee.double.order b b == some .eq)) = _
  rw [this, Bool.not_not]
theorem abs_any (b : Nat) (hb : b < 18446744073709551616) (w : World) :
    Calls Try.prog 29 #[.float .f64 b] w fun e w' => e = .returned (.float .f64 (b % 9223372036854775808)) ∧ w = w' := by
  have hbits := bits_run
  have hfrom := from_run
  have hl := low63 b hb
  go_enter Try.func29, Try.ntmps29
  go_wp2
  go_ret
  exact ⟨ret_flo (by simp), rfl⟩
theorem isinf_any (b : Nat) (hb : b < 18446744073709551616) (w : World) :
    Calls Try.prog 26 #[.float .f64 b, .int .i64 0] w fun e w' => e = .returned (.bool (decide (b % 9223372036854775808 = 9218868437227405312))) ∧ w = w' := by
  go_enter Try.func26, Try.ntmps26
  go_wp2_with fail
  refine (abs_any b hb _).mono ?_
  rintro e w' ⟨rfl, rfl⟩
  go_wp2_with fail
  go_ret
  exact ⟨ret_bool (inf_gtr b), rfl⟩
theorem whole_any (b : Nat) (hb : b < 18446744073709551616) (w : World) :
    Calls Try.prog 22 #[.float .f64 b] w fun e w' => e = .returned (.bool (whole b)) ∧ w = w' := by
  cases hn : nanB b
  · have HN := Lib.hid hn
    clear hn
    go_enter Try.func22, Try.ntmps22
    go_wp2_with fail
    refine (isnan_any b hb _).mono ?_
    rintro e w' ⟨rfl, rfl⟩
    rw [HN.out]
    go_wp2_with fail
    refine (isinf_any b hb _).mono ?_
    rintro e w' ⟨rfl, rfl⟩
    go_wp2_with fail
    go_ret
    refine ⟨ret_bool ?_, rfl⟩
    have := of_decide_eq_false HN.out
    unfold whole
    rw [Bool.eq_iff_iff]
    simp
    omega
  · have HN := Lib.hid hn
    clear hn
    go_enter Try.func22, Try.ntmps22
    go_wp2_with fail
    refine (isnan_any b hb _).mono ?_
    rintro e w' ⟨rfl, rfl⟩
    rw [HN.out]
    go_wp2_with fail
    go_ret
    refine ⟨ret_bool ?_, rfl⟩
    have := of_decide_eq_true HN.out
    unfold whole
    rw [Bool.eq_iff_iff]
    simp
    omega
theorem ahead_any (a b : Nat) (ha : a < 18446744073709551616) (hb : b < 18446744073709551616) (w : World) :
    Calls Try.prog 18 #[.float .f64 a, .float .f64 b] w fun e w' => e = .returned (.bool (decide (okey a < okey b))) ∧ w = w' := by
  have key := ahead_iff a b
  have za := zero_iff a ha
  have zb := zero_iff b hb
  by_cases h : (decide (a % 9223372036854775808 = 0) && decide (b % 9223372036854775808 = 0)) = true
  · rw [if_pos h] at key
    rw [Bool.and_eq_true] at h
    rw [h.1] at za
    rw [h.2] at zb
    have d1 : (FloatKind.f64.format.order a 0 == some .eq) = true := za
    have d2 : (FloatKind.f64.format.order b 0 == some .eq) = true := zb
    have KEY := Lib.hid key
    clear key h za zb
    cases hn : negB a
    · have HN := Lib.hid hn
      clear hn
      go_enter Try.func18, Try.ntmps18
      go_wp2_with fail
      refine (signbit_any a ha _).mono ?_
      rintro e w' ⟨rfl, rfl⟩
      rw [HN.out]
      go_wp2_with fail
      go_ret
      exact ⟨ret_bool (by rw [← KEY.out, HN.out]; rfl), rfl⟩
    · have HN := Lib.hid hn
      clear hn
      go_enter Try.func18, Try.ntmps18
      go_wp2_with fail
      refine (signbit_any a ha _).mono ?_
      rintro e w' ⟨rfl, rfl⟩
      rw [HN.out]
      go_wp2_with fail
      refine (signbit_any b hb _).mono ?_
      rintro e w' ⟨rfl, rfl⟩
      go_wp2_with fail
      go_ret
      exact ⟨ret_bool (by rw [← KEY.out, HN.out]; rfl), rfl⟩
  · have hl := lss_iff a b ha hb
    rw [if_neg h, ← hl] at key
    have h' := Bool.eq_false_iff.2 h
    rw [← za, ← zb] at h'
    clear za zb h hl
    have KEY := Lib.hid key
    clear key
    cases hlt : (Ieee.double.order a b == some .lt)
    · have d3 : (FloatKind.f64.format.order a b == some .lt) = false := hlt
      have HL := Lib.hid hlt
      clear hlt
      cases hn : nanB a
      · have HN := Lib.hid hn
        clear hn
        cases d1 : (FloatKind.f64.format.order a 0 == some .eq)
        · clear h'
          go_enter Try.func18, Try.ntmps18
          go_wp2_with fail
          refine (isnan_any a ha _).mono ?_
          rintro e w' ⟨rfl, rfl⟩
          rw [HN.out]
          go_wp2_with fail
          refine (isnan_any b hb _).mono ?_
          rintro e w' ⟨rfl, rfl⟩
          go_wp2_with fail
          go_ret
          exact ⟨ret_bool (by rw [← KEY.out, HN.out, HL.out]; rfl), rfl⟩
        · have d2 : (FloatKind.f64.format.order b 0 == some .eq) = false := by
            rw [show (Ieee.double.order a 0 == some .eq) = true from d1, Bool.true_and] at h'
            exact h'
          clear h'
          go_enter Try.func18, Try.ntmps18
          go_wp2_with fail
          refine (isnan_any a ha _).mono ?_
          rintro e w' ⟨rfl, rfl⟩
          rw [HN.out]
          go_wp2_with fail
          refine (isnan_any b hb _).mono ?_
          rintro e w' ⟨rfl, rfl⟩
          go_wp2_with fail
          go_ret
          exact ⟨ret_bool (by rw [← KEY.out, HN.out, HL.out]; rfl), rfl⟩
      · have HN := Lib.hid hn
        clear hn
        cases d1 : (FloatKind.f64.format.order a 0 == some .eq)
        · clear h'
          go_enter Try.func18, Try.ntmps18
          go_wp2_with fail
          refine (isnan_any a ha _).mono ?_
          rintro e w' ⟨rfl, rfl⟩
          rw [HN.out]
          go_wp2_with fail
          go_ret
          exact ⟨ret_bool (by rw [← KEY.out, HN.out, HL.out]; rfl), rfl⟩
        · have d2 : (FloatKind.f64.format.order b 0 == some .eq) = false := by
            rw [show (Ieee.double.order a 0 == some .eq) = true from d1, Bool.true_and] at h'
            exact h'
          clear h'
          go_enter Try.func18, Try.ntmps18
          go_wp2_with fail
          refine (isnan_any a ha _).mono ?_
          rintro e w' ⟨rfl, rfl⟩
          rw [HN.out]
          go_wp2_with fail
          go_ret
          exact ⟨ret_bool (by rw [← KEY.out, HN.out, HL.out]; rfl), rfl⟩
    · have d3 : (FloatKind.f64.format.order a b == some .lt) = true := hlt
      have HL := Lib.hid hlt
      clear hlt
      cases d1 : (FloatKind.f64.format.order a 0 == some .eq)
      · clear h'
        go_enter Try.func18, Try.ntmps18
        go_wp2_with fail
        go_ret
        exact ⟨ret_bool (by rw [← KEY.out, HL.out]; rfl), rfl⟩
      · have d2 : (FloatKind.f64.format.order b 0 == some .eq) = false := by
          rw [show (Ieee.double.order a 0 == some .eq) = true from d1, Bool.true_and] at h'
          exact h'
        clear h'
        go_enter Try.func18, Try.ntmps18
        go_wp2_with fail
        go_ret
        exact ⟨ret_bool (by rw [← KEY.out, HL.out]; rfl), rfl⟩
theorem order_any (a b : Nat) (ha : a < 18446744073709551616) (hb : b < 18446744073709551616) (w : World) :
    Calls Try.prog 9 #[.float .f64 a, .float .f64 b] w fun e w' => e = .returned (.int .i64 (ordI a b)) ∧ w = w' := by
  by_cases h1 : okey a < okey b
  · have d1 : decide (okey a < okey b) = true := decide_eq_true h1
    have H1 := Lib.hid h1
    clear h1
    go_enter Try.func9, Try.ntmps9
    go_wp2_with fail
    refine (ahead_any a b ha hb _).mono ?_
    rintro e w' ⟨rfl, rfl⟩
    go_wp2_with fail
    go_ret
    exact ⟨ret_i64 (by unfold ordI; rw [if_pos H1.out]), rfl⟩
  · have d1 : decide (okey a < okey b) = false := decide_eq_false h1
    by_cases h2 : okey b < okey a
    · have d2 : decide (okey b < okey a) = true := decide_eq_true h2
      have H1 := Lib.hid h1
      have H2 := Lib.hid h2
      clear h1 h2
      go_enter Try.func9, Try.ntmps9
      go_wp2_with fail
      refine (ahead_any a b ha hb _).mono ?_
      rintro e w' ⟨rfl, rfl⟩
      go_wp2_with fail
      refine (ahead_any b a hb ha _).mono ?_
      rintro e w' ⟨rfl, rfl⟩
      go_wp2_with fail
      go_ret
      exact ⟨ret_i64 (by unfold ordI; rw [if_neg (Int.not_lt.2 H1.out), if_pos H2.out]), rfl⟩
    · have d2 : decide (okey b < okey a) = false := decide_eq_false h2
      have H1 := Lib.hid h1
      have H2 := Lib.hid h2
      clear h1 h2
      go_enter Try.func9, Try.ntmps9
      go_wp2_with fail
      refine (ahead_any a b ha hb _).mono ?_
      rintro e w' ⟨rfl, rfl⟩
      go_wp2_with fail
      refine (ahead_any b a hb ha _).mono ?_
      rintro e w' ⟨rfl, rfl⟩
      go_wp2_with fail
      go_ret
      exact ⟨ret_i64 (by unfold ordI; rw [if_neg (Int.not_lt.2 H1.out), if_neg (Int.not_lt.2 H2.out)]), rfl⟩

end Go.Proofs.Ytigafjnnadopbaa.flo
