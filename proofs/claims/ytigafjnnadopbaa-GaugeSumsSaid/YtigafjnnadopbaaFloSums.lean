/- GaugeSums: sums go on. No condition. -/
import Derived.Test.YtigafjnnadopbaaRows
import Derived.Test.YtigafjnnadopbaaFloBegun
import Derived.Test.YtigafjnnadopbaaFrame
import Derived.Deep.DeepCutAuto
namespace Go.Proofs.Ytigafjnnadopbaa.gaugeSums
open Go.ChangeShapes Go.WideShapes Go.ChangeAt Go.RowKit
open flo

theorem made0 (w : World) : (w.alloc (.cells #[] 22)).ownsRow w.heap.size 22 1 (.slice (some ⟨w.heap.size, 0, none⟩) 0 0) 0 [] :=
  World.ownsRow_made w #[] 0 (Nat.le_refl _) (by decide) rfl
theorem neq_self (a : Nat) (ha : a < 18446744073709551616) : (FloatKind.f64.format.order a a != some .eq) = nanB a := by
  have := eql_self a ha
  show (!(Ieee.double.order a a == some .eq)) = _
  rw [this, Bool.not_not]
theorem eq_self (a : Nat) (ha : a < 18446744073709551616) : (FloatKind.f64.format.order a a == some .eq) = !nanB a := eql_self a ha
theorem ord_call (x y : Nat) (hx : x < 18446744073709551616) (hy : y < 18446744073709551616) (r : Int) (h : ordI x y = r) (w : World) :
    Calls Try.prog 9 #[.float .f64 x, .float .f64 y] w fun e w' => e = .returned (.int .i64 r) ∧ w = w' := by
  subst h; exact order_any x y hx hy w

def RF (wb : World) (v : Value) (xs : List Value) (s : Value) (w : World) : Prop := s = .bool false ∧ Ex wb w ∧ RowV w v xs

set_option maxRecDepth 100000 in
set_option maxHeartbeats 4000000 in
theorem walk (w : World) (v : Value) (len : Nat) (Z : Nat → Int) (hg : IsRow .u8 w v len Z) (a1 : Nat) (_w1 : (Lit.float .f64 a1).wf = true) :
    Calls Try.prog 5 #[v, .float .f64 a1] w fun e w' => e = .returned (.bool true) ∧ Ex w w' := by
  clear _w1
  obtain ⟨zs, rfl, hz, hrow⟩ := row_u8 hg
  have HZ := Lib.hid hz
  clear hz
  have HR := Lib.hid hrow
  obtain ⟨a, cap, rfl, hlc, hcm⟩ := hrow.len
  clear hrow hg
  simp only [u8s_length] at hlc HR ⊢
  unfold maxLen at hcm
  by_cases hl : zs.length ≤ 12
  · obtain ⟨i0, hi, hz0, hz1, hz2⟩ := info_parts info_f64
    go_enter Try.func5, Try.ntmps5
    go_wp2_with fail
    refine (begun_any _).mono ?_
    rintro e w1 ⟨rfl, g1⟩
    go_wp2_with fail
    refine (floats_any _ zs _ (HR.out.ex g1) HZ.out (by omega)).mono ?_
    rintro e w2 ⟨u, rfl, hown, g2⟩
    obtain ⟨hr2, _⟩ := RowV.of_own hown
    have FZ := Lib.hid (fbs_fits zs HZ.out)
    have hfl : (fbs zs).length ≤ 12 := by simp [fbs]; omega
    replace g1 := Ex.trans g1 g2
    clear hown g2 HR HZ hl hlc
    generalize fbs zs = fl at *
    have HR := Lib.hid hr2
    obtain ⟨ua, ucap, rfl, huc, hum⟩ := hr2.len
    clear hr2
    simp only [f64s_length] at huc HR ⊢
    unfold maxLen at hum
    go_wp2_with fail
    refine (sum_any _ fl _ HR.out).mono ?_
    rintro e w3 ⟨s, rfl, hs, g3⟩
    have HS := Lib.hid hs
    have HR3 := Lib.hid (HR.out.ex g3)
    have o0 := made0 w3
    clear hs
    go_wp2_with (first
      | (at_builtin
         refine wpList_append_row _ rfl (.tmp 18) (.tmp 19) 25 rfl w3.heap.size 22 i0 (.float .f64 0) 8 Try.underlying25 hi hz0 hz1 hz2 rfl _ 0 [] rfl o0 _ (f64s fl) rfl (RowV.ex HR3.out (ex_alloc _ _)) (one_f64s fl) ?c1 ?c2 w3 (Below.alloc (Below.refl _ _) (Nat.le_refl _) _) ?c3 ?_
         rotate_right
         intro v4 w4 hown4 gb4
         have hs4 := gb4.size)
      | (at_builtin
         refine wpList_append_row _ rfl (.tmp 20) (.tmp 22) 25 rfl w3.heap.size 22 i0 (.float .f64 0) 8 Try.underlying25 hi hz0 hz1 hz2 rfl _ _ _ rfl (hown4.alloc _) _ [.float .f64 a1] rfl (RowV.made1 _ _ _) (one_flo _) ?d1 ?d2 w3 (Below.alloc gb4 gb4.size _) ?d3 ?_
         rotate_right
         intro v5 w5 hown5 gb5))
    case c1 => simp; unfold maxLen; omega
    case c2 => simp; omega
    case c3 => simp
    case d1 => simp; unfold maxLen; omega
    case d2 => simp; omega
    case d3 => simp; omega
    have HR5 := Lib.hid (show RowV w5 v5 (f64s (fl ++ [a1])) by rw [show f64s (fl ++ [a1]) = [] ++ f64s fl ++ [Value.float .f64 a1] by simp [f64s]]; exact (RowV.of_own hown5).1)
    clear hown4 hown5 o0 gb4 hs4
    refine (sum_any _ _ _ HR5.out).mono ?_
    rintro e w6 ⟨t, rfl, ht, g6⟩
    obtain ⟨r, n, hrun, hr⟩ := run_float_any (P := Try.prog) w6 .add 22 s a1 (.inl rfl)
    have IT := Lib.hid (show IsF (fadd (sumF fl) a1) t by rw [← sumF_snoc]; exact ht)
    have IR := Lib.hid (HS.out.add hr)
    have hnn : nanB s = true → nanB t = true := fun h => by
      have : fadd (sumF fl) a1 = none := by
        cases ho : sumF fl with
        | none => rfl
        | some x => obtain ⟨ex, hx⟩ := HS.out.some x ho; rw [ex, hx] at h; cases h
      exact IT.out.none this
    have ds := neq_self s HS.out.lt
    have dt := eq_self t IT.out.lt
    have HC := Lib.hid (ord_call t r IT.out.lt IR.out.lt 0 (IsF.same IT.out IR.out))
    have g7 : Ex w (w6.drewN n) := Ex.trans (Ex.trans (Ex.trans (Ex.trans g1 g3) gb5) g6) (Ex.drewN _ _)
    have HR7 := Lib.hid (HR3.out.ex (Ex.trans (Ex.trans gb5 g6) (Ex.drewN w6 n)))
    clear ht hr g1 g3 gb5 g6 HR5 HR3 HR
    have key : ∃ A B : Bool, nanB s = A ∧ nanB t = B ∧ (A = true → B = true) := ⟨_, _, rfl, rfl, hnn⟩
    obtain ⟨A, B, hA, hB, hAB⟩ := key
    rw [hA] at ds
    rw [hB] at dt
    clear hnn hA hB
    go_upto_region 8 with fail
    go_cut [40] (RF w (.slice ua fl.length ucap) (f64s fl))
    case first =>
      cases A with
      | false =>
        clear hAB
        go_wp2_with fail
        refine (HC.out _).mono ?_
        rintro e w' ⟨rfl, rfl⟩
        go_wp2_with fail
        go_meet
        exact ⟨rfl, g7, HR7.out⟩
      | true =>
        have hb := hAB rfl
        subst hb
        clear hAB
        go_wp2_with fail
        refine (HC.out _).mono ?_
        rintro e w' ⟨rfl, rfl⟩
        go_wp2_with fail
        go_meet
        exact ⟨rfl, g7, HR7.out⟩
    case rest =>
      clear hrun ds dt hAB HC IT IR g7 HR7
      clear r n
      obtain ⟨rfl, g7, hr7⟩ := hcut
      have HR7 := Lib.hid hr7
      clear hr7
      have o0 := made0 wc
      go_wp2_with (first
        | (at_builtin
           refine wpList_append_row _ rfl (.tmp 45) (.tmp 46) 25 rfl wc.heap.size 22 i0 (.float .f64 0) 8 Try.underlying25 hi hz0 hz1 hz2 rfl _ 0 [] rfl o0 _ (f64s fl) rfl (RowV.ex HR7.out (ex_alloc _ _)) (one_f64s fl) ?c1 ?c2 wc (Below.alloc (Below.refl _ _) (Nat.le_refl _) _) ?c3 ?_
           rotate_right
           intro v8 w8 hown8 gb8
           have hs8 := gb8.size)
        | (at_builtin
           refine wpList_append_row _ rfl (.tmp 47) (.tmp 49) 25 rfl wc.heap.size 22 i0 (.float .f64 0) 8 Try.underlying25 hi hz0 hz1 hz2 rfl _ _ _ rfl (hown8.alloc _) _ [.float .f64 a1] rfl (RowV.made1 _ _ _) (one_flo _) ?d1 ?d2 wc (Below.alloc gb8 gb8.size _) ?d3 ?_
           rotate_right
           intro v9 w9 hown9 gb9))
      case c1 => simp; unfold maxLen; omega
      case c2 => simp; omega
      case c3 => simp
      case d1 => simp; unfold maxLen; omega
      case d2 => simp; omega
      case d3 => simp; omega
      have HR9 := Lib.hid (show RowV w9 v9 (f64s (fl ++ [a1])) by rw [show f64s (fl ++ [a1]) = [] ++ f64s fl ++ [Value.float .f64 a1] by simp [f64s]]; exact (RowV.of_own hown9).1)
      clear hown8 hown9 o0 gb8 hs8
      refine (mean_any _ _ _ HR9.out).mono ?_
      rintro e w10 ⟨m, rfl, hm, g10⟩
      obtain ⟨r, n, hrun, hr⟩ := run_float_any (P := Try.prog) w10 .add 22 s a1 (.inl rfl)
      obtain ⟨q, n', hrun', hq⟩ := run_float_any (P := Try.prog) (w10.drewN n) .quo 22 r (floatOfInt .f64 ((fl.length : Int) + 1)) (.inr (.inr rfl))
      have IM := Lib.hid (show IsF (fdiv (fadd (sumF fl) a1) (floatOfInt .f64 ((fl.length : Int) + 1))) m by
        rw [← sumF_snoc]; have := hm; rw [show (((fl ++ [a1]).length : Nat) : Int) = (fl.length : Int) + 1 by simp] at this; exact this)
      have IQ := Lib.hid ((HS.out.add hr).div hq)
      have HC := Lib.hid (ord_call m q IM.out.lt IQ.out.lt 0 (IsF.same IM.out IQ.out))
      clear hm hr hq
      go_wp2_with fail
      refine (HC.out _).mono ?_
      rintro e w' ⟨rfl, rfl⟩
      go_wp2_with fail
      go_ret
      exact ⟨rfl, Ex.trans (Ex.trans (Ex.trans g7 gb9) g10) (Ex.drewN _ _)⟩
  · have hl' : (12 : Int) < (zs.length : Int) := by omega
    go_enter Try.func5, Try.ntmps5
    go_wp2_with fail
    refine (begun_any _).mono ?_
    rintro e w1 ⟨rfl, g1⟩
    go_wp2_with fail
    go_ret
    exact ⟨rfl, g1⟩

end Go.Proofs.Ytigafjnnadopbaa.gaugeSums
