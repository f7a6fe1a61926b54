/- GaugeWhole: what is left is whole, in order, and all that is. No condition. -/
import Derived.Test.YtigafjnnadopbaaRows
import Derived.Test.YtigafjnnadopbaaFloBegun
import Derived.Test.YtigafjnnadopbaaFrame
import Derived.Deep.DeepCutAuto
import Derived.RegionTactic
namespace Go.Proofs.Ytigafjnnadopbaa.gaugeWhole
open Go.ChangeShapes Go.WideShapes Go.ChangeAt Go.RowKit
open flo

theorem wl_at {fl : List Nat} {i : Nat} (h : i < fl.length) (hw : whole (fl.getD i 0) = true) : (fl.filter whole)[(wl fl i).length]? = some (fl.getD i 0) := by
  have e : fl = fl.take i ++ (fl.getD i 0 :: fl.drop (i + 1)) := by
    conv => lhs; rw [← List.take_append_drop i fl]
    congr 1
    rw [List.drop_eq_getElem_cons h]
    simp [List.getD, h]
  have e2 : fl.filter whole = wl fl i ++ (fl.getD i 0 :: (fl.drop (i + 1)).filter whole) := by
    conv => lhs; rw [e]
    rw [List.filter_append, List.filter_cons, if_pos hw]
    rfl
  rw [e2]
  simp
theorem wl_lt {fl : List Nat} {i : Nat} (h : i < fl.length) (hw : whole (fl.getD i 0) = true) : (wl fl i).length < (fl.filter whole).length :=
  (List.getElem?_eq_some_iff.1 (wl_at h hw)).1
theorem filter_twice (fl : List Nat) : (fl.filter whole).filter whole = fl.filter whole := by simp
theorem fits_filter {fl : List Nat} (h : Fits64 fl) : Fits64 (fl.filter whole) := fun z hz => h z (List.mem_filter.1 hz).1
theorem ord_call (x y : Nat) (hx : x < 18446744073709551616) (hy : y < 18446744073709551616) (r : Int) (h : ordI x y = r) (w : World) :
    Calls Try.prog 9 #[.float .f64 x, .float .f64 y] w fun e w' => e = .returned (.int .i64 r) ∧ w = w' := by
  subst h; exact order_any x y hx hy w
theorem fits_more {zs ys : List Nat} (h : Fits64 zs) (k : Fits64 ys) : Fits64 (zs ++ ys) := fun z hz => (List.mem_append.1 hz).elim (h z) (k z)
def RW (wc : World) (fl : List Nat) (s7 s8 : Value) (wr : World) : Prop := ∃ i : Nat, i ≤ fl.length ∧ s8 = .int .i64 i ∧ s7 = .int .i64 ((wl fl i).length : Nat) ∧ Ex wc wr
def RT (wc : World) (b : Bool) (s : Value) (w : World) : Prop := s = .bool b ∧ Ex wc w

set_option maxRecDepth 100000 in
set_option maxHeartbeats 4000000 in
theorem walk (w : World) (v : Value) (len : Nat) (Z : Nat → Int) (hg : IsRow .u8 w v len Z) (a1 : Nat) (w1 : (Lit.float .f64 a1).wf = true) :
    Calls Try.prog 6 #[v, .float .f64 a1] w fun e w' => e = .returned (.bool true) ∧ Ex w w' := by
  have b1 : a1 < 18446744073709551616 := by simpa [Lit.wf] using w1
  clear w1
  obtain ⟨zs, rfl, hz, hrow⟩ := row_u8 hg
  have HZ := Lib.hid hz
  clear hz
  have HR := Lib.hid hrow
  obtain ⟨a, cap, rfl, hlc, hcm⟩ := hrow.len
  clear hrow hg
  simp only [u8s_length] at hlc HR ⊢
  unfold maxLen at hcm
  by_cases hl : zs.length ≤ 12
  · obtain ⟨i0, hi, hz0, hz1, hz2⟩ := info_parts info_f64
    go_enter Try.func6, Try.ntmps6
    go_wp2_with fail
    refine (begun_any _).mono ?_
    rintro e w1 ⟨rfl, g1⟩
    go_wp2_with fail
    refine (floats_any _ zs _ (HR.out.ex g1) HZ.out (by omega)).mono ?_
    rintro e w2 ⟨u, rfl, hown, g2⟩
    have hgs := g2.size
    go_wp2_with (first
      | (at_builtin
         refine wpList_append_row _ rfl (.tmp 15) (.tmp 17) 25 rfl w1.heap.size 22 i0 (.float .f64 0) 8 Try.underlying25 hi hz0 hz1 hz2 rfl u (fbs zs).length (f64s (fbs zs)) rfl (hown.alloc _) _ [.float .f64 a1] rfl (RowV.made1 _ _ _) (one_flo _) ?c1 ?c2 w1 (Below.alloc g2 g2.size _) ?c3 ?_
         rotate_right
         intro v' w3 hown' gb))
    case c1 => simp [fbs]; unfold maxLen; omega
    case c2 => simp [fbs]; omega
    case c3 => simp; omega
    rw [show f64s (fbs zs) ++ [.float .f64 a1] = f64s (fbs zs ++ [a1]) by simp [f64s]] at hown'
    have HF := Lib.hid (show Fits64 (fbs zs ++ [a1]) from fits_more (fbs_fits zs HZ.out) (by intro z hz; simp at hz; omega))
    have hn : (fbs zs ++ [a1]).length ≤ 13 := by simp [fbs]; omega
    have g3 : Ex w w3 := Ex.trans g1 gb
    obtain ⟨hr3, _⟩ := RowV.of_own hown'
    clear hown hown' gb g1 g2 hgs hi hz0 hz1 hz2 HR
    generalize fbs zs ++ [a1] = fl at *
    clear hl hlc HZ b1
    have HR := Lib.hid hr3
    obtain ⟨fa, fcap, rfl, hfc, hfm, hcells⟩ := hr3
    simp only [f64s_length] at hfc hcells HR ⊢
    unfold maxLen at hfm
    go_wp2_with fail
    refine (wholes_any _ fl _ HR.out HF.out (by omega)).mono ?_
    rintro e w4 ⟨q, rfl, hownq, g4⟩
    obtain ⟨hrq, _⟩ := RowV.of_own hownq
    clear hownq
    have HQ := Lib.hid hrq
    obtain ⟨qa, qcap, rfl, hqc, hqm, hqcells⟩ := hrq
    simp only [f64s_length] at hqc hqcells HQ ⊢
    unfold maxLen at hqm
    have hql : (fl.filter whole).length ≤ fl.length := List.length_filter_le _ _
    go_wp2_with fail
    go_loopw [7, 8] (RW w4 fl) (fun _ s _ => fl.length - (intOf s).toNat)
    case atStart => exact ⟨0, by omega, rfl, rfl, Ex.refl _⟩
    case round =>
      obtain ⟨i, hi, rfl, rfl, gi⟩ := hrel
      by_cases hil : i < fl.length
      · obtain ⟨b, off, rfl, hc⟩ := hcells (by omega)
        have ci := gi.on (g4.on (hc i _ (f64s_get fl i hil)))
        have i0 : (0 : Int) ≤ (i : Int) := by omega
        have i1 : (i : Int) < (fl.length : Int) := by omega
        have FI := HF.out.at hil
        have HY := Lib.hid (wl_yes hil)
        have HN := Lib.hid (wl_no hil)
        have HAT := Lib.hid (fun c => wl_at hil c)
        have HLT := Lib.hid (fun c => wl_lt hil c)
        clear hc hcells
        generalize fl.getD i 0 = z at *
        by_cases hw : whole z = true
        · have hnlt := HLT.out hw
          have hq : (f64s (fl.filter whole))[(wl fl i).length]? = some (.float .f64 z) := by
            unfold f64s; rw [List.getElem?_map, HAT.out hw]; rfl
          obtain ⟨b', off', rfl, hc'⟩ := hqcells (by omega)
          have cq := gi.on (hc' _ _ hq)
          have hs := sub_whole z FI hw
          have hrun : ∀ W : World, (binOp .sub 22 (.float .f64 z) (.float .f64 z)).run Try.prog W = .ok (.float .f64 0) W := fun W => run_float_arith W .sub _ .f64 _ _ _ hs
          have d0 : (FloatKind.f64.format.order 0 0 != some .eq) = false := by decide +kernel
          have n0 : (0 : Int) ≤ ((wl fl i).length : Int) := by omega
          have n1 : ((wl fl i).length : Int) < ((fl.filter whole).length : Int) := by omega
          have n2 : decide (((fl.filter whole).length : Int) ≤ ((wl fl i).length : Int)) = false := decide_eq_false (by omega)
          have HC := Lib.hid (ord_call z z FI FI 0 (ordI_self z))
          have HYL := Lib.hid (show (wl fl (i + 1)).length = (wl fl i).length + 1 by rw [HY.out hw]; simp)
          clear hqcells hc' hq hs hw HAT HLT HY HN
          generalize (wl fl i).length = n at *
          generalize (fl.filter whole).length = ql at *
          go_wp2_with fail
          go_quiet (fail)
          go_wp2_with fail
          go_quiet ((go_at_call 9; exact (HC.out _).mono fun _ _ ⟨e, h⟩ => ⟨e, _, h.symm⟩))
          go_wp2_with fail
          go_roundw
          case rel => exact ⟨i + 1, by omega, by go_num, by rw [HYL.out]; go_num, Ex.trans gi (Ex.drewN _ _)⟩
          case measure => simp [intOf]; omega
        · have HW := Lib.hid (Bool.eq_false_iff.2 hw)
          obtain ⟨r, n, hrun, hr⟩ := run_float_any (P := Try.prog) wr.drew .sub 22 z z (.inr (.inl rfl))
          have hnan := hr.2.1 (sub_odd z FI HW.out)
          have d0 : (FloatKind.f64.format.order r 0 != some .eq) = true := by
            show (Ieee.double.order r 0 != some .eq) = true
            rw [order_nan r 0 (.inl hnan)]; rfl
          have HNL := Lib.hid (show (wl fl (i + 1)).length = (wl fl i).length by rw [HN.out HW.out])
          clear hqcells hr hnan hw HAT HLT HY HN HW
          generalize (wl fl i).length = k at *
          go_wp2_with fail
          go_region
          all_goals
            go_wp2_with fail
            go_roundw
            case rel => exact ⟨i + 1, by omega, by go_num, by rw [HNL.out], Ex.trans gi (Ex.drewN _ _)⟩
            case measure => simp [intOf]; omega
      · have hie : i = fl.length := by omega
        have HI := Lib.hid hie
        have HL := Lib.hid (show (wl fl i).length = (fl.filter whole).length by rw [hie, wl_all])
        have HFF := Lib.hid (fits_filter HF.out)
        clear hie hcells hqcells
        have HQ2 := Lib.hid (HQ.out.ex gi)
        have hle : ((wl fl i).length : Int) = ((fl.filter whole).length : Int) := by rw [HL.out]
        have d : (((wl fl i).length : Int) == ((fl.filter whole).length : Int)) = true := beq_iff_eq.2 hle
        clear hle
        go_wp2_with fail
        refine (wholes_any _ (fl.filter whole) _ HQ2.out HFF.out (by omega)).mono ?_
        rintro e w5 ⟨q2, rfl, hown2, g5⟩
        rw [filter_twice] at hown2
        have HQ3 := Lib.hid (RowV.of_own hown2).1
        clear hown2
        go_wp2_with fail
        refine (same_self _ _ _ _ HQ3.out (HQ2.out.ex g5) HFF.out).mono ?_
        rintro e w6 ⟨rfl, g6⟩
        go_wp2_with fail
        go_ret
        exact ⟨rfl, Ex.trans (Ex.trans (Ex.trans (Ex.trans g3 g4) gi) g5) g6⟩
  · have hl' : (12 : Int) < (zs.length : Int) := by omega
    go_enter Try.func6, Try.ntmps6
    go_wp2_with fail
    refine (begun_any _).mono ?_
    rintro e w1 ⟨rfl, g1⟩
    go_wp2_with fail
    go_ret
    exact ⟨rfl, g1⟩

end Go.Proofs.Ytigafjnnadopbaa.gaugeWhole
