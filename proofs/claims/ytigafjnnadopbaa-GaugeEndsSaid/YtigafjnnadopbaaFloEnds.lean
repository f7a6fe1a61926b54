/- GaugeEnds: the least is not behind any, the greatest not ahead of any, and both are of them. No condition. -/
import Derived.Test.YtigafjnnadopbaaRows
import Derived.Test.YtigafjnnadopbaaFloBegun
import Derived.Test.YtigafjnnadopbaaFrame
import Derived.Deep.DeepCutAuto
namespace Go.Proofs.Ytigafjnnadopbaa.gaugeEnds
open Go.ChangeShapes Go.WideShapes Go.ChangeAt Go.RowKit
open flo

theorem ord_call (x y : Nat) (hx : x < 18446744073709551616) (hy : y < 18446744073709551616) (r : Int) (h : ordI x y = r) (w : World) :
    Calls Try.prog 9 #[.float .f64 x, .float .f64 y] w fun e w' => e = .returned (.int .i64 r) ∧ w = w' := by
  subst h; exact order_any x y hx hy w
theorem fits_more {zs ys : List Nat} (h : Fits64 zs) (k : Fits64 ys) : Fits64 (zs ++ ys) := fun z hz => (List.mem_append.1 hz).elim (h z) (k z)
theorem least_none (a : Option Addr) (cap : Nat) (w : World) : Calls Try.prog 10 #[.slice a 0 cap] w fun e w' => e = .returned (.float .f64 9218868437227405312) ∧ w = w' := by
  have hfrom := from_run
  go_enter Try.func10, Try.ntmps10
  go_wp2
  go_ret
  exact ⟨rfl, rfl⟩
/-- Whether x is among the first i. -/
def met (fl : List Nat) (x i : Nat) : Bool := (fl.take i).any fun z => okey x == okey z
theorem met_step {fl : List Nat} {x i : Nat} (h : i < fl.length) : met fl x (i + 1) = (met fl x i || (okey x == okey (fl.getD i 0))) := by
  unfold met; rw [take_step h, List.any_append]; simp
theorem met_all {fl : List Nat} {x : Nat} (h : x ∈ fl) : met fl x fl.length = true := by
  unfold met; rw [List.take_length, List.any_eq_true]; exact ⟨x, h, by simp⟩
def RE (wc : World) (fl : List Nat) (x y : Nat) (s8 s9 s10 : Value) (wr : World) : Prop :=
  ∃ i : Nat, i ≤ fl.length ∧ s10 = .int .i64 i ∧ s8 = .bool (met fl x i) ∧ s9 = .bool (met fl y i) ∧ Ex wc wr

set_option maxRecDepth 100000 in
set_option maxHeartbeats 8000000 in
theorem walk (w : World) (v : Value) (len : Nat) (Z : Nat → Int) (hg : IsRow .u8 w v len Z) (a1 : Nat) (w1 : (Lit.float .f64 a1).wf = true) :
    Calls Try.prog 4 #[v, .float .f64 a1] w fun e w' => e = .returned (.bool true) ∧ Ex w w' := by
  have b1 : a1 < 18446744073709551616 := by simpa [Lit.wf] using w1
  clear w1
  obtain ⟨zs, rfl, hz, hrow⟩ := row_u8 hg
  have HZ := Lib.hid hz
  clear hz
  have HR := Lib.hid hrow
  obtain ⟨a, cap, rfl, hlc, hcm⟩ := hrow.len
  clear hrow hg
  simp only [u8s_length] at hlc HR ⊢
  unfold maxLen at hcm
  by_cases hl : zs.length ≤ 12
  · obtain ⟨i0, hi, hz0, hz1, hz2⟩ := info_parts info_f64
    go_enter Try.func4, Try.ntmps4
    go_wp2_with fail
    refine (begun_any _).mono ?_
    rintro e w1 ⟨rfl, g1⟩
    go_wp2_with fail
    refine (floats_any _ zs _ (HR.out.ex g1) HZ.out (by omega)).mono ?_
    rintro e w2 ⟨u, rfl, hown, g2⟩
    have hgs := g2.size
    go_wp2_with (first
      | (at_builtin
         refine wpList_append_row _ rfl (.tmp 17) (.tmp 19) 25 rfl w1.heap.size 22 i0 (.float .f64 0) 8 Try.underlying25 hi hz0 hz1 hz2 rfl u (fbs zs).length (f64s (fbs zs)) rfl (hown.alloc _) _ [.float .f64 a1] rfl (RowV.made1 _ _ _) (one_flo _) ?c1 ?c2 w1 (Below.alloc g2 g2.size _) ?c3 ?_
         rotate_right
         intro v' w3 hown' gb))
    case c1 => simp [fbs]; unfold maxLen; omega
    case c2 => simp [fbs]; omega
    case c3 => simp; omega
    rw [show f64s (fbs zs) ++ [.float .f64 a1] = f64s (fbs zs ++ [a1]) by simp [f64s]] at hown'
    have HF := Lib.hid (show Fits64 (fbs zs ++ [a1]) from fits_more (fbs_fits zs HZ.out) (by intro z hz; simp at hz; omega))
    have hn : (fbs zs ++ [a1]).length ≤ 13 := by simp [fbs]; omega
    have HN := Lib.hid (show (fbs zs ++ [a1]).length = zs.length + 1 by simp [fbs])
    have hp : 0 < (fbs zs ++ [a1]).length := by simp
    have g3 : Ex w w3 := Ex.trans g1 gb
    obtain ⟨hr3, _⟩ := RowV.of_own hown'
    clear hown hown' gb g1 g2 hgs hi hz0 hz1 hz2 HR
    generalize fbs zs ++ [a1] = fl at *
    clear HZ b1
    have HR := Lib.hid hr3
    obtain ⟨fa, fcap, rfl, hfc, hfm, hcells⟩ := hr3
    simp only [f64s_length] at hfc hcells HR ⊢
    unfold maxLen at hfm
    obtain ⟨b, off, rfl, hc⟩ := hcells hp
    have HCE := Lib.hid (show ∀ i, i < fl.length → w3.cell? ⟨b, off + i, none⟩ = some (.float .f64 (fl.getD i 0)) from fun i hi => hc i _ (f64s_get fl i hi))
    clear hc hcells
    go_wp2_with fail
    refine (least_any _ fl _ HR.out HF.out hp).mono ?_
    rintro e w4 ⟨x, rfl, hx, rfl⟩
    have HX := Lib.hid hx
    have FX := HF.out _ hx.1
    clear hx
    go_wp2_with fail
    refine (most_any _ fl _ HR.out HF.out hp).mono ?_
    rintro e w4 ⟨y, rfl, hy, rfl⟩
    have HY := Lib.hid hy
    have FY := HF.out _ hy.1
    clear hy
    go_wp2_with fail
    go_loopw [8, 9, 10] (RE w3 fl x y) (fun _ _ s _ => fl.length - (intOf s).toNat)
    case atStart => exact ⟨0, by omega, rfl, rfl, rfl, Ex.refl _⟩
    case round =>
      obtain ⟨i, hi, rfl, rfl, rfl, gi⟩ := hrel
      by_cases hil : i < fl.length
      · have ci := gi.on (HCE.out i hil)
        have i0 : (0 : Int) ≤ (i : Int) := by omega
        have i1 : (i : Int) < (fl.length : Int) := by omega
        have FI := HF.out.at hil
        have hxz := HX.out.2 _ (getD_mem hil)
        have hyz := HY.out.2 _ (getD_mem hil)
        have SX := Lib.hid (@met_step fl x i hil)
        have SY := Lib.hid (@met_step fl y i hil)
        generalize fl.getD i 0 = z at *
        obtain ⟨r, hr⟩ : ∃ r, ordI x z = r := ⟨_, rfl⟩
        obtain ⟨s, hs⟩ : ∃ s, ordI y z = s := ⟨_, rfl⟩
        have HRC := Lib.hid (ord_call x z FX FI r hr)
        have HSC := Lib.hid (ord_call y z FY FI s hs)
        have d1 : decide (0 < r) = false := decide_eq_false (by have := ordI_le.2 hxz; omega)
        have d2 : decide (s < 0) = false := decide_eq_false (by have h1 := ordI_le.2 hyz; have := ordI_neg y z; omega)
        have ex : (okey x == okey z) = (r == 0) := by rw [Bool.eq_iff_iff]; simp [← hr, ordI_zero]
        have ey : (okey y == okey z) = (s == 0) := by rw [Bool.eq_iff_iff]; simp [← hs, ordI_zero]
        rw [ex] at SX
        rw [ey] at SY
        clear hxz hyz hr hs ex ey
        generalize met fl x i = A at *
        generalize met fl y i = B at *
        cases A <;> cases B
        all_goals
          go_wp2_with (first
            | (go_at_call_of 9 x; refine (HRC.out _).mono ?_; rintro e w' ⟨rfl, rfl⟩)
            | (go_at_call_of 9 y; refine (HSC.out _).mono ?_; rintro e w' ⟨rfl, rfl⟩))
          go_roundw
          case rel => exact ⟨i + 1, by omega, by go_num, by rw [SX.out]; rfl, by rw [SY.out]; rfl, gi⟩
          case measure => simp [intOf]; omega
      · have hie : i = fl.length := by omega
        have tx : met fl x i = true := by rw [hie]; exact met_all HX.out.1
        have ty : met fl y i = true := by rw [hie]; exact met_all HY.out.1
        rw [tx, ty]
        clear hie tx ty
        by_cases h0 : zs.length = 0
        · have h1 : fl.length = 1 := by have := HN.out; omega
          have d0 : ((zs.length : Int) == 0) = true := beq_iff_eq.2 (by omega)
          obtain ⟨r, hr⟩ : ∃ r, ordI x 9218868437227405312 = r := ⟨_, rfl⟩
          have HRC := Lib.hid (ord_call x 9218868437227405312 FX (by omega) r hr)
          clear hr h0
          by_cases hr0 : r ≤ 0
          · have d1 : decide (r ≤ 0) = true := decide_eq_true hr0
            clear hr0
            go_wp2_with fail
            refine (least_none _ _ _).mono ?_
            rintro e w' ⟨rfl, rfl⟩
            go_wp2_with fail
            refine (HRC.out _).mono ?_
            rintro e w' ⟨rfl, rfl⟩
            go_wp2_with fail
            go_ret
            exact ⟨rfl, Ex.trans g3 gi⟩
          · have d1 : decide (r ≤ 0) = false := decide_eq_false hr0
            clear hr0
            go_wp2_with fail
            refine (least_none _ _ _).mono ?_
            rintro e w' ⟨rfl, rfl⟩
            go_wp2_with fail
            refine (HRC.out _).mono ?_
            rintro e w' ⟨rfl, rfl⟩
            go_wp2_with fail
            go_ret
            exact ⟨rfl, Ex.trans g3 gi⟩
        · have h1 : 1 ≤ fl.length - 1 := by have := HN.out; omega
          have h2 : (1 : Int) ≤ (fl.length : Int) := by omega
          have HT := Lib.hid (show RowV wr (.slice (some ⟨b, off, none⟩) (fl.length - 1) fcap) (f64s (fl.take (fl.length - 1))) by
            rw [f64s_take]; exact (HR.out.ex gi).take _ (by omega))
          have HFT := Lib.hid (show Fits64 (fl.take (fl.length - 1)) from fun z hz => HF.out z (List.mem_of_mem_take hz))
          clear h0
          go_wp2_with fail
          refine (least_any _ (fl.take (fl.length - 1)) _ HT.out HFT.out (by rw [List.length_take]; omega)).mono ?_
          rintro e w' ⟨q, rfl, hq, rfl⟩
          obtain ⟨r, hr⟩ : ∃ r, ordI x q = r := ⟨_, rfl⟩
          have HRC := Lib.hid (ord_call x q FX (HFT.out _ hq.1) r hr)
          have d1 : decide (r ≤ 0) = true := decide_eq_true (by rw [← hr]; exact ordI_le.2 (HX.out.2 q (List.mem_of_mem_take hq.1)))
          clear hr hq
          go_wp2_with fail
          refine (HRC.out _).mono ?_
          rintro e w' ⟨rfl, rfl⟩
          go_wp2_with fail
          go_ret
          exact ⟨rfl, Ex.trans g3 gi⟩
  · have hl' : (12 : Int) < (zs.length : Int) := by omega
    go_enter Try.func4, Try.ntmps4
    go_wp2_with fail
    refine (begun_any _).mono ?_
    rintro e w1 ⟨rfl, g1⟩
    go_wp2_with fail
    go_ret
    exact ⟨rfl, g1⟩

end Go.Proofs.Ytigafjnnadopbaa.gaugeEnds
