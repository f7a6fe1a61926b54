/- GaugeOrder: Order is an order of all. No condition. -/
import Derived.Test.YtigafjnnadopbaaRows
import Derived.Test.YtigafjnnadopbaaFloBegun
import Derived.Test.YtigafjnnadopbaaFrame
import Derived.Deep.DeepCutAuto
namespace Go.Proofs.Ytigafjnnadopbaa.gaugeOrder
open Go.ChangeShapes Go.WideShapes Go.ChangeAt Go.RowKit
open flo

def RI (wc : World) (n : Nat) (s : Value) (wr : World) : Prop := ∃ i : Nat, i ≤ n ∧ s = .int .i64 i ∧ Ex wc wr
def RF (wc : World) (s : Value) (w : World) : Prop := s = .bool false ∧ Ex wc w
theorem ord_call (x y : Nat) (hx : x < 18446744073709551616) (hy : y < 18446744073709551616) (r : Int) (h : ordI x y = r) (w : World) :
    Calls Try.prog 9 #[.float .f64 x, .float .f64 y] w fun e w' => e = .returned (.int .i64 r) ∧ w = w' := by
  subst h; exact order_any x y hx hy w
theorem fits_more {zs ys : List Nat} (h : Fits64 zs) (k : Fits64 ys) : Fits64 (zs ++ ys) := fun z hz => (List.mem_append.1 hz).elim (h z) (k z)

set_option maxRecDepth 100000 in
set_option maxHeartbeats 4000000 in
theorem walk (w : World) (a0 : Nat) (w0 : (Lit.float .f64 a0).wf = true) (a1 : Nat) (w1 : (Lit.float .f64 a1).wf = true) (a2 : Nat) (w2 : (Lit.float .f64 a2).wf = true) (v : Value) (len : Nat) (Z : Nat → Int) (hg : IsRow .u8 w v len Z) :
    Calls Try.prog 3 #[.float .f64 a0, .float .f64 a1, .float .f64 a2, v] w fun e w' => e = .returned (.bool true) ∧ Ex w w' := by
  have b0 : a0 < 18446744073709551616 := by simpa [Lit.wf] using w0
  have b1 : a1 < 18446744073709551616 := by simpa [Lit.wf] using w1
  have b2 : a2 < 18446744073709551616 := by simpa [Lit.wf] using w2
  clear w0 w1 w2
  obtain ⟨zs, rfl, hz, hrow⟩ := row_u8 hg
  have HZ := Lib.hid hz
  clear hz
  have HR := Lib.hid hrow
  obtain ⟨a, cap, rfl, hlc, hcm⟩ := hrow.len
  clear hrow hg
  simp only [u8s_length] at hlc HR ⊢
  unfold maxLen at hcm
  by_cases hl : zs.length ≤ 3
  · obtain ⟨i0, hi, hz0, hz1, hz2⟩ := info_parts info_f64
    go_enter Try.func3, Try.ntmps3
    go_wp2_with fail
    refine (begun_any _).mono ?_
    rintro e w1 ⟨rfl, g1⟩
    go_wp2_with fail
    refine (floats_any _ zs _ (HR.out.ex g1) HZ.out (by omega)).mono ?_
    rintro e w2 ⟨u, rfl, hown, g2⟩
    rw [show (fbs zs).length = zs.length by simp [fbs]] at hown
    have hgs := g2.size
    go_wp2_with (first
      | (at_builtin
         refine wpList_append_row _ rfl (.tmp 20) (.tmp 24) 25 rfl w1.heap.size 22 i0 (.float .f64 0) 8 Try.underlying25 hi hz0 hz1 hz2 rfl u zs.length (f64s (fbs zs)) rfl (hown.alloc _) _ [.float .f64 a0, .float .f64 a1, .float .f64 a2] rfl (RowV.lit _ [.float .f64 a0, .float .f64 a1, .float .f64 a2] _ 3 rfl (by decide)) (one_f64s [a0, a1, a2]) ?c1 ?c2 w1 (Below.alloc g2 g2.size _) ?c3 ?_
         rotate_right
         intro v' w3 hown' gb))
    case c1 => simp; unfold maxLen; omega
    case c2 => simp; omega
    case c3 => simp; omega
    rw [show f64s (fbs zs) ++ [.float .f64 a0, .float .f64 a1, .float .f64 a2] = f64s (fbs zs ++ [a0, a1, a2]) by simp [f64s]] at hown'
    have hff : Fits64 (fbs zs ++ [a0, a1, a2]) := fits_more (fbs_fits zs HZ.out) (by intro z hz; simp at hz; omega)
    have hn : (fbs zs ++ [a0, a1, a2]).length ≤ 6 := by simp [fbs]; omega
    have g3 : Ex w w3 := Ex.trans g1 gb
    obtain ⟨hr3, _⟩ := RowV.of_own hown'
    clear hown hown' gb g1 g2 hgs hi hz0 hz1 hz2 HR
    generalize fbs zs ++ [a0, a1, a2] = fl at *
    clear hl hlc HZ b0 b1 b2
    obtain ⟨fa, fcap, rfl, hfc, hfm, hcells⟩ := hr3
    simp only [f64s_length] at hfc hcells ⊢
    unfold maxLen at hfm
    go_wp2_with fail
    go_loopw [10] (RI w3 fl.length) (fun s _ => fl.length - (intOf s).toNat)
    case atStart => exact ⟨0, by omega, rfl, Ex.refl _⟩
    case round =>
      obtain ⟨i, hi, rfl, gi⟩ := hrel
      by_cases hil : i < fl.length
      · obtain ⟨b, off, rfl, hc⟩ := hcells (by omega)
        have hc' : ∀ i, i < fl.length → w3.cell? ⟨b, off + i, none⟩ = some (.float .f64 (fl.getD i 0)) := fun i hi => hc i _ (f64s_get fl i hi)
        clear hc hcells
        have i0 : (0 : Int) ≤ (i : Int) := by omega
        have i1 : (i : Int) < (fl.length : Int) := by omega
        go_wp2_with fail
        obtain ⟨wi, rfl⟩ : ∃ wi : World, wi = wr := ⟨_, rfl⟩
        go_loopw [11] (RI w3 fl.length) (fun s _ => fl.length - (intOf s).toNat)
        case atStart => exact ⟨0, by omega, rfl, gi⟩
        case round =>
          clear gi
          obtain ⟨j, hj, rfl, gj⟩ := hrel
          by_cases hjl : j < fl.length
          · have j0 : (0 : Int) ≤ (j : Int) := by omega
            have j1 : (j : Int) < (fl.length : Int) := by omega
            have ci := gj.on (hc' i hil)
            have cj := gj.on (hc' j hjl)
            obtain ⟨x, hx⟩ : ∃ x, ordI (fl.getD i 0) (fl.getD j 0) = x := ⟨_, rfl⟩
            obtain ⟨y, hy⟩ : ∃ y, ordI (fl.getD j 0) (fl.getD i 0) = y := ⟨_, rfl⟩
            have HX := Lib.hid (ord_call _ _ (hff.at hil) (hff.at hjl) x hx)
            have HY := Lib.hid (ord_call _ _ (hff.at hjl) (hff.at hil) y hy)
            have bx := ordI_bd (fl.getD i 0) (fl.getD j 0)
            have by' := ordI_bd (fl.getD j 0) (fl.getD i 0)
            have hxy := ordI_neg (fl.getD i 0) (fl.getD j 0)
            have hlt := okey_of_lss _ _ (hff.at hil) (hff.at hjl)
            have hse : i = j → x = 0 := fun e => by subst e; rw [← hx]; exact ordI_self _
            rw [hx] at bx hlt hxy
            rw [hy] at by' hxy
            obtain ⟨bx0, bx1⟩ := bx
            obtain ⟨by0, by1⟩ := by'
            have d1 : decide (x < -1) = false := decide_eq_false (by omega)
            have d2 : decide (1 < x) = false := decide_eq_false (by omega)
            have d3 : (x != -y) = false := by simp [hxy]
            have HTR := Lib.hid (show ∀ k, k < fl.length → x ≤ 0 → ordI (fl.getD j 0) (fl.getD k 0) ≤ 0 → ordI (fl.getD i 0) (fl.getD k 0) ≤ 0 from fun k _ h1 h2 => ordI_trans (hx ▸ h1) h2)
            have HLT := Lib.hid hlt
            have HSE := Lib.hid hse
            clear hx hy hxy hlt hse
            have HCI := Lib.hid (hc' i hil)
            have HCJ := Lib.hid (hc' j hjl)
            have FI := hff.at hil
            have FJ := hff.at hjl
            generalize fl.getD i 0 = zi at *
            generalize fl.getD j 0 = zj at *
            go_wp2_with fail
            go_quiet ((go_at_call 9; exact (HX.out _).mono fun _ _ ⟨e, h⟩ => ⟨e, _, h.symm⟩))
            replace gj := Ex.trans gj (Ex.drewN _ nq)
            go_wp2_with fail
            have key : ∃ A B : Bool, (FloatKind.f64.format.order zi zj == some .lt) = A ∧ ((i : Int) == (j : Int)) = B ∧ (A = true → x = -1) ∧ (B = true → x = 0) :=
              ⟨_, _, rfl, rfl, HLT.out, fun e => HSE.out (by have := beq_iff_eq.1 e; omega)⟩
            obtain ⟨A, B, dA, dB, kA, kB⟩ := key
            clear HLT HSE
            go_upto_region 13 with fail
            go_cut [90] (RF w3)
            case first =>
              cases A <;> cases B
              case false.false =>
                clear kA kB
                go_quiet ((go_at_call 9; exact (HY.out _).mono fun _ _ ⟨e, h⟩ => ⟨e, _, h.symm⟩))
                go_wp2_with fail
                go_meet
                exact ⟨rfl, Ex.trans gj (Ex.drewN _ _)⟩
              case false.true =>
                have d4 : (x != 0) = false := by simp [kB rfl]
                clear kA kB
                go_quiet ((go_at_call 9; exact (HY.out _).mono fun _ _ ⟨e, h⟩ => ⟨e, _, h.symm⟩))
                go_wp2_with fail
                go_meet
                exact ⟨rfl, Ex.trans gj (Ex.drewN _ _)⟩
              case true.false =>
                have d4 : (x != -1) = false := by simp [kA rfl]
                clear kA kB
                go_quiet ((go_at_call 9; exact (HY.out _).mono fun _ _ ⟨e, h⟩ => ⟨e, _, h.symm⟩))
                go_wp2_with fail
                go_meet
                exact ⟨rfl, Ex.trans gj (Ex.drewN _ _)⟩
              case true.true =>
                have d4 : (x != -1) = false := by simp [kA rfl]
                have d5 : (x != 0) = false := by simp [kB rfl]
                clear kA kB
                go_quiet ((go_at_call 9; exact (HY.out _).mono fun _ _ ⟨e, h⟩ => ⟨e, _, h.symm⟩))
                go_wp2_with fail
                go_meet
                exact ⟨rfl, Ex.trans gj (Ex.drewN _ _)⟩
            case rest =>
              clear ci cj gj dA dB kA kB d1 d2 d3
              obtain ⟨rfl, gj⟩ := hcut
              go_wp2_with fail
              obtain ⟨wj, rfl⟩ : ∃ wj : World, wj = wc := ⟨_, rfl⟩
              go_loopw [13] (RI w3 fl.length) (fun s _ => fl.length - (intOf s).toNat)
              case atStart => exact ⟨0, by omega, rfl, gj⟩
              case round =>
                clear gj
                obtain ⟨k, hk, rfl, gk⟩ := hrel
                by_cases hkl : k < fl.length
                · have k0 : (0 : Int) ≤ (k : Int) := by omega
                  have k1 : (k : Int) < (fl.length : Int) := by omega
                  have ci := gk.on HCI.out
                  have cj := gk.on HCJ.out
                  have ck := gk.on (hc' k hkl)
                  have FK := hff.at hkl
                  obtain ⟨r, hr⟩ : ∃ r, ordI zj (fl.getD k 0) = r := ⟨_, rfl⟩
                  obtain ⟨s, hs⟩ : ∃ s, ordI zi (fl.getD k 0) = s := ⟨_, rfl⟩
                  have HJK := Lib.hid (ord_call _ _ FJ FK r hr)
                  have HIK := Lib.hid (ord_call _ _ FI FK s hs)
                  have htr := HTR.out k hkl
                  rw [hr, hs] at htr
                  have HT := Lib.hid htr
                  clear hr hs htr
                  generalize fl.getD k 0 = zk at *
                  by_cases c1 : x ≤ 0
                  · have d1 : decide (x ≤ 0) = true := decide_eq_true c1
                    by_cases c2 : r ≤ 0
                    · have d2 : decide (r ≤ 0) = true := decide_eq_true c2
                      have d3 : decide (0 < s) = false := decide_eq_false (by have := HT.out c1 c2; omega)
                      clear c1 c2
                      go_wp2_with fail
                      go_quiet ((first
                        | (go_at_call_of 9 zj; exact (HJK.out _).mono fun _ _ ⟨e, h⟩ => ⟨e, _, h.symm⟩)
                        | (go_at_call_of 9 zi; exact (HIK.out _).mono fun _ _ ⟨e, h⟩ => ⟨e, _, h.symm⟩)))
                      go_wp2_with fail
                      go_roundw
                      case rel => exact ⟨k + 1, by omega, by go_num, Ex.trans gk (Ex.drewN _ _)⟩
                      case measure => simp [intOf]; omega
                    · have d2 : decide (r ≤ 0) = false := decide_eq_false c2
                      clear c1 c2
                      go_wp2_with fail
                      go_quiet ((go_at_call_of 9 zj; exact (HJK.out _).mono fun _ _ ⟨e, h⟩ => ⟨e, _, h.symm⟩))
                      go_wp2_with fail
                      go_roundw
                      case rel => exact ⟨k + 1, by omega, by go_num, Ex.trans gk (Ex.drewN _ _)⟩
                      case measure => simp [intOf]; omega
                  · have d1 : decide (x ≤ 0) = false := decide_eq_false c1
                    clear c1
                    go_wp2_with fail
                    go_quiet (fail)
                    go_wp2_with fail
                    go_roundw
                    case rel => exact ⟨k + 1, by omega, by go_num, Ex.trans gk (Ex.drewN _ _)⟩
                    case measure => simp [intOf]; omega
                · go_wp2_with fail
                  go_roundw
                  case rel => exact ⟨j + 1, by omega, by go_num, gk⟩
                  case measure => simp [intOf]; omega
          · go_wp2_with fail
            go_roundw
            case rel => exact ⟨i + 1, by omega, by go_num, gj⟩
            case measure => simp [intOf]; omega
      · go_wp2_with fail
        go_ret
        exact ⟨rfl, Ex.trans g3 gi⟩
  · have hl' : (3 : Int) < (zs.length : Int) := by omega
    go_enter Try.func3, Try.ntmps3
    go_wp2_with fail
    refine (begun_any _).mono ?_
    rintro e w1 ⟨rfl, g1⟩
    go_wp2_with fail
    go_ret
    exact ⟨rfl, g1⟩

end Go.Proofs.Ytigafjnnadopbaa.gaugeOrder
