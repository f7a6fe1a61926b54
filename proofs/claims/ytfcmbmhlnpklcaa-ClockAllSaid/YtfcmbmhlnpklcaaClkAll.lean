/- ClockAll: clock answers what the document's answer says, for every input. -/
import Derived.Test.YtfcmbmhlnpklcaaRows
import Derived.Test.YtfcmbmhlnpklcaaClkBegun
import Derived.Test.YtfcmbmhlnpklcaaRef1Clk
import Derived.Deep.DeepCutAuto
import Derived.Deep.RegionHeld3
import Derived.Deep.LoopGhost
namespace Go.Proofs.Ytfcmbmhlnpklcaa.clockAll
open Go.ChangeShapes Go.WideShapes Go.ChangeAt Go.RowKit
open clk

def Three (w : World) (s : Value) (A : Nat → Int) (lo : Int) : Prop := ∃ p : Nat, s = .slice (some ⟨p, 0, none⟩) 3 3 ∧ (∀ k, k < 3 → w.cell? ⟨p, k, none⟩ = some (.int .i64 (A k))) ∧ ∀ k, k < 3 → lo ≤ A k ∧ A k ≤ 9223372036854775807
def three (x y z : Int) (k : Nat) : Int := if k = 0 then x else if k = 1 then y else z
def RS (w0 : World) (s15 s16 s17 : Value) (wx : World) : Prop :=
  ∃ A T E : Nat → Int, Three wx s15 A 0 ∧ Three wx s16 T (-9223372036854775808) ∧ Three wx s17 E (-9223372036854775808) ∧ Ex w0 wx

theorem tdiv8 (t : Int) (h : t < 0) : t.tdiv 8 ≤ 0 ∧ t ≤ t.tdiv 8 := by
  obtain ⟨s, rfl⟩ : ∃ s, t = -s := ⟨-t, by omega⟩
  rw [Int.neg_tdiv, Int.tdiv_eq_ediv_of_nonneg (by omega)]
  omega

set_option maxRecDepth 100000 in
set_option maxHeartbeats 4000000 in
theorem walk (w : World) (a0 : Int) (w0 : (Lit.int .i64 a0).wf = true) (a1 : Int) (w1 : (Lit.int .i64 a1).wf = true) (a2 : Int) (w2 : (Lit.int .i64 a2).wf = true) (a3 : Int) (w3 : (Lit.int .i64 a3).wf = true) (a4 : Int) (w4 : (Lit.int .u16 a4).wf = true) (a5 : Int) (w5 : (Lit.int .u16 a5).wf = true) (a6 : Int) (w6 : (Lit.int .u16 a6).wf = true) :
    Calls Try.prog 3 #[.int .i64 a0, .int .i64 a1, .int .i64 a2, .int .i64 a3, .int .u16 a4, .int .u16 a5, .int .u16 a6] w fun e w' => e = .returned (.bool true) ∧ Ex w w' := by
  have b0 := bounds_i64 w0
  have b1 := bounds_i64 w1
  have b2 := bounds_i64 w2
  have b3 := bounds_i64 w3
  have b4 := bounds_u16 w4
  have b5 := bounds_u16 w5
  have b6 := bounds_u16 w6
  clear w0 w1 w2 w3 w4 w5 w6
  go_enter Try.func3, Try.ntmps3
  go_wp2_with fail
  refine (begun_any _).mono ?_
  rintro e w1 ⟨rfl, g1⟩
  go_upto_region 3 with fail
  go_cut [15, 16, 17] (RS w)
  case first =>
    go_wp2_with fail
    all_goals
      go_meet
      refine ⟨three (max a0 0) a4 (max a1 0), three a2 a4 a5, three a3 (a6 % 501) 100, ⟨_, rfl, ?_, ?_⟩, ⟨_, rfl, ?_, ?_⟩, ⟨_, rfl, ?_, ?_⟩, Ex.trans g1 (by go_grown)⟩
      all_goals
        intro k hk
        have h3 : k = 0 ∨ k = 1 ∨ k = 2 := by omega
        rcases h3 with rfl | rfl | rfl <;> simp [three, go_sem] <;> omega
  case rest =>
    obtain ⟨A, T, E, ⟨pa, rfl, hA, bA⟩, ⟨pt, rfl, hT, bT⟩, ⟨pe, rfl, hE, bE⟩, g2⟩ := hcut
    clear g1
    go_wp2_with fail
    go_loopw [18] (fun i wr => ∃ k : Nat, k ≤ 3 ∧ i = .int .i64 k ∧ Ex wc wr) (fun i _ => 3 - (intOf i).toNat)
    case atStart => exact ⟨0, by omega, rfl, Ex.refl _⟩
    case round =>
      obtain ⟨k, hk, rfl, gk⟩ := hrel
      by_cases hlt : k < 3
      · have ca := Ex.on gk (hA k hlt)
        have ct := Ex.on gk (hT k hlt)
        have ce := Ex.on gk (hE k hlt)
        obtain ⟨xa0, xa1⟩ := bA k hlt
        obtain ⟨xt0, xt1⟩ := bT k hlt
        have i0 : (0 : Int) ≤ (k : Int) := by omega
        have i1 : (k : Int) < 3 := by omega
        generalize A k = x at ca xa0 xa1
        generalize T k = t at ct xt0 xt1
        generalize E k = ep at ce
        clear hA hT hE bA bT bE g2
        by_cases hb : 0 ≤ a1
        · go_wp2_with fail
          refine wp_region_after (by kernel_rfl) (by kernel_rfl) ?_
          repeat (go_big_quiet_step (first
              | (go_at_call 9; exact after_of (add_any _ _ _ (by omega) (by omega)))
              | (go_at_call 11; exact after_of (short_any _ _ _))
              | (go_at_call 13; exact after_of (long_any _ _ _))
              | (go_at_call 10; exact after_of_same ((refAdd _ _ _ (by omega) (by omega) (by omega) (by omega))))
              | (go_at_call 12; exact after_of_same (refShort _ _ _))
              | (go_at_call 14; exact after_of_same (refLong _ _ _))))
          refine wpQuiet_nil ?_
          intro w' hw'
          replace hw' := after_grown hw'
          replace ca := Ex.on hw' ca
          replace ct := Ex.on hw' ct
          replace ce := Ex.on hw' ce
          replace gk := Ex.trans gk hw'
          clear hw'
          have h3 : t < 0 ∨ 1099511627776 < t ∨ 0 ≤ t ∧ t ≤ 1099511627776 := by omega
          rcases h3 with h3 | h3 | ⟨h3, h4⟩
          all_goals
            first
              | have hd : decide (t ≤ 1099511627776) = true := decide_eq_true (by omega)
              | have hd : decide (t ≤ 1099511627776) = false := decide_eq_false (by omega)
            try have td := tdiv8 t h3
            go_wp2_with fail
            refine wp_region_after (by kernel_rfl) (by kernel_rfl) ?_
            repeat (go_big_quiet_step (fail))
            refine wpQuiet_nil ?_
            intro w' hw'
            replace hw' := after_grown hw'
            replace ca := Ex.on hw' ca
            replace ct := Ex.on hw' ct
            replace ce := Ex.on hw' ce
            replace gk := Ex.trans gk hw'
            clear hw'
            go_wp2_with fail
            refine wp_region_after (by kernel_rfl) (by kernel_rfl) ?_
            repeat (go_big_quiet_step (first
              | (go_at_call 15; exact after_of (fits_any _ _ _ _ (by omega)))
              | (go_at_call 16; exact after_of_same (refFits _ _ _ _))))
            refine wpQuiet_nil ?_
            intro w' hw'
            replace hw' := after_grown hw'
            replace ca := Ex.on hw' ca
            replace ct := Ex.on hw' ct
            replace ce := Ex.on hw' ce
            replace gk := Ex.trans gk hw'
            clear hw'
            go_wp2_with fail
            go_roundw
            case rel => exact ⟨k + 1, by omega, by go_num, gk⟩
            case measure => simp [intOf]; omega
        · go_wp2_with fail
          refine wp_region_after (by kernel_rfl) (by kernel_rfl) ?_
          repeat (go_big_quiet_step (first
              | (go_at_call 9; exact after_of (add_any _ _ _ (by omega) (by omega)))
              | (go_at_call 11; exact after_of (short_any _ _ _))
              | (go_at_call 13; exact after_of (long_any _ _ _))
              | (go_at_call 10; exact after_of_same ((refAdd _ _ _ (by omega) (by omega) (by omega) (by omega))))
              | (go_at_call 12; exact after_of_same (refShort _ _ _))
              | (go_at_call 14; exact after_of_same (refLong _ _ _))))
          refine wpQuiet_nil ?_
          intro w' hw'
          replace hw' := after_grown hw'
          replace ca := Ex.on hw' ca
          replace ct := Ex.on hw' ct
          replace ce := Ex.on hw' ce
          replace gk := Ex.trans gk hw'
          clear hw'
          have h3 : t < 0 ∨ 1099511627776 < t ∨ 0 ≤ t ∧ t ≤ 1099511627776 := by omega
          rcases h3 with h3 | h3 | ⟨h3, h4⟩
          all_goals
            first
              | have hd : decide (t ≤ 1099511627776) = true := decide_eq_true (by omega)
              | have hd : decide (t ≤ 1099511627776) = false := decide_eq_false (by omega)
            try have td := tdiv8 t h3
            go_wp2_with fail
            refine wp_region_after (by kernel_rfl) (by kernel_rfl) ?_
            repeat (go_big_quiet_step (fail))
            refine wpQuiet_nil ?_
            intro w' hw'
            replace hw' := after_grown hw'
            replace ca := Ex.on hw' ca
            replace ct := Ex.on hw' ct
            replace ce := Ex.on hw' ce
            replace gk := Ex.trans gk hw'
            clear hw'
            go_wp2_with fail
            refine wp_region_after (by kernel_rfl) (by kernel_rfl) ?_
            repeat (go_big_quiet_step (first
              | (go_at_call 15; exact after_of (fits_any _ _ _ _ (by omega)))
              | (go_at_call 16; exact after_of_same (refFits _ _ _ _))))
            refine wpQuiet_nil ?_
            intro w' hw'
            replace hw' := after_grown hw'
            replace ca := Ex.on hw' ca
            replace ct := Ex.on hw' ct
            replace ce := Ex.on hw' ce
            replace gk := Ex.trans gk hw'
            clear hw'
            go_wp2_with fail
            go_roundw
            case rel => exact ⟨k + 1, by omega, by go_num, gk⟩
            case measure => simp [intOf]; omega
      · clear hA hT hE bA bT bE
        replace gk := Ex.trans g2 gk
        clear g2
        go_wp2_with (first
          | (go_at_call 15; refine (fits_any _ _ _ _ (by omega)).mono ?_; rintro e w' ⟨rfl, g3⟩; replace gk := Ex.trans gk g3; clear g3)
          | (go_at_call 16; refine (refFits _ _ _ _).mono ?_; rintro e w' ⟨rfl, rfl⟩))
        all_goals
          go_ret
          exact ⟨by simp, gk⟩
end Go.Proofs.Ytfcmbmhlnpklcaa.clockAll
