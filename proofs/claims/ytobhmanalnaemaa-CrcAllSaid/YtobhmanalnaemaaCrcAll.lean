/- CrcAll: which sums bytes have. No condition. -/
import Derived.Test.YtobhmanalnaemaaRows
import Derived.Test.YtobhmanalnaemaaCrcLaws
import Derived.Test.YtobhmanalnaemaaFrame
namespace Go.Proofs.Ytobhmanalnaemaa.crcAll
open Go.ChangeShapes Go.WideShapes Go.ChangeAt Go.RowKit
open crc

theorem walk (w : World) (v : Value) (len : Nat) (Z : Nat → Int) (hg : IsRow .u8 w v len Z) :
    Calls Try.prog 3 #[v] w fun e w' => e = .returned (.bool true) ∧ Ex w w' := by
  obtain ⟨zs, rfl, hz, hrow⟩ := row_u8 hg
  have HZ := Lib.hid hz
  clear hz
  have HR := Lib.hid hrow
  obtain ⟨a, cap, rfl, hlc, hcm⟩ := hrow.len
  clear hrow hg
  simp only [u8s_length] at hlc HR ⊢
  unfold maxLen at hcm
  by_cases hl : zs.length ≤ 300
  · have hd : decide ((300 : Int) < (zs.length : Int)) = false := decide_eq_false (by omega)
    go_enter Try.func3, Try.ntmps3
    go_wp2_with fail
    refine (begun_any _).mono ?_
    rintro e w1 ⟨rfl, g1⟩
    go_wp2_with fail
    refine (sum_any _ zs _ (HR.out.ex g1) HZ.out).mono ?_
    rintro e w' ⟨rfl, rfl⟩
    go_wp2_with fail
    refine (ref_any _ zs _ (HR.out.ex g1) HZ.out).mono ?_
    rintro e w' ⟨rfl, rfl⟩
    go_wp2_with fail
    go_ret
    exact ⟨rfl, g1⟩
  · have hd : decide ((300 : Int) < (zs.length : Int)) = true := decide_eq_true (by omega)
    go_enter Try.func3, Try.ntmps3
    go_wp2_with fail
    refine (begun_any _).mono ?_
    rintro e w1 ⟨rfl, g1⟩
    go_wp2_with fail
    go_ret
    exact ⟨rfl, g1⟩

end Go.Proofs.Ytobhmanalnaemaa.crcAll
