/- ClockForms: what some terms come to. A closed statement: no condition. -/
import Derived.Test.YtfcmbmhlnpklcaaRows
import Derived.Test.YtfcmbmhlnpklcaaClkBegun
import Derived.Deep.DeepCutAuto
namespace Go.Proofs.Ytfcmbmhlnpklcaa.clockForms
open Go.ChangeShapes Go.WideShapes Go.ChangeAt Go.RowKit
open clk

def T (k : Nat) : Int := [0, 60, 60, 60, 100, 1, 1000, 1099511627776, 60, -1, 60].getD k 0
def E (k : Nat) : Int := [100, 0, 100, 500, 1, 100, 333, 0, 501, 100, -1].getD k 0
def S (k : Nat) : Int := [0, 60, 49, 20, 99, 0, 500, 1099511627776, 0, 0, 0].getD k 0
def L (k : Nat) : Int := [0, 60, 74, 180, 101, 2, 1999, 1099511627776, 0, 0, 0].getD k 0
theorem eleven {k : Nat} (h : k < 11) : k = 0 ∨ k = 1 ∨ k = 2 ∨ k = 3 ∨ k = 4 ∨ k = 5 ∨ k = 6 ∨ k = 7 ∨ k = 8 ∨ k = 9 ∨ k = 10 := by omega
theorem short_S (k : Nat) (h : k < 11) : shortS (T k) (E k) = S k := by
  rcases eleven h with rfl | rfl | rfl | rfl | rfl | rfl | rfl | rfl | rfl | rfl | rfl <;> decide
theorem long_L (k : Nat) (h : k < 11) : longS (T k) (E k) = L k := by
  rcases eleven h with rfl | rfl | rfl | rfl | rfl | rfl | rfl | rfl | rfl | rfl | rfl <;> decide
def Row (w : World) (s : Value) (A : Nat → Int) : Prop := ∃ p : Nat, s = .slice (some ⟨p, 0, none⟩) 11 11 ∧ ∀ k, k < 11 → w.cell? ⟨p, k, none⟩ = some (.int .i64 (A k))
def RF (w0 : World) (s1 s2 s3 s4 : Value) (wx : World) : Prop := Row wx s1 T ∧ Row wx s2 E ∧ Row wx s3 S ∧ Row wx s4 L ∧ Ex w0 wx

set_option maxRecDepth 100000 in
set_option maxHeartbeats 4000000 in
theorem walk (w : World) : Calls Try.prog 6 #[] w fun e w' => e = .returned (.bool true) ∧ Ex w w' := by
  go_enter Try.func6, Try.ntmps6
  go_wp2_with fail
  refine (begun_any _).mono ?_
  rintro e w1 ⟨rfl, g1⟩
  go_upto_region 3 with fail
  go_cut [1, 2, 3, 4] (RF w)
  case first =>
    go_wp2_with fail
    go_meet
    refine ⟨⟨_, rfl, ?_⟩, ⟨_, rfl, ?_⟩, ⟨_, rfl, ?_⟩, ⟨_, rfl, ?_⟩, Ex.trans g1 (by go_grown)⟩
    all_goals
      intro k hk
      rcases eleven hk with rfl | rfl | rfl | rfl | rfl | rfl | rfl | rfl | rfl | rfl | rfl <;> simp [T, E, S, L, go_sem]
  case rest =>
    obtain ⟨⟨pt, rfl, hT⟩, ⟨pe, rfl, hE⟩, ⟨ps, rfl, hS⟩, ⟨pl, rfl, hL⟩, g2⟩ := hcut
    clear g1
    go_wp2_with fail
    go_loopw [5] (fun i wr => ∃ k : Nat, k ≤ 11 ∧ i = .int .i64 k ∧ Ex wc wr) (fun i _ => 11 - (intOf i).toNat)
    case atStart => exact ⟨0, by omega, rfl, Ex.refl _⟩
    case round =>
      obtain ⟨k, hk, rfl, gk⟩ := hrel
      by_cases hlt : k < 11
      · have ct := Ex.on gk (hT k hlt)
        have ce := Ex.on gk (hE k hlt)
        have cs := Ex.on gk (hS k hlt)
        have cl := Ex.on gk (hL k hlt)
        have HS := Lib.hid (short_S k hlt)
        have HL := Lib.hid (long_L k hlt)
        have i0 : (0 : Int) ≤ (k : Int) := by omega
        have i1 : (k : Int) < 11 := by omega
        generalize T k = t at ct HS HL
        generalize E k = ep at ce HS HL
        generalize S k = s at cs HS
        generalize L k = l at cl HL
        clear hT hE hS hL g2
        go_wp2_with fail
        refine wp_region_after (by kernel_rfl) (by kernel_rfl) ?_
        repeat (go_big_quiet_step (first
          | (go_at_call 11; exact after_of (short_is _ _ _ _ HS.out))
          | (go_at_call 13; exact after_of (long_is _ _ _ _ HL.out))))
        refine wpQuiet_nil ?_
        intro w' hw'
        replace hw' := after_grown hw'
        replace gk := Ex.trans gk hw'
        go_wp2_with fail
        go_roundw
        case rel => exact ⟨k + 1, by omega, by go_num, gk⟩
        case measure => simp [intOf]; omega
      · clear hT hE hS hL
        replace gk := Ex.trans g2 gk
        clear g2
        go_wp2_with fail
        refine (add_is 9223372036854775807 1 9223372036854775807 _ (by decide) (by omega) (by omega)).mono ?_
        rintro e w' ⟨rfl, g3⟩
        replace gk := Ex.trans gk g3
        clear g3
        go_wp2_with fail
        refine (add_is 4611686018427387904 4611686018427387904 9223372036854775807 _ (by decide) (by omega) (by omega)).mono ?_
        rintro e w' ⟨rfl, g3⟩
        replace gk := Ex.trans gk g3
        clear g3
        go_wp2_with fail
        refine (add_is 0 9223372036854775807 9223372036854775807 _ (by decide) (by omega) (by omega)).mono ?_
        rintro e w' ⟨rfl, g3⟩
        replace gk := Ex.trans gk g3
        clear g3
        go_wp2_with fail
        refine (fits_is 0 0 100 true _ (by decide) (by omega)).mono ?_
        rintro e w' ⟨rfl, g3⟩
        replace gk := Ex.trans gk g3
        clear g3
        go_wp2_with fail
        refine (fits_is 0 1 500 false _ (by decide) (by omega)).mono ?_
        rintro e w' ⟨rfl, g3⟩
        replace gk := Ex.trans gk g3
        clear g3
        go_wp2_with fail
        refine (fits_is 10 9 100 true _ (by decide) (by omega)).mono ?_
        rintro e w' ⟨rfl, g3⟩
        replace gk := Ex.trans gk g3
        clear g3
        go_wp2_with fail
        refine (fits_is 10 8 100 false _ (by decide) (by omega)).mono ?_
        rintro e w' ⟨rfl, g3⟩
        replace gk := Ex.trans gk g3
        clear g3
        go_wp2_with fail
        refine (fits_is 7 7 0 true _ (by decide) (by omega)).mono ?_
        rintro e w' ⟨rfl, g3⟩
        replace gk := Ex.trans gk g3
        clear g3
        go_wp2_with fail
        refine (fits_is (-1) 0 100 false _ (by decide) (by omega)).mono ?_
        rintro e w' ⟨rfl, g3⟩
        replace gk := Ex.trans gk g3
        clear g3
        go_wp2_with fail
        refine (fits_is 10 10 501 false _ (by decide) (by omega)).mono ?_
        rintro e w' ⟨rfl, g3⟩
        replace gk := Ex.trans gk g3
        clear g3
        go_wp2_with fail
        refine (fits_is 10 (-1) 500 false _ (by decide) (by omega)).mono ?_
        rintro e w' ⟨rfl, g3⟩
        replace gk := Ex.trans gk g3
        clear g3
        go_wp2_with fail
        go_ret
        exact ⟨rfl, gk⟩

end Go.Proofs.Ytfcmbmhlnpklcaa.clockForms
