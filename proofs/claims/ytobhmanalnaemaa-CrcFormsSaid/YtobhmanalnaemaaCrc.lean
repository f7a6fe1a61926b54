/- Contracts of package crc and of the document's answer to it: sums by bits. -/
import Derived.Test.YtobhmanalnaemaaChecked
import Derived.Test.YtobhmanalnaemaaCrcMath
import Derived.Test.YtobhmanalnaemaaRow
import Derived.OpenShut
import Derived.WalkLawsBesides
import Derived.KernelRfl
import Derived.Laws.BitsAllLaws
import Derived.Outline
namespace Go.Proofs.Ytobhmanalnaemaa.crc
open Go.RowKit

theorem and_one (c : Nat) (h : c < 65536) : bits .and .u16 (c : Int) 1 = ((c % 2 : Nat) : Int) := by
  have := u16_and_nat c 1 h (by omega)
  rw [show ((1 : Nat) : Int) = 1 from rfl] at this
  rw [this, Nat.and_one_is_mod]
theorem xor_pol (c : Nat) (h : c < 65536) : bits .xor .u16 (c : Int) 40961 = ((c ^^^ 40961 : Nat) : Int) := u16_xor_nat c 40961 h (by omega)
theorem ret_u16 {a b : Int} (h : a = b) : Ending.returned (.int .u16 a) = .returned (.int .u16 b) := by rw [h]

theorem bit_any (c : Nat) (h : c < 65536) (w : World) :
    Calls Try.prog 11 #[.int .u16 (c : Int)] w fun e w' => e = .returned (.int .u16 (cBit c : Nat)) ∧ w = w' := by
  have h1 := and_one c h
  have h2 := xor_pol (c / 2) (by omega)
  rw [Int.natCast_ediv] at h2
  rcases Nat.mod_two_eq_zero_or_one c with hc | hc
  · have HB := Lib.hid (show cBit c = c / 2 by unfold cBit; rw [if_neg (by omega)])
    rw [hc] at h1
    go_enter Try.func11, Try.ntmps11
    go_wp2
    go_ret
    exact ⟨ret_u16 (by rw [HB.out]; omega), rfl⟩
  · have HB := Lib.hid (show cBit c = c / 2 ^^^ 40961 by unfold cBit; rw [if_pos (by omega)])
    rw [hc] at h1
    go_enter Try.func11, Try.ntmps11
    go_wp2
    go_ret
    exact ⟨ret_u16 (by rw [HB.out, ← h2]; rfl), rfl⟩

theorem byte_any (c : Nat) (h : c < 65536) (w : World) :
    Calls Try.prog 10 #[.int .u16 (c : Int)] w fun e w' => e = .returned (.int .u16 (cByte c : Nat)) ∧ w = w' := by
  go_enter Try.func10, Try.ntmps10
  go_wp2_with fail
  go_loopw [0, 3] (fun s i wr => ∃ k : Nat, k ≤ 8 ∧ i = .int .i64 k ∧ s = .int .u16 (cBits k c : Nat) ∧ w = wr) (fun _ i _ => 8 - (intOf i).toNat)
  case atStart => exact ⟨0, by omega, rfl, rfl, rfl⟩
  case round =>
    obtain ⟨k, hk, rfl, rfl, rfl⟩ := hrel
    by_cases hlt : k < 8
    · have i1 : (k : Int) < 8 := by omega
      have i0 : (0 : Int) ≤ (k : Int) := by omega
      have HC := Lib.hid (cBits_succ k c)
      have hb := cBits_lt k h
      generalize cBits k c = d at *
      go_wp2_with fail
      refine (bit_any d hb _).mono ?_
      rintro e w' ⟨rfl, rfl⟩
      go_wp2_with fail
      go_roundw
      case rel => exact ⟨k + 1, by omega, by go_num, by rw [HC.out], trivial⟩
      case measure => simp [intOf]; omega
    · have hk8 : k = 8 := by omega
      have HK := Lib.hid hk8
      clear hk8
      go_wp2_with fail
      go_ret
      exact ⟨by rw [HK.out]; rfl, rfl⟩

/-- A byte more. -/
theorem sum_step {zs : List Nat} {k : Nat} (h : k < zs.length) : cSum 0 (zs.take (k + 1)) = cByte (cSum 0 (zs.take k) ^^^ zs.getD k 0) := by
  rw [List.take_add_one, cSum_app]
  simp [List.getD, h, cSum]
theorem sum_lt {zs : List Nat} (h : ∀ z ∈ zs, z < 256) : cSum 0 zs < 65536 := cSum_lt zs (by omega) h
theorem sum_take_lt {zs : List Nat} (h : ∀ z ∈ zs, z < 256) (k : Nat) : cSum 0 (zs.take k) < 65536 := cSum_lt _ (by omega) fun z hz => h z (List.mem_of_mem_take hz)

theorem sum_any (v : Value) (zs : List Nat) (w : World) (hr : RowV w v (u8s zs)) (hz : ∀ z ∈ zs, z < 256) :
    Calls Try.prog 8 #[v] w fun e w' => e = .returned (.int .u16 (cSum 0 zs : Nat)) ∧ w = w' := by
  obtain ⟨a, cap, rfl, h1, h2, h3⟩ := hr
  simp only [u8s_length] at h1 h3 ⊢
  unfold maxLen at h2
  have HZ := Lib.hid hz
  clear hz
  go_enter Try.func8, Try.ntmps8
  go_wp2_with fail
  go_loopw [3, 8] (fun s i wr => ∃ k : Nat, k ≤ zs.length ∧ i = .int .i64 k ∧ s = .int .u16 (cSum 0 (zs.take k) : Nat) ∧ w = wr) (fun _ i _ => zs.length - (intOf i).toNat)
  case atStart => exact ⟨0, by omega, rfl, rfl, rfl⟩
  case round =>
    obtain ⟨k, hk, rfl, rfl, rfl⟩ := hrel
    by_cases hlt : k < zs.length
    · obtain ⟨b, off, rfl, hc⟩ := h3 (by omega)
      have ck := hc k _ (u8s_get zs k hlt)
      have i1 : (k : Int) < (zs.length : Int) := by omega
      have i0 : (0 : Int) ≤ (k : Int) := by omega
      have HC := Lib.hid (sum_step hlt)
      have hb := sum_take_lt HZ.out k
      have hzk := HZ.out _ (getD_mem hlt)
      have hx := u16_xor_nat (cSum 0 (zs.take k)) (zs.getD k 0) hb (by omega)
      have hxl : cSum 0 (zs.take k) ^^^ zs.getD k 0 < 65536 := Nat.xor_lt_two_pow (n := 16) hb (by omega)
      clear hc h3
      generalize cSum 0 (zs.take k) = d at *
      generalize zs.getD k 0 = z at *
      go_wp2_with fail
      refine (byte_any (d ^^^ z) hxl _).mono ?_
      rintro e w' ⟨rfl, rfl⟩
      go_wp2_with fail
      go_roundw
      case rel => exact ⟨k + 1, by omega, by go_num, by rw [HC.out], trivial⟩
      case measure => simp [intOf]; omega
    · have hkl : k = zs.length := by omega
      have HK := Lib.hid hkl
      clear hkl h3
      go_wp2_with fail
      go_ret
      exact ⟨ret_u16 (by rw [HK.out, List.take_length]), rfl⟩


theorem i64_xor (a b : Nat) (ha : a < 65536) (hb : b < 65536) : bits .xor .i64 (a : Int) (b : Int) = ((a ^^^ b : Nat) : Int) := by
  have h : a ^^^ b < 65536 := Nat.xor_lt_two_pow (n := 16) ha hb
  show IntKind.i64.wrap ((BitVec.ofInt 64 (a : Int) ^^^ BitVec.ofInt 64 (b : Int)).toNat : Int) = _
  rw [BitVec.toNat_xor, ofInt_u64 a (by omega), ofInt_u64 b (by omega), IntKind.wrap_i64]
  omega
def RRef (w : World) (zs : List Nat) (i c : Value) (wr : World) : Prop :=
  ∃ k : Nat, k ≤ zs.length ∧ i = .int .i64 k ∧ c = .int .i64 (cSum 0 (zs.take k) : Nat) ∧ w = wr
def RRefIn (w : World) (d : Nat) (k c : Value) (wr : World) : Prop :=
  ∃ j : Nat, j ≤ 8 ∧ k = .int .i64 j ∧ c = .int .i64 (cBits j d : Nat) ∧ w = wr

theorem ref_any (v : Value) (zs : List Nat) (w : World) (hr : RowV w v (u8s zs)) (hz : ∀ z ∈ zs, z < 256) :
    Calls Try.prog 9 #[v] w fun e w' => e = .returned (.int .u16 (cSum 0 zs : Nat)) ∧ w = w' := by
  obtain ⟨a, cap, rfl, h1, h2, h3⟩ := hr
  simp only [u8s_length] at h1 h3 ⊢
  unfold maxLen at h2
  have HZ := Lib.hid hz
  clear hz
  go_enter Try.func9, Try.ntmps9
  go_wp2_with fail
  go_loopw [4, 3] (RRef w zs) (fun i _ _ => zs.length - (intOf i).toNat)
  case atStart => exact ⟨0, by omega, rfl, rfl, rfl⟩
  case round =>
    obtain ⟨k, hk, rfl, rfl, rfl⟩ := hrel
    by_cases hlt : k < zs.length
    · obtain ⟨b, off, rfl, hc⟩ := h3 (by omega)
      have ck := hc k _ (u8s_get zs k hlt)
      have i1 : (k : Int) < (zs.length : Int) := by omega
      have i0 : (0 : Int) ≤ (k : Int) := by omega
      have HC := Lib.hid (sum_step hlt)
      have hb := sum_take_lt HZ.out k
      have hzk := HZ.out _ (getD_mem hlt)
      have hx := i64_xor (cSum 0 (zs.take k)) (zs.getD k 0) hb (by omega)
      have hxl : cSum 0 (zs.take k) ^^^ zs.getD k 0 < 65536 := Nat.xor_lt_two_pow (n := 16) hb (by omega)
      clear hc h3
      generalize cSum 0 (zs.take k) = d at *
      generalize zs.getD k 0 = z at *
      go_wp2_with fail
      have HX := Lib.hid hxl
      generalize d ^^^ z = d at *
      clear hx hxl hb
      go_loopw [5, 3] (RRefIn w d) (fun i _ _ => 8 - (intOf i).toNat)
      case atStart => exact ⟨0, by omega, rfl, rfl, rfl⟩
      case round =>
        obtain ⟨j, hj, rfl, rfl, rfl⟩ := hrel
        by_cases hjl : j < 8
        · have j1 : (j : Int) < 8 := by omega
          have j0 : (0 : Int) ≤ (j : Int) := by omega
          have HJ := Lib.hid (cBits_succ j d)
          have hbj := cBits_lt j HX.out
          generalize cBits j d = x at *
          rcases Nat.mod_two_eq_zero_or_one x with hc | hc
          · have HB := Lib.hid (show cBit x = x / 2 by unfold cBit; rw [if_neg (by omega)])
            have hd : ((x : Int) % 2 == 1) = false := by rw [beq_eq_false_iff_ne]; omega
            clear hc
            go_wp2_with fail
            go_roundw
            case rel => exact ⟨j + 1, by omega, by go_num, by rw [HJ.out, HB.out]; go_num, rfl⟩
            case measure => simp [intOf]; omega
          · have HB := Lib.hid (show cBit x = x / 2 ^^^ 40961 by unfold cBit; rw [if_pos (by omega)])
            have hd : ((x : Int) % 2 == 1) = true := by rw [beq_iff_eq]; omega
            have hp := i64_xor (x / 2) 40961 (by omega) (by omega)
            rw [Int.natCast_ediv] at hp
            clear hc
            go_wp2_with fail
            go_roundw
            case rel => exact ⟨j + 1, by omega, by go_num, by rw [HJ.out, HB.out]; go_num, rfl⟩
            case measure => simp [intOf]; omega
        · have hk8 : j = 8 := by omega
          have HK := Lib.hid hk8
          clear hk8
          go_wp2_with fail
          go_roundw
          case rel => exact ⟨k + 1, by omega, by go_num, by rw [HC.out, HK.out]; rfl, rfl⟩
          case measure => simp [intOf]; omega
    · have hkl : k = zs.length := by omega
      have HK := Lib.hid hkl
      clear hkl h3
      have hb := sum_take_lt HZ.out k
      go_wp2_with fail
      go_ret
      exact ⟨ret_u16 (by rw [HK.out, List.take_length]), rfl⟩

end Go.Proofs.Ytobhmanalnaemaa.crc
