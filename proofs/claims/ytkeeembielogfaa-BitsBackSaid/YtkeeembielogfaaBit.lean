/- Contracts of package bits' own small functions. -/
import Derived.Test.YtkeeembielogfaaChecked
import Derived.Test.YtkeeembielogfaaBitMath
import Derived.OpenShut
import Derived.Defers
import Derived.Recover
import Derived.WalkLawsBesides
import Derived.KernelRfl
import Derived.Laws.BitsAllLaws
import Derived.Laws.BytesString
import Derived.Lib.AppendStr
import Derived.Lib.AppendZeros
import Derived.Outline
namespace Go.Proofs.Ytkeeembielogfaa.bit
open Go.RowKit

def Boom (w : World) (e : Ending) (w' : World) : Prop := ∃ u v, e = .panicked [{ v := .iface u v, recovered := false }] ∧ w = w'
/-- A slice that reads as zs came of it; nothing that was there has turned. -/
def Tells (w : World) (zs : List Nat) (e : Ending) (w' : World) : Prop := ∃ v, e = .returned v ∧ RowV w' v (u8s zs) ∧ Ex w w'

theorem i64_or (a b : Nat) (ha : a < 18446744073709551616) (hb : b < 18446744073709551616) (hab : a ||| b < 9223372036854775808) : bits .or .i64 (a : Int) (b : Int) = ((a ||| b : Nat) : Int) := by
  show IntKind.i64.wrap ((BitVec.ofInt 64 (a : Int) ||| BitVec.ofInt 64 (b : Int)).toNat : Int) = _
  rw [BitVec.toNat_or, ofInt_u64 a ha, ofInt_u64 b hb, IntKind.wrap_i64]
  omega
theorem or_low (d z : Nat) (hz : z < 256) : (d * 256) ||| z = d * 256 + z := by
  have := Nat.shiftLeft_add_eq_or_of_lt (i := 8) (b := z) (by omega) d
  rw [Nat.shiftLeft_eq] at this
  exact this.symm
theorem ret_i64 {a b : Int} (h : a = b) : Ending.returned (.int .i64 a) = .returned (.int .i64 b) := by rw [h]

theorem number_any (v : Value) (zs : List Nat) (w : World) (hr : RowV w v (u8s zs)) (hz : ∀ z ∈ zs, z < 256) (hl : zs.length ≤ 7) :
    Calls Try.prog 17 #[v] w fun e w' => e = .returned (.int .i64 (num zs : Nat)) ∧ w = w' := by
  obtain ⟨a, cap, rfl, h1, h2, h3⟩ := hr
  simp only [u8s_length] at h1 h3 ⊢
  unfold maxLen at h2
  have HZ := Lib.hid hz
  clear hz
  go_enter Try.func17, Try.ntmps17
  go_wp2_with fail
  go_loopw [3, 8] (fun s i wr => ∃ k : Nat, k ≤ zs.length ∧ i = .int .i64 k ∧ s = .int .i64 (num (zs.take k) : Nat) ∧ w = wr) (fun _ i _ => zs.length - (intOf i).toNat)
  case atStart => exact ⟨0, by omega, rfl, rfl, rfl⟩
  case round =>
    obtain ⟨k, hk, rfl, rfl, rfl⟩ := hrel
    by_cases hlt : k < zs.length
    · obtain ⟨b, off, rfl, hc⟩ := h3 (by omega)
      have ck := hc k _ (u8s_get zs k hlt)
      have i1 : (k : Int) < (zs.length : Int) := by omega
      have i0 : (0 : Int) ≤ (k : Int) := by omega
      have HC := Lib.hid (num_step hlt)
      have hb : num (zs.take k) < 281474976710656 := Nat.lt_of_lt_of_le (num_take_lt HZ.out k) (Nat.pow_le_pow_right (n := 256) (j := 6) (by omega) (by omega))
      have hzk := HZ.out _ (getD_mem hlt)
      clear hc h3
      generalize num (zs.take k) = d at *
      generalize zs.getD k 0 = z at *
      have hx := i64_or (d * 256) z (by omega) (by omega) (by rw [or_low d z hzk]; omega)
      rw [or_low d z hzk] at hx
      rw [Int.natCast_mul] at hx
      go_wp2_with fail
      go_roundw
      case rel => exact ⟨k + 1, by omega, by go_num, by rw [HC.out]; exact vint hx, trivial⟩
      case measure => simp [intOf]; omega
    · have hkl : k = zs.length := by omega
      have HK := Lib.hid hkl
      clear hkl h3
      go_wp2_with fail
      go_ret
      exact ⟨ret_i64 (by rw [HK.out, List.take_length]), rfl⟩

theorem front_ok (a : Option Addr) (n cap : Nat) (k : Int) (w : World) (h0 : 0 ≤ k) (hk : k ≤ n) (_hnc : n ≤ cap) (_hc : cap ≤ maxLen) :
    Calls Try.prog 18 #[.slice a n cap, .int .i64 k] w fun e w' => e = .returned (.slice a k.toNat cap) ∧ w = w' := by
  unfold maxLen at _hc
  go_enter Try.func18, Try.ntmps18
  go_wp2_with fail
  go_ret
  exact ⟨rfl, rfl⟩

theorem front_no (a : Option Addr) (n cap : Nat) (k : Int) (w : World) (hk : (n : Int) < k) :
    Calls Try.prog 18 #[.slice a n cap, .int .i64 k] w (Boom w) := by
  go_enter Try.func18, Try.ntmps18
  go_wp2
  exact ⟨rfl, _, _, rfl, rfl⟩

/-- A slice's first bytes. -/
theorem front_row (v : Value) (zs : List Nat) (k : Int) (w : World) (hr : RowV w v (u8s zs)) (h0 : 0 ≤ k) (hk : k ≤ zs.length) :
    Calls Try.prog 18 #[v, .int .i64 k] w fun e w' => ∃ u, e = .returned u ∧ RowV w u (u8s (zs.take k.toNat)) ∧ w = w' := by
  obtain ⟨a, cap, rfl, h1, h2⟩ := hr.len
  simp only [u8s_length] at h1 hr ⊢
  refine (front_ok a zs.length cap k w h0 hk h1 h2).mono fun e w' ⟨he, hw⟩ => ⟨_, he, ?_, hw⟩
  have := RowV.take hr k.toNat (by omega)
  rwa [u8s_take]
theorem front_none (v : Value) (zs : List Nat) (k : Int) (w : World) (hr : RowV w v (u8s zs)) (hk : (zs.length : Int) < k) :
    Calls Try.prog 18 #[v, .int .i64 k] w (Boom w) := by
  obtain ⟨a, cap, rfl, h1, h2⟩ := hr.len
  rw [u8s_length]
  exact front_no a zs.length cap k w hk

theorem low_none (v n : Int) (w : World) (h : n < 1 ∨ 8 < n) :
    Calls Try.prog 20 #[.int .i64 v, .int .i64 n] w fun e w' => e = .returned (.slice none 0 0) ∧ w = w' := by
  by_cases h1 : n < 1
  · have d1 : decide (n < 1) = true := decide_eq_true h1
    go_enter Try.func20, Try.ntmps20
    go_wp2_with fail
    go_ret
    exact ⟨rfl, rfl⟩
  · have d1 : decide (n < 1) = false := decide_eq_false h1
    have d2 : decide (8 < n) = true := decide_eq_true (by omega)
    go_enter Try.func20, Try.ntmps20
    go_wp2_with fail
    go_ret
    exact ⟨rfl, rfl⟩

end Go.Proofs.Ytkeeembielogfaa.bit
