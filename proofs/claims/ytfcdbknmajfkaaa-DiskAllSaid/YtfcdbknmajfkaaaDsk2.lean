/- Contracts of package disk, second part: what lasts of what waited. -/
import Derived.Test.YtfcdbknmajfkaaaDsk
import Derived.Deep.QuietTactic
import Derived.BigQuiet
import Derived.Handy
namespace Go.Proofs.Ytfcdbknmajfkaaa.dsk
set_option maxRecDepth 100000
open Go.RowKit

set_option maxRecDepth 100000 in
theorem kept_any (v : Value) (keep : List Int) (k : Nat) (w : World) (hr : RowE encI w v keep) : Calls Try.prog 60 #[v, .int .i64 (k : Int)] w fun e w' => e = .returned (.int .i64 (keep.getD k 0)) ∧ w = w' := by
  obtain ⟨a, cap, rfl, h1, h2⟩ := hr.len
  unfold maxLen at h2
  by_cases hk : k < keep.length
  · obtain ⟨b, off, rfl, _⟩ := hr.addr (by omega)
    have hc := hr.at (i := k) (j := 0) (x := keep.getD k 0) (by simp [List.getD, hk]) rfl
    simp only [encI, Nat.mul_one, Nat.add_zero] at hc
    have i1 : (k : Int) < (keep.length : Int) := by omega
    have i0 : (0 : Int) ≤ (k : Int) := by omega
    clear hr
    generalize keep.getD k 0 = z at *
    go_enter Try.func60, Try.ntmps60
    go_wp2_with fail
    go_ret
    exact ⟨rfl, rfl⟩
  · have hz : keep.getD k 0 = 0 := by simp [List.getD, List.getElem?_eq_none (show keep.length ≤ k by omega)]
    rw [hz]
    have i1 : decide (k < keep.length) = false := decide_eq_false (by omega)
    clear hz hr hk
    go_enter Try.func60, Try.ntmps60
    go_wp2_with fail
    go_ret
    exact ⟨rfl, rfl⟩

theorem ret_str {a b : ByteArray} (h : a = b) : Ending.returned (.string a) = .returned (.string b) := by rw [h]
theorem ext_none (a : ByteArray) (n : Nat) : a.extract n n = ByteArray.empty := by
  apply ByteArray.ext
  simp
theorem ext_all (a : ByteArray) (ha : a.size = 32) : a.extract 0 32 = a := by
  apply ByteArray.ext
  rw [← ha]
  simp
theorem putAt_full (a b : ByteArray) (hb : b.size = 32) : putAt b a 32 = b := by
  unfold putAt
  rw [ext_none, ext_all b hb, ByteArray.append_empty]
theorem putAt_full' (a b : ByteArray) : putAt b a 32 = b.extract 0 32 := by
  unfold putAt
  rw [ext_none, ByteArray.append_empty]
theorem putAt_none (a b : ByteArray) : putAt b a 0 = a.extract 0 32 := by
  unfold putAt
  rw [ext_none, ByteArray.empty_append]

theorem begun_any (a b : ByteArray) (x : Int) (w : World) (ha : a.size = 32) (hb : b.size = 32) :
    Calls Try.prog 59 #[.string a, .string b, .int .i64 x] w fun e w' => e = .returned (.string (putAt b a (clip x))) ∧ ∃ n, w' = w.drewN n := by
  rcases Int.lt_or_le 32 x with h | h
  · have hc : clip x = 32 := by unfold clip; omega
    rw [hc]
    clear hc
    go_enter Try.func59, Try.ntmps59
    go_wp2_with fail
    go_quiet (fail)
    go_wp2_with fail
    go_ret
    exact ⟨ret_str (putAt_full' a b).symm, _, rfl⟩
  · rcases Int.lt_or_le 0 x with h0 | h0
    · obtain ⟨n, rfl⟩ : ∃ n : Nat, x = (n : Int) := ⟨x.toNat, by omega⟩
      have hc : clip (n : Int) = n := by unfold clip; omega
      have hn : n ≤ 32 := by omega
      rw [hc]
      clear hc
      go_enter Try.func59, Try.ntmps59
      go_wp2_with fail
      go_quiet (fail)
      go_wp2_with fail
      go_ret
      exact ⟨rfl, _, rfl⟩
    · have hc : clip x = 0 := by unfold clip; omega
      rw [hc]
      clear hc
      go_enter Try.func59, Try.ntmps59
      go_wp2_with fail
      go_quiet (fail)
      go_wp2_with fail
      go_ret
      exact ⟨ret_str (putAt_none a b).symm, _, rfl⟩

end Go.Proofs.Ytfcdbknmajfkaaa.dsk
