/- Whether crc does anything yet: it does. What the sums of some literals are. -/
import Derived.Test.YtobhmanalnaemaaCrc
import Derived.Deep.DeepCutAuto
import Derived.RegionTactic
import Derived.Lib.SlBytesConst
namespace Go.Proofs.Ytobhmanalnaemaa.crc
open Go.ChangeShapes Go.WideShapes Go.ChangeAt Go.RowKit

theorem alloc_ex (w : World) (o : Obj) : Ex w (w.alloc o) := (Below.refl _ _).alloc (Nat.le_refl _) o
/-- The sum of a literal of n bytes. -/
theorem sum_lit (zs : List Nat) (n r p : Nat) (W : World) (hn : zs.length = n) (hl : n ≤ 1000) (hz : (zs.all fun z => decide (z < 256)) = true) (hr : cSum 0 zs = r)
    (hc : ∀ i, i < n → W.cell? ⟨p, i, none⟩ = some (.int .u8 (zs.getD i 0 : Nat))) :
    Calls Try.prog 8 #[.slice (some ⟨p, 0, none⟩) n n] W fun e w' => e = .returned (.int .u16 (r : Int)) ∧ W = w' := by
  subst hn hr
  refine sum_any _ zs W ⟨some ⟨p, 0, none⟩, zs.length, by rw [u8s_length], by rw [u8s_length]; exact Nat.le_refl _, by unfold maxLen; omega, fun _ => ⟨p, 0, rfl, fun i u hu => ?_⟩⟩ ?_
  · have hi : i < zs.length := by have := (List.getElem?_eq_some_iff.1 hu).1; simpa using this
    rw [u8s_get zs i hi] at hu
    rw [Nat.zero_add, hc i hi]
    exact hu
  · intro z h
    exact of_decide_eq_true (List.all_eq_true.1 hz z h)

theorem sum_one (z r p : Nat) (W : World) (hz : z < 256) (hr : cSum 0 [z] = r) (hc : W.cell? ⟨p, 0, none⟩ = some (.int .u8 (z : Int))) :
    Calls Try.prog 8 #[.slice (some ⟨p, 0, none⟩) 1 1] W fun e w' => e = .returned (.int .u16 (r : Int)) ∧ W = w' :=
  sum_lit [z] 1 r p W rfl (by omega) (by simp; omega) hr fun i hi => by
    obtain rfl : i = 0 := by omega
    exact hc
theorem lit_cell (w : World) (C : Array Value) (e : TypeId) (fz : Nat × Nat) (i b : Nat) (hb : b = w.heap.size) : (w.alloc (.cells C e fz)).cell? ⟨b, i, none⟩ = C[i]? := by
  subst hb
  show (match (w.heap.push (.cells C e fz))[w.heap.size]? with | some (.cells C _ _) => C[i]? | _ => none) = _
  simp
theorem conv_lit (w : World) (C : Array Value) (n c b : Nat) (hb : b = w.heap.size) :
    (convert 22 22 (.slice (some ⟨b, 0, none⟩) n c)).run Try.prog (w.alloc (.cells C 5)) = .ok (.slice (some ⟨b, 0, none⟩) n c) (w.alloc (.cells C 5 (C.size, C.size + 1))) := by
  subst hb
  exact Lib.run_convert_bytes_const (P := Try.prog) w 22 5 C n c Try.underlying22 Try.underlying5
theorem begun_any (w : World) : Calls Try.prog 7 #[] w fun e w' => e = .returned (.bool true) ∧ Ex w w' := by
  have kc := conv_lit
  go_enter Try.func7, Try.ntmps7
  go_wp2_with fail
  refine (sum_lit [49, 50, 51, 52, 53, 54, 55, 56, 57] 9 47933 _ _ rfl (by omega) (by decide) (by decide +kernel) ?_).mono ?_
  · intro i hi
    rcases (show i = 0 ∨ i = 1 ∨ i = 2 ∨ i = 3 ∨ i = 4 ∨ i = 5 ∨ i = 6 ∨ i = 7 ∨ i = 8 by omega) with rfl | rfl | rfl | rfl | rfl | rfl | rfl | rfl | rfl <;> simp [lit_cell, go_sem]
  rintro e w' ⟨rfl, rfl⟩
  go_wp2_with fail
  refine (sum_any _ [] _ (RowV.nil _) (by simp)).mono ?_
  rintro e w' ⟨rfl, rfl⟩
  go_wp2_with fail
  go_ret
  exact ⟨rfl, by go_grown⟩

end Go.Proofs.Ytobhmanalnaemaa.crc
