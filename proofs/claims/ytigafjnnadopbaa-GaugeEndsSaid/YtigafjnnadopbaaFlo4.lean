/- What tenancymade.Floats makes; whether gauge does anything yet. -/
import Derived.Test.YtigafjnnadopbaaFlo3
import Derived.Deep.DeepCutAuto
import Derived.Deep.CutBlock
namespace Go.Proofs.Ytigafjnnadopbaa.flo
open Go.RowKit

/-- The float that a number makes, by its bits. -/
def fb (z : Nat) : Nat :=
  if z % 16 = 0 then 9221120237041090561 + z else
  if z % 16 = 1 then 9218868437227405312 else
  if z % 16 = 2 then 18442240474082181120 else
  if z % 16 = 3 then 9223372036854775808 else
  if z % 16 = 4 then 0 else
  if z % 16 = 5 then z else
  if z % 16 = 6 then 9218868437227405311 else
  if z % 16 = 7 then (Ieee.double.div (floatOfInt .f64 (((z / 16 : Nat) : Int) - 7)) 4613937818241073152).getD 0 else
  floatOfInt .f64 (((z / 16 : Nat) : Int) - 7)
def R5 (z : Nat) (w0 : World) (v : Value) (w : World) : Prop := v = .float .f64 (fb z) ∧ w = w0

def fbs (zs : List Nat) : List Nat := zs.map fb
def RFl (w : World) (zs : List Nat) (v i : Value) (wr : World) : Prop :=
  ∃ k : Nat, k ≤ zs.length ∧ i = .int .i64 k ∧ wr.ownsRow w.heap.size 22 1 v (fbs (zs.take k)).length (f64s (fbs (zs.take k))) ∧ Ex w wr

theorem div3 : ∀ q : Nat, q < 16 → (Ieee.double.div (floatOfInt .f64 ((q : Int) - 7)) 4613937818241073152).isSome = true := by decide +kernel
theorem div_run (z : Nat) (hz : z < 256) (w : World) :
    (binOp .quo 22 (.float .f64 (floatOfInt .f64 ((z : Int) / 16 - 7))) (.float .f64 4613937818241073152)).run Try.prog w = .ok (.float .f64 ((Ieee.double.div (floatOfInt .f64 (((z / 16 : Nat) : Int) - 7)) 4613937818241073152).getD 0)) w := by
  have h := div3 (z / 16) (by omega)
  obtain ⟨r, hr⟩ := Option.isSome_iff_exists.1 h
  rw [hr]
  have e : ((z / 16 : Nat) : Int) = (z : Int) / 16 := by omega
  rw [e] at hr
  exact run_float_arith w .quo _ .f64 _ _ r hr
theorem fb_lt (z : Nat) (h : z < 256) : fb z < 18446744073709551616 := by
  unfold fb
  split
  · omega
  · repeat' split
    all_goals (first | omega | skip)
    · obtain ⟨r, hr⟩ := Option.isSome_iff_exists.1 (div3 (z / 16) (by omega))
      rw [hr]
      exact (div_num hr).2
    · have := floatOfInt_wf .f64 (((z / 16 : Nat) : Int) - 7)
      simp [Lit.wf] at this
      exact this
theorem fbs_fits (zs : List Nat) (h : ∀ z ∈ zs, z < 256) : Fits64 (fbs zs) := by
  intro b hb
  obtain ⟨z, hz, rfl⟩ := List.mem_map.1 hb
  exact fb_lt z (h z hz)
theorem fbs_step {zs : List Nat} {k : Nat} (h : k < zs.length) : fbs (zs.take (k + 1)) = fbs (zs.take k) ++ [fb (zs.getD k 0)] := by
  unfold fbs; rw [take_step h, List.map_append]; rfl
theorem vflo {a b : Nat} (h : a = b) : Value.float .f64 a = Value.float .f64 b := by rw [h]

set_option maxHeartbeats 1600000 in
theorem floats_any (v : Value) (zs : List Nat) (w : World) (h : RowV w v (u8s zs)) (hz : ∀ z ∈ zs, z < 256) (hl : zs.length ≤ 1048576) :
    Calls Try.prog 8 #[v] w (Rows64 (fbs zs) w) := by
  obtain ⟨a, cap, rfl, h1, h2, h3⟩ := h
  simp only [u8s_length] at h1 h3 ⊢
  unfold maxLen at h2
  obtain ⟨i0, hi, hz0, hz1, hz2⟩ := info_parts info_f64
  have hfrom := from_run
  go_enter Try.func8, Try.ntmps8
  go_wp2_with fail
  go_loopw [3, 4] (RFl w zs) (fun _ i _ => zs.length - (intOf i).toNat)
  case atStart => exact ⟨0, by omega, rfl, World.ownsRow_nil _ _ _ _, Ex.refl _⟩
  case round =>
    obtain ⟨k, hk, rfl, hown, gk⟩ := hrel
    by_cases hlt : k < zs.length
    · obtain ⟨b, off, rfl, hc⟩ := h3 (by omega)
      have ck := gk.on (hc k _ (u8s_get zs k hlt))
      have fk := hz _ (getD_mem hlt)
      have i0' : (0 : Int) ≤ (k : Int) := by omega
      have i1' : (k : Int) < (zs.length : Int) := by omega
      clear hc h3
      have HS := Lib.hid (fbs_step hlt)
      generalize zs.getD k 0 = z at *
      have hrun := div_run z fk wr
      go_upto_block 2 with fail
      go_cut [5] (R5 z wr)
      case first =>
        go_wp2_with fail
        all_goals
          go_meet
          refine ⟨vflo ?_, rfl⟩
          unfold fb
          simp_all
          repeat (first | omega | rw [if_neg (by omega)] | rw [if_pos (by omega)])
      case rest =>
        obtain ⟨rfl, rfl⟩ := hcut
        have wle : (fbs (zs.take k)).length ≤ k := by unfold fbs; rw [List.length_map]; exact List.length_take_le _ _
        have hgs := gk.size
        clear hrun
        generalize fb z = y at *
        go_wp2_with (first
          | (at_builtin
             refine wpList_append_row _ rfl (.tmp 60) (.tmp 62) 25 rfl w.heap.size 22 i0 (.float .f64 0) 8 Try.underlying25 hi hz0 hz1 hz2 rfl _ (fbs (zs.take k)).length (f64s (fbs (zs.take k))) rfl (hown.alloc _) _ [.float .f64 y] rfl (RowV.made1 _ _ _) (one_flo _) ?c1 ?c2 w (Below.alloc gk gk.size _) ?c3 ?_
             rotate_right
             intro v' w1 hown' gb))
        case c1 => simp only [List.length_singleton]; unfold maxLen; omega
        case c2 => simp only [List.length_singleton]; omega
        case c3 => simp; omega
        clear hown
        go_wp2_with fail
        go_roundw
        case rel => exact ⟨k + 1, by omega, by go_num, by rw [HS.out, f64s_append, List.length_append]; exact hown', gb⟩
        case measure => simp [intOf]; omega
    · have hk : k = zs.length := by omega
      have HK := Lib.hid hk
      clear hk h3
      go_wp2_with fail
      go_ret
      exact ⟨_, rfl, by have := hown; rw [HK.out, List.take_length] at this; exact this, gk⟩

theorem ratio12 (w : World) : Calls Try.prog 16 #[.int .i64 1, .int .i64 2] w fun e w' => e = .returned (.float .f64 4602678819172646912) ∧ w = w' := by
  have hrun : (binOp .quo 22 (.float .f64 (floatOfInt .f64 1)) (.float .f64 (floatOfInt .f64 2))).run Try.prog w = .ok (.float .f64 4602678819172646912) w := run_float_arith w .quo _ .f64 _ _ _ (by decide +kernel)
  go_enter Try.func16, Try.ntmps16
  go_wp2
  go_ret
  exact ⟨rfl, rfl⟩

end Go.Proofs.Ytigafjnnadopbaa.flo
