/- Contracts of package gauge, third part: what is made. -/
import Derived.Test.YtigafjnnadopbaaFlo2
import Derived.OwnWalk
namespace Go.Proofs.Ytigafjnnadopbaa.flo
open Go.RowKit

theorem info_f64 : (Try.prog.info? 22).map (fun i => (i.zero, i.size, i.bytes)) = some (some (.float .f64 0), 1, 8) := by kernel_rfl
theorem one_f64s (zs : List Nat) : ∀ u ∈ f64s zs, u.oneCell' = true := by
  intro u hu
  obtain ⟨z, _, rfl⟩ := List.mem_map.1 hu
  rfl

/-- It tells a slice of its own that reads as zs. -/
def Rows64 (zs : List Nat) (w : World) (e : Ending) (w' : World) : Prop := ∃ v, e = .returned v ∧ w'.ownsRow w.heap.size 22 1 v zs.length (f64s zs) ∧ Ex w w'

def wl (zs : List Nat) (k : Nat) : List Nat := (zs.take k).filter whole
theorem wl_le (zs : List Nat) (k : Nat) : (wl zs k).length ≤ k := Nat.le_trans (List.length_filter_le _ _) (List.length_take_le _ _)
theorem wl_yes {zs : List Nat} {k : Nat} (h : k < zs.length) (hw : whole (zs.getD k 0) = true) : wl zs (k + 1) = wl zs k ++ [zs.getD k 0] := by
  unfold wl; rw [take_step h, List.filter_append]; simp only [List.filter_cons, hw]; rfl
theorem wl_no {zs : List Nat} {k : Nat} (h : k < zs.length) (hw : whole (zs.getD k 0) = false) : wl zs (k + 1) = wl zs k := by
  unfold wl; rw [take_step h, List.filter_append]; simp only [List.filter_cons, hw]; simp
theorem wl_all (zs : List Nat) : wl zs zs.length = zs.filter whole := by unfold wl; rw [List.take_length]

def RWh (w : World) (zs : List Nat) (v i : Value) (wr : World) : Prop :=
  ∃ k : Nat, k ≤ zs.length ∧ i = .int .i64 k ∧ wr.ownsRow w.heap.size 22 1 v (wl zs k).length (f64s (wl zs k)) ∧ Ex w wr

set_option maxHeartbeats 800000 in
theorem wholes_any (v : Value) (zs : List Nat) (w : World) (h : RowV w v (f64s zs)) (hf : Fits64 zs) (hl : zs.length ≤ 1048576) :
    Calls Try.prog 14 #[v] w (Rows64 (zs.filter whole) w) := by
  obtain ⟨a, cap, rfl, h1, h2, h3⟩ := h
  simp only [f64s_length] at h1 h3 ⊢
  unfold maxLen at h2
  obtain ⟨i0, hi, hz0, hz1, hz2⟩ := info_parts info_f64
  go_enter Try.func14, Try.ntmps14
  go_wp2_with fail
  go_loopw [3, 8] (RWh w zs) (fun _ i _ => zs.length - (intOf i).toNat)
  case atStart => exact ⟨0, by omega, rfl, World.ownsRow_nil _ _ _ _, Ex.refl _⟩
  case round =>
    obtain ⟨k, hk, rfl, hown, gk⟩ := hrel
    by_cases hlt : k < zs.length
    · obtain ⟨b, off, rfl, hc⟩ := h3 (by omega)
      have ck := gk.on (hc k _ (f64s_get zs k hlt))
      have fk := hf.at hlt
      have i0' : (0 : Int) ≤ (k : Int) := by omega
      have i1' : (k : Int) < (zs.length : Int) := by omega
      have HY := Lib.hid (fun c => wl_yes hlt c)
      have HN := Lib.hid (fun c => wl_no hlt c)
      have wle := wl_le zs k
      clear hc h3
      generalize zs.getD k 0 = z at *
      by_cases hw : whole z = true
      · have HW := Lib.hid hw
        clear hw
        go_wp2_with fail
        refine (whole_any z fk _).mono ?_
        rintro e w' ⟨rfl, rfl⟩
        rw [HW.out]
        have hgs := gk.size
        go_wp2_with (first
          | (at_builtin
             refine wpList_append_row _ rfl (.tmp 14) (.tmp 16) 25 rfl w.heap.size 22 i0 (.float .f64 0) 8 Try.underlying25 hi hz0 hz1 hz2 rfl _ (wl zs k).length (f64s (wl zs k)) rfl (hown.alloc _) _ [.float .f64 z] rfl (RowV.made1 _ _ _) (one_flo _) ?c1 ?c2 w (Below.alloc gk gk.size _) ?c3 ?_
             rotate_right
             intro v' w1 hown' gb))
        case c1 => simp only [List.length_singleton]; unfold maxLen; omega
        case c2 => simp only [List.length_singleton]; omega
        case c3 => have := gk.size; simp; omega
        clear hown
        go_wp2_with fail
        go_roundw
        case rel => exact ⟨k + 1, by omega, by go_num, by rw [HY.out HW.out, f64s_append, List.length_append]; exact hown', gb⟩
        case measure => simp [intOf]; omega
      · have HW := Lib.hid (Bool.eq_false_iff.2 hw)
        clear hw
        go_wp2_with fail
        refine (whole_any z fk _).mono ?_
        rintro e w' ⟨rfl, rfl⟩
        rw [HW.out]
        go_wp2_with fail
        go_roundw
        case rel => exact ⟨k + 1, by omega, by go_num, by rw [HN.out HW.out]; exact hown, gk⟩
        case measure => simp [intOf]; omega
    · have hk : k = zs.length := by omega
      have HK := Lib.hid hk
      clear hk h3
      go_wp2_with fail
      go_ret
      exact ⟨_, rfl, by have := hown; rw [HK.out, wl_all] at this; exact this, gk⟩

theorem ref_key (b : Nat) (hb : b < 18446744073709551616) : ∃ k : Int, ∀ w : World, Calls Try.prog 27 #[.float .f64 b] w fun e w' => e = .returned (.int .u64 k) ∧ w = w' := by
  have hbits := bits_run
  by_cases h1 : (9218868437227405312 : Int) < bits .and .u64 (b : Int) 9223372036854775807
  · refine ⟨18446744073709551615, fun w => ?_⟩
    go_enter Try.func27, Try.ntmps27
    go_wp2
    go_ret
    exact ⟨rfl, rfl⟩
  · by_cases h2 : (9223372036854775808 : Int) ≤ (b : Int)
    · refine ⟨bits .xor .u64 IntKind.u64.max (b : Int), fun w => ?_⟩
      go_enter Try.func27, Try.ntmps27
      go_wp2
      go_ret
      exact ⟨rfl, rfl⟩
    · refine ⟨(b : Int) + 9223372036854775808, fun w => ?_⟩
      go_enter Try.func27, Try.ntmps27
      go_wp2
      go_ret
      exact ⟨rfl, rfl⟩
theorem ref_order_self (b : Nat) (hb : b < 18446744073709551616) (w : World) : Calls Try.prog 23 #[.float .f64 b, .float .f64 b] w fun e w' => e = .returned (.int .i64 0) ∧ w = w' := by
  obtain ⟨k, hk⟩ := ref_key b hb
  have HK := Lib.hid hk
  clear hk
  have d : decide (k < k) = false := decide_eq_false (by omega)
  go_enter Try.func23, Try.ntmps23
  go_wp2_with fail
  refine (HK.out _).mono ?_
  rintro e w' ⟨rfl, rfl⟩
  go_wp2_with fail
  refine (HK.out _).mono ?_
  rintro e w' ⟨rfl, rfl⟩
  go_wp2_with fail
  go_ret
  exact ⟨rfl, rfl⟩

def RSame (w : World) (zs : List Nat) (i : Value) (wr : World) : Prop := ∃ k : Nat, k ≤ zs.length ∧ i = .int .i64 k ∧ Ex w wr
theorem same_self (v u : Value) (zs : List Nat) (w : World) (h : RowV w v (f64s zs)) (h' : RowV w u (f64s zs)) (hf : Fits64 zs) :
    Calls Try.prog 15 #[v, u] w fun e w' => e = .returned (.bool true) ∧ Ex w w' := by
  obtain ⟨a, cap, rfl, h1, h2, h3⟩ := h
  obtain ⟨a', cap', rfl, h1', h2', h3'⟩ := h'
  simp only [f64s_length] at h1 h3 h1' h3' ⊢
  unfold maxLen at h2 h2'
  go_enter Try.func15, Try.ntmps15
  go_wp2_with fail
  go_loopw [5] (RSame w zs) (fun i _ => zs.length - (intOf i).toNat)
  case atStart => exact ⟨0, by omega, rfl, Ex.refl _⟩
  case round =>
    obtain ⟨k, hk, rfl, gk⟩ := hrel
    by_cases hlt : k < zs.length
    · obtain ⟨b, off, rfl, hc⟩ := h3 (by omega)
      obtain ⟨b', off', rfl, hc'⟩ := h3' (by omega)
      have ck := gk.on (hc k _ (f64s_get zs k hlt))
      have ck' := gk.on (hc' k _ (f64s_get zs k hlt))
      have fk := hf.at hlt
      have i0' : (0 : Int) ≤ (k : Int) := by omega
      have i1' : (k : Int) < (zs.length : Int) := by omega
      clear hc h3 hc' h3'
      generalize zs.getD k 0 = z at *
      go_wp2_with fail
      go_quiet ((go_at_call 23; exact (ref_order_self z fk _).mono fun _ _ ⟨e, h⟩ => ⟨e, _, h.symm⟩))
      go_wp2_with fail
      go_roundw
      case rel => exact ⟨k + 1, by omega, by go_num, Ex.trans gk (Ex.drewN _ _)⟩
      case measure => simp [intOf]; omega
    · go_wp2_with fail
      go_ret
      exact ⟨rfl, gk⟩

end Go.Proofs.Ytigafjnnadopbaa.flo
