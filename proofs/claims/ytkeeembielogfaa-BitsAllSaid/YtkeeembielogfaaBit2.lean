/- Contracts of package bits, second part: what is made. -/
import Derived.Test.YtkeeembielogfaaBit
import Derived.OwnWalk
namespace Go.Proofs.Ytkeeembielogfaa.bit
open Go.RowKit

theorem info_u8 : (Try.prog.info? 5).map (fun i => (i.zero, i.size, i.bytes)) = some (some (.int .u8 0), 1, 1) := by kernel_rfl
theorem one_u8s (zs : List Nat) : ∀ u ∈ u8s zs, u.oneCell' = true := by
  intro u hu
  obtain ⟨z, _, rfl⟩ := List.mem_map.1 hu
  rfl
/-- It tells a slice of its own that reads as zs. -/
def Owns (w : World) (zs : List Nat) (e : Ending) (w' : World) : Prop := ∃ v, e = .returned v ∧ w'.ownsRow w.heap.size 5 1 v zs.length (u8s zs) ∧ Ex w w'

theorem Owns.tells {w : World} {zs : List Nat} {e : Ending} {w' : World} (h : Owns w zs e w') : Tells w zs e w' := by
  obtain ⟨v, he, ho, hg⟩ := h
  exact ⟨v, he, (RowV.of_own ho).1, hg⟩

theorem grow_nil (n : Nat) (hn : n ≤ 1000000) (w : World) :
    Calls Try.prog 25 #[.slice none 0 0, .int .i64 (n : Int)] w (Owns w []) := by
  obtain ⟨i0, hi, hz0, hz1, hz2⟩ := info_parts info_u8
  by_cases h0 : 0 < n
  · have hr := Lib.run_append_nil_zeros (P := Try.prog) w 22 3 22 5 i0 (.int .u8 0) .i64 .i64 Try.underlying22 Try.underlying3 hi hz0 n h0 (by omega) (by omega) (by rw [hz2]; omega)
    have hcap := grownCap_ge w n 0 5
    have hcm : grownCap w n 0 5 ≤ maxLen := grownCap_le_maxLen w n 0 5 (by unfold maxLen; omega)
    have i1 : (0 : Int) < (n : Int) := by omega
    have HO := Lib.hid (show (w.drew.alloc (.cells (Builtin.zeroCells (Value.int .u8 0).cells n ++ Builtin.zeroCells (Value.int .u8 0).cells (grownCap w n 0 5 - n)) 5)).ownsRow w.heap.size 5 1 (.slice (some ⟨w.heap.size, 0, none⟩) 0 (grownCap w n 0 5)) 0 [] from
      World.ownsRow_made w.drew _ _ (Nat.le_refl _) hcm (by simp only [Array.size_append, size_zeroCells]; show n * 1 + _ * 1 = _; omega))
    have HE := Lib.hid (show Ex w (w.drew.alloc (.cells (Builtin.zeroCells (Value.int .u8 0).cells n ++ Builtin.zeroCells (Value.int .u8 0).cells (grownCap w n 0 5 - n)) 5)) from ((Below.refl _ _).drew).alloc (Nat.le_refl _) _)
    have HR := Lib.hid hr
    clear hr
    generalize hc : grownCap w n 0 5 = c at *
    generalize hW : w.drew.alloc (.cells (Builtin.zeroCells (Value.int .u8 0).cells n ++ Builtin.zeroCells (Value.int .u8 0).cells (c - n)) 5) = W at *
    generalize hq : w.heap.size = q at *
    unfold maxLen at hcm
    have HQ := Lib.hid hq
    clear hW hq hc
    go_enter Try.func25, Try.ntmps25
    go_wp2_with (at_builtin; refine Lib.wpList_append_run _ rfl _ _ _ _ rfl _ _ rfl rfl _ _ HR.out ?_)
    go_ret
    exact ⟨_, rfl, by rw [HQ.out]; exact HO.out, HE.out⟩
  · obtain rfl : n = 0 := by omega
    go_enter Try.func25, Try.ntmps25
    go_wp2_with fail
    go_ret
    exact ⟨_, rfl, World.ownsRow_nil _ _ _ _, Ex.refl _⟩

/-- Slices of bytes, one behind the other, and what they read as. -/
def Rows (w : World) (vs : List Value) (xss : List (List Nat)) : Prop :=
  vs.length = xss.length ∧ ∀ i v, vs[i]? = some v → RowV w v (u8s (xss.getD i []))
theorem Rows.ex {w w' : World} {vs : List Value} {xss : List (List Nat)} (h : Rows w vs xss) (g : Ex w w') : Rows w' vs xss :=
  ⟨h.1, fun i v hv => (h.2 i v hv).ex g⟩
theorem flat_step {xss : List (List Nat)} {k : Nat} (h : k < xss.length) : (xss.take (k + 1)).flatten = (xss.take k).flatten ++ xss.getD k [] := by
  rw [List.take_add_one, show xss[k]?.toList = [xss.getD k []] by simp [List.getD, h], List.flatten_append]
  simp
theorem flat_le (xss : List (List Nat)) (k : Nat) : (xss.take k).flatten.length ≤ xss.flatten.length := by
  conv => rhs; rw [← List.take_append_drop k xss, List.flatten_append, List.length_append]
  omega

def RCat (w : World) (xss : List (List Nat)) (s i : Value) (wr : World) : Prop :=
  ∃ k : Nat, k ≤ xss.length ∧ i = .int .i64 k ∧ s = .int .i64 ((xss.take k).flatten.length : Nat) ∧ w = wr
def RCat2 (w : World) (xss : List (List Nat)) (v i : Value) (wr : World) : Prop :=
  ∃ k : Nat, k ≤ xss.length ∧ i = .int .i64 k ∧ wr.ownsRow w.heap.size 5 1 v ((xss.take k).flatten.length) (u8s (xss.take k).flatten) ∧ Ex w wr

set_option maxHeartbeats 800000 in
theorem concat_any (v : Value) (vs : List Value) (xss : List (List Nat)) (w : World) (hv : RowV w v vs) (hr : Rows w vs xss) (hl : xss.flatten.length ≤ 1000000) :
    Calls Try.prog 19 #[v] w (Owns w xss.flatten) := by
  obtain ⟨a, cap, rfl, h1, h2, h3⟩ := hv
  have HL := Lib.hid hr.1
  have hll := hr.1
  rw [hll] at h1 h3 ⊢
  have HR := Lib.hid hr
  clear hr hll
  unfold maxLen at h2
  obtain ⟨i0, hi, hz0, hz1, hz2⟩ := info_parts info_u8
  go_enter Try.func19, Try.ntmps19
  go_wp2_with fail
  go_loopw [3, 11] (RCat w xss) (fun _ i _ => xss.length - (intOf i).toNat)
  case atStart => exact ⟨0, by omega, rfl, rfl, rfl⟩
  case round =>
    obtain ⟨k, hk, rfl, rfl, rfl⟩ := hrel
    have hfl := flat_le xss k
    by_cases hlt : k < xss.length
    · obtain ⟨b, off, rfl, hc⟩ := h3 (by omega)
      have hvk : vs[k]? = some (vs.getD k default) := by
        have : k < vs.length := by rw [HL.out]; exact hlt
        simp [List.getD, this]
      have ck := hc k _ hvk
      have hrk := HR.out.2 k _ hvk
      obtain ⟨a', cap', hve, g1, g2⟩ := hrk.len
      rw [hve] at ck
      clear hve hvk hrk
      simp only [u8s_length] at ck g1
      have i0' : (0 : Int) ≤ (k : Int) := by omega
      have i1' : (k : Int) < (xss.length : Int) := by omega
      have hfs := flat_le xss (k + 1)
      rw [flat_step hlt, List.length_append] at hfs
      have HF := Lib.hid (flat_step hlt)
      generalize xss.getD k [] = ys at *
      generalize (xss.take k).flatten = fs at *
      unfold maxLen at g2
      clear hc h3
      go_wp2_with fail
      go_roundw
      case rel => exact ⟨k + 1, by omega, by go_num, by rw [HF.out, List.length_append]; go_num, rfl⟩
      case measure => simp [intOf]; omega
    · have hk : k = xss.length := by omega
      have HK := Lib.hid hk
      clear hk
      rw [HK.out, List.take_length] at hfl ⊢
      generalize hN : xss.flatten.length = N at *
      have HN := Lib.hid hN
      clear hN hfl
      go_wp2_with fail
      refine (grow_nil N hl _).mono ?_
      rintro e w1 ⟨u, rfl, hown, g1⟩
      have HRow := Lib.hid (fun hp => h3 hp)
      clear h3
      go_wp2_with fail
      go_loopw [6, 27] (RCat2 w xss) (fun _ i _ => xss.length - (intOf i).toNat)
      case atStart => exact ⟨0, by omega, rfl, hown, g1⟩
      case round =>
        obtain ⟨k, hk, rfl, hown, gk⟩ := hrel
        by_cases hlt : k < xss.length
        · obtain ⟨b, off, rfl, hc⟩ := HRow.out (by omega)
          have hvk : vs[k]? = some (vs.getD k default) := by
            have : k < vs.length := by rw [HL.out]; exact hlt
            simp [List.getD, this]
          have ck := gk.on (hc k _ hvk)
          have hrk := (HR.out.2 k _ hvk).ex gk
          obtain ⟨a', cap', hve, g1, g2⟩ := hrk.len
          rw [hve] at ck hrk
          simp only [u8s_length] at ck g1 hrk
          have HRK := Lib.hid hrk
          clear hve hvk hrk
          have i0' : (0 : Int) ≤ (k : Int) := by omega
          have i1' : (k : Int) < (xss.length : Int) := by omega
          have hfs := flat_le xss (k + 1)
          rw [flat_step hlt, List.length_append, HN.out] at hfs
          have HF := Lib.hid (flat_step hlt)
          have HO := Lib.hid hown
          clear hown
          generalize xss.getD k [] = ys at *
          generalize (xss.take k).flatten = fs at *
          unfold maxLen at g2
          clear hc
          have hgs := gk.size
          go_wp2_with (first
            | (at_builtin
               refine wpList_append_row _ rfl (.tmp 31) (.tmp 32) 22 rfl w.heap.size 5 i0 (.int .u8 0) 1 Try.underlying22 hi hz0 hz1 hz2 rfl _ fs.length (u8s fs) rfl HO.out _ (u8s ys) rfl HRK.out (one_u8s _) ?c1 ?c2 w gk ?c3 ?_
               rotate_right
               intro v' w1 hown' gb))
          case c1 => rw [u8s_length]; unfold maxLen; omega
          case c2 => rw [u8s_length]; omega
          case c3 => exact hgs
          go_wp2_with fail
          go_roundw
          case rel => exact ⟨k + 1, by omega, by go_num, by rw [HF.out, u8s_append, List.length_append]; rw [u8s_length] at hown'; exact hown', gb⟩
          case measure => simp [intOf]; omega
        · have hk : k = xss.length := by omega
          have HK := Lib.hid hk
          clear hk
          go_wp2_with fail
          go_ret
          exact ⟨_, rfl, by have := hown; rw [HK.out, List.take_length] at this; exact this, gk⟩

end Go.Proofs.Ytkeeembielogfaa.bit
