/- Contracts of the document's answer to package bits. -/
import Derived.Test.YtkeeembielogfaaBit4
import Derived.RegionTactic
namespace Go.Proofs.Ytkeeembielogfaa.bit
open Go.RowKit

def RRT (w : World) (zs : List Nat) (m : Nat) (s i : Value) (wr : World) : Prop :=
  ∃ k : Nat, k ≤ m ∧ i = .int .i64 k ∧ s = .int .i64 (num (zs.take k) : Nat) ∧ w = wr

theorem refTake_any (v : Value) (zs : List Nat) (n : Int) (w : World) (hr : RowV w v (u8s zs)) (hz : ∀ z ∈ zs, z < 256) :
    Calls Try.prog 8 #[v, .int .i64 n] w (TellsTake w zs n) := by
  obtain ⟨a, cap, rfl, h1, h2⟩ := RowV.len8 hr
  by_cases hm : 1 ≤ n ∧ n ≤ 7 ∧ n ≤ zs.length
  · have HT := Lib.hid (show taken zs n = num (zs.take n.toNat) ∧ true = mayTake zs.length n by
      have : mayTake zs.length n = true := decide_eq_true hm
      exact ⟨by unfold taken; rw [if_pos this], this.symm⟩)
    obtain ⟨m1, m7, ml⟩ := hm
    obtain ⟨m, rfl⟩ := Int.eq_ofNat_of_zero_le (show 0 ≤ n by omega)
    obtain ⟨b, off, rfl⟩ := RowV.addr hr (by omega)
    have HR := Lib.hid hr
    have HZ := Lib.hid hz
    clear hr hz
    have d1 : decide ((m : Int) < 1) = false := decide_eq_false (by omega)
    have d2 : decide (7 < (m : Int)) = false := decide_eq_false (by omega)
    have d3 : decide ((zs.length : Int) < (m : Int)) = false := decide_eq_false (by omega)
    have d4 : decide (zs.length < m) = false := decide_eq_false (by omega)
    go_enter Try.func8, Try.ntmps8
    go_wp2_with fail
    go_loopw [6, 7] (RRT w zs m) (fun _ i _ => m - (intOf i).toNat)
    case atStart => exact ⟨0, by omega, rfl, rfl, rfl⟩
    case round =>
      obtain ⟨k, hk, rfl, rfl, rfl⟩ := hrel
      by_cases hlt : k < m
      · have hkl : k < zs.length := by omega
        have ck := HR.out.at (u8s_get zs k hkl)
        have i1 : (k : Int) < (m : Int) := by omega
        have i2 : (k : Int) < (zs.length : Int) := by omega
        have i0 : (0 : Int) ≤ (k : Int) := by omega
        have HC := Lib.hid (num_step hkl)
        have hb : num (zs.take k) < 281474976710656 := Nat.lt_of_lt_of_le (num_take_lt HZ.out k) (Nat.pow_le_pow_right (n := 256) (j := 6) (by omega) (by omega))
        have hzk := HZ.out _ (getD_mem hkl)
        generalize num (zs.take k) = d at *
        generalize zs.getD k 0 = z at *
        go_wp2_with fail
        go_roundw
        case rel => exact ⟨k + 1, by omega, by go_num, by rw [HC.out]; go_num, rfl⟩
        case measure => simp [intOf]; omega
      · have HK := Lib.hid (show k = m by omega)
        have i1 : ¬ (k : Int) < (m : Int) := by omega
        go_wp2_with fail
        go_ret2
        exact ⟨ret2 (by rw [HT.out.1, HK.out]; rfl) HT.out.2, Ex.refl _⟩
  · have HT := Lib.hid (show taken zs n = 0 ∧ false = mayTake zs.length n by
      have : mayTake zs.length n = false := decide_eq_false (by omega)
      exact ⟨by unfold taken; rw [this]; rfl, this.symm⟩)
    clear hr hz
    by_cases h1 : n < 1
    · have d1 : decide (n < 1) = true := decide_eq_true h1
      clear hm
      go_enter Try.func8, Try.ntmps8
      go_wp2_with fail
      go_ret2
      exact ⟨ret2 (by rw [HT.out.1]; rfl) HT.out.2, Ex.refl _⟩
    · have d1 : decide (n < 1) = false := decide_eq_false h1
      by_cases h7 : 7 < n
      · have d2 : decide (7 < n) = true := decide_eq_true h7
        clear hm
        go_enter Try.func8, Try.ntmps8
        go_wp2_with fail
        go_ret2
        exact ⟨ret2 (by rw [HT.out.1]; rfl) HT.out.2, Ex.refl _⟩
      · have d2 : decide (7 < n) = false := decide_eq_false h7
        have d3 : decide ((zs.length : Int) < n) = true := decide_eq_true (by omega)
        clear hm
        go_enter Try.func8, Try.ntmps8
        go_wp2_with fail
        go_ret2
        exact ⟨ret2 (by rw [HT.out.1]; rfl) HT.out.2, Ex.refl _⟩

theorem refText_take_any (v : Value) (zs : List Nat) (w : World) (hr : RowV w v (u8s zs)) (hz : ∀ z ∈ zs, z < 256) :
    Calls Try.prog 12 #[v] w (TellsText w zs) := by
  obtain ⟨a, cap, rfl, h1, h2⟩ := RowV.len8 hr
  by_cases h0 : 1 ≤ zs.length
  · obtain ⟨b, off, rfl⟩ := RowV.addr hr (by omega)
    have c0 := hr.at (u8s_get zs 0 h0)
    rw [Nat.add_zero] at c0
    have hz0 := hz _ (getD_mem h0)
    have d1 : decide ((zs.length : Int) < 1) = false := decide_eq_false (by omega)
    have d1' : decide (zs.length < 1) = false := decide_eq_false (by omega)
    have hl0 : 0 < zs.length := by omega
    have hl1 : (1 : Int) ≤ (zs.length : Int) := by omega
    by_cases hl : zs.getD 0 0 + 1 ≤ zs.length
    · have hm : mayText zs = true := decide_eq_true ⟨h0, hl⟩
      have HT := Lib.hid (show text zs = (zs.take (zs.getD 0 0 + 1)).drop 1 ∧ textN zs = zs.getD 0 0 + 1 ∧ true = mayText zs from ⟨by unfold text; rw [if_pos hm], by unfold textN; rw [if_pos hm], hm.symm⟩)
      clear hm
      have d2 : decide ((zs.length : Int) - 1 < (zs.getD 0 0 : Int)) = false := decide_eq_false (by omega)
      have hlz : (zs.getD 0 0 : Int) + 1 ≤ (zs.length : Int) := by omega
      have hrt := RowV.take hr (zs.getD 0 0 + 1) hl
      rw [← u8s_take] at hrt
      have HZ2 := Lib.hid (show ∀ x ∈ (zs.take (zs.getD 0 0 + 1)).drop 1, x < 256 from fun x hx => hz x (List.mem_of_mem_take (List.mem_of_mem_drop hx)))
      have hcv := conv_row _ _ w (RowV.drop1 hrt) HZ2.out
      rw [Nat.add_sub_cancel] at hcv
      clear hr hz hrt HZ2
      generalize zs.getD 0 0 = z at *
      by_cases hc1 : cap = 1
      · have hz0' : z = 0 := by omega
        have HE := Lib.hid (show (zs.take (z + 1)).drop 1 = [] from List.eq_nil_of_length_eq_zero (by rw [List.length_drop, List.length_take]; omega))
        clear hcv
        subst hc1 hz0'
        have hcv := conv_row (.slice (some ⟨b, off, none⟩) 0 0) [] w ⟨_, 0, rfl, Nat.le_refl _, Nat.zero_le _, fun h => absurd h (Nat.lt_irrefl _)⟩ (by simp)
        go_enter Try.func12, Try.ntmps12
        go_wp2_with fail
        go_ret3
        exact ⟨ret3 (by rw [HT.out.1, HE.out]) (by rw [HT.out.2.1]; rfl) HT.out.2.2, Ex.refl _⟩
      · generalize (zs.take (z + 1)).drop 1 = T at *
        go_enter Try.func12, Try.ntmps12
        go_wp2_with fail
        go_ret3
        exact ⟨ret3 (by rw [HT.out.1]) (by rw [HT.out.2.1]; rfl) HT.out.2.2, Ex.refl _⟩
    · have hm : mayText zs = false := decide_eq_false (by omega)
      have HT := Lib.hid (show text zs = [] ∧ textN zs = 0 ∧ false = mayText zs from ⟨by unfold text; rw [hm]; rfl, by unfold textN; rw [hm]; rfl, hm.symm⟩)
      clear hm
      have d2 : decide ((zs.length : Int) - 1 < (zs.getD 0 0 : Int)) = true := decide_eq_true (by omega)
      have d2' : decide ((zs.length : Int) < (zs.getD 0 0 : Int) + 1) = true := decide_eq_true (by omega)
      clear hr hz
      generalize zs.getD 0 0 = z at *
      go_enter Try.func12, Try.ntmps12
      go_wp2_with fail
      go_ret3
      exact ⟨ret3 (by rw [HT.out.1]; rfl) (by rw [HT.out.2.1]; rfl) HT.out.2.2, Ex.refl _⟩
  · have hm : mayText zs = false := decide_eq_false (by omega)
    have HT := Lib.hid (show text zs = [] ∧ textN zs = 0 ∧ false = mayText zs from ⟨by unfold text; rw [hm]; rfl, by unfold textN; rw [hm]; rfl, hm.symm⟩)
    clear hm hr hz
    have d1 : decide ((zs.length : Int) < 1) = true := decide_eq_true (by omega)
    have d1' : decide (zs.length < 1) = true := decide_eq_true (by omega)
    go_enter Try.func12, Try.ntmps12
    go_wp2_with fail
    go_ret3
    exact ⟨ret3 (by rw [HT.out.1]; rfl) (by rw [HT.out.2.1]; rfl) HT.out.2.2, Ex.refl _⟩

theorem low_take {v : Int} {n j : Nat} (p : Nat) (h : n = p + 1 + j) : (low v n).take (j + 1) = (low v n).take j ++ [byteAt v p] := by
  rw [List.take_add_one, low_get v n j (by omega)]
  simp
  congr 1
  omega
def RRP (w : World) (xs : List Nat) (v : Int) (n : Nat) (o i : Value) (wr : World) : Prop :=
  ∃ j : Nat, j ≤ n ∧ i = .int .i64 ((n : Int) - 1 - (j : Int)) ∧ wr.ownsRow w.heap.size 5 1 o (xs.length + j) (u8s (xs ++ (low v n).take j)) ∧ Ex w wr

set_option maxHeartbeats 1000000 in
theorem refPut_any (f : Value) (xs : List Nat) (v n : Int) (w : World) (hf : RowV w f (u8s xs)) (hl : xs.length ≤ 500000) :
    Calls Try.prog 10 #[f, .int .i64 v, .int .i64 n] w (Tells w (xs ++ put v n)) := by
  obtain ⟨a, cap, rfl, h1, h2⟩ := RowV.len8 hf
  obtain ⟨i0, hi, hz0, hz1, hz2⟩ := info_parts info_u8
  have ga : Ex w (w.alloc (.cells #[] 5)) := (Below.refl _ _).alloc (Nat.le_refl _) _
  have HF := Lib.hid (hf.ex ga)
  clear hf
  have HO := Lib.hid (World.ownsRow_lit (base := w.heap.size) (e := 5) (size := 1) w #[] 0 (Nat.le_refl _) (by simp [maxLen]) rfl)
  have HM := Lib.hid (show (w.alloc (.cells #[] 5)).heap.size = w.heap.size + 1 by simp)
  by_cases h : 1 ≤ n ∧ n ≤ 8
  · obtain ⟨m, rfl⟩ := Int.eq_ofNat_of_zero_le (show 0 ≤ n by omega)
    have HP := Lib.hid (show put v (m : Int) = low v m by unfold put; rw [if_pos h]; rfl)
    obtain ⟨m1, m8⟩ := h
    have d1 : decide ((m : Int) < 1) = false := decide_eq_false (by omega)
    have d2 : decide (8 < (m : Int)) = false := decide_eq_false (by omega)
    go_enter Try.func10, Try.ntmps10
    go_wp2_with (first
      | (at_builtin
         refine wpList_append_row _ rfl (.tmp 9) (.tmp 10) 22 rfl w.heap.size 5 i0 (.int .u8 0) 1 Try.underlying22 hi hz0 hz1 hz2 rfl _ 0 _ rfl HO.out _ (u8s xs) rfl HF.out (one_u8s _) ?c1 ?c2 w ga ?c3 ?_
         rotate_right
         intro v' w1 hown gb))
    case c1 => unfold maxLen; omega
    case c2 => omega
    rw [Nat.zero_add, u8s_length] at hown
    have HW := Lib.hid hown
    clear hown
    go_wp2_with fail
    go_loopw [7, 8] (RRP w xs v m) (fun _ i _ => (intOf i + 1).toNat)
    case atStart => exact ⟨0, by omega, by go_num, by simpa using HW.out, gb⟩
    case round =>
      obtain ⟨j, hj, rfl, hown, gk⟩ := hrel
      have HO2 := Lib.hid hown
      clear hown
      by_cases hlt : j < m
      · obtain ⟨p, hp⟩ : ∃ p, m = p + 1 + j := ⟨m - 1 - j, by omega⟩
        have HL := Lib.hid (low_take (v := v) p hp)
        have HB := Lib.hid (byteAt_int v p)
        have hblt := byteAt_lt v p
        rw [show (m : Int) - 1 - (j : Int) = (p : Int) by omega]
        have p0 : (0 : Int) ≤ (p : Int) := by omega
        have p8 : (p : Int) < 8 := by omega
        have HPP := Lib.hid hp
        clear hp
        have hgs := gk.size
        have hgz : w.heap.size ≤ (wr.alloc (.cells #[.int .u8 (v / 2 ^ (8 * p) % 256)] 5)).heap.size := by simp; omega
        have HGZ := Lib.hid hgz
        clear hgz
        go_wp2_with (first
          | (at_builtin
             refine wpList_append_row _ rfl (.tmp 25) (.tmp 31) 22 rfl w.heap.size 5 i0 (.int .u8 0) 1 Try.underlying22 hi hz0 hz1 hz2 rfl _ (xs.length + j) _ rfl (HO2.out.alloc _) _ [.int .u8 (v / 2 ^ (8 * p) % 256)] rfl (RowV.made1 _ _ _) (one_int _ _) ?e1 ?e2 w (Below.alloc gk gk.size _) ?e3 ?_
             rotate_right
             intro v2 w2 hown' gb))
        case e1 => simp only [List.length_singleton]; unfold maxLen; omega
        case e2 => simp only [List.length_singleton]; omega
        case e3 => exact HGZ.out
        have HO3 := Lib.hid hown'
        clear hown'
        go_wp2_with fail
        go_roundw
        case rel => exact ⟨j + 1, by omega, vint (by have := HPP.out; omega), by
          have := HO3.out
          rw [← HB.out] at this
          rw [HL.out, ← List.append_assoc, u8s_append (_ ++ _)]
          exact this, gb⟩
        case measure => simp [intOf]
      · have HJ := Lib.hid (show j = m by omega)
        rw [show (m : Int) - 1 - (j : Int) = -1 by omega]
        go_wp2_with fail
        go_ret
        exact ⟨_, rfl, by have := HO2.out; rw [HJ.out, List.take_of_length_le (by simp)] at this; rw [HP.out]; exact (RowV.of_own this).1, gk⟩
  · have HP := Lib.hid (show xs ++ put v n = xs by unfold put; rw [if_neg h, List.append_nil])
    have key : ∀ v' w1, w1.ownsRow w.heap.size 5 1 v' (0 + (u8s xs).length) (#[].toList ++ u8s xs) → Below w.heap.size w w1 → Tells w (xs ++ put v n) (.returned v') w1 := fun v' w1 ho hb => by
      rw [HP.out]; exact ⟨_, rfl, (RowV.of_own ho).1, hb⟩
    have HK := Lib.hid key
    clear key
    by_cases h1 : n < 1
    · have d1 : decide (n < 1) = true := decide_eq_true h1
      clear h
      go_enter Try.func10, Try.ntmps10
      go_wp2_with (first
        | (at_builtin
           refine wpList_append_row _ rfl (.tmp 9) (.tmp 10) 22 rfl w.heap.size 5 i0 (.int .u8 0) 1 Try.underlying22 hi hz0 hz1 hz2 rfl _ 0 _ rfl HO.out _ (u8s xs) rfl HF.out (one_u8s _) ?c1 ?c2 w ga ?c3 ?_
           rotate_right
           intro v' w1 hown gb))
      case c1 => unfold maxLen; omega
      case c2 => omega
      have HW := Lib.hid hown
      clear hown
      go_wp2_with fail
      go_ret
      exact HK.out _ _ HW.out gb
    · have d1 : decide (n < 1) = false := decide_eq_false h1
      have d2 : decide (8 < n) = true := decide_eq_true (by omega)
      clear h
      go_enter Try.func10, Try.ntmps10
      go_wp2_with (first
        | (at_builtin
           refine wpList_append_row _ rfl (.tmp 9) (.tmp 10) 22 rfl w.heap.size 5 i0 (.int .u8 0) 1 Try.underlying22 hi hz0 hz1 hz2 rfl _ 0 _ rfl HO.out _ (u8s xs) rfl HF.out (one_u8s _) ?c1 ?c2 w ga ?c3 ?_
           rotate_right
           intro v' w1 hown gb))
      case c1 => unfold maxLen; omega
      case c2 => omega
      have HW := Lib.hid hown
      clear hown
      go_wp2_with fail
      go_ret
      exact HK.out _ _ HW.out gb

set_option maxHeartbeats 1000000 in
theorem refText_any (f : Value) (xs : List Nat) (s : ByteArray) (w : World) (hf : RowV w f (u8s xs)) (hl : xs.length ≤ 500000) (hs : s.size ≤ 500000) :
    Calls Try.prog 14 #[f, .string s] w (Tells w (xs ++ txt s)) := by
  obtain ⟨a, cap, rfl, h1, h2⟩ := RowV.len8 hf
  obtain ⟨i0, hi, hz0, hz1, hz2⟩ := info_parts info_u8
  have ga : Ex w (w.alloc (.cells #[] 5)) := (Below.refl _ _).alloc (Nat.le_refl _) _
  have HF := Lib.hid (hf.ex ga)
  clear hf
  have HO := Lib.hid (World.ownsRow_lit (base := w.heap.size) (e := 5) (size := 1) w #[] 0 (Nat.le_refl _) (by simp [maxLen]) rfl)
  by_cases h : s.size ≤ 255
  · have HP := Lib.hid (show txt s = s.size :: toN s by unfold txt; rw [if_pos h])
    have d1 : decide ((255 : Int) < (s.size : Int)) = false := decide_eq_false (by omega)
    have hm : (s.size : Int) % 256 = s.size := by omega
    go_enter Try.func14, Try.ntmps14
    go_wp2_with (first
      | (at_builtin
         refine wpList_append_row _ rfl (.tmp 6) (.tmp 7) 22 rfl w.heap.size 5 i0 (.int .u8 0) 1 Try.underlying22 hi hz0 hz1 hz2 rfl _ 0 _ rfl HO.out _ (u8s xs) rfl HF.out (one_u8s _) ?c1 ?c2 w ga ?c3 ?_
         rotate_right
         intro v' w1 hown gb
         have HW := Lib.hid hown
         clear hown)
      | (at_builtin
         refine wpList_append_row _ rfl (.tmp 13) (.tmp 17) 22 rfl w.heap.size 5 i0 (.int .u8 0) 1 Try.underlying22 hi hz0 hz1 hz2 rfl _ _ _ rfl (HW.out.alloc _) _ [.int .u8 (s.size : Int)] rfl (RowV.made1 _ _ _) (one_int _ _) ?e1 ?e2 w (Below.alloc gb gb.size _) ?e3 ?_
         rotate_right
         intro v2 w2 hown2 gb2
         have HW2 := Lib.hid hown2
         clear hown2)
      | (at_builtin
         refine Lib.wpList_append_own_string _ rfl (.tmp 18) (.tmp 19) 22 9 rfl w.heap.size 5 i0 Try.underlying22 Try.underlying9 hi hz0 hz1 hz2 _ _ _ rfl HW2.out s rfl ?f1 ?f2 ?f3 ?_
         rotate_right
         intro v3 w3 hown3 gb3 _
         have HW3 := Lib.hid hown3
         clear hown3))
    case c1 => unfold maxLen; omega
    case c2 => omega
    case e1 => unfold maxLen; omega
    case e2 => omega
    case e3 => have := gb.size; simp; omega
    case f1 => unfold maxLen; omega
    case f2 => omega
    case f3 => exact gb2.size
    go_wp2_with fail
    go_ret
    refine ⟨_, rfl, ?_, Below.grown gb2 gb3 gb2.size (fun b h => (HW2.out.lt b h).1)⟩
    have := (RowV.of_own HW3.out).1
    rw [strCells_u8s] at this
    rw [HP.out, show xs ++ s.size :: toN s = xs ++ [s.size] ++ toN s by simp, u8s_append, u8s_append]
    exact this
  · have HP := Lib.hid (show xs ++ txt s = xs by unfold txt; rw [if_neg h, List.append_nil])
    have d1 : decide ((255 : Int) < (s.size : Int)) = true := decide_eq_true (by omega)
    go_enter Try.func14, Try.ntmps14
    go_wp2_with (first
      | (at_builtin
         refine wpList_append_row _ rfl (.tmp 6) (.tmp 7) 22 rfl w.heap.size 5 i0 (.int .u8 0) 1 Try.underlying22 hi hz0 hz1 hz2 rfl _ 0 _ rfl HO.out _ (u8s xs) rfl HF.out (one_u8s _) ?c1 ?c2 w ga ?c3 ?_
         rotate_right
         intro v' w1 hown gb))
    case c1 => unfold maxLen; omega
    case c2 => omega
    have HW := Lib.hid hown
    clear hown
    go_wp2_with fail
    go_ret
    exact ⟨_, rfl, by rw [HP.out]; exact (RowV.of_own HW.out).1, gb⟩

end Go.Proofs.Ytkeeembielogfaa.bit
