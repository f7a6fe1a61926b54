/- Contracts of package bits, third part: numbers and texts put. -/
import Derived.Test.YtkeeembielogfaaBit2
namespace Go.Proofs.Ytkeeembielogfaa.bit
open Go.RowKit

theorem set_low (l : List Nat) (m x : Nat) : (List.replicate (m + 1) 0 ++ l).set m x = List.replicate m 0 ++ x :: l := by
  rw [List.replicate_succ', List.append_assoc, List.set_append_right _ _ (by simp)]
  simp
theorem made_zeros (n : Nat) : (madeCells (Value.int .u8 0).cells (n * 1)).toList = u8s (List.replicate n 0) := by
  show (madeCells #[Value.int .u8 0] (n * 1)).toList = _
  rw [toList_madeCells_one, Nat.mul_one]
  unfold u8s
  rw [List.map_replicate]
  rfl
theorem set_u8s' (xs : List Nat) (i x : Nat) : (u8s xs).set i (.int .u8 (x : Int)) = u8s (xs.set i x) := by
  unfold u8s; rw [List.map_set]

def RLow (w : World) (q : Nat) (v : Int) (n : Nat) (i : Value) (wr : World) : Prop :=
  ∃ j : Nat, j ≤ n ∧ i = .int .i64 j ∧ wr.ownsRow w.heap.size 5 1 (.slice (some ⟨q, 0, none⟩) n n) n (u8s (List.replicate (n - j) 0 ++ low v j)) ∧ Ex w wr

set_option maxHeartbeats 800000 in
theorem low_yes (v : Int) (n : Nat) (w : World) (h1 : 1 ≤ n) (h8 : n ≤ 8) :
    Calls Try.prog 20 #[.int .i64 v, .int .i64 (n : Int)] w (Owns w (low v n)) := by
  obtain ⟨i0, hi, hz0, hz1, hz2⟩ := info_parts info_u8
  have d1 : decide ((n : Int) < 1) = false := decide_eq_false (by omega)
  have d2 : decide (8 < (n : Int)) = false := decide_eq_false (by omega)
  go_enter Try.func20, Try.ntmps20
  go_wp2_with (refine wpList_make_full _ rfl (.tmp 13) (.tmp 13) 22 rfl w.heap.size 5 i0 (.int .u8 0) 1 Try.underlying22 hi hz0 hz1 .i64 .i64 _ _ n rfl rfl rfl rfl (by rw [hz2]; omega) (by unfold maxLen; omega) (Nat.le_refl _) ?_; intro w1 hown g1)
  have hn8 := made_zeros n
  rw [hn8] at hown
  have HO := Lib.hid hown
  have gk : Ex w w1 := Below.grown (Below.refl _ _) g1 (Nat.le_refl _) (fun b h => by cases h)
  clear hn8 hown
  go_wp2_with fail
  generalize hq : w.heap.size = q at *
  go_loopw [17] (RLow w q v n) (fun i _ => n - (intOf i).toNat)
  case atStart => exact ⟨0, by omega, rfl, by rw [hq]; simpa [low] using HO.out, gk⟩
  case round =>
    obtain ⟨j, hj, rfl, hown, gr⟩ := hrel
    by_cases hlt : j < n
    · have HQ := Lib.hid hq
      clear hq
      rw [HQ.out] at hown
      obtain ⟨p, hp⟩ : ∃ p, n = p + 1 + j := ⟨n - 1 - j, by omega⟩
      obtain ⟨hst, hgb⟩ := hown.stored p (.int .u8 ((byteAt v j : Nat) : Int))
      have hpi : (n : Int) - 1 - (j : Int) = (p : Int) := by omega
      have hp0 : (0 : Int) ≤ (p : Int) := by omega
      have hpn : (p : Int) < (n : Int) := by omega
      have hj8 : (j : Int) < 8 := by omega
      have hj0 : (0 : Int) ≤ (j : Int) := by omega
      have hjn : (j : Int) < (n : Int) := by omega
      rw [show n - j = p + 1 by omega, set_u8s', set_low] at hst
      have hfz := hown.frozenAt p
      have cz : ∃ u, wr.cell? ⟨q, p, none⟩ = some (.int .u8 (u : Nat)) := by
        refine ⟨(List.replicate (n - j) 0 ++ low v j).getD p 0, ?_⟩
        rw [hown.cellAt p (by omega), u8s_get _ _ (by simp; omega)]
      obtain ⟨u, cz⟩ := cz
      have gst : Ex w (wr.setCell ⟨q, p, none⟩ (.int .u8 ((byteAt v j : Nat) : Int))) := Below.grown gr hgb gr.size (fun b h => by cases h; rw [HQ.out]; exact Nat.le_refl _)
      have HS := Lib.hid hst
      have HE := Lib.hid gst
      have HB := Lib.hid (byteAt_int v j)
      have HP := Lib.hid hp
      clear hown hst gst hgb hp
      go_wp2_with fail
      rw [← HB.out]
      go_roundw
      case rel => exact ⟨j + 1, by omega, by go_num, by rw [HQ.out, show n - (j + 1) = p by have := HP.out; omega]; exact HS.out, HE.out⟩
      case measure => simp [intOf]; omega
    · have HJ := Lib.hid (show j = n by omega)
      have hjn : ¬ (j : Int) < (n : Int) := by omega
      clear hq
      go_wp2_with fail
      go_ret
      exact ⟨_, rfl, by have := hown; rw [HJ.out, Nat.sub_self] at this; simpa using this, gr⟩

/-- What is put: alone. -/
theorem lowest_any (v n : Int) (w : World) : Calls Try.prog 20 #[.int .i64 v, .int .i64 n] w (Tells w (put v n)) := by
  by_cases h : 1 ≤ n ∧ n ≤ 8
  · obtain ⟨m, rfl⟩ := Int.eq_ofNat_of_zero_le (show 0 ≤ n by omega)
    have hp : put v (m : Int) = low v m := by unfold put; rw [if_pos h]; rfl
    rw [hp]
    exact (low_yes v m w (by omega) (by omega)).mono fun _ _ h => h.tells
  · have hp : put v n = [] := by unfold put; rw [if_neg h]
    rw [hp]
    exact (low_none v n w (by omega)).mono fun _ _ ⟨he, hw⟩ => ⟨_, he, RowV.nil _, by rw [hw]; exact Ex.refl _⟩

def Cat2 (w : World) (xs ys : List Nat) (e : Ending) (w' : World) : Prop := Owns w (xs ++ ys) e w'
theorem two_rows (w : World) (x y : Value) (xs ys : List Nat) (T : TypeId) (b : Nat) (hb : b = w.heap.size) (hx : RowV w x (u8s xs)) (hy : RowV w y (u8s ys)) (hl : xs.length + ys.length ≤ 1000000) :
    Calls Try.prog 19 #[.slice (some ⟨b, 0, none⟩) 2 2] (w.alloc (.cells #[x, y] T)) (Tells w (xs ++ ys)) := by
  subst hb
  have ga : Ex w (w.alloc (.cells #[x, y] T)) := (Below.refl _ _).alloc (Nat.le_refl _) _
  refine (concat_any _ [x, y] [xs, ys] _ (RowV.made w [x, y] T 2 (by simp) (by unfold maxLen; simp)) ⟨rfl, fun i v hv => ?_⟩ (by simpa using hl)).mono fun e w' h => ?_
  · match i, hv with
    | 0, hv => cases hv; exact hx.ex ga
    | 1, hv => cases hv; exact hy.ex ga
  · obtain ⟨v, he, hr, hg⟩ := h.tells
    exact ⟨v, he, by simpa using hr, Ex.trans ga hg⟩

theorem put_any (f : Value) (xs : List Nat) (v n : Int) (w : World) (hf : RowV w f (u8s xs)) (hl : xs.length ≤ 500000) :
    Calls Try.prog 9 #[f, .int .i64 v, .int .i64 n] w (Tells w (xs ++ put v n)) := by
  obtain ⟨a, cap, rfl, h1, h2⟩ := RowV.len8 hf
  have HF := Lib.hid hf
  clear hf
  have hpl := put_length_le v n
  go_enter Try.func9, Try.ntmps9
  go_wp2_with fail
  refine (lowest_any _ _ _).mono ?_
  rintro e w1 ⟨u, rfl, hu, g1⟩
  obtain ⟨a', cap', rfl, _, _⟩ := RowV.len8 hu
  have HU := Lib.hid hu
  clear hu
  go_wp2_with fail
  refine (two_rows w1 _ _ xs (put v n) _ _ rfl (HF.out.ex g1) HU.out (by omega)).mono ?_
  rintro e w2 ⟨u2, rfl, hu2, g2⟩
  go_wp2_with fail
  go_ret
  exact ⟨_, rfl, hu2, Ex.trans g1 g2⟩

theorem meas_no (s : ByteArray) (w : World) (h : 255 < s.size) :
    Calls Try.prog 23 #[.string s] w fun e w' => e = .returned (.slice none 0 0) ∧ w = w' := by
  have i1 : (255 : Int) < (s.size : Int) := by omega
  go_enter Try.func23, Try.ntmps23
  go_wp2_with fail
  go_ret
  exact ⟨rfl, rfl⟩
theorem strCells_u8s (s : ByteArray) : Lib.strCells s = u8s (toN s) := by
  unfold Lib.strCells u8s toN
  rw [List.map_map]
  rfl
theorem meas_yes (s : ByteArray) (w : World) (h : s.size ≤ 255) :
    Calls Try.prog 23 #[.string s] w (Owns w (s.size :: toN s)) := by
  obtain ⟨i0, hi, hz0, hz1, hz2⟩ := info_parts info_u8
  have i1 : ¬ (255 : Int) < (s.size : Int) := by omega
  have hm : (s.size : Int) % 256 = s.size := by omega
  go_enter Try.func23, Try.ntmps23
  have HO := Lib.hid (World.ownsRow_lit (base := w.heap.size) (e := 5) (size := 1) w #[.int .u8 (s.size : Int)] 1 (Nat.le_refl _) (by simp [maxLen]) rfl)
  have ga : Ex w (w.alloc (.cells #[.int .u8 (s.size : Int)] 5)) := (Below.refl _ _).alloc (Nat.le_refl _) _
  have HM := Lib.hid (show (w.alloc (.cells #[.int .u8 (s.size : Int)] 5)).heap.size = w.heap.size + 1 by simp)
  go_wp2_with (first
    | (at_builtin
       refine Lib.wpList_append_own_string _ rfl (.tmp 9) (.tmp 10) 22 9 rfl w.heap.size 5 i0 Try.underlying22 Try.underlying9 hi hz0 hz1 hz2 _ 1 _ rfl HO.out s rfl ?c1 ?c2 ?c3 ?_
       rotate_right
       intro v' w1 hown' gb _))
  case c1 => unfold maxLen; omega
  case c2 => omega
  go_wp2_with fail
  go_ret
  refine ⟨_, rfl, ?_, Below.grown ga gb (by rw [HM.out]; omega) (fun b h => by cases h; exact Nat.le_refl _)⟩
  rw [strCells_u8s] at hown'
  rw [List.length_cons, toN_length, Nat.add_comm]
  exact hown'

theorem measured_any (s : ByteArray) (w : World) : Calls Try.prog 23 #[.string s] w (Tells w (txt s)) := by
  by_cases h : s.size ≤ 255
  · have ht : txt s = s.size :: toN s := by unfold txt; rw [if_pos h]
    rw [ht]
    exact (meas_yes s w h).mono fun _ _ h => h.tells
  · have ht : txt s = [] := by unfold txt; rw [if_neg h]
    rw [ht]
    exact (meas_no s w (by omega)).mono fun _ _ ⟨he, hw⟩ => ⟨_, he, RowV.nil _, by rw [hw]; exact Ex.refl _⟩

theorem text_any (f : Value) (xs : List Nat) (s : ByteArray) (w : World) (hf : RowV w f (u8s xs)) (hl : xs.length ≤ 500000) :
    Calls Try.prog 13 #[f, .string s] w (Tells w (xs ++ txt s)) := by
  obtain ⟨a, cap, rfl, h1, h2⟩ := RowV.len8 hf
  have HF := Lib.hid hf
  clear hf
  have hpl := txt_length_le s
  go_enter Try.func13, Try.ntmps13
  go_wp2_with fail
  refine (measured_any _ _).mono ?_
  rintro e w1 ⟨u, rfl, hu, g1⟩
  obtain ⟨a', cap', rfl, _, _⟩ := RowV.len8 hu
  have HU := Lib.hid hu
  clear hu
  go_wp2_with fail
  refine (two_rows w1 _ _ xs (txt s) _ _ rfl (HF.out.ex g1) HU.out (by omega)).mono ?_
  rintro e w2 ⟨u2, rfl, hu2, g2⟩
  go_wp2_with fail
  go_ret
  exact ⟨_, rfl, hu2, Ex.trans g1 g2⟩

end Go.Proofs.Ytkeeembielogfaa.bit
