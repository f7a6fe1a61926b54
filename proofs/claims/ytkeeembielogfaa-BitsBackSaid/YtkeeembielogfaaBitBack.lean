/- BitsBack: what is put is taken, whatever stands behind it, and cut off it is none. No condition. -/
import Derived.Test.YtkeeembielogfaaRows
import Derived.Test.YtkeeembielogfaaBitBegun
import Derived.Test.YtkeeembielogfaaFrame
namespace Go.Proofs.Ytkeeembielogfaa.bitsBack
open Go.ChangeShapes Go.WideShapes Go.ChangeAt Go.RowKit
open bit

theorem shr_fits (V : Int) (r : Nat) (h0 : 0 ≤ V) (h1 : V ≤ 18446744073709551615) (hr : (r : Int) ≤ 6) :
    ∃ u : Nat, V / 2 ^ (64 - 8 * (1 + r)) = (u : Int) ∧ u < 256 ^ (1 + r) := by
  have hp : (2 : Int) ^ (64 - 8 * (1 + r)) * 2 ^ (8 * (1 + r)) = 18446744073709551616 := by
    rw [← Int.pow_add, show 64 - 8 * (1 + r) + 8 * (1 + r) = 64 by omega]; rfl
  have hpos : (0 : Int) < 2 ^ (64 - 8 * (1 + r)) := Int.pow_pos (by omega)
  have hd0 : 0 ≤ V / 2 ^ (64 - 8 * (1 + r)) := Int.ediv_nonneg h0 (by omega)
  have hd1 : V / 2 ^ (64 - 8 * (1 + r)) < 2 ^ (8 * (1 + r)) := by
    apply Int.ediv_lt_of_lt_mul hpos
    rw [Int.mul_comm, hp]
    omega
  obtain ⟨u, hu⟩ := Int.eq_ofNat_of_zero_le hd0
  refine ⟨u, hu, ?_⟩
  rw [hu, pow8] at hd1
  have : (u : Int) < ((256 ^ (1 + r) : Nat) : Int) := by rw [Int.natCast_pow]; exact hd1
  omega
theorem put_small (u r : Nat) (hr : (r : Int) ≤ 6) (hu : u < 256 ^ (1 + r)) : ∃ X : List Nat, [] ++ put (u : Int) (1 + (r : Int)) = X ∧ X.length = 1 + r ∧ (∀ z ∈ X, z < 256) ∧ num X = u := by
  refine ⟨_, rfl, ?_, ?_, ?_⟩
  · unfold put; rw [if_pos (by omega), List.nil_append, low_length]; omega
  · intro z hz; exact put_lt _ _ z hz
  · unfold put
    rw [if_pos (by omega), List.nil_append]
    have := num_low (u : Int) (1 + (r : Int)).toNat
    rw [show (1 + (r : Int)).toNat = 1 + r by omega] at *
    rw [pow8, Int.emod_eq_of_lt (by omega) (by rw [show (256 : Int) ^ (1 + r) = ((256 ^ (1 + r) : Nat) : Int) by rw [Int.natCast_pow]; rfl]; omega)] at this
    omega
theorem take_back (X zs : List Nat) (r : Nat) (hr : (r : Int) ≤ 6) (hx : X.length = 1 + r) : taken (X ++ zs) (1 + (r : Int)) = num X ∧ mayTake (X ++ zs).length (1 + (r : Int)) = true := by
  have hm : mayTake (X ++ zs).length (1 + (r : Int)) = true := decide_eq_true ⟨by omega, by omega, by rw [List.length_append]; omega⟩
  refine ⟨?_, hm⟩
  unfold taken
  rw [if_pos hm, show (1 + (r : Int)).toNat = X.length by omega, List.take_left]
theorem text_back (s : ByteArray) (zs : List Nat) : ofN (text ((s.size :: toN s) ++ zs)) = s ∧ textN ((s.size :: toN s) ++ zs) = 1 + s.size ∧ mayText ((s.size :: toN s) ++ zs) = true := by
  have h0 : ((s.size :: toN s) ++ zs).getD 0 0 = s.size := rfl
  have hm : mayText ((s.size :: toN s) ++ zs) = true := decide_eq_true ⟨by simp, by rw [h0, List.length_append, List.length_cons, toN_length]; omega⟩
  refine ⟨?_, ?_, hm⟩
  · unfold text
    rw [if_pos hm, h0]
    have : s.size + 1 = (s.size :: toN s).length := by rw [List.length_cons, toN_length]
    rw [this, List.take_left]
    exact ofN_toN s
  · unfold textN; rw [if_pos hm, h0]; omega
theorem take_cut (X : List Nat) (m r : Nat) (hm : m < 1 + r) : mayTake (X.take m).length (1 + (r : Int)) = false :=
  decide_eq_false (by have := List.length_take_le m X; omega)
theorem text_cut (s : ByteArray) (m : Nat) (hm : m < 1 + s.size) : mayText ((s.size :: toN s).take m) = false := by
  refine decide_eq_false ?_
  rintro ⟨h1, h2⟩
  obtain _ | m := m
  · simp at h1
  · have h3 : ((s.size :: toN s).take (m + 1)).getD 0 0 = s.size := rfl
    rw [h3, List.length_take] at h2
    omega

set_option maxRecDepth 100000 in
set_option maxHeartbeats 2000000 in
theorem walk (w : World) (V : Int) (wV : (Lit.int .u64 V).wf = true) (K : Int) (wK : (Lit.int .u8 K).wf = true) (s : ByteArray) (hs : s.size ≤ maxLen)
    (v3 : Value) (len : Nat) (Z : Nat → Int) (hg : IsRow .u8 w v3 len Z) (C : Int) (wC : (Lit.int .u8 C).wf = true) :
    Calls Try.prog 4 #[.int .u64 V, .int .u8 K, .string s, v3, .int .u8 C] w fun e w' => e = .returned (.bool true) ∧ Ex w w' := by
  obtain ⟨zs, rfl, hz, hrow⟩ := row_u8 hg
  have HZ := Lib.hid hz
  clear hz hg
  obtain ⟨a, cap, rfl, hlc, hcm⟩ := RowV.len8 hrow
  have HR := Lib.hid hrow
  clear hrow
  unfold maxLen at hs
  have k0 := (bounds_u8 wK).1
  have k1 := (bounds_u8 wK).2
  have c0 := (bounds_u8 wC).1
  have c1 := (bounds_u8 wC).2
  have hV : 0 ≤ V ∧ V ≤ 18446744073709551615 := by
    simp only [Lit.wf, Bool.and_eq_true, decide_eq_true_eq] at wV
    have hmin : IntKind.u64.min = 0 := rfl
    have hmax : IntKind.u64.max = 18446744073709551615 := rfl
    omega
  obtain ⟨v0, v1⟩ := hV
  clear wV wK wC
  by_cases hl : s.size ≤ 255
  · have d1 : decide ((255 : Int) < (s.size : Int)) = false := decide_eq_false (by omega)
    by_cases hb : zs.length ≤ 20
    · have d2 : decide ((20 : Int) < (zs.length : Int)) = false := decide_eq_false (by omega)
      obtain ⟨r, hr⟩ : ∃ r : Nat, K % 7 = (r : Int) := ⟨(K % 7).toNat, by omega⟩
      have r6 : (r : Int) ≤ 6 := by omega
      go_enter Try.func4, Try.ntmps4
      go_wp2_with fail
      refine (begun_any _).mono ?_
      rintro e w1 ⟨rfl, g1⟩
      go_wp2_with fail
      obtain ⟨u, hu, hub⟩ := shr_fits V r v0 v1 r6
      have hub2 : u < 72057594037927936 := Nat.lt_of_lt_of_le hub (Nat.pow_le_pow_right (n := 256) (j := 7) (by omega) (by omega))
      rw [show wrap64 (V / 2 ^ (64 - 8 * (1 + r))) = (u : Int) by rw [hu]; unfold wrap64; omega]
      obtain ⟨X, hX, hxl, hxz, hxn⟩ := put_small u r r6 hub
      refine (put_any _ [] u (1 + (r : Int)) _ (RowV.nil _) (by simp)).mono ?_
      rintro e w2 ⟨x, rfl, hrx, g2⟩
      rw [hX] at hrx
      obtain ⟨ax, cx, rfl, hx1, hx2⟩ := RowV.len8 hrx
      rw [hxl] at hrx hx1 ⊢
      have HX := Lib.hid hxz
      have HN := Lib.hid hxn
      have HXL := Lib.hid hxl
      have HRX := Lib.hid hrx
      clear hX hxl hxz hxn hrx hu hub
      go_wp2_with fail
      refine (text_any _ [] s _ (RowV.nil _) (by simp)).mono ?_
      rintro e w3 ⟨y, rfl, hry, g3⟩
      rw [List.nil_append, show txt s = s.size :: toN s by unfold txt; rw [if_pos hl]] at hry
      obtain ⟨ay, cy, rfl, hy1, hy2⟩ := RowV.len8 hry
      rw [show (s.size :: toN s).length = 1 + s.size by rw [List.length_cons, toN_length]; omega] at hry hy1 ⊢
      have HRY := Lib.hid hry
      have hs3 : (s.size : Int) ≤ 255 := by omega
      clear hry
      obtain ⟨i0, hi, hz0, hz1, hz2⟩ := info_parts info_u8
      have HO := Lib.hid (World.ownsRow_lit (base := w3.heap.size) (e := 5) (size := 1) w3 #[] 0 (Nat.le_refl _) (by simp [maxLen]) rfl)
      have ga : Ex w3 (w3.alloc (.cells #[] 5)) := (Below.refl _ _).alloc (Nat.le_refl _) _
      have HRX3 := Lib.hid (HRX.out.ex g3)
      have HRZ3 := Lib.hid (((HR.out.ex g1).ex g2).ex g3)
      go_wp2_with (first
        | (at_builtin
           refine wpList_append_row _ rfl (.tmp 63) (.tmp 64) 22 rfl w3.heap.size 5 i0 (.int .u8 0) 1 Try.underlying22 hi hz0 hz1 hz2 rfl _ 0 _ rfl HO.out _ (u8s X) rfl (HRX3.out.ex ga) (one_u8s _) ?c1 ?c2 w3 ga ?c3 ?_
           rotate_right
           intro v' w4 hown gb
           have HW := Lib.hid hown
           clear hown)
        | (at_builtin
           refine wpList_append_row _ rfl (.tmp 65) (.tmp 66) 22 rfl w3.heap.size 5 i0 (.int .u8 0) 1 Try.underlying22 hi hz0 hz1 hz2 rfl _ _ _ rfl HW.out _ (u8s zs) rfl (HRZ3.out.ex gb) (one_u8s _) ?e1 ?e2 w3 gb ?e3 ?_
           rotate_right
           intro v2 w5 hown2 gb2
           have HW2 := Lib.hid hown2
           clear hown2))
      case c1 => unfold maxLen; rw [u8s_length, HXL.out]; omega
      case c2 => rw [u8s_length, HXL.out]; omega
      case c3 => simp
      case e1 => unfold maxLen; rw [u8s_length, u8s_length, HXL.out]; omega
      case e2 => rw [u8s_length, u8s_length, HXL.out]; omega
      case e3 => exact gb.size
      have hrow2 := (RowV.of_own HW2.out).1
      rw [show ((#[] : Array Value).toList ++ u8s X) ++ u8s zs = u8s (X ++ zs) by rw [u8s_append]; rfl] at hrow2
      refine (take_any v2 (X ++ zs) (1 + (r : Int)) _ hrow2 (fun z h => by rcases List.mem_append.1 h with h | h; exact HX.out z h; exact HZ.out z h)).mono ?_
      rintro e w6 ⟨rfl, g6⟩
      rw [(take_back X zs r r6 HXL.out).1, (take_back X zs r r6 HXL.out).2, HN.out]
      have G6 : Ex w3 w6 := Ex.trans gb2 g6
      clear hrow2 HW HW2 gb gb2 g6 HO HRX3
      have HO := Lib.hid (World.ownsRow_lit (base := w6.heap.size) (e := 5) (size := 1) w6 #[] 0 (Nat.le_refl _) (by simp [maxLen]) rfl)
      have ga6 : Ex w6 (w6.alloc (.cells #[] 5)) := (Below.refl _ _).alloc (Nat.le_refl _) _
      have HRY6 := Lib.hid (HRY.out.ex G6)
      have HRZ6 := Lib.hid (HRZ3.out.ex G6)
      have HYZ := Lib.hid (show ∀ z ∈ s.size :: toN s, z < 256 by
        intro z hz
        rcases List.mem_cons.1 hz with rfl | hz
        · omega
        · exact toN_lt s z hz)
      have HYL := Lib.hid (show (s.size :: toN s).length = 1 + s.size by rw [List.length_cons, toN_length]; omega)
      have HTB := Lib.hid (text_back s zs)
      have HTC := Lib.hid (text_cut s)
      generalize s.size :: toN s = Y at *
      clear ga
      go_wp2_with (first
        | (at_builtin
           refine wpList_append_row _ rfl (.tmp 73) (.tmp 74) 22 rfl w6.heap.size 5 i0 (.int .u8 0) 1 Try.underlying22 hi hz0 hz1 hz2 rfl _ 0 _ rfl HO.out _ (u8s Y) rfl (HRY6.out.ex ga6) (one_u8s _) ?c1 ?c2 w6 ga6 ?c3 ?_
           rotate_right
           intro v' w4 hown gb
           have HW := Lib.hid hown
           clear hown)
        | (at_builtin
           refine wpList_append_row _ rfl (.tmp 75) (.tmp 76) 22 rfl w6.heap.size 5 i0 (.int .u8 0) 1 Try.underlying22 hi hz0 hz1 hz2 rfl _ _ _ rfl HW.out _ (u8s zs) rfl (HRZ6.out.ex gb) (one_u8s _) ?e1 ?e2 w6 gb ?e3 ?_
           rotate_right
           intro v2 w5 hown2 gb2
           have HW2 := Lib.hid hown2
           clear hown2))
      case c1 => unfold maxLen; rw [u8s_length, HYL.out]; omega
      case c2 => rw [u8s_length, HYL.out]; omega
      case c3 => simp
      case e1 => unfold maxLen; rw [u8s_length, u8s_length, HYL.out]; omega
      case e2 => rw [u8s_length, u8s_length, HYL.out]; omega
      case e3 => exact gb.size
      have hrow2 := (RowV.of_own HW2.out).1
      rw [show ((#[] : Array Value).toList ++ u8s Y) ++ u8s zs = u8s (Y ++ zs) by rw [u8s_append]; rfl] at hrow2
      refine (takeText_any _ (Y ++ zs) _ hrow2 (fun z h => by rcases List.mem_append.1 h with h | h; exact HYZ.out z h; exact HZ.out z h) (by rw [List.length_append, HYL.out]; omega)).mono ?_
      rintro e w7 ⟨rfl, g7⟩
      rw [HTB.out.1, HTB.out.2.1, HTB.out.2.2]
      have G7 : Ex w6 w7 := Ex.trans gb2 g7
      clear hrow2 HW HW2 gb gb2 g7 HO ga6
      obtain ⟨m1, hm1⟩ : ∃ m : Nat, C % (1 + (r : Int)) = (m : Int) := ⟨(C % (1 + (r : Int))).toNat, by have := Int.emod_nonneg C (show (1 + (r : Int)) ≠ 0 by omega); omega⟩
      obtain ⟨m2, hm2⟩ : ∃ m : Nat, C % (1 + (s.size : Int)) = (m : Int) := ⟨(C % (1 + (s.size : Int))).toNat, by have := Int.emod_nonneg C (show (1 + (s.size : Int)) ≠ 0 by omega); omega⟩
      have hm1l : m1 < 1 + r := by have := Int.emod_lt_of_pos C (show 0 < (1 + (r : Int)) by omega); omega
      have hm2l : m2 < 1 + s.size := by have := Int.emod_lt_of_pos C (show 0 < (1 + (s.size : Int)) by omega); omega
      have q1 : (m1 : Int) ≤ (cx : Int) := by omega
      have q2 : (m2 : Int) ≤ (cy : Int) := by omega
      have HM2 := Lib.hid hm2l
      go_wp2_with fail
      have hrx := (HRX.out.ex (Ex.trans g3 (Ex.trans G6 G7))).take m1 (by omega)
      rw [← u8s_take] at hrx
      refine (take_any _ (X.take m1) (1 + (r : Int)) _ hrx (fun z h => HX.out z (List.mem_of_mem_take h))).mono ?_
      rintro e w8 ⟨rfl, g8⟩
      rw [take_cut X m1 r hm1l]
      generalize taken (X.take m1) (1 + (r : Int)) = t1
      clear hrx
      go_wp2_with fail
      have hry := (HRY6.out.ex (Ex.trans G7 g8)).take m2 (by omega)
      rw [← u8s_take] at hry
      refine (takeText_any _ (Y.take m2) _ hry (fun z h => HYZ.out z (List.mem_of_mem_take h)) (by have := List.length_take_le m2 Y; omega)).mono ?_
      rintro e w9 ⟨rfl, g9⟩
      rw [HTC.out m2 HM2.out]
      generalize textN (Y.take m2) = t2
      generalize ofN (text (Y.take m2)) = t3
      clear hry
      go_wp2_with fail
      go_ret
      exact ⟨rfl, Ex.trans g1 (Ex.trans g2 (Ex.trans g3 (Ex.trans G6 (Ex.trans G7 (Ex.trans g8 g9)))))⟩
    · have d2 : decide ((20 : Int) < (zs.length : Int)) = true := decide_eq_true (by omega)
      go_enter Try.func4, Try.ntmps4
      go_wp2_with fail
      refine (begun_any _).mono ?_
      rintro e w1 ⟨rfl, g1⟩
      go_wp2_with fail
      go_ret
      exact ⟨rfl, g1⟩
  · have d1 : decide ((255 : Int) < (s.size : Int)) = true := decide_eq_true (by omega)
    go_enter Try.func4, Try.ntmps4
    go_wp2_with fail
    refine (begun_any _).mono ?_
    rintro e w1 ⟨rfl, g1⟩
    go_wp2_with fail
    go_ret
    exact ⟨rfl, g1⟩

end Go.Proofs.Ytkeeembielogfaa.bitsBack
