/- CrcTurned: bytes of which some within 16 bits are turned have another sum. No condition. -/
import Derived.Test.YtobhmanalnaemaaRows
import Derived.Test.YtobhmanalnaemaaCrcLaws
import Derived.Test.YtobhmanalnaemaaFrame
import Derived.Deep.AppendLies
namespace Go.Proofs.Ytobhmanalnaemaa.crcTurned
open Go.ChangeShapes Go.WideShapes Go.ChangeAt Go.RowKit
open crc

/-- What is turned behind i steps. -/
def tn (zs : List Nat) (k v : Nat) : Nat → List Nat
  | 0 => zs
  | i + 1 => (tn zs k v i).set (k + i) (zs.getD (k + i) 0 ^^^ v / 256 ^ i % 256)
theorem tn_length (zs : List Nat) (k v : Nat) : ∀ i, (tn zs k v i).length = zs.length
  | 0 => rfl
  | i + 1 => by simp [tn, tn_length zs k v i]
theorem tn_at (zs : List Nat) (k v : Nat) : ∀ i j, k + i ≤ j → (tn zs k v i).getD j 0 = zs.getD j 0
  | 0, _, _ => rfl
  | i + 1, j, h => by
    have := tn_at zs k v i j (by omega)
    simp only [tn]
    rw [List.getD_eq_getElem?_getD, List.getElem?_set_ne (by omega), ← List.getD_eq_getElem?_getD, this]
theorem tn_lt {zs : List Nat} (h : ∀ z ∈ zs, z < 256) (k v : Nat) : ∀ i, ∀ z ∈ tn zs k v i, z < 256
  | 0 => h
  | i + 1 => fun z hz => by
    rcases List.mem_or_eq_of_mem_set hz with hz | rfl
    · exact tn_lt h k v i z hz
    · by_cases hj : k + i < zs.length
      · exact Nat.xor_lt_two_pow (n := 8) (h _ (getD_mem hj)) (by omega)
      · rw [List.getD_eq_getElem?_getD, List.getElem?_eq_none (by omega)]
        exact Nat.xor_lt_two_pow (n := 8) (by simp) (by omega)
theorem tn_three (zs : List Nat) (k v : Nat) (h : k + 3 ≤ zs.length) :
    tn zs k v 3 = List.zipWith (· ^^^ ·) zs (List.replicate k 0 ++ [v % 256, v / 256 % 256, v / 65536 % 256] ++ List.replicate (zs.length - k - 3) 0) := by
  apply List.ext_getElem?
  intro j
  by_cases hj : j < zs.length
  · simp only [tn, List.getElem?_zipWith, Nat.add_zero]
    by_cases h1 : j < k
    · rw [List.getElem?_set_ne (by omega), List.getElem?_set_ne (by omega), List.getElem?_set_ne (by omega), List.append_assoc, List.getElem?_append_left (by simpa using h1)]
      simp [hj, h1]
    · rw [List.append_assoc, List.getElem?_append_right (by simpa using h1)]
      simp only [List.length_replicate]
      have e0 : zs[j]? = some (zs.getD j 0) := by simp [List.getD, hj]
      rw [e0]
      by_cases h2 : j = k
      · subst h2
        rw [List.getElem?_set_ne (by omega), List.getElem?_set_ne (by omega), List.getElem?_set_self (by omega), Nat.sub_self]
        simp
      · by_cases h3 : j = k + 1
        · subst h3
          rw [List.getElem?_set_ne (by omega), List.getElem?_set_self (by simp; omega), show k + 1 - k = 1 by omega]
          simp
        · by_cases h4 : j = k + 2
          · subst h4
            rw [List.getElem?_set_self (by simp; omega), show k + 2 - k = 2 by omega]
            simp
          · rw [List.getElem?_set_ne (by omega), List.getElem?_set_ne (by omega), List.getElem?_set_ne (by omega), e0, List.getElem?_append_right (by simp; omega)]
            simp only [List.length_cons, List.length_nil]
            rw [List.getElem?_replicate, if_pos (by omega)]
            simp
  · rw [List.getElem?_eq_none (by rw [tn_length]; omega), List.getElem?_eq_none (by simp; omega)]
theorem turned_ne (zs : List Nat) (k a s : Nat) (h : k + 3 ≤ zs.length) (ha : a < 65536) (h0 : a ≠ 0) (hs : s < 8) :
    cSum 0 (tn zs k (2 ^ s * a) 3) ≠ cSum 0 zs := by
  rw [tn_three zs k _ h]
  exact sum_turned zs k _ (by simpa using h) (three_ne a s ha h0 hs) (by intro z hz; simp at hz; omega)

theorem set_u8s (zs : List Nat) (j z : Nat) : (u8s zs).set j (.int .u8 (z : Int)) = u8s (zs.set j z) := by simp [u8s, List.map_set]

theorem info_u8 : (Try.prog.info? 5).map (fun i => (i.zero, i.size, i.bytes)) = some (some (.int .u8 0), 1, 1) := by kernel_rfl
theorem one_u8s (zs : List Nat) : ∀ u ∈ u8s zs, u.oneCell' = true := by
  intro u hu
  obtain ⟨z, _, rfl⟩ := List.mem_map.1 hu
  rfl
def RTn (w : World) (g : Nat) (cap : Nat) (zs : List Nat) (k v : Nat) (i : Value) (wr : World) : Prop :=
  ∃ j : Nat, j ≤ 3 ∧ i = .int .i64 j ∧ wr.ownsRow w.heap.size 5 1 (.slice (some ⟨g, 0, none⟩) zs.length cap) zs.length (u8s (tn zs k v j)) ∧ Ex w wr

set_option maxRecDepth 100000 in
set_option maxHeartbeats 1000000 in
theorem walk (w : World) (v : Value) (len : Nat) (Z : Nat → Int) (hg : IsRow .u8 w v len Z) (a1 : Int) (w1 : (Lit.int .u16 a1).wf = true) (a2 : Int) (w2 : (Lit.int .u16 a2).wf = true) :
    Calls Try.prog 4 #[v, .int .u16 a1, .int .u16 a2] w fun e w' => e = .returned (.bool true) ∧ Ex w w' := by
  obtain ⟨p1, p2⟩ := bounds_u16 w1
  obtain ⟨q1, q2⟩ := bounds_u16 w2
  clear w1 w2
  obtain ⟨at', rfl⟩ := Int.eq_ofNat_of_zero_le p1
  obtain ⟨by', rfl⟩ := Int.eq_ofNat_of_zero_le q1
  obtain ⟨zs, rfl, hz, hrow⟩ := row_u8 hg
  have HZ := Lib.hid hz
  clear hz
  have HR := Lib.hid hrow
  obtain ⟨a, cap, rfl, hlc, hcm⟩ := hrow.len
  clear hrow hg p1 q1
  simp only [u8s_length] at hlc HR ⊢
  unfold maxLen at hcm
  by_cases h1 : 200 < zs.length
  · go_enter Try.func4, Try.ntmps4
    go_wp2_with fail
    refine (begun_any _).mono ?_
    rintro e w1 ⟨rfl, g1⟩
    go_wp2_with fail
    go_ret
    exact ⟨rfl, g1⟩
  by_cases h2 : zs.length < 3
  · go_enter Try.func4, Try.ntmps4
    go_wp2_with fail
    refine (begun_any _).mono ?_
    rintro e w1 ⟨rfl, g1⟩
    go_wp2_with fail
    go_ret
    exact ⟨rfl, g1⟩
  by_cases h3 : by' = 0
  · subst h3
    go_enter Try.func4, Try.ntmps4
    go_wp2_with fail
    refine (begun_any _).mono ?_
    rintro e w1 ⟨rfl, g1⟩
    go_wp2_with fail
    go_ret
    exact ⟨rfl, g1⟩
  have d3 : ((by' : Int) == 0) = false := by rw [beq_eq_false_iff_ne]; omega
  obtain ⟨i0, hi, hz0, hz1, hz2⟩ := info_parts info_u8
  have hs : at' % 8 < 8 := Nat.mod_lt _ (by omega)
  have hp : 2 ^ (at' % 8) ≤ 128 := by have := Nat.pow_le_pow_right (n := 2) (by omega) (show at' % 8 ≤ 7 by omega); omega
  have hv : 2 ^ (at' % 8) * by' < 16777216 := Nat.lt_of_le_of_lt (Nat.mul_le_mul_right by' hp) (by omega)
  have hshl : (by' : Int) * 2 ^ (at' % 8) % 4294967296 = ((2 ^ (at' % 8) * by' : Nat) : Int) := by
    have e2 : ((by' : Int) * 2 ^ (at' % 8)) = ((2 ^ (at' % 8) * by' : Nat) : Int) := by rw [Nat.mul_comm]; push_cast; rfl
    rw [e2]; omega
  go_enter Try.func4, Try.ntmps4
  go_wp2_with fail
  refine (begun_any _).mono ?_
  rintro e w1 ⟨rfl, g1⟩
  have hw1 := g1.size
  go_wp2_with (first
    | (at_builtin
       refine wpList_append_row _ rfl (.tmp 25) (.tmp 26) 22 rfl w.heap.size 5 i0 (.int .u8 0) 1 Try.underlying22 hi hz0 hz1 hz2 rfl _ 0 [] rfl (World.ownsRow_made w1 #[] 0 g1.size (by decide) (by simp)) _ (u8s zs) rfl (HR.out.ex (Ex.trans g1 (alloc_ex _ _))) (one_u8s zs) ?c1 ?c2 w (Below.alloc g1 g1.size _) ?c3 ?_
       rotate_right
       intro v' w2 hown gb))
  case c1 => simp; unfold maxLen; omega
  case c2 => simp; omega
  case c3 => simp; omega
  simp only [u8s_length, Nat.zero_add, List.nil_append] at hown
  obtain ⟨g, cap', rfl, hbg, hgl⟩ := hown.form (by omega)
  have HV := Lib.hid (turned_ne zs (at' % (zs.length - 2)) by' (at' % 8) (by have := Nat.mod_lt at' (show zs.length - 2 > 0 by omega); omega) (by omega) h3 hs)
  have hk : (at' : Int) % ((zs.length : Int) - 2) = ((at' % (zs.length - 2) : Nat) : Int) := by
    rw [Int.natCast_emod]; congr 1; omega
  have hkl : at' % (zs.length - 2) + 3 ≤ zs.length := by have := Nat.mod_lt at' (show zs.length - 2 > 0 by omega); omega
  clear d3 hp hs h3 q2 hi hz0 hz1 hz2 hw1
  generalize hK : at' % (zs.length - 2) = k at *
  generalize hVV : 2 ^ (at' % 8) * by' = vv at *
  clear hK hVV
  go_wp2_with fail
  simp only [hshl, hk]
  clear hshl hk
  go_loopw [10] (RTn w g cap' zs k vv) (fun i _ => 3 - (intOf i).toNat)
  case atStart => exact ⟨0, by omega, rfl, hown, gb⟩
  case round =>
    obtain ⟨j, hj, rfl, hown2, gr⟩ := hrel
    by_cases hjl : j < 3
    · have hcell : wr.cell? ⟨g, k + j, none⟩ = some (.int .u8 (zs.getD (k + j) 0 : Nat)) := by
        rw [hown2.cellAt (k + j) (by omega), u8s_get _ _ (by rw [tn_length]; omega), tn_at zs k vv j _ (Nat.le_refl _)]
      have hfz := hown2.frozenAt (k + j)
      have hzl := HZ.out _ (getD_mem (show k + j < zs.length by omega))
      obtain ⟨hst, hgb⟩ := hown2.stored (k + j) (.int .u8 ((zs.getD (k + j) 0 ^^^ vv / 256 ^ j % 256 : Nat) : Int))
      rw [set_u8s] at hst
      have gst : Ex w (wr.setCell ⟨g, k + j, none⟩ (.int .u8 ((zs.getD (k + j) 0 ^^^ vv / 256 ^ j % 256 : Nat) : Int))) := Below.grown gr hgb gr.size (fun b h => by cases h; exact hbg)
      have HS := Lib.hid (show (wr.setCell ⟨g, k + j, none⟩ (.int .u8 ((zs.getD (k + j) 0 ^^^ vv / 256 ^ j % 256 : Nat) : Int))).ownsRow w.heap.size 5 1 (.slice (some ⟨g, 0, none⟩) zs.length cap') zs.length (u8s (tn zs k vv (j + 1))) from hst)
      have HE := Lib.hid gst
      have hx := u8_xor_nat (zs.getD (k + j) 0) (vv / 256 ^ j % 256) hzl (by omega)
      rw [show ((vv / 256 ^ j % 256 : Nat) : Int) = (vv : Int) / 256 ^ j % 256 by push_cast; rfl] at hx
      have hn0 : (0 : Int) ≤ (k : Int) + (j : Int) := by omega
      have hn1 : (k : Int) + (j : Int) < (zs.length : Int) := by omega
      clear hst hgb gst hown2 hown
      generalize zs.getD (k + j) 0 ^^^ vv / 256 ^ j % 256 = y at *
      generalize zs.getD (k + j) 0 = z at *
      rcases (show j = 0 ∨ j = 1 ∨ j = 2 by omega) with rfl | rfl | rfl
      · rw [show (256 : Int) ^ 0 = 1 from rfl, Int.ediv_one] at hx
        rw [Nat.add_zero] at hcell hfz HS HE
        rw [Int.natCast_zero, Int.add_zero] at hn0 hn1
        go_wp2_with fail
        go_region
        all_goals
          go_wp2_with fail
          go_roundw
          case rel => exact ⟨1, by omega, by go_num, HS.out.drew, HE.out.drew⟩
          case measure => simp [intOf]
      · rw [show (256 : Int) ^ 1 = 256 from rfl] at hx
        go_wp2_with fail
        go_region
        all_goals
          go_wp2_with fail
          go_roundw
          case rel => exact ⟨2, by omega, by go_num, HS.out.drew, HE.out.drew⟩
          case measure => simp [intOf]
      · rw [show (256 : Int) ^ 2 = 65536 from rfl, Int.emod_eq_of_lt (by omega) (by omega)] at hx
        go_wp2_with fail
        go_region
        all_goals
          go_wp2_with fail
          go_roundw
          case rel => exact ⟨3, by omega, by go_num, HS.out.drew, HE.out.drew⟩
          case measure => simp [intOf]
    · have hj3 : j = 3 := by omega
      subst hj3
      have HO := Lib.hid (RowV.of_own hown2).1
      have HT := Lib.hid (tn_lt HZ.out k vv 3)
      have HL := Lib.hid (tn_length zs k vv 3)
      clear hown2 hown
      have hne : ((cSum 0 (tn zs k vv 3) : Nat) : Int) ≠ ((cSum 0 zs : Nat) : Int) := fun e => HV.out (Int.ofNat.inj e)
      have hd : (((cSum 0 (tn zs k vv 3) : Nat) : Int) != ((cSum 0 zs : Nat) : Int)) = true := by rw [bne_iff_ne]; exact hne
      clear hne
      go_wp2_with fail
      refine (sum_any _ (tn zs k vv 3) _ HO.out HT.out).mono ?_
      rintro e w' ⟨rfl, rfl⟩
      go_wp2_with fail
      refine (sum_any _ zs _ (HR.out.ex gr) HZ.out).mono ?_
      rintro e w' ⟨rfl, rfl⟩
      go_wp2_with fail
      go_ret
      exact ⟨rfl, gr⟩

end Go.Proofs.Ytobhmanalnaemaa.crcTurned
