/- Bytes as texts: what string(b) and make([]byte, n) come to; sector. -/
import Derived.Test.YtfcdbknmajfkaaaChecked
import Derived.Test.YtfcdbknmajfkaaaBitMath
import Derived.Test.YtfcdbknmajfkaaaDskMath
import Derived.OpenShut
import Derived.WalkLawsBesides
import Derived.KernelRfl
import Derived.Laws.BytesString
import Derived.Laws.IdiomStrings
import Derived.Lib.AppendStr
import Derived.Lib.AppendZeros
import Derived.Lib.BufferRead
import Derived.OwnWalk
import Derived.Outline
namespace Go.Proofs.Ytfcdbknmajfkaaa.sec
set_option maxRecDepth 100000
open Go.RowKit bit

theorem add_off (b off j : Nat) : (⟨b, off, none⟩ : Addr).add j = ⟨b, off + j, none⟩ := by unfold Addr.add; split <;> simp_all
/-- A slice of bytes as a text. -/
theorem conv_row (v : Value) (zs : List Nat) (w : World) (h : RowV w v (u8s zs)) (hz : ∀ z ∈ zs, z < 256) :
    (convert 43 9 v).run Try.prog w = .ok (.string (ofN zs)) w := by
  obtain ⟨a, cap, rfl, h1, h2, h3⟩ := h
  rw [u8s_length]
  rcases a with _ | ad
  · have : zs = [] := by
      rcases Nat.eq_zero_or_pos zs.length with h0 | h0
      · exact List.eq_nil_of_length_eq_zero h0
      · obtain ⟨b, off, h, _⟩ := h3 (by rw [u8s_length]; exact h0)
        cases h
    subst this
    exact Lib.run_convert_nil_bytes w _ _ 5 cap Try.underlying43 Try.underlying5 Try.underlying9
  · have hl : zs.length = (zs.map UInt8.ofNat).length := by simp
    rw [hl]
    refine run_convert_bytes_back w _ _ 5 ad cap (zs.map UInt8.ofNat) Try.underlying43 Try.underlying5 Try.underlying9 fun j hj => ?_
    rw [← hl] at hj
    obtain ⟨b, off, h, hc⟩ := h3 (by rw [u8s_length]; omega)
    cases h
    have := hc j _ (u8s_get zs j hj)
    rw [add_off, this]
    have hzj := hz _ (getD_mem hj)
    simp only [List.getElem_map]
    have e : zs[j] = zs.getD j 0 := by simp [List.getD, hj]
    rw [e]
    show _ = some (Value.int .u8 (((zs.getD j 0) % 256 : Nat) : Int))
    rw [Nat.mod_eq_of_lt hzj]


theorem info_u8 : (Try.prog.info? 5).map (fun i => (i.zero, i.size, i.bytes)) = some (some (.int .u8 0), 1, 1) := by kernel_rfl
/-- n noughts. -/
def zs (n : Nat) : Array Value := (u8s (List.replicate n 0)).toArray
theorem make_zs (n : Nat) (hn : n ≤ 1000) (w : World) : (Instr.makeSlice 43 (.int .i64 (n : Int)) (.int .i64 (n : Int))).run Try.prog w = .ok (.slice (some ⟨w.heap.size, 0, none⟩) n n) (w.alloc (.cells (zs n) 5)) := by
  obtain ⟨i0, hi, hz0, hz1, hz2⟩ := info_parts info_u8
  have hr := run_make (P := Try.prog) w 43 5 i0 _ Try.underlying43 hi hz0 .i64 .i64 n n (by omega) (Int.le_refl _) (by rw [hz2]; omega) (by omega)
  simp only [Int.toNat_natCast, hz1] at hr
  rw [hr]
  have : madeCells (Value.cells (.int .u8 0)) (n * 1) = zs n := by
    apply Array.toList_inj.1
    unfold zs
    rw [List.toList_toArray, Nat.mul_one]
    refine (toList_madeCells_one _ _).trans ?_
    simp [u8s]
  rw [this]
theorem row_zs (n : Nat) (hn : n ≤ 1000) (W : World) (b : Nat) (hb : b = W.heap.size) : RowV (W.alloc (.cells (zs n) 5)) (.slice (some ⟨b, 0, none⟩) n n) (u8s (List.replicate n 0)) := by
  subst hb
  exact RowV.lit W _ 5 n (by simp) (by unfold maxLen; omega)
theorem conv_zs (n : Nat) (hn : n ≤ 1000) (W : World) (b : Nat) (hb : b = W.heap.size) :
    (convert 43 9 (.slice (some ⟨b, 0, none⟩) n n)).run Try.prog (W.alloc (.cells (zs n) 5)) = .ok (.string (ofN (List.replicate n 0))) (W.alloc (.cells (zs n) 5)) := by
  have h := conv_row _ (List.replicate n 0) _ (row_zs n hn W b hb) (by intro z hz; have := List.eq_of_mem_replicate hz; omega)
  exact h
theorem make32 (w : World) : (Instr.makeSlice 43 (.int .i64 32) (.int .i64 32)).run Try.prog w = .ok (.slice (some ⟨w.heap.size, 0, none⟩) 32 32) (w.alloc (.cells (zs 32) 5)) := make_zs 32 (by omega) w
theorem make31 (w : World) : (Instr.makeSlice 43 (.int .i64 31) (.int .i64 31)).run Try.prog w = .ok (.slice (some ⟨w.heap.size, 0, none⟩) 31 31) (w.alloc (.cells (zs 31) 5)) := make_zs 31 (by omega) w
theorem ofN_noughts : ofN (List.replicate 32 0) = dsk.noughts := by decide
theorem conv32 (W : World) (b : Nat) (hb : b = W.heap.size) : (convert 43 9 (.slice (some ⟨b, 0, none⟩) 32 32)).run Try.prog (W.alloc (.cells (zs 32) 5)) = .ok (.string dsk.noughts) (W.alloc (.cells (zs 32) 5)) := by
  rw [← ofN_noughts]; exact conv_zs 32 (by omega) W b hb
def z31 : ByteArray := ofN (List.replicate 31 0)
theorem conv31 (W : World) (b : Nat) (hb : b = W.heap.size) : (convert 43 9 (.slice (some ⟨b, 0, none⟩) 31 31)).run Try.prog (W.alloc (.cells (zs 31) 5)) = .ok (.string z31) (W.alloc (.cells (zs 31) 5)) := conv_zs 31 (by omega) W b hb

/-- A sector of a number. -/
def secAt (n i : Nat) : Nat := (n * 7 + i) % 256
def secN (n : Nat) : List Nat := (List.range 32).map (secAt n)
def sec (n : Nat) : ByteArray := ofN (secN n)
/-- Its first k bytes, then noughts. -/
def secK (n k : Nat) : List Nat := (List.range 32).map fun i => if i < k then secAt n i else 0
theorem secK_zero (n : Nat) : secK n 0 = List.replicate 32 0 := by simp [secK]; decide
theorem secK_all (n : Nat) : secK n 32 = secN n := by
  unfold secK secN
  apply List.map_congr_left
  intro i hi
  rw [if_pos (by simpa using hi)]
theorem secK_length (n k : Nat) : (secK n k).length = 32 := by simp [secK]
theorem secK_set (n k : Nat) (hk : k < 32) : (u8s (secK n k)).set k (.int .u8 ((secAt n k : Nat) : Int)) = u8s (secK n (k + 1)) := by
  apply List.ext_getElem?
  intro j
  rw [List.getElem?_set]
  by_cases hj : j < 32
  · rw [u8s_get _ _ (by rw [secK_length]; exact hj), u8s_get _ _ (by rw [secK_length]; exact hj)]
    have e : ∀ m, (secK n m).getD j 0 = if j < m then secAt n j else 0 := by
      intro m
      simp [secK, List.getD, hj]
    rw [e, e]
    by_cases h : k = j
    · subst h
      rw [if_pos rfl, if_pos (by rw [u8s_length, secK_length]; exact hj), if_pos (by omega)]
    · rw [if_neg h]
      by_cases h2 : j < k
      · rw [if_pos h2, if_pos (by omega)]
      · rw [if_neg h2, if_neg (by omega)]
  · have h1 : (u8s (secK n k))[j]? = none := List.getElem?_eq_none (by rw [u8s_length, secK_length]; omega)
    have h2 : (u8s (secK n (k + 1)))[j]? = none := List.getElem?_eq_none (by rw [u8s_length, secK_length]; omega)
    rw [h1, h2, if_neg (by omega)]
theorem secK_lt (n k : Nat) : ∀ z ∈ secK n k, z < 256 := by
  intro z hz
  obtain ⟨i, _, rfl⟩ := List.mem_map.1 hz
  split
  · unfold secAt; omega
  · omega
theorem sec_size (n : Nat) : (sec n).size = 32 := by unfold sec; rw [ofN_size]; simp [secN]

def RSec (W : World) (g n : Nat) (i : Value) (wr : World) : Prop :=
  ∃ k : Nat, k ≤ 32 ∧ i = .int .i64 k ∧ wr.ownsRow W.heap.size 5 1 (.slice (some ⟨g, 0, none⟩) 32 32) 32 (u8s (secK n k)) ∧ Ex W wr

set_option maxHeartbeats 1000000 in
theorem sector_any (n : Nat) (hn : n < 256) (w : World) : Calls Try.prog 23 #[.int .u8 (n : Int)] w fun e w' => e = .returned (.string (sec n)) ∧ Ex w w' := by
  have hm := make32 w
  have HO := Lib.hid (show (w.alloc (.cells (zs 32) 5)).ownsRow w.heap.size 5 1 (.slice (some ⟨w.heap.size, 0, none⟩) 32 32) 32 (u8s (secK n 0)) by
    rw [secK_zero]
    have := World.ownsRow_lit (e := 5) (size := 1) (base := w.heap.size) w (zs 32) 32 (Nat.le_refl _) (by unfold maxLen; omega) (by simp [zs])
    simpa [zs] using this)
  have hn0 : (0 : Int) ≤ (n : Int) := by omega
  have hn1 : (n : Int) < 256 := by omega
  go_enter Try.func23, Try.ntmps23
  go_wp2_with fail
  clear hm
  go_loopw [4] (RSec w w.heap.size n) (fun i _ => 32 - (intOf i).toNat)
  case atStart => exact ⟨0, by omega, rfl, HO.out, Ex.mk_alloc _ _⟩
  case round =>
    obtain ⟨k, hk, rfl, hown, gk⟩ := hrel
    by_cases hlt : k < 32
    · obtain ⟨hst, hgb⟩ := hown.stored k (.int .u8 ((secAt n k : Nat) : Int))
      rw [secK_set n k hlt] at hst
      have hfz := hown.frozenAt k
      have hcell := hown.cellAt k (by omega)
      rw [u8s_get _ _ (by rw [secK_length]; exact hlt)] at hcell
      have HS := Lib.hid hst
      have HE := Lib.hid (Below.grown gk hgb gk.size (fun b h => by cases h; exact Nat.le_refl _))
      have i0 : (0 : Int) ≤ (k : Int) := by omega
      have i1 : (k : Int) < 32 := by omega
      have HA := Lib.hid (show ((n : Int) * 7 + (k : Int)) % 256 = ((secAt n k : Nat) : Int) by unfold secAt; omega)
      clear hst hgb hown
      go_wp2_with fail
      go_roundw
      case rel => exact ⟨k + 1, by omega, by go_num, by rw [HA.out]; exact HS.out, by rw [HA.out]; exact HE.out⟩
      case measure => simp [intOf]; omega
    · obtain rfl : k = 32 := by omega
      have kc := conv_row _ (secK n 32) wr (RowV.of_own hown).1 (secK_lt n 32)
      rw [secK_all] at kc
      have kc' : (convert 43 9 (.slice (some ⟨w.heap.size, 0, none⟩) 32 32)).run Try.prog wr = .ok (.string (sec n)) wr := kc
      clear kc hown
      go_wp2_with fail
      go_ret
      exact ⟨rfl, gk⟩

end Go.Proofs.Ytfcdbknmajfkaaa.sec
