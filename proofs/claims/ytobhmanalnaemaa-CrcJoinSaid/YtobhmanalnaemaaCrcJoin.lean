/- CrcJoin: two that are as long, turned in one another, have the sums turned in one another. No condition. -/
import Derived.Test.YtobhmanalnaemaaRows
import Derived.Test.YtobhmanalnaemaaCrcLaws
import Derived.Test.YtobhmanalnaemaaFrame
namespace Go.Proofs.Ytobhmanalnaemaa.crcJoin
open Go.ChangeShapes Go.WideShapes Go.ChangeAt Go.RowKit
open crc

/-- What c holds behind j steps. -/
def jn (xs ys : List Nat) : Nat → List Nat
  | 0 => List.replicate 20 0
  | j + 1 => (jn xs ys j).set j (xs.getD j 0 ^^^ ys.getD j 0)
theorem jn_length (xs ys : List Nat) : ∀ j, (jn xs ys j).length = 20
  | 0 => rfl
  | j + 1 => by simp [jn, jn_length xs ys j]
theorem jn_at (xs ys : List Nat) : ∀ j i, i < j → j ≤ 20 → (jn xs ys j)[i]? = some (xs.getD i 0 ^^^ ys.getD i 0)
  | 0, _, h, _ => absurd h (Nat.not_lt_zero _)
  | j + 1, i, h, hj => by
    simp only [jn]
    by_cases e : i = j
    · subst e
      rw [List.getElem?_set_self (by rw [jn_length]; omega)]
    · rw [List.getElem?_set_ne (by omega)]
      exact jn_at xs ys j i (by omega) (by omega)
theorem jn_all (xs ys : List Nat) (hx : xs.length = 20) (hy : ys.length = 20) : jn xs ys 20 = List.zipWith (· ^^^ ·) xs ys := by
  apply List.ext_getElem?
  intro i
  by_cases h : i < 20
  · rw [jn_at xs ys 20 i h (by omega)]
    simp [List.getD, hx, hy, h]
  · rw [List.getElem?_eq_none (by rw [jn_length]; omega), List.getElem?_eq_none (by simp [hx, hy]; omega)]
theorem jn_lt {xs ys : List Nat} (hx : ∀ z ∈ xs, z < 256) (hy : ∀ z ∈ ys, z < 256) : ∀ j, ∀ z ∈ jn xs ys j, z < 256
  | 0 => fun z hz => by rw [List.eq_of_mem_replicate hz]; omega
  | j + 1 => fun z hz => by
    have g : ∀ {zs : List Nat}, (∀ z ∈ zs, z < 256) → zs.getD j 0 < 256 := fun {zs} h => by
      by_cases hj : j < zs.length
      · exact h _ (getD_mem hj)
      · rw [List.getD_eq_getElem?_getD, List.getElem?_eq_none (by omega)]; simp
    rcases List.mem_or_eq_of_mem_set hz with hz | rfl
    · exact jn_lt hx hy j z hz
    · exact Nat.xor_lt_two_pow (n := 8) (g hx) (g hy)
theorem join_sum (xs ys : List Nat) (hx : xs.length = 20) (hy : ys.length = 20) : cSum 0 (jn xs ys 20) = cSum 0 xs ^^^ cSum 0 ys := by
  rw [jn_all xs ys hx hy, ← cSum_xor xs ys 0 0 (by rw [hx, hy]), Nat.xor_self]
theorem set_u8s (zs : List Nat) (j z : Nat) : (u8s zs).set j (.int .u8 (z : Int)) = u8s (zs.set j z) := by simp [u8s, List.map_set]
/-- A variable that holds an array of twenty bytes. -/
theorem RowV.var (w : World) (zs : List Nat) (e : TypeId) (b : Nat) (hl : zs.length = 20) (hb : b = w.heap.size) : RowV (w.alloc (.cells (u8s zs).toArray e)) (.slice (some ⟨b, 0, none⟩) 20 20) (u8s zs) := by
  subst hb
  exact RowV.lit w (u8s zs) e 20 (by simpa using hl) (by simp [maxLen])
def RJn (W : World) (p : Nat) (xs ys : List Nat) (i : Value) (wr : World) : Prop :=
  ∃ j : Nat, j ≤ 20 ∧ i = .int .i64 j ∧ wr.ownsRow W.heap.size 29 1 (.slice (some ⟨p, 0, none⟩) 20 20) 20 (u8s (jn xs ys j)) ∧ Ex W wr

set_option maxRecDepth 100000 in
set_option maxHeartbeats 1000000 in
theorem walk (w : World) (z0 : List Int) (n0 : z0.length = 20) (w0 : ∀ z ∈ z0, (Lit.int .u8 z).wf = true) (z1 : List Int) (n1 : z1.length = 20) (w1 : ∀ z ∈ z1, (Lit.int .u8 z).wf = true) :
    Calls Try.prog 6 #[.agg (z0.map (Value.int .u8)).toArray, .agg (z1.map (Value.int .u8)).toArray] w fun e w' => e = .returned (.bool true) ∧ Ex w w' := by
  obtain ⟨xs, hx, hxl, hxb⟩ := ints_u8 w0
  obtain ⟨ys, hy, hyl, hyb⟩ := ints_u8 w1
  rw [hx, hy]
  have HX := Lib.hid hxb
  have HY := Lib.hid hyb
  have HXL := Lib.hid (hxl.trans n0)
  have HYL := Lib.hid (hyl.trans n1)
  clear hx hy hxl hyl hxb hyb w0 w1 n0 n1
  clear z0 z1
  generalize hA : (u8s xs).toArray = A
  generalize hB : (u8s ys).toArray = B
  have HA := Lib.hid hA
  have HB := Lib.hid hB
  clear hA hB
  go_enter Try.func6, Try.ntmps6
  go_wp2_with fail
  refine (begun_any _).mono ?_
  rintro e wb ⟨rfl, g1⟩
  have HRA := Lib.hid (show RowV wb (.slice (some ⟨w.heap.size, 0, none⟩) 20 20) (u8s xs) by
    rw [← HA.out] at g1
    exact ((RowV.var w xs _ _ HXL.out rfl).ex (alloc_ex _ _)).ex g1)
  have HRB := Lib.hid (show RowV wb (.slice (some ⟨w.heap.size + 1, 0, none⟩) 20 20) (u8s ys) by
    rw [← HB.out] at g1
    exact (RowV.var _ ys _ _ HYL.out (by simp)).ex g1)
  have gw : Ex w wb := Ex.trans (Ex.trans (alloc_ex _ _) (alloc_ex _ _)) g1
  clear g1 HA HB
  go_wp2_with fail
  generalize w.heap.size + 1 = q at *
  generalize w.heap.size = p at *
  go_loopw [6] (RJn wb wb.heap.size xs ys) (fun i _ => 20 - (intOf i).toNat)
  case atStart => exact ⟨0, by omega, rfl, World.ownsRow_lit wb _ 20 (Nat.le_refl _) (by simp [maxLen]) rfl, alloc_ex _ _⟩
  case round =>
    obtain ⟨j, hj, rfl, hown, gr⟩ := hrel
    by_cases hjl : j < 20
    · obtain ⟨hst, hgb⟩ := hown.stored j (.int .u8 ((xs.getD j 0 ^^^ ys.getD j 0 : Nat) : Int))
      rw [set_u8s] at hst
      have gst : Ex wb (wr.setCell ⟨wb.heap.size, j, none⟩ (.int .u8 ((xs.getD j 0 ^^^ ys.getD j 0 : Nat) : Int))) := Below.grown gr hgb gr.size (fun b h => by cases h; exact Nat.le_refl _)
      have HS := Lib.hid (show (wr.setCell ⟨wb.heap.size, j, none⟩ (.int .u8 ((xs.getD j 0 ^^^ ys.getD j 0 : Nat) : Int))).ownsRow wb.heap.size 29 1 (.slice (some ⟨wb.heap.size, 0, none⟩) 20 20) 20 (u8s (jn xs ys (j + 1))) from hst)
      have HE := Lib.hid gst
      have hxb := HX.out _ (getD_mem (show j < xs.length by have := HXL.out; omega))
      have hyb := HY.out _ (getD_mem (show j < ys.length by have := HYL.out; omega))
      have hx := u8_xor_nat (xs.getD j 0) (ys.getD j 0) hxb hyb
      have cx : wr.cell? ⟨p, j, none⟩ = some (.int .u8 (xs.getD j 0 : Nat)) := by
        have := gr.on (HRA.out.at (u8s_get xs j (by rw [HXL.out]; omega)))
        rwa [Nat.zero_add] at this
      have cy : wr.cell? ⟨q, j, none⟩ = some (.int .u8 (ys.getD j 0 : Nat)) := by
        have := gr.on (HRB.out.at (u8s_get ys j (by rw [HYL.out]; omega)))
        rwa [Nat.zero_add] at this
      have cz : ∃ u, wr.cell? ⟨wb.heap.size, j, none⟩ = some (.int .u8 (u : Nat)) := by
        refine ⟨(jn xs ys j).getD j 0, ?_⟩
        rw [hown.cellAt j (by omega), u8s_get _ _ (by rw [jn_length]; omega)]
      obtain ⟨u, cz⟩ := cz
      have hfz := hown.frozenAt j
      have hn0 : (0 : Int) ≤ (j : Int) := by omega
      have hn1 : (j : Int) < 20 := by omega
      clear hst hgb gst hown
      generalize xs.getD j 0 ^^^ ys.getD j 0 = z at *
      generalize xs.getD j 0 = x at *
      generalize ys.getD j 0 = y at *
      generalize hR : wb.heap.size = r at *
      have HRR := Lib.hid hR
      clear hR
      go_wp2_with fail
      go_region
      all_goals
        go_wp2_with fail
        go_roundw
        case rel => exact ⟨j + 1, by omega, by go_num, by rw [← HRR.out] at HS; rw [← HRR.out]; exact HS.out.drew, HE.out.drew⟩
        case measure => simp [intOf]; omega
    · have hj3 : j = 20 := by omega
      subst hj3
      have HC := Lib.hid (fun n => sum_any (.slice (some ⟨wb.heap.size, 0, none⟩) 20 20) (jn xs ys 20) (wr.drewN n) ((RowV.of_own hown).1.ex (Ex.drewN _ n)) (jn_lt HX.out HY.out 20))
      have HCA := Lib.hid (fun n => sum_any (.slice (some ⟨p, 0, none⟩) 20 20) xs (wr.drewN n) (HRA.out.ex (Ex.trans gr (Ex.drewN _ n))) HX.out)
      have HCB := Lib.hid (fun n => sum_any (.slice (some ⟨q, 0, none⟩) 20 20) ys (wr.drewN n) (HRB.out.ex (Ex.trans gr (Ex.drewN _ n))) HY.out)
      have HJ := Lib.hid (join_sum xs ys HXL.out HYL.out)
      have hx := u16_xor_nat (cSum 0 xs) (cSum 0 ys) (sum_lt HX.out) (sum_lt HY.out)
      rw [HJ.out] at HC
      clear hown HRA HRB HJ HX HY HXL HYL
      generalize cSum 0 xs ^^^ cSum 0 ys = z at *
      generalize cSum 0 xs = x at *
      generalize cSum 0 ys = y at *
      generalize hR : wb.heap.size = r at *
      clear hR
      go_wp2_with fail
      go_quiet ((go_at_call 8; first
        | (with_reducible refine Calls.mono (HC.out _) ?_; exact fun _ _ ⟨e, h⟩ => ⟨e, _, h.symm⟩)
        | (with_reducible refine Calls.mono (HCA.out _) ?_; exact fun _ _ ⟨e, h⟩ => ⟨e, _, h.symm⟩)
        | (with_reducible refine Calls.mono (HCB.out _) ?_; exact fun _ _ ⟨e, h⟩ => ⟨e, _, h.symm⟩)))
      all_goals
        go_wp2_with fail
        go_ret
        exact ⟨rfl, Ex.trans gw (Ex.trans gr (Ex.drewN _ _))⟩

end Go.Proofs.Ytobhmanalnaemaa.crcJoin
