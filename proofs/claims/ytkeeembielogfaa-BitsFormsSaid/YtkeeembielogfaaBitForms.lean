/- BitsForms: which bytes some numbers and texts are. No condition. -/
import Derived.Test.YtkeeembielogfaaRows
import Derived.Test.YtkeeembielogfaaBitBegun
import Derived.Test.YtkeeembielogfaaFrame
import Derived.Lib.SlBytesConst
import Derived.Deep.OwnRows
namespace Go.Proofs.Ytkeeembielogfaa.bitsForms
open Go.ChangeShapes Go.WideShapes Go.ChangeAt Go.RowKit
open bit

theorem lit_cell (w : World) (C : Array Value) (e : TypeId) (fz : Nat × Nat) (i b : Nat) (hb : b = w.heap.size) : (w.alloc (.cells C e fz)).cell? ⟨b, i, none⟩ = C[i]? := by
  subst hb
  show (match (w.heap.push (.cells C e fz))[w.heap.size]? with | some (.cells C _ _) => C[i]? | _ => none) = _
  simp
theorem conv_lit (w : World) (C : Array Value) (n c b : Nat) (hb : b = w.heap.size) :
    (convert 22 22 (.slice (some ⟨b, 0, none⟩) n c)).run Try.prog (w.alloc (.cells C 5)) = .ok (.slice (some ⟨b, 0, none⟩) n c) (w.alloc (.cells C 5 (C.size, C.size + 1))) := by
  subst hb
  exact Lib.run_convert_bytes_const (P := Try.prog) w 22 5 C n c Try.underlying22 Try.underlying5
theorem lit_row (zs : List Nat) (w : World) (e : TypeId) (fz : Nat × Nat) (n b : Nat) (hb : b = w.heap.size) (hn : zs.length = n) (hm : n ≤ 1000000) :
    RowV (w.alloc (.cells (u8s zs).toArray e fz)) (.slice (some ⟨b, 0, none⟩) n n) (u8s zs) := by
  subst hn
  refine ⟨_, zs.length, by rw [u8s_length], by rw [u8s_length]; exact Nat.le_refl _, by unfold maxLen; omega, fun _ => ⟨b, 0, rfl, fun i u hu => ?_⟩⟩
  rw [lit_cell _ _ _ _ _ _ hb, Nat.zero_add]
  simpa using hu
theorem lit_ex (w : World) (o : Obj) : Ex w (w.alloc o) := (Below.refl _ _).alloc (Nat.le_refl _) o

/-- 256 noughts, as cells and as a text. -/
def Zs : Array Value := (u8s (List.replicate 256 0)).toArray
def Ss : ByteArray := ofN (List.replicate 256 0)
theorem Ss_size : Ss.size = 256 := by unfold Ss; rw [ofN_size, List.length_replicate]
theorem txt_Ss : [122] ++ txt Ss = [122] := by unfold txt; rw [if_neg (by rw [Ss_size]; omega)]; rfl
theorem mk_run (w : World) : (Instr.makeSlice 22 (.int .i64 256) (.int .i64 256)).run Try.prog w = .ok (.slice (some ⟨w.heap.size, 0, none⟩) 256 256) (w.alloc (.cells Zs 5)) := by
  have h := run_make_row' (P := Try.prog) 22 5 (.int .u8 0) 1 Try.underlying22 info_u8 rfl .i64 .i64 256 (by omega) (by omega) w
  have hz : madeCells #[Value.int .u8 0] 256 = Zs := by
    apply Array.toList_inj.1
    unfold Zs
    rw [List.toList_toArray]
    have := made_zeros 256
    rw [Nat.mul_one] at this
    exact this
  rw [hz] at h
  exact h
theorem conv_Zs (W : World) (b : Nat) (hb : b = W.heap.size) : (convert 22 9 (.slice (some ⟨b, 0, none⟩) 256 256)).run Try.prog (W.alloc (.cells Zs 5)) = .ok (.string Ss) (W.alloc (.cells Zs 5)) :=
  conv_row _ (List.replicate 256 0) _ (lit_row (List.replicate 256 0) W _ _ 256 b hb List.length_replicate (by omega)) (by intro z hz; have := List.eq_of_mem_replicate hz; omega)

set_option maxRecDepth 100000 in
set_option maxHeartbeats 1000000 in
theorem walk (w : World) : Calls Try.prog 5 #[] w fun e w' => e = .returned (.bool true) ∧ Ex w w' := by
  have kc := conv_lit
  go_enter Try.func5, Try.ntmps5
  go_wp2_with fail
  refine (begun_any _).mono ?_
  rintro e w1 ⟨rfl, g1⟩
  go_wp2_with fail
  refine (put_any _ [97] 4294967554 4 _ (by exact lit_row [97] _ _ _ _ _ rfl rfl (by omega)) (by simp)).mono ?_
  rintro e w2 ⟨u, rfl, hu, g2⟩
  replace g2 := (g1.trans (lit_ex _ _)).trans g2
  rw [show [97] ++ put 4294967554 4 = [97, 0, 0, 1, 2] by decide] at hu
  obtain ⟨a1, c1, rfl, _, _⟩ := RowV.len8 hu
  simp only [List.length_cons, List.length_nil, Nat.reduceAdd] at hu
  have HU1 := Lib.hid hu
  clear hu g1
  go_wp2_with fail
  refine (put_any _ [] (-1) 2 _ (RowV.nil _) (by simp)).mono ?_
  rintro e w3 ⟨u, rfl, hu, g3⟩
  rw [show [] ++ put (-1) 2 = [255, 255] by decide] at hu
  obtain ⟨a3, c3, rfl, _, _⟩ := RowV.len8 hu
  simp only [List.length_cons, List.length_nil, Nat.reduceAdd] at hu
  have HU3 := Lib.hid hu
  clear hu
  go_wp2_with fail
  refine (put_any _ [97] 5 0 _ (by exact lit_row [97] _ _ _ _ _ rfl rfl (by omega)) (by simp)).mono ?_
  rintro e w4 ⟨u, rfl, hu, g4⟩
  replace g4 := (lit_ex _ _).trans g4
  rw [show [97] ++ put 5 0 = [97] by decide] at hu
  obtain ⟨a4, c4, rfl, _, _⟩ := RowV.len8 hu
  simp only [List.length_cons, List.length_nil, Nat.reduceAdd] at hu
  have HU4 := Lib.hid hu
  clear hu
  go_wp2_with fail
  refine (put_any _ [97] 5 9 _ (by exact lit_row [97] _ _ _ _ _ rfl rfl (by omega)) (by simp)).mono ?_
  rintro e w5 ⟨u, rfl, hu, g5⟩
  replace g5 := (lit_ex _ _).trans g5
  rw [show [97] ++ put 5 9 = [97] by decide] at hu
  obtain ⟨a5, c5, rfl, _, _⟩ := RowV.len8 hu
  simp only [List.length_cons, List.length_nil, Nat.reduceAdd] at hu
  have HU5 := Lib.hid hu
  clear hu
  go_wp2_with fail
  refine (take_any _ [0, 0, 1, 2, 3] 4 _ (by exact lit_row [0, 0, 1, 2, 3] _ _ _ _ _ rfl rfl (by omega)) (by decide)).mono ?_
  rintro e w6 ⟨rfl, g6⟩
  replace g6 := (lit_ex _ _).trans g6
  rw [show taken [0, 0, 1, 2, 3] 4 = 258 by decide, show mayTake [0, 0, 1, 2, 3].length 4 = true by decide]
  go_wp2_with fail
  refine (take_any _ [1] 2 _ (by exact lit_row [1] _ _ _ _ _ rfl rfl (by omega)) (by decide)).mono ?_
  rintro e w7 ⟨rfl, g7⟩
  replace g7 := (lit_ex _ _).trans g7
  rw [show taken [1] 2 = 0 by decide, show mayTake [1].length 2 = false by decide]
  go_wp2_with fail
  refine (take_any _ [49, 50, 51, 52, 53, 54, 55, 56] 8 _ (by exact lit_row [49, 50, 51, 52, 53, 54, 55, 56] _ _ _ _ _ rfl rfl (by omega)) (by decide)).mono ?_
  rintro e w8 ⟨rfl, g8⟩
  replace g8 := (lit_ex _ _).trans g8
  rw [show taken [49, 50, 51, 52, 53, 54, 55, 56] 8 = 0 by decide, show mayTake [49, 50, 51, 52, 53, 54, 55, 56].length 8 = false by decide]
  go_wp2_with fail
  refine (take_any _ [49] 0 _ (by exact lit_row [49] _ _ _ _ _ rfl rfl (by omega)) (by decide)).mono ?_
  rintro e w9 ⟨rfl, g9⟩
  replace g9 := (lit_ex _ _).trans g9
  rw [show taken [49] 0 = 0 by decide, show mayTake [49].length 0 = false by decide]
  go_wp2_with fail
  refine (takeText_any _ [2, 97, 98, 99] _ (by exact lit_row [2, 97, 98, 99] _ _ _ _ _ rfl rfl (by omega)) (by decide) (by simp)).mono ?_
  rintro e w10 ⟨rfl, g10⟩
  replace g10 := (lit_ex _ _).trans g10
  rw [show ofN (text [2, 97, 98, 99]) = ⟨#[97, 98]⟩ by decide, show textN [2, 97, 98, 99] = 3 by decide, show mayText [2, 97, 98, 99] = true by decide]
  go_wp2_with fail
  refine (takeText_any _ [3, 97, 98] _ (by exact lit_row [3, 97, 98] _ _ _ _ _ rfl rfl (by omega)) (by decide) (by simp)).mono ?_
  rintro e w11 ⟨rfl, g11⟩
  replace g11 := (lit_ex _ _).trans g11
  rw [show ofN (text [3, 97, 98]) = ⟨#[]⟩ by decide, show textN [3, 97, 98] = 0 by decide, show mayText [3, 97, 98] = false by decide]
  go_wp2_with fail
  refine (takeText_any _ [0] _ (by exact lit_row [0] _ _ _ _ _ rfl rfl (by omega)) (by decide) (by simp)).mono ?_
  rintro e w12 ⟨rfl, g12⟩
  replace g12 := (lit_ex _ _).trans g12
  rw [show ofN (text [0]) = ⟨#[]⟩ by decide, show textN [0] = 1 by decide, show mayText [0] = true by decide]
  have G := Lib.hid g2
  have k5 := ((((((g6.trans g7).trans g8).trans g9).trans g10).trans g11).trans g12)
  have v1 := conv_row _ [97, 0, 0, 1, 2] w12 (HU1.out.ex (((g3.trans g4).trans g5).trans k5)) (by decide)
  have v3 := conv_row _ [255, 255] w12 (HU3.out.ex ((g4.trans g5).trans k5)) (by decide)
  have v4 := conv_row _ [97] w12 (HU4.out.ex (g5.trans k5)) (by decide)
  have v5 := conv_row _ [97] w12 (HU5.out.ex k5) (by decide)
  rw [show ofN [97, 0, 0, 1, 2] = ⟨#[97, 0, 0, 1, 2]⟩ by decide] at v1
  rw [show ofN [255, 255] = ⟨#[255, 255]⟩ by decide] at v3
  rw [show ofN [97] = ⟨#[97]⟩ by decide] at v4 v5
  have gg := (((g2.trans g3).trans g4).trans g5).trans k5
  clear k5 g2 g3 g4 g5 g6 g7 g8 g9 g10 g11 g12
  have km := mk_run
  have kz := conv_Zs
  go_wp2_with fail
  refine (text_any _ [122] Ss _ (by exact (lit_row [122] _ _ _ 1 _ rfl rfl (by omega)).ex (lit_ex _ _)) (by simp)).mono ?_
  rintro e w13 ⟨u, rfl, hu, g13⟩
  replace g13 := ((lit_ex _ _).trans (lit_ex _ _)).trans g13
  rw [txt_Ss] at hu
  obtain ⟨a6, c6, rfl, _, _⟩ := RowV.len8 hu
  simp only [List.length_cons, List.length_nil, Nat.reduceAdd] at hu
  have v6 := conv_row _ [122] _ hu (by decide)
  rw [show ofN [122] = ⟨#[122]⟩ by decide] at v6
  clear hu v1 v3 v4 v5 kc km kz
  go_wp2_with fail
  go_ret
  exact ⟨rfl, gg.trans g13⟩

end Go.Proofs.Ytkeeembielogfaa.bitsForms
