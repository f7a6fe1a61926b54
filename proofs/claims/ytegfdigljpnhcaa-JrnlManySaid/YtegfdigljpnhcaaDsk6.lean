/- Contracts of package disk, sixth part: counted, waiting. -/
import Derived.Test.YtegfdigljpnhcaaDsk5
import Derived.Test.YtegfdigljpnhcaaRowF
import Derived.Deep.CutBlock
namespace Go.Proofs.Ytegfdigljpnhcaa.dsk
set_option maxRecDepth 100000
open Go.RowKit

theorem counted_up (al aw : Option Addr) (n cl m cw : Nat) (arm : Nat) (down : Bool) (w : World) (h : 0 < arm) (hm : arm ≤ 1000) :
    Calls Try.prog 73 #[.agg #[.slice al n cl, .slice aw m cw, .int .i64 (arm : Int), .bool down]] w (TellsV w (.agg #[.slice al n cl, .slice aw m cw, .int .i64 ((arm - 1 : Nat) : Int), .bool (decide (arm = 1))])) := by
  obtain ⟨k, rfl⟩ : ∃ k, arm = k + 1 := ⟨arm - 1, by omega⟩
  rw [show (((k + 1 : Nat) : Int)) = (k : Int) + 1 by omega, show k + 1 - 1 = k by omega, show decide (k + 1 = 1) = decide (k = 0) by congr 1; simp]
  have h1 : (0 : Int) < (k : Int) + 1 := by omega
  have hb : decide (k = 0) = ((k : Int) == 0) := by
    rw [Bool.eq_iff_iff]; simp
  rw [hb]
  clear hb
  go_enter Try.func73, Try.ntmps73
  go_wp2_with fail
  exact bodyPost_ret (v := .agg #[.slice al n cl, .slice aw m cw, .int .i64 (k : Int), .bool ((k : Int) == 0)]) (by simp [results, Try.results73, go_sem]) rfl ⟨rfl, (Ex.mk_alloc _ _).al _⟩

theorem counted_no (al aw : Option Addr) (n cl m cw : Nat) (down : Bool) (w : World) :
    Calls Try.prog 73 #[.agg #[.slice al n cl, .slice aw m cw, .int .i64 0, .bool down]] w (TellsV w (.agg #[.slice al n cl, .slice aw m cw, .int .i64 0, .bool down])) := by
  go_enter Try.func73, Try.ntmps73
  go_wp2_with fail
  exact bodyPost_ret (v := .agg #[.slice al n cl, .slice aw m cw, .int .i64 0, .bool down]) (by simp [results, Try.results73, go_sem]) rfl ⟨rfl, (Ex.mk_alloc _ _).al _⟩

theorem info_put : (Try.prog.info? 37).map (fun i => (i.zero, i.size, i.bytes)) = some (some (.agg #[.int .i64 0, .string ⟨#[]⟩]), 2, 24) := by kernel_rfl

set_option maxRecDepth 100000 in
set_option maxHeartbeats 1000000 in
theorem waiting_any (v : Value) (d : D) (i : Nat) (b : ByteArray) (w : World) (hd : IsD w v d) (ok : d.ok) :
    Calls Try.prog 74 #[v, .agg #[.int .i64 (i : Int), .string b]] w fun e w' => ∃ u, e = .returned u ∧ OwnD w.heap.size w' u { d with wait := d.wait ++ [(i, b)] } ∧ Ex w w' := by
  have OK := Lib.hid ok
  have hn := ok.n
  have hm := ok.many
  have HD := Lib.hid hd
  obtain ⟨al, cl, aw, cw, rfl, hl, hw⟩ := hd
  clear hl hw ok
  obtain ⟨I0, hI, hZ0, hZ1, hZ2⟩ := info_parts info_put
  go_enter Try.func74, Try.ntmps74
  go_wp2_with fail
  refine (same_any _ d _ (HD.out.ex (((Ex.mk_alloc _ _).al _).al _)) OK.out).mono ?_
  rintro e w1 ⟨u, rfl, ⟨vl, vw, rfl, o1, o2⟩, g1⟩
  obtain ⟨xl, yl, rfl, z1, z2⟩ := (RowE.of_own (E := encS) o1).1.len
  obtain ⟨xw, yw, rfl, z3, z4⟩ := (RowE.of_own (E := encP) o2).1.len
  clear z1 z2 z3 z4
  have HB := Lib.hid (box3 g1)
  have hz : w.heap.size + 3 ≤ w1.heap.size := by have := g1.size; simp at this; omega
  have O1 : Hid (w1.ownsRow (w.heap.size + 3) 9 1 _ _ _) := Lib.hid (own_mono o1 (by simp))
  have O2 : Hid (w1.ownsRow (w.heap.size + 3) 37 2 _ _ _) := Lib.hid (own_mono o2 (by simp))
  have G1 := Lib.hid (Ex.trans (((Ex.mk_alloc w _).al _).al _) g1)
  clear o1 o2 g1
  obtain ⟨c, f, c2, f2, c3, f3⟩ := HB.out
  have c0 : w1.cell? ⟨w.heap.size, 0, none⟩ = some (.slice al d.last.length cl) := c 0 _ rfl
  have c1 : w1.cell? ⟨w.heap.size, 1, none⟩ = some (.slice aw d.wait.length cw) := c 1 _ rfl
  have c2' : w1.cell? ⟨w.heap.size, 2, none⟩ = some (.int .i64 (d.arm : Int)) := c 2 _ rfl
  have c3' : w1.cell? ⟨w.heap.size, 3, none⟩ = some (.bool d.down) := c 3 _ rfl
  have f0 := f 0
  have f1 := f 1
  have f2' := f 2
  have f3' := f 3
  have p0 : w1.cell? ⟨w.heap.size + 1, 0, none⟩ = some (.int .i64 (i : Int)) := c2 0 _ rfl
  have p1 : w1.cell? ⟨w.heap.size + 1, 1, none⟩ = some (.string b) := c2 1 _ rfl
  have r0 : w1.cell? ⟨w.heap.size + 1 + 1, 0, none⟩ = some (.slice none 0 0) := c3 0 _ rfl
  have r1 : w1.cell? ⟨w.heap.size + 1 + 1, 1, none⟩ = some (.slice none 0 0) := c3 1 _ rfl
  have r2 : w1.cell? ⟨w.heap.size + 1 + 1, 2, none⟩ = some (.int .i64 0) := c3 2 _ rfl
  have r3 : w1.cell? ⟨w.heap.size + 1 + 1, 3, none⟩ = some (.bool false) := c3 3 _ rfl
  have s0 := f3 0
  have s1 := f3 1
  have s2 := f3 2
  have s3 := f3 3
  clear c f c2 f2 c3 f3
  go_upto_region 2 with (fail)
  generalize hW : (((World.setCell w1 _ _).setCell _ _).setCell _ _).setCell _ _ = W2
  obtain ⟨⟨k0, k1, k2, k3⟩, ko, kf, kz, kg, kn⟩ := set4 hW c0 c1 c2' c3'
  rw [← ko _ _ (by omega)] at p0 p1 r0 r1 r2 r3
  rw [← kf] at f0 f1 f2' f3' s0 s1 s2 s3
  have hz2 : w.heap.size + 3 ≤ W2.heap.size := by omega
  have P1 := Lib.hid (kn _ _ _ _ _ _ O1.out (by omega))
  have P2 := Lib.hid (kn _ _ _ _ _ _ O2.out (by omega))
  have GW := Lib.hid (kg w G1.out (Nat.le_refl _))
  have hz0 : w.heap.size < W2.heap.size := by omega
  have hz1 : w.heap.size + 1 < W2.heap.size := by omega
  have hz22 : w.heap.size + 1 + 1 < W2.heap.size := by omega
  clear hW ko kf kz kg kn c0 c1 c2' c3' O1 O2 G1 HB hz
  go_wp2_with (first
    | (at_builtin
       refine wpList_append_rowG _ rfl encP (.tmp 8) (.tmp 10) 26 rfl (w.heap.size + 3) 37 I0 (.agg #[.int .i64 0, .string ⟨#[]⟩]) 2 24 Try.underlying26 hI hZ0 hZ1 hZ2 rfl rfl _ d.wait.length (encP.all d.wait) rfl (P2.out.alloc _) _ [(i, b)] rfl (RowE.lit_at encP _ [(i, b)] _ 1 _ rfl rfl (by simp [maxLen]) _ rfl) ?c1 ?c2 W2 (Below.alloc (Below.refl _ _) (by omega) _) ?c3 ?_
       rotate_right
       intro v' w3 hown' gb gg
       have hP1 := (P1.out.alloc (.cells #[.int .i64 (i : Int), .string b] 37)).kept gg (own_ne (P1.out.alloc (.cells #[.int .i64 (i : Int), .string b] 37)) (P2.out.alloc (.cells #[.int .i64 (i : Int), .string b] 37)) (by decide))
       have HP := Lib.hid hP1
       clear gg hP1
       rw [← encP.all_append] at hown'
       obtain ⟨va, vc, rfl, z1, z2⟩ := (RowE.of_own (E := encP) hown').1.len
       rw [List.length_append, show [(i, b)].length = 1 from rfl] at hown'
       clear z1 z2
       have m0 := (gb.cell (p := ⟨w.heap.size, 0, none⟩) (by show w.heap.size < _; omega)).trans k0
       have m1 := (gb.cell (p := ⟨w.heap.size, 1, none⟩) (by show w.heap.size < _; omega)).trans k1
       have m2 := (gb.cell (p := ⟨w.heap.size, 2, none⟩) (by show w.heap.size < _; omega)).trans k2
       have m3 := (gb.cell (p := ⟨w.heap.size, 3, none⟩) (by show w.heap.size < _; omega)).trans k3
       have n1 := (gb.frozen (p := ⟨w.heap.size, 1, none⟩) (by show w.heap.size < _; omega)).trans f1
       have t0 := (gb.cell (p := ⟨w.heap.size + 1 + 1, 0, none⟩) (by show w.heap.size + 1 + 1 < _; omega)).trans r0
       have t1 := (gb.cell (p := ⟨w.heap.size + 1 + 1, 1, none⟩) (by show w.heap.size + 1 + 1 < _; omega)).trans r1
       have t2 := (gb.cell (p := ⟨w.heap.size + 1 + 1, 2, none⟩) (by show w.heap.size + 1 + 1 < _; omega)).trans r2
       have t3 := (gb.cell (p := ⟨w.heap.size + 1 + 1, 3, none⟩) (by show w.heap.size + 1 + 1 < _; omega)).trans r3
       have o0 := (gb.frozen (p := ⟨w.heap.size + 1 + 1, 0, none⟩) (by show w.heap.size + 1 + 1 < _; omega)).trans s0
       have o1 := (gb.frozen (p := ⟨w.heap.size + 1 + 1, 1, none⟩) (by show w.heap.size + 1 + 1 < _; omega)).trans s1
       have o2 := (gb.frozen (p := ⟨w.heap.size + 1 + 1, 2, none⟩) (by show w.heap.size + 1 + 1 < _; omega)).trans s2
       have o3 := (gb.frozen (p := ⟨w.heap.size + 1 + 1, 3, none⟩) (by show w.heap.size + 1 + 1 < _; omega)).trans s3
       have HO := Lib.hid hown'
       have HG := Lib.hid gb
       clear hown' gb))
  case c1 => simp only [List.length_cons, List.length_nil]; unfold maxLen; omega
  case c2 => simp only [List.length_cons, List.length_nil]; omega
  case c3 => simp; omega
  refine bodyPost_ret (v := .agg #[.slice xl d.last.length yl, .slice va (d.wait.length + 1) vc, .int .i64 (d.arm : Int), .bool d.down]) (by simp [results, Try.results74, go_sem, t0, t1, t2, t3]) rfl ⟨_, rfl, ?_, ?_⟩
  · refine ⟨_, _, rfl, own_mono (base := w.heap.size + 3) ?_ (by omega), own_mono (base := w.heap.size + 3) ?_ (by omega)⟩
    · repeat (refine ownsRow_setCell_below ?_ (by dsimp only; omega) _)
      exact HP.out
    · rw [List.length_append, show [(i, b)].length = 1 from rfl]
      repeat (refine ownsRow_setCell_below ?_ (by dsimp only; omega) _)
      exact HO.out
  · have hg3 : Ex w w3 := Below.trans GW.out (HG.out.mono (by omega))
    repeat (first | (with_reducible exact hg3) | refine Ex.st ?_ (by dsimp only; omega) _)

end Go.Proofs.Ytegfdigljpnhcaa.dsk
