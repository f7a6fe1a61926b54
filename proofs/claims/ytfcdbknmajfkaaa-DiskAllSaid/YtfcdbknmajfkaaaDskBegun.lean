/- tenancylaw5.begun: disk does something. -/
import Derived.Test.YtfcdbknmajfkaaaDskAt
import Derived.Test.YtfcdbknmajfkaaaSec
import Derived.Test.YtfcdbknmajfkaaaRowF
import Derived.Deep.DeepCutAuto
namespace Go.Proofs.Ytfcdbknmajfkaaa.dsk
set_option maxRecDepth 100000
open Go.RowKit sec

def bz : ByteArray := z31 ++ ⟨#[122]⟩
theorem bz_size : bz.size = 32 := by decide
theorem b_w : (writeD (newD 3) 1 bz).2 = true := by decide
theorem b_r : readD (writeD (newD 3) 1 bz).1 1 = (bz, true) := by decide
theorem b_c : readD (crashD (writeD (newD 3) 1 bz).1 []) 1 = (noughts, true) := by decide
theorem b_f : flush2 (writeD (newD 3) 1 bz).1 = (flushD (writeD (newD 3) 1 bz).1, true) := by unfold flush2; rw [if_neg (by decide)]
theorem conv31d (W : World) (b : Nat) (hb : b = W.heap.size) : (convert 43 9 (.slice (some ⟨b, 0, none⟩) 31 31)).run Try.prog (W.alloc (.cells (zs 31) 5)).drew = .ok (.string z31) (W.alloc (.cells (zs 31) 5)).drew :=
  conv_row _ (List.replicate 31 0) _ ((row_zs 31 (by omega) W b hb).ex (Ex.dr (Ex.refl _))) (by intro z hz; have := List.eq_of_mem_replicate hz; omega)

theorem conv31e (W : World) (b : Nat) (o : Obj) (hb : b = W.heap.size) : (convert 43 9 (.slice (some ⟨b, 0, none⟩) 31 31)).run Try.prog ((W.alloc (.cells (zs 31) 5)).alloc o).drew = .ok (.string z31) ((W.alloc (.cells (zs 31) 5)).alloc o).drew :=
  conv_row _ (List.replicate 31 0) _ ((row_zs 31 (by omega) W b hb).ex (Ex.dr (Ex.mk_alloc _ _))) (by intro z hz; have := List.eq_of_mem_replicate hz; omega)

theorem ok_write2 {d : D} (h : d.ok) (hm : d.wait.length < 1000) (i : Int) (b : ByteArray) : (writeD d i b).1.ok := ok_write h hm i b
theorem Ex.pre {a b : World} (h : Ex a b) : Ex a b := h

theorem Holds.new {w : World} {al aw : Option Addr} {cl cw : Nat} {d : D} (T : TypeId) (b : Nat) (hb : b = w.heap.size) (h : IsD w (.agg #[.slice al d.last.length cl, .slice aw d.wait.length cw, .int .i64 (d.arm : Int), .bool d.down]) d) :
    Holds (w.alloc (.cells #[.slice al d.last.length cl, .slice aw d.wait.length cw, .int .i64 (d.arm : Int), .bool d.down] T)) (.pointer (some ⟨b, 0, none⟩)) d := by
  subst hb
  obtain ⟨c0, c1, c2, c3⟩ := box4 (Ex.refl (w.alloc (.cells #[.slice al d.last.length cl, .slice aw d.wait.length cw, .int .i64 (d.arm : Int), .bool d.down] T)))
  exact ⟨_, al, cl, aw, cw, rfl, ⟨c0, c1, c2, c3⟩, h.ex (Ex.mk_alloc _ _)⟩
theorem Holds.set {w : World} {al aw : Option Addr} {cl cw : Nat} {d : D} {base : Nat} (b : Nat) (hb : b < base) (h : OwnD base w (.agg #[.slice al d.last.length cl, .slice aw d.wait.length cw, .int .i64 (d.arm : Int), .bool d.down]) d)
    (h0 : (w.cell? ⟨b, 0, none⟩).isSome = true) (h1 : (w.cell? ⟨b, 1, none⟩).isSome = true) (h2 : (w.cell? ⟨b, 2, none⟩).isSome = true) (h3 : (w.cell? ⟨b, 3, none⟩).isSome = true) :
    Holds ((((w.setCell ⟨b, 0, none⟩ (.slice al d.last.length cl)).setCell ⟨b, 1, none⟩ (.slice aw d.wait.length cw)).setCell ⟨b, 2, none⟩ (.int .i64 (d.arm : Int))).setCell ⟨b, 3, none⟩ (.bool d.down)) (.pointer (some ⟨b, 0, none⟩)) d := by
  obtain ⟨x0, h0⟩ := Option.isSome_iff_exists.1 h0
  obtain ⟨x1, h1⟩ := Option.isSome_iff_exists.1 h1
  obtain ⟨x2, h2⟩ := Option.isSome_iff_exists.1 h2
  obtain ⟨x3, h3⟩ := Option.isSome_iff_exists.1 h3
  obtain ⟨⟨k0, k1, k2, k3⟩, _⟩ := set4 rfl h0 h1 h2 h3
  exact ⟨b, al, cl, aw, cw, rfl, ⟨k0, k1, k2, k3⟩, OwnD.isD ((((h.st hb _).st hb _).st hb _).st hb _)⟩
def RB (W : World) (d : D) (t2 t3 : Value) (wc : World) : Prop := t3 = .bool true ∧ Holds wc t2 d ∧ Ex W wc

set_option maxRecDepth 100000 in
set_option maxHeartbeats 4000000 in
theorem begun_any5 (w : World) : Calls Try.prog 12 #[] w (TellsV w (.bool true)) := by
  have hm := make31
  have hc := conv31
  have hcd := conv31d
  have hce := conv31e
  have hb : z31 ++ ⟨#[122]⟩ = bz := rfl
  go_enter Try.func12, Try.ntmps12
  go_wp2_with fail
  refine (new_any 3 _).mono ?_
  rintro e w1 ⟨u, rfl, ho, g1⟩
  have OK1 := Lib.hid (ok_new 3)
  have HL1 := Lib.hid (show (newD 3).last.length = 3 from rfl)
  have HW := Lib.hid (fun (v : Value) (w' : World) (h : IsD w' v (newD 3)) => show Calls Try.prog 21 #[v, .int .i64 1, .string bz] w' (TellsDB w' (writeD (newD 3) 1 bz).1 true) by
    have := write_any v (newD 3) 1 bz w' h (ok_new 3)
    rw [b_w] at this
    exact this)
  have OK2 := Lib.hid (ok_write (ok_new 3) (by decide) 1 bz)
  have HR2 := Lib.hid b_r
  have HC2 := Lib.hid b_c
  have HF2 := Lib.hid b_f
  generalize (writeD (newD 3) 1 bz).1 = d2 at *
  generalize newD 3 = d1 at *
  obtain ⟨al, cl, aw, cw, rfl⟩ := ho.form
  have HO := Lib.hid ho.isD
  have G1 := Lib.hid g1
  clear ho g1
  go_upto_region 2 with fail
  generalize hW : World.alloc w1 _ = W1
  have GA : Hid (Ex w1 W1) := Lib.hid (by subst hW; exact Ex.mk_alloc _ _)
  obtain ⟨c0, c1, c2, c3⟩ : W1.cell? ⟨w1.heap.size, 0, none⟩ = some (.slice al d1.last.length cl) ∧ W1.cell? ⟨w1.heap.size, 1, none⟩ = some (.slice aw d1.wait.length cw) ∧ W1.cell? ⟨w1.heap.size, 2, none⟩ = some (.int .i64 (d1.arm : Int)) ∧ W1.cell? ⟨w1.heap.size, 3, none⟩ = some (.bool d1.down) := by subst hW; exact box4 (Ex.refl _)
  have HB1 : Hid (BoxD W1 w1.heap.size al d1.last.length cl aw d1.wait.length cw d1.arm d1.down) := Lib.hid ⟨c0, c1, c2, c3⟩
  have hz : w1.heap.size < W1.heap.size := by subst hW; simp
  clear hW
  go_cut [2, 3] (RB W1 d2)
  case first =>
    go_wp2_with fail
    go_region_with (first
      | ((go_at_call 21)
         refine (HW.out _ _ (HO.out.ex (Ex.trans GA.out (by repeat with_reducible (first | exact Ex.refl _ | refine Ex.dr ?_ | refine Ex.al ?_ _))))).mono ?_
         rintro e w2 ⟨u2, rfl, o2, g2⟩
         obtain ⟨bl, dl, bw, dw, rfl⟩ := o2.form
         have HO2 := Lib.hid o2
         have G2 : Hid (Ex W1 w2) := Lib.hid (Ex.trans (by repeat with_reducible (first | exact Ex.refl _ | refine Ex.dr ?_ | refine Ex.al ?_ _)) g2)
         have kc := fun p h => Ex.cell g2 p h
         have kf := fun p h => Ex.frozen g2 p h
         have GP := Lib.hid g2
         clear o2 g2))
    all_goals
      go_wp2_with fail
      go_meet
      refine ⟨rfl, ?_, ?_⟩
      · first
          | (with_reducible exact Holds.new _ _ rfl HO2.out.isD)
          | exact Holds.set _ (by first | (simp; done) | (simp; omega)) HO2.out (by rw [Ex.cell GP.out _ (by simp)]; simp) (by rw [Ex.cell GP.out _ (by simp)]; simp) (by rw [Ex.cell GP.out _ (by simp)]; simp) (by rw [Ex.cell GP.out _ (by simp)]; simp)
      · repeat with_reducible (first | exact G2.out | refine Ex.dr ?_ | refine Ex.al ?_ _ | refine Ex.st ?_ (by dsimp only; omega) _)
  case rest =>
    clear c0 c1 c2 c3
    obtain ⟨rfl, ⟨b2, bl, dl, bw, dw, rfl, k2, h2⟩, g2⟩ := hcut
    obtain ⟨c0, c1, c2, c3⟩ := k2
    have HB := Lib.hid (show BoxD W1 w1.heap.size al d1.last.length cl aw d1.wait.length cw d1.arm d1.down from HB1.out)
    have HB2 := Lib.hid (show BoxD wc b2 bl d2.last.length dl bw d2.wait.length dw d2.arm d2.down from ⟨c0, c1, c2, c3⟩)
    have HD2 := Lib.hid h2
    have G2 := Lib.hid g2
    clear h2 g2 hm hc hcd hce hb hz
    go_wp2_with fail
    refine (read_at _ d2 1 _ _ HR2.out HD2.out OK2.out).mono ?_
    rintro e w3 ⟨rfl, g3⟩
    obtain ⟨c0, c1, c2, c3⟩ := HB2.out.ex g3
    have G3 := Lib.hid g3
    clear g3
    go_wp2_with fail
    refine (crash_any _ _ d2 [] _ (HD2.out.ex G3.out) (RowE.nil encI _) OK2.out).mono ?_
    rintro e w4 ⟨u4, rfl, o4, g4⟩
    have HC2' := HC2.out
    have OK3 := Lib.hid (ok_crash OK2.out [])
    generalize crashD d2 [] = d3 at *
    have HC3 := Lib.hid HC2'
    clear HC2 HC2'
    obtain ⟨el, fl, ew, fw, rfl⟩ := o4.form
    have HD3 := Lib.hid o4.isD
    have G4 := Lib.hid (Ex.trans G3.out g4)
    clear o4 g4
    go_wp2_with fail
    refine (read_at _ d3 1 _ _ HC3.out (HD3.out.ex (Ex.mk_alloc _ _)) OK3.out).mono ?_
    rintro e w5 ⟨rfl, g5⟩
    have G5 := Lib.hid (Ex.trans (G4.out.al _) g5)
    clear g5
    obtain ⟨c0, c1, c2, c3⟩ := HB2.out.ex G5.out
    go_wp2_with fail
    refine (flush_at _ d2 _ _ _ HF2.out (HD2.out.ex G5.out) OK2.out).mono ?_
    rintro e w6 ⟨u6, rfl, o6, g6⟩
    have HW6 := Lib.hid (show (flushD d2).wait.length = 0 from rfl)
    obtain ⟨xl, yl, xw, yw, rfl⟩ := o6.form
    have G6 := Lib.hid (Ex.trans G5.out g6)
    clear o6 g6
    obtain ⟨c0, c1, c2, c3⟩ := HB.out.ex (Ex.trans G2.out G6.out)
    have hz6 : w1.heap.size < w6.heap.size := World.block_lt_of_cell? w6 _ c0
    have q1 : ((d1.last.length : Int) == 3) = true := by rw [HL1.out]; rfl
    have q2 : (((flushD d2).wait.length : Int) == 0) = true := by rw [HW6.out]; rfl
    go_wp2_with fail
    go_ret
    exact ⟨rfl, (Ex.trans G1.out (Ex.trans GA.out (Ex.trans G2.out G6.out))).al _⟩

end Go.Proofs.Ytfcdbknmajfkaaa.dsk
