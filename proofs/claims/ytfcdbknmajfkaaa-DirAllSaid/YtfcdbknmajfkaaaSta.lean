/- What lasts: marks, and what is done with them (the document's answer). -/
import Derived.Test.YtfcdbknmajfkaaaDir2
import Derived.Test.YtfcdbknmajfkaaaMay
import Derived.Test.YtfcdbknmajfkaaaRal
namespace Go.Proofs.Ytfcdbknmajfkaaa.sta
open Go Go.RowKit eng SX Fact fil fileFronts dirs pck may
open fileFronts hiding F F1 F2 F3 F22 t1 t2 t3 t22
open pck hiding F F20 F21
open dirs hiding shR shRl shRR flR lpR cutR f0 f1 f2 f3 m0 m1 m2
open may hiding m1 m2 m3 m4 r1 r2 r3 r4 r5
set_option linter.unusedVariables false
set_option linter.unusedSimpArgs false
set_option maxRecDepth 1000000

abbrev MarkM := Int × Int × Int × Int
def encM : Enc MarkM := { sz := 4, enc := fun p => [.int .i64 p.1, .int .i64 p.2.1, .int .i64 p.2.2.1, .int .i64 p.2.2.2], len := fun _ => rfl, one := fun _ u hu => by simp at hu; rcases hu with rfl | rfl | rfl | rfl <;> rfl, pos := by decide }
def EPutM (k : Nat) : FnE := { k := k, ins := [none, none, some 4], leaks := [false, false, false, false, false, false], outs := [none], kinds := [.row] }
def EMarked (k : Nat) : FnE := { k := k, ins := [some 3, none, some 4, none, some 3], leaks := [], outs := [some 3, some 4], kinds := [.row, .row, .num, .num, .num, .num, .num] }
def tabM (f : FuncId) : Option FnE := cond (Nat.beq f 131) (some (EPutM 1)) none
theorem p0 : runTo Try.prog fil.noOrc 10000 131 (EPutM 1) [.row, .num, .num, .num, .num, .num] [0] hApp = some ([.ok (.var 1), .ok (.var 2), .ok (.var 3), .ok (.var 4), .ok (.var 5), cells (.var 0) 4, same (.len (.lit 0 [])) (.len (.lit 0 [])), upto (.len (rop ROp.cat [.lit 0 [], .var 0])) 4294967296, .ok (.bin .geq (.var 1) (.con (.int .i64 1))), .is (.bin .geq (.var 1) (.con (.int .i64 1))) (.bool false), same (.len (rop ROp.cat [.lit 0 [], .var 0])) (.len (rop ROp.cat [.lit 0 [], .var 0]))], [rop ROp.cat [.lit 0 [], .var 0]]) := by kernel_rfl
theorem p10 : runTo Try.prog fil.noOrc 10000 131 (EPutM 1) [.row, .num, .num, .num, .num, .num] [1, 0] hApp = some ([.ok (.var 1), .ok (.var 2), .ok (.var 3), .ok (.var 4), .ok (.var 5), cells (.var 0) 4, same (.len (.lit 0 [])) (.len (.lit 0 [])), upto (.len (rop ROp.cat [.lit 0 [], .var 0])) 4294967296, .ok (.bin .geq (.var 1) (.con (.int .i64 1))), .is (.bin .geq (.var 1) (.con (.int .i64 1))) (.bool true), .ok (.len (.var 0)), .ok (.bin .leq (.var 1) (.len (.var 0))), .is (.bin .leq (.var 1) (.len (.var 0))) (.bool false), same (.len (rop ROp.cat [.lit 0 [], .var 0])) (.len (rop ROp.cat [.lit 0 [], .var 0]))], [rop ROp.cat [.lit 0 [], .var 0]]) := by kernel_rfl
theorem p110 : runTo Try.prog fil.noOrc 10000 131 (EPutM 1) [.row, .num, .num, .num, .num, .num] [1, 1, 0] hApp = some ([.ok (.var 1), .ok (.var 2), .ok (.var 3), .ok (.var 4), .ok (.var 5), cells (.var 0) 4, same (.len (.lit 0 [])) (.len (.lit 0 [])), upto (.len (rop ROp.cat [.lit 0 [], .var 0])) 4294967296, .ok (.bin .geq (.var 1) (.con (.int .i64 1))), .is (.bin .geq (.var 1) (.con (.int .i64 1))) (.bool true), .ok (.len (.var 0)), .ok (.bin .leq (.var 1) (.len (.var 0))), .is (.bin .leq (.var 1) (.len (.var 0))) (.bool true), .ok (.bin .sub (.var 1) (.con (.int .i64 1))), .idx (.var 0) (.bin .sub (.var 1) (.con (.int .i64 1))) 4 4, .idx (.var 0) (.bin .sub (.var 1) (.con (.int .i64 1))) 4 1, .ok (.cell (.var 0) (.bin .sub (.var 1) (.con (.int .i64 1))) 4 0), .ok (.bin .gtr (.var 2) (.cell (.var 0) (.bin .sub (.var 1) (.con (.int .i64 1))) 4 0)), .is (.bin .gtr (.var 2) (.cell (.var 0) (.bin .sub (.var 1) (.con (.int .i64 1))) 4 0)) (.bool false), same (.len (rop ROp.cat [.lit 0 [], .var 0])) (.len (rop ROp.cat [.lit 0 [], .var 0]))], [rop ROp.cat [.lit 0 [], .var 0]]) := by kernel_rfl
theorem p111 : runTo Try.prog fil.noOrc 10000 131 (EPutM 1) [.row, .num, .num, .num, .num, .num] [1, 1, 1] hApp = some ([.ok (.var 1), .ok (.var 2), .ok (.var 3), .ok (.var 4), .ok (.var 5), cells (.var 0) 4, same (.len (.lit 0 [])) (.len (.lit 0 [])), upto (.len (rop ROp.cat [.lit 0 [], .var 0])) 4294967296, .ok (.bin .geq (.var 1) (.con (.int .i64 1))), .is (.bin .geq (.var 1) (.con (.int .i64 1))) (.bool true), .ok (.len (.var 0)), .ok (.bin .leq (.var 1) (.len (.var 0))), .is (.bin .leq (.var 1) (.len (.var 0))) (.bool true), .ok (.bin .sub (.var 1) (.con (.int .i64 1))), .idx (.var 0) (.bin .sub (.var 1) (.con (.int .i64 1))) 4 4, .idx (.var 0) (.bin .sub (.var 1) (.con (.int .i64 1))) 4 1, .ok (.cell (.var 0) (.bin .sub (.var 1) (.con (.int .i64 1))) 4 0), .ok (.bin .gtr (.var 2) (.cell (.var 0) (.bin .sub (.var 1) (.con (.int .i64 1))) 4 0)), .is (.bin .gtr (.var 2) (.cell (.var 0) (.bin .sub (.var 1) (.con (.int .i64 1))) 4 0)) (.bool true), .ok (.bin .sub (.var 1) (.con (.int .i64 1))), rng (.bin .sub (.var 1) (.con (.int .i64 1))) (.len (rop ROp.cat [.lit 0 [], .var 0])), .idx (rop ROp.cat [.lit 0 [], .var 0]) (.bin .sub (.var 1) (.con (.int .i64 1))) 4 4, same (.len (rop ROp.cat [.lit 0 [], .var 0])) (.len (rop (ROp.upd 4 0) [rop ROp.cat [.lit 0 [], .var 0], .bin .sub (.var 1) (.con (.int .i64 1)), .var 2, .var 3, .var 4, .var 5]))], [rop (ROp.upd 4 0) [rop ROp.cat [.lit 0 [], .var 0], .bin .sub (.var 1) (.con (.int .i64 1)), .var 2, .var 3, .var 4, .var 5]]) := by kernel_rfl
theorem k0 : runTo Try.prog (orcFn tabM) 10000 119 (EMarked 2) [.row, .row, .num, .num, .num, .num, .num, .num, .num, .num, .num, .num] [0] hApp = some ([.ok (.var 2), .ok (.var 3), .ok (.var 4), .ok (.var 5), .ok (.var 6), .ok (.var 7), .ok (.var 8), .ok (.var 9), .ok (.var 10), .ok (.var 11), .fn 131 (EPutM 1) [.var 1, .var 3, .var 4, .var 5, .var 6, .var 7], cells (.var 0) 3, same (.len (.lit 0 [])) (.len (.lit 0 [])), upto (.len (rop ROp.cat [.lit 0 [], .var 0])) 4294967296, .ok (.bin .gtr (.var 8) (.con (.int .i64 0))), .is (.bin .gtr (.var 8) (.con (.int .i64 0))) (.bool false), same (.len (rop ROp.cat [.lit 0 [], .var 0])) (.len (rop ROp.cat [.lit 0 [], .var 0]))], [rop ROp.cat [.lit 0 [], .var 0], .fn 1 [.var 1, .var 3, .var 4, .var 5, .var 6, .var 7] 0, .var 2, .var 4, .var 5, .var 6, .var 7]) := by kernel_rfl
theorem k1 : runTo Try.prog (orcFn tabM) 10000 119 (EMarked 2) [.row, .row, .num, .num, .num, .num, .num, .num, .num, .num, .num, .num] [1] hApp = some ([.ok (.var 2), .ok (.var 3), .ok (.var 4), .ok (.var 5), .ok (.var 6), .ok (.var 7), .ok (.var 8), .ok (.var 9), .ok (.var 10), .ok (.var 11), .fn 131 (EPutM 1) [.var 1, .var 3, .var 4, .var 5, .var 6, .var 7], cells (.var 0) 3, same (.len (.lit 0 [])) (.len (.lit 0 [])), upto (.len (rop ROp.cat [.lit 0 [], .var 0])) 4294967296, .ok (.bin .gtr (.var 8) (.con (.int .i64 0))), .is (.bin .gtr (.var 8) (.con (.int .i64 0))) (.bool true), .ok (.bin .sub (.var 8) (.con (.int .i64 1))), rng (.bin .sub (.var 8) (.con (.int .i64 1))) (.len (rop ROp.cat [.lit 0 [], .var 0])), .idx (rop ROp.cat [.lit 0 [], .var 0]) (.bin .sub (.var 8) (.con (.int .i64 1))) 3 3, same (.len (rop ROp.cat [.lit 0 [], .var 0])) (.len (rop (ROp.upd 3 0) [rop ROp.cat [.lit 0 [], .var 0], .bin .sub (.var 8) (.con (.int .i64 1)), .var 9, .var 10, .var 11]))], [rop (ROp.upd 3 0) [rop ROp.cat [.lit 0 [], .var 0], .bin .sub (.var 8) (.con (.int .i64 1)), .var 9, .var 10, .var 11], .fn 1 [.var 1, .var 3, .var 4, .var 5, .var 6, .var 7] 0, .var 2, .var 4, .var 5, .var 6, .var 7]) := by kernel_rfl

@[simp] theorem kPutM (k : Nat) : (EPutM k).k = k := rfl
@[simp] theorem kMarked (k : Nat) : (EMarked k).k = k := rfl
theorem encM_inj : ∀ xs ys : List MarkM, encM.all xs = encM.all ys → xs = ys
  | [], [], _ => rfl
  | [], _ :: _, h => by simp [Enc.all, encM] at h
  | _ :: _, [], h => by simp [Enc.all, encM] at h
  | x :: xs, y :: ys, h => by
    rw [Enc.all_cons, Enc.all_cons] at h
    obtain ⟨h1, h2⟩ := List.append_inj h (by rw [encM.len, encM.len])
    simp only [encM, List.cons.injEq, Value.int.injEq, true_and, and_true] at h1
    rw [Prod.ext h1.1 (Prod.ext h1.2.1 (Prod.ext h1.2.2.1 h1.2.2.2)), encM_inj xs ys h2]
theorem cellM (l : List MarkM) (i : Nat) (h : i < l.length) : cellPV (pRow encM l) (pI (i : Int)) 4 0 = some (pI l[i].1) := by
  rw [cellPV_row encM l i .i64 4 0 rfl h, all_cell encM l i 0 _ (List.getElem?_eq_getElem h) (by decide)]; rfl
def putMk (l : List MarkM) (c : Int) (m : MarkM) : List MarkM := if 1 ≤ c ∧ c ≤ l.length ∧ (l.getD (c.toNat - 1) (0, 0, 0, 0)).1 < m.1 then l.set (c.toNat - 1) m else l
def RPutM (ps qs : List PV) : Prop := ∃ (l : List MarkM) (c : Int) (m : MarkM), l.length ≤ 1000000 ∧ -9223372036854775808 ≤ c ∧ c ≤ 9223372036854775807 ∧ ps = [pRow encM l, pI c, pI m.1, pI m.2.1, pI m.2.2.1, pI m.2.2.2] ∧ qs = [pRow encM (putMk l c m)]
theorem fPutM : ∀ ps q1 q2, RPutM ps q1 → RPutM ps q2 → q1 = q2 := by
  rintro ps q1 q2 ⟨l, c, ⟨a1, a2, a3, a4⟩, _, _, _, rfl, rfl⟩ ⟨l', c', ⟨b1, b2, b3, b4⟩, _, _, _, h, rfl⟩
  simp only [List.cons.injEq, PV.v.injEq, Value.int.injEq, true_and, and_true] at h
  obtain ⟨h, rfl, rfl, rfl, rfl, rfl⟩ := h
  rw [fil.pRow_inj encM_inj h]
theorem toldPutM (k : Nat) : ToldF 131 (EPutM k) (spec RPutM) := by
  refine told_of mixed_ok names_ok (fun _ _ => none) [.row, .num, .num, .num, .num, .num] ?_
  intro ps qs h _
  obtain ⟨l, c, ⟨a1, a2, a3, a4⟩, hl, hc1, hc2, rfl, rfl⟩ := of_spec h
  have cl := cellsP_row encM l 4 rfl (by omega)
  have rc := r_cat0 encM l
  by_cases d1 : 1 ≤ c
  · by_cases d2 : c ≤ l.length
    · obtain ⟨j, rfl⟩ : ∃ j : Nat, c = (j : Int) + 1 := ⟨c.toNat - 1, by omega⟩
      have hj : j < l.length := by omega
      have hj1 : ((j : Int) + 1).toNat - 1 = j := by omega
      have w1 : IntKind.i64.wrap (j : Int) = (j : Int) := wrapI _ (by omega) (by omega)
      have i1 := idxP_row encM l j 4 4 .i64 rfl hj (by decide)
      have i2 := idxP_row encM l j 4 1 .i64 rfl hj (by decide)
      have cm := cellM l j hj
      have hg : (l.getD j (0, 0, 0, 0)) = l[j] := by simp [List.getD, hj]
      by_cases d3 : l[j].1 < a1
      · have hp : putMk l ((j : Int) + 1) (a1, a2, a3, a4) = l.set j (a1, a2, a3, a4) := by rw [putMk, hj1, hg, if_pos ⟨d1, d2, d3⟩]
        have ru : ropPV (.upd 4 0) [pRow encM l, pI (j : Int), pI a1, pI a2, pI a3, pI a4] = some (pRow encM (l.set j (a1, a2, a3, a4))) := r_updE encM l j .i64 (a1, a2, a3, a4) hj
        have hls : (l.set j (a1, a2, a3, a4)).length = l.length := by simp
        rw [hp]
        generalize l.set j (a1, a2, a3, a4) = l2 at *
        refine ⟨_, _, _, _, _, _, fil.noOrc_ok, p111, fun w FP => ?_, ?_⟩
        · simp only [List.mem_cons, List.not_mem_nil, or_false, forall_eq_or_imp, forall_eq]
          simp [-holds_idx, holds_idxP, holds_cellsP, Base.ev, SX.ev, evs, Value.oneCell', lenPV_row, lenPV_r, binPV, cl, rc, w1, i1, i2, cm, ru, hj, d3]
          omega
        · simp [evs, SX.ev, binPV, rc, w1, ru]
      · have hp : putMk l ((j : Int) + 1) (a1, a2, a3, a4) = l := by rw [putMk, hj1, hg, if_neg (fun h => d3 h.2.2)]
        rw [hp]
        refine ⟨_, _, _, _, _, _, fil.noOrc_ok, p110, fun w FP => ?_, ?_⟩
        · simp only [List.mem_cons, List.not_mem_nil, or_false, forall_eq_or_imp, forall_eq]
          simp [-holds_idx, holds_idxP, holds_cellsP, Base.ev, SX.ev, evs, Value.oneCell', lenPV_row, lenPV_r, binPV, cl, rc, w1, i1, i2, cm, hj, d3]
          omega
        · simp [evs, SX.ev, rc]
    · have hp : putMk l c (a1, a2, a3, a4) = l := by rw [putMk, if_neg (fun h => d2 h.2.1)]
      rw [hp]
      refine ⟨_, _, _, _, _, _, fil.noOrc_ok, p10, fun w FP => ?_, ?_⟩
      · simp only [List.mem_cons, List.not_mem_nil, or_false, forall_eq_or_imp, forall_eq]
        simp [-holds_idx, holds_idxP, holds_cellsP, Base.ev, SX.ev, evs, Value.oneCell', lenPV_row, lenPV_r, binPV, cl, rc]
        omega
      · simp [evs, SX.ev, rc]
  · have hp : putMk l c (a1, a2, a3, a4) = l := by rw [putMk, if_neg (fun h => d1 h.1)]
    rw [hp]
    refine ⟨_, _, _, _, _, _, fil.noOrc_ok, p0, fun w FP => ?_, ?_⟩
    · simp only [List.mem_cons, List.not_mem_nil, or_false, forall_eq_or_imp, forall_eq]
      simp [-holds_idx, holds_idxP, holds_cellsP, Base.ev, SX.ev, evs, Value.oneCell', lenPV_row, lenPV_r, binPV, cl, rc]
      omega
    · simp [evs, SX.ev, rc]

/-! What lasts, with a mark. -/
structure StM where
  files : List FileM
  marks : List MarkM
  epoch : Int
def marked (s : StM) (c : Int) (m : MarkM) (at' : Int) (f : FileM) : StM := ⟨if 0 < at' then s.files.set (at'.toNat - 1) f else s.files, putMk s.marks c m, s.epoch⟩
abbrev pSt (s : StM) : List PV := [pRow encF s.files, pRow encM s.marks, pI s.epoch]
abbrev pMk (m : MarkM) : List PV := [pI m.1, pI m.2.1, pI m.2.2.1, pI m.2.2.2]
abbrev pFi (f : FileM) : List PV := [pS f.1, pI f.2.1, pS f.2.2]
def RMarked (ps qs : List PV) : Prop := ∃ (s : StM) (c : Int) (m : MarkM) (at' : Int) (f : FileM), s.files.length ≤ 1000000 ∧ s.marks.length ≤ 1000000 ∧ -9223372036854775808 ≤ c ∧ c ≤ 9223372036854775807 ∧ at' ≤ s.files.length ∧ ps = pSt s ++ [pI c] ++ pMk m ++ [pI at'] ++ pFi f ∧ qs = pSt (marked s c m at' f) ++ pMk m
theorem fMarked : ∀ ps q1 q2, RMarked ps q1 → RMarked ps q2 → q1 = q2 := by
  rintro ps q1 q2 ⟨⟨s1, s2, s3⟩, c, ⟨a1, a2, a3, a4⟩, at1, ⟨f1, f2, f3⟩, _, _, _, _, _, rfl, rfl⟩ ⟨⟨s1', s2', s3'⟩, c', ⟨b1, b2, b3, b4⟩, at2, ⟨g1, g2, g3⟩, _, _, _, _, _, h, rfl⟩
  simp only [pSt, pMk, pFi, List.cons_append, List.nil_append, List.append_nil, List.cons.injEq, PV.v.injEq, Value.int.injEq, Value.string.injEq, true_and, and_true] at h
  obtain ⟨h1, h2, rfl, rfl, rfl, rfl, rfl, rfl, rfl, rfl, rfl, rfl⟩ := h
  rw [fil.pRow_inj encF_inj h1, fil.pRow_inj encM_inj h2]
noncomputable def FM : Fns := fun k => match k with | 1 => spec RPutM | _ => fun _ => none
theorem y1 : ToldF 131 (EPutM 1) (FM 1) := toldPutM 1
theorem toldMarked (k : Nat) : ToldF 119 (EMarked k) (spec RMarked) := by
  refine told_of mixed_ok names_ok FM [.row, .row, .num, .num, .num, .num, .num, .num, .num, .num, .num, .num] ?_
  intro ps qs h _
  obtain ⟨⟨s1, s2, s3⟩, c, ⟨a1, a2, a3, a4⟩, at1, ⟨f1, f2, f3⟩, hl1, hl2, hc1, hc2, hat, rfl, rfl⟩ := of_spec h
  simp only at hl1 hl2 hat
  have cl := cellsP_row encF s1 3 rfl (by omega)
  have rc := r_cat0 encF s1
  have e1 : FM 1 [pRow encM s2, pI c, pI a1, pI a2, pI a3, pI a4] = some [pRow encM (putMk s2 c (a1, a2, a3, a4))] := spec_of fPutM ⟨s2, c, (a1, a2, a3, a4), hl2, hc1, hc2, rfl, rfl⟩
  by_cases d1 : 0 < at1
  · obtain ⟨j, rfl⟩ : ∃ j : Nat, at1 = (j : Int) + 1 := ⟨at1.toNat - 1, by omega⟩
    have hj : j < s1.length := by omega
    have hj1 : ((j : Int) + 1).toNat - 1 = j := by omega
    have w1 : IntKind.i64.wrap (j : Int) = (j : Int) := wrapI _ (by omega) (by omega)
    have i1 := idxP_row encF s1 j 3 3 .i64 rfl hj (by decide)
    have ru : ropPV (.upd 3 0) [pRow encF s1, pI (j : Int), pS f1, pI f2, pS f3] = some (pRow encF (s1.set j (f1, f2, f3))) := r_updE encF s1 j .i64 (f1, f2, f3) hj
    have hls : (s1.set j (f1, f2, f3)).length = s1.length := by simp
    simp only [marked, if_pos d1, hj1]
    generalize s1.set j (f1, f2, f3) = l2 at *
    refine ⟨_, _, _, _, _, _, orcFn_ok tabM, k1, fun w FP => ?_, ?_⟩
    · simp only [List.mem_cons, List.not_mem_nil, or_false, forall_eq_or_imp, forall_eq]
      simp [-holds_idx, holds_idxP, holds_cellsP, Base.ev, SX.ev, evs, Value.oneCell', lenPV_row, lenPV_r, binPV, cl, rc, w1, i1, ru, hj, e1, y1]
      omega
    · simp [evs, SX.ev, binPV, rc, w1, ru, e1]
  · simp only [marked, if_neg d1]
    refine ⟨_, _, _, _, _, _, orcFn_ok tabM, k0, fun w FP => ?_, ?_⟩
    · simp only [List.mem_cons, List.not_mem_nil, or_false, forall_eq_or_imp, forall_eq]
      simp [-holds_idx, holds_idxP, holds_cellsP, Base.ev, SX.ev, evs, Value.oneCell', lenPV_row, lenPV_r, binPV, cl, rc, e1, y1]
      omega
    · simp [evs, SX.ev, rc, e1]
end Go.Proofs.Ytfcdbknmajfkaaa.sta
