/- Marks: package mark, and the document's answer, told. -/
import Derived.Test.YtnelcjofgpplgaaMkb
namespace Go.Proofs.Ytnelcjofgpplgaa.sta
open Go Go.RowKit eng SX Fact fil
set_option linter.unusedVariables false
set_option linter.unusedSimpArgs false
set_option maxRecDepth 1000000

def isIx : Op → Bool | .indexAddr .. => true | .makeSlice .. => true | _ => false
def hOut (g : FuncId) (f : FuncId) (o : Oper) : Option Hint := cond (isApp o.op) (some .own) (cond (Nat.beq f g && isIx o.op) (some .out) none)
def ENewM (k : Nat) : FnE := { k := k, ins := [none], leaks := [], outs := [none], kinds := [.row] }
def ESmM (k : Nat) : FnE := { k := k, ins := [none, none], leaks := [false, false], outs := [none], kinds := [.truth] }
@[simp] def zMka1 : SX := .bin .add (.con (.int .i64 0)) (.len (.var 0))
@[simp] def zMka2 : SX := .con (.int .i64 0)
@[simp] def zMka3 : SX := .bin .sub (.var 1) (.con (.int .i64 1))
@[simp] def zMka4 : SX := .len (rop (ROp.rep [.int .i64 0, .int .i64 0, .int .i64 0, .int .i64 0]) [.bin .sub zMka1 zMka2])
@[simp] def zMka5 : SX := rop ROp.cat [.lit 0 [], .var 0]
@[simp] def zMka6 : Fact := .is (.bin .lss zMka1 zMka2) (.bool false)
@[simp] def zMka7 : SX := .bin .sub zMka1 zMka2
@[simp] def zMka8 : Fact := .ok (.bin .lss zMka1 zMka2)
@[simp] def zMka9 : SX := rop (ROp.rep [.int .i64 0, .int .i64 0, .int .i64 0, .int .i64 0]) [.var 0]
@[simp] def zMka10 : SX := .bin .gtr (.var 0) (.con (.int .i64 67108863))
@[simp] def zMka11 : SX := .bin .leq (.var 2) (.cell (.var 0) zMka3 4 0)
@[simp] def zMka12 : SX := .bin .gtr zMka7 zMka2
@[simp] def zMka13 : Fact := same zMka2 (.len (.lit 0 []))
@[simp] def zMka14 : Fact := upto (.len zMka5) 4294967296
@[simp] def zMka15 : SX := rop (ROp.upd 4 0) [zMka5, zMka3, .var 2, .var 3, .var 4, .var 5]
@[simp] def zMka16 : Fact := .ok (.len (.var 0))
@[simp] def zMka17 : Fact := .is zMka12 (.bool true)
@[simp] def zMka18 : Fact := .is (.bin .lss (.conv .i64 (.var 0)) zMka2) (.bool true)
@[simp] def zMka19 : Fact := same (.len zMka5) (.len zMka5)
theorem n0 : runTo Try.prog fil.noOrc 10000 55 (ENewM 1) [.num] [0] hApp = some ([.ok (.var 0), .ok zMka10, .is zMka10 (.bool false), same (.var 0) (.var 0), upto (.var 0) 4294967296, same (.len zMka9) (.len zMka9)], [zMka9]) := by kernel_rfl
theorem n1 : runTo Try.prog fil.noOrc 10000 55 (ENewM 1) [.num] [0] (hOut 76) = some ([.ok (.var 0), .ok zMka10, .is zMka10 (.bool false), .is (.bin .lss (.var 0) zMka2) (.bool true), zMka18, zMka18], [.lit 0 []]) := by kernel_rfl
theorem q0 : runTo Try.prog fil.noOrc 10000 60 (EPutM 1) [.row, .num, .num, .num, .num, .num] [0, 0, 0, 1, 1] hApp = some ([.ok (.var 1), .ok (.var 2), .ok (.var 3), .ok (.var 4), .ok (.var 5), .ok zMka3, .idx (.var 0) zMka3 4 4, .idx (.var 0) zMka3 4 1, .ok (.cell (.var 0) zMka3 4 0), .ok zMka11, .is zMka11 (.bool false), zMka16, .ok zMka1, zMka8, zMka6, zMka8, zMka6, .ok zMka7, .ok zMka12, zMka17, upto zMka7 4294967296, rng zMka2 zMka4, upto zMka4 4294967296, cells (.var 0) 4, zMka13, zMka14, .ok zMka3, rng zMka3 (.len zMka5), .idx zMka5 zMka3 4 4, same (.len zMka5) (.len zMka15)], [zMka15]) := by kernel_rfl
theorem q1 : runTo Try.prog fil.noOrc 10000 60 (EPutM 1) [.row, .num, .num, .num, .num, .num] [1, 0, 0, 1, 1] hApp = some ([.ok (.var 1), .ok (.var 2), .ok (.var 3), .ok (.var 4), .ok (.var 5), .ok zMka3, .idx (.var 0) zMka3 4 4, .idx (.var 0) zMka3 4 1, .ok (.cell (.var 0) zMka3 4 0), .ok zMka11, .is zMka11 (.bool true), zMka16, .ok zMka1, zMka8, zMka6, zMka8, zMka6, .ok zMka7, .ok zMka12, zMka17, upto zMka7 4294967296, rng zMka2 zMka4, upto zMka4 4294967296, cells (.var 0) 4, zMka13, zMka14, zMka19], [zMka5]) := by kernel_rfl
theorem q2 : runTo Try.prog fil.noOrc 10000 60 (EPutM 1) [.row, .num, .num, .num, .num, .num] [0, 0, 0, 1, 1] (hOut 79) = some ([.ok (.var 1), .ok (.var 2), .ok (.var 3), .ok (.var 4), .ok (.var 5), .ok zMka3, zMka16, .is (.bin .lss zMka3 zMka2) (.bool true), zMka16, .ok zMka1, zMka8, zMka6, zMka8, zMka6, .ok zMka7, .ok zMka12, zMka17, upto zMka7 4294967296, rng zMka2 zMka4, upto zMka4 4294967296, cells (.var 0) 4, zMka13, zMka14, zMka19], [zMka5]) := by kernel_rfl
theorem q3 : runTo Try.prog fil.noOrc 10000 60 (EPutM 1) [.row, .num, .num, .num, .num, .num] [1, 0, 0, 1, 1] (hOut 79) = some ([.ok (.var 1), .ok (.var 2), .ok (.var 3), .ok (.var 4), .ok (.var 5), .ok zMka3, .is (.bin .geq zMka3 (.len (.var 0))) (.bool true), zMka16, .ok zMka1, zMka8, zMka6, zMka8, zMka6, .ok zMka7, .ok zMka12, zMka17, upto zMka7 4294967296, rng zMka2 zMka4, upto zMka4 4294967296, cells (.var 0) 4, zMka13, zMka14, zMka19], [zMka5]) := by kernel_rfl
def m0 : MarkM := (0, 0, 0, 0)
theorem r_repM (n : Nat) : ropPV (.rep [.int .i64 0, .int .i64 0, .int .i64 0, .int .i64 0]) [pI (n : Int)] = some (pRow encM (List.replicate n m0)) := by
  have h0 : (0 : Int) ≤ (n : Int) := by omega
  have : ∀ k : Nat, (List.replicate k (List.map PV.v [Value.int .i64 0, .int .i64 0, .int .i64 0, .int .i64 0])).flatten = (encM.all (List.replicate k m0)).map PV.v := fun k => by
    induction k with
    | zero => rfl
    | succ k ih => rw [List.replicate_succ, List.flatten_cons, ih, List.replicate_succ, Enc.all_cons, List.map_append]; rfl
  simp only [ropPV, h0, decide_true, cond_true, Int.toNat_natCast, this, pRow, List.length_replicate]
@[simp] theorem kNewM (k : Nat) : (ENewM k).k = k := rfl
@[simp] theorem kSmM (k : Nat) : (ESmM k).k = k := rfl

def RNewM (ps qs : List PV) : Prop := ∃ n : Int, -9223372036854775808 ≤ n ∧ n ≤ 1000 ∧ ps = [pI n] ∧ qs = [pRow encM (List.replicate n.toNat m0)]
theorem fNewM : ∀ ps q1 q2, RNewM ps q1 → RNewM ps q2 → q1 = q2 := by
  rintro ps q1 q2 ⟨n, _, _, rfl, rfl⟩ ⟨n', _, _, h, rfl⟩
  simp only [List.cons.injEq, PV.v.injEq, Value.int.injEq, true_and, and_true] at h
  subst h; rfl
theorem toldNewM (k : Nat) : ToldF 55 (ENewM k) (spec RNewM) := by
  refine told_of mixed_ok names_ok (fun _ _ => none) [.num] ?_
  intro ps qs h _
  obtain ⟨n, hn1, hn2, rfl, rfl⟩ := of_spec h
  have w1 : IntKind.i64.wrap n = n := wrapI _ (by omega) (by omega)
  by_cases d : n < 0
  · have hz : n.toNat = 0 := by omega
    rw [hz]
    refine ⟨_, _, _, _, _, _, fil.noOrc_ok, n1, fun w FP => ?_, ?_⟩
    · simp only [List.mem_cons, List.not_mem_nil, or_false, forall_eq_or_imp, forall_eq]
      simp [holds_idxP, holds_cellsP, Base.ev, SX.ev, evs, Value.oneCell', binPV, convPV, w1, d]
      all_goals omega
    · simp [evs, SX.ev, pRow, Enc.all]
  · obtain ⟨j, rfl⟩ : ∃ j : Nat, n = (j : Int) := ⟨n.toNat, by omega⟩
    have rr := r_repM j
    have hl : (List.replicate j m0).length = j := by simp
    simp only [Int.toNat_natCast]
    generalize List.replicate j m0 = l at *
    refine ⟨_, _, _, _, _, _, fil.noOrc_ok, n0, fun w FP => ?_, ?_⟩
    · simp only [List.mem_cons, List.not_mem_nil, or_false, forall_eq_or_imp, forall_eq]
      simp [holds_idxP, holds_cellsP, Base.ev, SX.ev, evs, Value.oneCell', binPV, lenPV_row, rr, hl]
      all_goals omega
    · simp [evs, SX.ev, rr]

theorem cellM4 (l : List MarkM) (i : Nat) (h : i < l.length) : cellPV (pRow encM l) (pI (i : Int)) 4 0 = some (pI l[i].1) ∧ cellPV (pRow encM l) (pI (i : Int)) 4 1 = some (pI l[i].2.1) ∧ cellPV (pRow encM l) (pI (i : Int)) 4 2 = some (pI l[i].2.2.1) ∧ cellPV (pRow encM l) (pI (i : Int)) 4 3 = some (pI l[i].2.2.2) := by
  have h2 : l[i]? = some l[i] := List.getElem?_eq_getElem h
  refine ⟨?_, ?_, ?_, ?_⟩
  · rw [cellPV_row encM l i .i64 4 0 rfl h, all_cell encM l i 0 _ h2 (by decide)]; rfl
  · rw [cellPV_row encM l i .i64 4 1 rfl h, all_cell encM l i 1 _ h2 (by decide)]; rfl
  · rw [cellPV_row encM l i .i64 4 2 rfl h, all_cell encM l i 2 _ h2 (by decide)]; rfl
  · rw [cellPV_row encM l i .i64 4 3 rfl h, all_cell encM l i 3 _ h2 (by decide)]; rfl
theorem idx_cases (c : Int) (n : Nat) (h1 : -9223372036854775808 ≤ c) (h2 : c ≤ 9223372036854775807) (hn : n ≤ 1000000) :
    (∃ j : Nat, c = (j : Int) + 1 ∧ j < n) ∨ (¬ (1 ≤ c ∧ c ≤ (n : Int)) ∧ ∃ z, IntKind.i64.wrap (c - 1) = z ∧ (z < 0 ∨ (n : Int) ≤ z)) := by
  by_cases d : 1 ≤ c ∧ c ≤ (n : Int)
  · exact .inl ⟨c.toNat - 1, by omega, by omega⟩
  · refine .inr ⟨d, ?_⟩
    by_cases e : c = -9223372036854775808
    · subst e
      exact ⟨9223372036854775807, by decide, .inr (by omega)⟩
    · exact ⟨c - 1, wrapI _ (by omega) (by omega), by omega⟩
def RPutP (ps qs : List PV) : Prop := ∃ (l : List MarkM) (c : Int) (m : MarkM), 1 ≤ l.length ∧ l.length ≤ 1000000 ∧ -9223372036854775808 ≤ c ∧ c ≤ 9223372036854775807 ∧ ps = [pRow encM l, pI c, pI m.1, pI m.2.1, pI m.2.2.1, pI m.2.2.2] ∧ qs = [pRow encM (putMk l c m)]
theorem fPutP : ∀ ps q1 q2, RPutP ps q1 → RPutP ps q2 → q1 = q2 := by
  rintro ps q1 q2 ⟨l, c, m, _, h1, h2, h3, h4, h5⟩ ⟨l', c', m', _, g1, g2, g3, g4, g5⟩
  exact fPutM ps q1 q2 ⟨l, c, m, h1, h2, h3, h4, h5⟩ ⟨l', c', m', g1, g2, g3, g4, g5⟩
theorem toldPutP (k : Nat) : ToldF 60 (EPutM k) (spec RPutP) := by
  refine told_of mixed_ok names_ok (fun _ _ => none) [.row, .num, .num, .num, .num, .num] ?_
  intro ps qs h _
  obtain ⟨l, c, ⟨a1, a2, a3, a4⟩, hl0, hl, hc1, hc2, rfl, rfl⟩ := of_spec h
  have cl := cellsP_row encM l 4 rfl (by omega)
  have rc := r_cat0 encM l
  have wl : IntKind.i64.wrap (l.length : Int) = (l.length : Int) := wrapI _ (by omega) (by omega)
  have rr := r_repM l.length
  have rl : (List.replicate l.length m0).length = l.length := by simp
  generalize List.replicate l.length m0 = lz at *
  rcases idx_cases c l.length hc1 hc2 hl with ⟨j, rfl, hj⟩ | ⟨hno, z, hz, hout⟩
  · have hj1 : ((j : Int) + 1).toNat - 1 = j := by omega
    have w1 : IntKind.i64.wrap (j : Int) = (j : Int) := wrapI _ (by omega) (by omega)
    have i1 := idxP_row encM l j 4 4 .i64 rfl hj (by decide)
    have i2 := idxP_row encM l j 4 1 .i64 rfl hj (by decide)
    have cm := cellM l j hj
    have hg : (l.getD j (0, 0, 0, 0)) = l[j] := by simp [List.getD, hj]
    by_cases d3 : l[j].1 < a1
    · have hp : putMk l ((j : Int) + 1) (a1, a2, a3, a4) = l.set j (a1, a2, a3, a4) := by rw [putMk, hj1, hg, if_pos ⟨by omega, by omega, d3⟩]
      have ru : ropPV (.upd 4 0) [pRow encM l, pI (j : Int), pI a1, pI a2, pI a3, pI a4] = some (pRow encM (l.set j (a1, a2, a3, a4))) := r_updE encM l j .i64 (a1, a2, a3, a4) hj
      have hls : (l.set j (a1, a2, a3, a4)).length = l.length := by simp
      rw [hp]
      generalize l.set j (a1, a2, a3, a4) = l2 at *
      refine ⟨_, _, _, _, _, _, fil.noOrc_ok, q0, fun w FP => ?_, ?_⟩
      · simp only [List.mem_cons, List.not_mem_nil, or_false, forall_eq_or_imp, forall_eq]
        simp [holds_idxP, holds_cellsP, Base.ev, SX.ev, evs, Value.oneCell', lenPV_row, lenPV_r, binPV, cl, rc, w1, wl, rr, rl, i1, i2, cm, ru, hj, d3]
        all_goals omega
      · simp [evs, SX.ev, binPV, rc, w1, ru]
    · have hp : putMk l ((j : Int) + 1) (a1, a2, a3, a4) = l := by rw [putMk, hj1, hg, if_neg (fun h => d3 h.2.2)]
      rw [hp]
      refine ⟨_, _, _, _, _, _, fil.noOrc_ok, q1, fun w FP => ?_, ?_⟩
      · simp only [List.mem_cons, List.not_mem_nil, or_false, forall_eq_or_imp, forall_eq]
        simp [holds_idxP, holds_cellsP, Base.ev, SX.ev, evs, Value.oneCell', lenPV_row, lenPV_r, binPV, cl, rc, w1, wl, rr, rl, i1, i2, cm, hj, d3]
        all_goals omega
      · simp [evs, SX.ev, rc]
  · have hp : putMk l c (a1, a2, a3, a4) = l := by rw [putMk, if_neg (fun h => hno ⟨h.1, h.2.1⟩)]
    rw [hp]
    by_cases d : z < 0
    · refine ⟨_, _, _, _, _, _, fil.noOrc_ok, q2, fun w FP => ?_, ?_⟩
      · simp only [List.mem_cons, List.not_mem_nil, or_false, forall_eq_or_imp, forall_eq]
        simp [holds_idxP, holds_cellsP, Base.ev, SX.ev, evs, Value.oneCell', lenPV_row, lenPV_r, binPV, hz, d, cl, rc, wl, rr, rl]
        all_goals omega
      · simp [evs, SX.ev, rc]
    · have d' : (l.length : Int) ≤ z := by omega
      refine ⟨_, _, _, _, _, _, fil.noOrc_ok, q3, fun w FP => ?_, ?_⟩
      · simp only [List.mem_cons, List.not_mem_nil, or_false, forall_eq_or_imp, forall_eq]
        simp [holds_idxP, holds_cellsP, Base.ev, SX.ev, evs, Value.oneCell', lenPV_row, lenPV_r, binPV, hz, d', cl, rc, wl, rr, rl]
        all_goals omega
      · simp [evs, SX.ev, rc]
end Go.Proofs.Ytnelcjofgpplgaa.sta
