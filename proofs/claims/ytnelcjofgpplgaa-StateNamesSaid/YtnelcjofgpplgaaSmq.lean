/- What lasts, compared: slices.Equal at files and at marks, the document's SameMarks and SameState, package state's Same: told. -/
import Derived.Test.YtnelcjofgpplgaaSmy
import Derived.Test.YtnelcjofgpplgaaMka
namespace Go.Proofs.Ytnelcjofgpplgaa.sta
open Go Go.RowKit eng SX Fact fil fileFronts dirs pck may
open fileFronts
open pck hiding F F20 F21
open dirs hiding shR shRl shRR flR lpR cutR f0 f1 f2 f3 m0 m1 m2
open may hiding m1 m2 m3 m4 r1 r2 r3 r4 r5
set_option linter.unusedVariables false
set_option linter.unusedSimpArgs false
set_option maxRecDepth 1000000

def hP (_ : FuncId) (_ : Oper) : Option Hint := some .parts
def hZ (g : FuncId) (l : List Nat) (f : FuncId) (o : Oper) : Option Hint := match o.dst with | some d => cond (Nat.beq f g && l.elem d) (some .parts) (some .lazy) | none => some .lazy
def ESmF (k : Nat) : FnE := { k := k, ins := [none, none], leaks := [false, false], outs := [none], kinds := [.truth] }
def ESmN (k : Nat) : FnE := { k := k, ins := [none, none], leaks := [false, false], outs := [none], kinds := [.num] }
def ESmS (k : Nat) : FnE := { k := k, ins := [some 3, some 3], leaks := [false, false, false, false, false, false], outs := [none], kinds := [.num] }
noncomputable def flA := flat (bodyOf Try.prog 53)
noncomputable def lpA := flat (loopBody (nth flA 4))
def shA : Shape := ⟨[(0, .leaf), (1, .leaf)], [], [some false, some false], 26, 53⟩
def shAl : Shape := ⟨[(0, .leaf), (1, .leaf), (12, .leaf), (13, .leaf)], [], [some false, some false, none, none], 26, 53⟩
def shAR : Shape := ⟨[(4, .leaf)], [], [none], 26, 53⟩
noncomputable def flB := flat (bodyOf Try.prog 54)
noncomputable def lpB := flat (loopBody (nth flB 4))
def shB : Shape := ⟨[(0, .leaf), (1, .leaf)], [], [some false, some false], 26, 54⟩
def shBl : Shape := ⟨[(0, .leaf), (1, .leaf), (12, .leaf), (13, .leaf)], [], [some false, some false, none, none], 26, 54⟩
def shBR : Shape := ⟨[(4, .leaf)], [], [none], 26, 54⟩
noncomputable def flC := flat (bodyOf Try.prog 45)
noncomputable def lpC := flat (loopBody (nth flC 4))
def shC : Shape := ⟨[(0, .leaf), (1, .leaf)], [], [some false, some false], 26, 45⟩
def shCl : Shape := ⟨[(0, .leaf), (1, .leaf), (5, .leaf)], [], [some false, some false, none], 26, 45⟩
def shCR : Shape := ⟨[(4, .leaf)], [], [none], 26, 45⟩
@[simp] def zSmq1 : SX := rop ROp.notB [rop ROp.allB [rop ROp.eqI [.cell (.var 0) (.var 3) 4 0, .cell (.var 1) (.var 3) 4 0], rop ROp.eqI [.cell (.var 0) (.var 3) 4 1, .cell (.var 1) (.var 3) 4 1], rop ROp.eqI [.cell (.var 0) (.var 3) 4 2, .cell (.var 1) (.var 3) 4 2], rop ROp.eqI [.cell (.var 0) (.var 3) 4 3, .cell (.var 1) (.var 3) 4 3]]]
@[simp] def zSmq2 : SX := rop ROp.notB [rop ROp.allB [rop ROp.eqI [.cell (.var 0) (.var 2) 4 0, .cell (.var 1) (.var 2) 4 0], rop ROp.eqI [.cell (.var 0) (.var 2) 4 1, .cell (.var 1) (.var 2) 4 1], rop ROp.eqI [.cell (.var 0) (.var 2) 4 2, .cell (.var 1) (.var 2) 4 2], rop ROp.eqI [.cell (.var 0) (.var 2) 4 3, .cell (.var 1) (.var 2) 4 3]]]
@[simp] def zSmq3 : SX := rop ROp.notB [rop ROp.allB [rop ROp.eqS [.cell (.var 0) (.var 3) 3 0, .cell (.var 1) (.var 3) 3 0], rop ROp.eqI [.cell (.var 0) (.var 3) 3 1, .cell (.var 1) (.var 3) 3 1], rop ROp.eqS [.cell (.var 0) (.var 3) 3 2, .cell (.var 1) (.var 3) 3 2]]]
@[simp] def zSmq4 : SX := .bin .neq (.len (.var 0)) (.len (.var 1))
@[simp] def zSmq5 : SX := .bin .lss (.var 3) (.var 2)
@[simp] def zSmq6 : SX := .bin .add (.var 3) (.con (.int .i64 1))
@[simp] def zSmq7 : Fact := .ok (.len (.var 0))
@[simp] def zSmq8 : SX := .bin .lss (.var 2) (.len (.var 0))
@[simp] def zSmq9 : SX := .con (.bool false)
@[simp] def zSmq10 : SX := .bin .add (.var 2) (.con (.int .i64 1))
@[simp] def zSmq11 : Fact := .ok (.len (.var 1))
@[simp] def zSmq12 : SX := .con (.int .i64 0)
@[simp] def zSmq13 : Fact := .idx (.var 0) (.var 3) 3 3
@[simp] def zSmq14 : Fact := .idx (.var 1) (.var 3) 3 3
@[simp] def zSmq15 : Fact := .idx (.var 0) (.var 3) 4 4
@[simp] def zSmq16 : Fact := .idx (.var 1) (.var 3) 4 4
@[simp] def zSmq17 : Fact := .idx (.var 0) (.var 2) 4 4
@[simp] def zSmq18 : Fact := .idx (.var 1) (.var 2) 4 4
@[simp] def zSmq19 : SX := .con (.bool true)
@[simp] def zSmq20 : Fact := .is zSmq5 (.bool true)
theorem Apre : segTo Try.prog fil.noOrc 10000 (flA.take 4) shA [0] shAl [] hP = some (.normal, [zSmq7, zSmq11, .ok zSmq4, .is zSmq4 (.bool false), zSmq7, zSmq7, .ok zSmq12], [.var 0, .var 1, .len (.var 0), zSmq12]) := by kernel_rfl
theorem Ano : segTo Try.prog fil.noOrc 10000 (flA.take 4) shA [1] shAR [] hP = some (.ret, [zSmq7, zSmq11, .ok zSmq4, .is zSmq4 (.bool true), .ok zSmq9], [zSmq9]) := by kernel_rfl
theorem Aex : segTo Try.prog fil.noOrc 10000 lpA shAl [0] shAl [] hP = some (.exit 0, [.ok zSmq5, .is zSmq5 (.bool false), .ok (.var 2), .ok (.var 3)], [.var 0, .var 1, .var 2, .var 3]) := by kernel_rfl
theorem Ago : segTo Try.prog fil.noOrc 10000 lpA shAl [1, 0] shAl [] hP = some (.normal, [.ok zSmq5, zSmq20, zSmq13, zSmq13, .ok (.cell (.var 0) (.var 3) 3 0), .ok (.cell (.var 0) (.var 3) 3 1), .ok (.cell (.var 0) (.var 3) 3 2), zSmq14, zSmq14, .ok (.cell (.var 1) (.var 3) 3 0), .ok (.cell (.var 1) (.var 3) 3 1), .ok (.cell (.var 1) (.var 3) 3 2), .ok zSmq3, .is zSmq3 (.bool false), .ok zSmq6, .ok (.var 2), .ok zSmq6], [.var 0, .var 1, .var 2, zSmq6]) := by kernel_rfl
theorem Ane : segTo Try.prog fil.noOrc 10000 lpA shAl [1, 1] shAR [] hP = some (.ret, [.ok zSmq5, zSmq20, zSmq13, zSmq13, .ok (.cell (.var 0) (.var 3) 3 0), .ok (.cell (.var 0) (.var 3) 3 1), .ok (.cell (.var 0) (.var 3) 3 2), zSmq14, zSmq14, .ok (.cell (.var 1) (.var 3) 3 0), .ok (.cell (.var 1) (.var 3) 3 1), .ok (.cell (.var 1) (.var 3) 3 2), .ok zSmq3, .is zSmq3 (.bool true), .ok zSmq9], [zSmq9]) := by kernel_rfl
theorem Apost : segTo Try.prog fil.noOrc 10000 (flA.drop 5) shAl [] shAR [] hP = some (.ret, [.ok zSmq19], [zSmq19]) := by kernel_rfl
theorem Bpre : segTo Try.prog fil.noOrc 10000 (flB.take 4) shB [0] shBl [] hP = some (.normal, [zSmq7, zSmq11, .ok zSmq4, .is zSmq4 (.bool false), zSmq7, zSmq7, .ok zSmq12], [.var 0, .var 1, .len (.var 0), zSmq12]) := by kernel_rfl
theorem Bno : segTo Try.prog fil.noOrc 10000 (flB.take 4) shB [1] shBR [] hP = some (.ret, [zSmq7, zSmq11, .ok zSmq4, .is zSmq4 (.bool true), .ok zSmq9], [zSmq9]) := by kernel_rfl
theorem Bex : segTo Try.prog fil.noOrc 10000 lpB shBl [0] shBl [] hP = some (.exit 0, [.ok zSmq5, .is zSmq5 (.bool false), .ok (.var 2), .ok (.var 3)], [.var 0, .var 1, .var 2, .var 3]) := by kernel_rfl
theorem Bgo : segTo Try.prog fil.noOrc 10000 lpB shBl [1, 0] shBl [] hP = some (.normal, [.ok zSmq5, zSmq20, zSmq15, zSmq15, .ok (.cell (.var 0) (.var 3) 4 0), .ok (.cell (.var 0) (.var 3) 4 1), .ok (.cell (.var 0) (.var 3) 4 2), .ok (.cell (.var 0) (.var 3) 4 3), zSmq16, zSmq16, .ok (.cell (.var 1) (.var 3) 4 0), .ok (.cell (.var 1) (.var 3) 4 1), .ok (.cell (.var 1) (.var 3) 4 2), .ok (.cell (.var 1) (.var 3) 4 3), .ok zSmq1, .is zSmq1 (.bool false), .ok zSmq6, .ok (.var 2), .ok zSmq6], [.var 0, .var 1, .var 2, zSmq6]) := by kernel_rfl
theorem Bne : segTo Try.prog fil.noOrc 10000 lpB shBl [1, 1] shBR [] hP = some (.ret, [.ok zSmq5, zSmq20, zSmq15, zSmq15, .ok (.cell (.var 0) (.var 3) 4 0), .ok (.cell (.var 0) (.var 3) 4 1), .ok (.cell (.var 0) (.var 3) 4 2), .ok (.cell (.var 0) (.var 3) 4 3), zSmq16, zSmq16, .ok (.cell (.var 1) (.var 3) 4 0), .ok (.cell (.var 1) (.var 3) 4 1), .ok (.cell (.var 1) (.var 3) 4 2), .ok (.cell (.var 1) (.var 3) 4 3), .ok zSmq1, .is zSmq1 (.bool true), .ok zSmq9], [zSmq9]) := by kernel_rfl
theorem Bpost : segTo Try.prog fil.noOrc 10000 (flB.drop 5) shBl [] shBR [] hP = some (.ret, [.ok zSmq19], [zSmq19]) := by kernel_rfl
theorem Cpre : segTo Try.prog fil.noOrc 10000 (flC.take 4) shC [0] shCl [] hP = some (.normal, [zSmq7, zSmq11, .ok zSmq4, .is zSmq4 (.bool false), .ok zSmq12], [.var 0, .var 1, zSmq12]) := by kernel_rfl
theorem Cno : segTo Try.prog fil.noOrc 10000 (flC.take 4) shC [1] shCR [] hP = some (.ret, [zSmq7, zSmq11, .ok zSmq4, .is zSmq4 (.bool true), .ok zSmq9], [zSmq9]) := by kernel_rfl
theorem Cex : segTo Try.prog fil.noOrc 10000 lpC shCl [0] shCl [] hP = some (.exit 0, [zSmq7, .ok zSmq8, .is zSmq8 (.bool false), .ok (.var 2)], [.var 0, .var 1, .var 2]) := by kernel_rfl
theorem Cgo : segTo Try.prog fil.noOrc 10000 lpC shCl [1, 0] shCl [] hP = some (.normal, [zSmq7, .ok zSmq8, .is zSmq8 (.bool true), zSmq17, zSmq17, .ok (.cell (.var 0) (.var 2) 4 0), .ok (.cell (.var 0) (.var 2) 4 1), .ok (.cell (.var 0) (.var 2) 4 2), .ok (.cell (.var 0) (.var 2) 4 3), zSmq18, zSmq18, .ok (.cell (.var 1) (.var 2) 4 0), .ok (.cell (.var 1) (.var 2) 4 1), .ok (.cell (.var 1) (.var 2) 4 2), .ok (.cell (.var 1) (.var 2) 4 3), .ok zSmq2, .is zSmq2 (.bool false), .ok zSmq10, .ok zSmq10], [.var 0, .var 1, zSmq10]) := by kernel_rfl
theorem Cne : segTo Try.prog fil.noOrc 10000 lpC shCl [1, 1] shCR [] hP = some (.ret, [zSmq7, .ok zSmq8, .is zSmq8 (.bool true), zSmq17, zSmq17, .ok (.cell (.var 0) (.var 2) 4 0), .ok (.cell (.var 0) (.var 2) 4 1), .ok (.cell (.var 0) (.var 2) 4 2), .ok (.cell (.var 0) (.var 2) 4 3), zSmq18, zSmq18, .ok (.cell (.var 1) (.var 2) 4 0), .ok (.cell (.var 1) (.var 2) 4 1), .ok (.cell (.var 1) (.var 2) 4 2), .ok (.cell (.var 1) (.var 2) 4 3), .ok zSmq2, .is zSmq2 (.bool true), .ok zSmq9], [zSmq9]) := by kernel_rfl
theorem Cpost : segTo Try.prog fil.noOrc 10000 (flC.drop 5) shCl [] shCR [] hP = some (.ret, [.ok zSmq19], [zSmq19]) := by kernel_rfl

noncomputable def sameQ {α : Type} (xs ys : List α) : Bool := @decide (xs = ys) (Classical.propDecidable _)
theorem sameQ_yes {α : Type} {xs ys : List α} (h : xs = ys) : sameQ xs ys = true := by simp [sameQ, h]
theorem sameQ_no {α : Type} {xs ys : List α} (h : ¬ xs = ys) : sameQ xs ys = false := by simp [sameQ, h]
def sameF (f g : FileM) : Bool := f.1.toList == g.1.toList && (f.2.1 == g.2.1 && (f.2.2.toList == g.2.2.toList && true))
def sameM (f g : MarkM) : Bool := f.1 == g.1 && (f.2.1 == g.2.1 && (f.2.2.1 == g.2.2.1 && (f.2.2.2 == g.2.2.2 && true)))
theorem sameF_iff {f g : FileM} : sameF f g = true ↔ f = g := by
  simp only [sameF, Bool.and_eq_true, beq_iff_eq, and_true]
  constructor
  · rintro ⟨a, b, c⟩; exact Prod.ext (tl_inj a) (Prod.ext b (tl_inj c))
  · rintro rfl; exact ⟨rfl, rfl, rfl⟩
theorem sameM_iff {f g : MarkM} : sameM f g = true ↔ f = g := by
  simp only [sameM, Bool.and_eq_true, beq_iff_eq, and_true]
  constructor
  · rintro ⟨a, b, c, d⟩; exact Prod.ext a (Prod.ext b (Prod.ext c d))
  · rintro rfl; exact ⟨rfl, rfl, rfl, rfl⟩
theorem cmpF (f g : FileM) : ∃ t1 t2 t3, ropPV .eqS [pS f.1, pS g.1] = some (pB t1) ∧ ropPV .eqI [pI f.2.1, pI g.2.1] = some (pB t2) ∧ ropPV .eqS [pS f.2.2, pS g.2.2] = some (pB t3) ∧ ropPV .allB [pB t1, pB t2, pB t3] = some (pB (sameF f g)) := ⟨_, _, _, rfl, rfl, rfl, rfl⟩
theorem cmpM (f g : MarkM) : ∃ t1 t2 t3 t4, ropPV .eqI [pI f.1, pI g.1] = some (pB t1) ∧ ropPV .eqI [pI f.2.1, pI g.2.1] = some (pB t2) ∧ ropPV .eqI [pI f.2.2.1, pI g.2.2.1] = some (pB t3) ∧ ropPV .eqI [pI f.2.2.2, pI g.2.2.2] = some (pB t4) ∧ ropPV .allB [pB t1, pB t2, pB t3, pB t4] = some (pB (sameM f g)) := ⟨_, _, _, _, rfl, rfl, rfl, rfl, rfl⟩
@[simp] theorem kSmF (k : Nat) : (ESmF k).k = k := rfl
@[simp] theorem kSmN (k : Nat) : (ESmN k).k = k := rfl
@[simp] theorem kSmS (k : Nat) : (ESmS k).k = k := rfl
def RSmF (ps qs : List PV) : Prop := ∃ xs ys : List FileM, xs.length ≤ 1000000 ∧ ys.length ≤ 1000000 ∧ ps = [pRow encF xs, pRow encF ys] ∧ qs = [pB (sameQ xs ys)]
def RSmG (ps qs : List PV) : Prop := ∃ xs ys : List MarkM, xs.length ≤ 1000000 ∧ ys.length ≤ 1000000 ∧ ps = [pRow encM xs, pRow encM ys] ∧ qs = [pB (sameQ xs ys)]

theorem cutA : flA = flA.take 4 ++ .block (blockId (nth flA 4)) (.loop (loopBody (nth flA 4))) :: flA.drop 5 := by kernel_rfl
set_option maxHeartbeats 1000000 in
theorem toldA (k : Nat) : ToldF 53 (ESmF k) (spec RSmF) := by
  refine told_by (fun _ _ => none) _ (bodyOf Try.prog 53) Try.func53 (by kernel_rfl) shA (by kernel_rfl) ?_ ?_
  · intro ps qs h i hi
    obtain ⟨xs, ys, _, _, rfl, rfl⟩ := of_spec h
    simp [shA] at hi
    match i, hi with
    | 0, hi => simp at hi
    | 1, hi => simp at hi
    | i + 2, hi => simp at hi
  · intro C ps qs hF h a w hsh
    obtain ⟨xs, ys, hx, hy, rfl, rfl⟩ := of_spec h
    show wpL Try.prog flA _ a w
    rw [cutA]
    by_cases hl : xs.length = ys.length
    · have hl' : (xs.length : Int) = (ys.length : Int) := by omega
      refine seg_ok names_ok mixed_ok fil.noOrc_ok Apre hsh ?_ ?_
      · simp only [List.mem_cons, List.not_mem_nil, or_false, forall_eq_or_imp, forall_eq]
        simp [-holds_idx, holds_idxP, holds_cellsP, Base.ev, SX.ev, evs, Value.oneCell', lenPV_row, binPV, hl']
      intro qs a1 w1 hq h1
      refine ⟨fun _ => ?_, fun h => absurd rfl h⟩
      simp [evs, SX.ev, lenPV_row] at hq
      subst hq
      refine block_loop (fun q a w => ∃ i : Nat, i ≤ xs.length ∧ q = xs.length - i ∧ (∀ j (h1 : j < xs.length) (h2 : j < ys.length), j < i → xs[j] = ys[j]) ∧ InShape C shAl [pRow encF xs, pRow encF ys, pI (xs.length : Int), pI (i : Int)] a w) ?_ (n := xs.length) ⟨0, by omega, by omega, fun j _ _ h => absurd h (by omega), h1⟩
      rintro q a w ⟨i, hi, rfl, hb, hin⟩
      show wpL Try.prog lpA _ a w
      rw [← List.append_nil lpA]
      by_cases hlt : i < xs.length
      · have hlt2 : i < ys.length := by omega
        obtain ⟨c0, c1, c2⟩ := cellF xs i hlt
        obtain ⟨d0, d1, d2⟩ := cellF ys i hlt2
        have ix := idxP_row encF xs i 3 3 .i64 rfl hlt (by decide)
        have iy := idxP_row encF ys i 3 3 .i64 rfl hlt2 (by decide)
        have v3 : IntKind.i64.wrap ((i : Int) + 1) = (i : Int) + 1 := wrapI _ (by omega) (by omega)
        obtain ⟨t1, t2, t3, r1, r2, r3, ra⟩ := cmpF xs[i] ys[i]
        by_cases he : xs[i] = ys[i]
        · rw [sameF_iff.2 he] at ra
          have rn : ropPV .notB [pB true] = some (pB false) := rfl
          have hnx : ∀ j (h1 : j < xs.length) (h2 : j < ys.length), j < i + 1 → xs[j] = ys[j] := fun j h1 h2 h3 => by
            by_cases hj : j = i
            · subst hj; exact he
            · exact hb j h1 h2 (by omega)
          clear hb he
          generalize xs[i] = xb at *
          generalize ys[i] = yb at *
          refine seg_ok names_ok mixed_ok fil.noOrc_ok Ago hin ?_ (fun qs a1 w1 hq h1 => ⟨fun _ => .inl ⟨rfl, xs.length - (i + 1), by omega, i + 1, by omega, rfl, hnx, by simp [evs, SX.ev, binPV, v3] at hq; subst hq; exact h1⟩, fun h => absurd rfl h⟩)
          simp only [List.mem_cons, List.not_mem_nil, or_false, forall_eq_or_imp, forall_eq]
          simp [-holds_idx, holds_idxP, holds_cellsP, Base.ev, SX.ev, evs, Value.oneCell', lenPV_row, binPV, v3, hlt, ix, iy, c0, c1, c2, d0, d1, d2, r1, r2, r3, ra, rn]
        · have hs : sameF xs[i] ys[i] = false := by rw [← Bool.not_eq_true]; exact fun h => he (sameF_iff.1 h)
          rw [hs] at ra
          have rn : ropPV .notB [pB false] = some (pB true) := rfl
          have hQ : sameQ xs ys = false := sameQ_no fun h => he (by subst h; rfl)
          rw [hQ] at *
          clear hb he hs
          generalize xs[i] = xb at *
          generalize ys[i] = yb at *
          refine seg_ok names_ok mixed_ok fil.noOrc_ok Ane hin ?_ ?_
          · simp only [List.mem_cons, List.not_mem_nil, or_false, forall_eq_or_imp, forall_eq]
            simp [-holds_idx, holds_idxP, holds_cellsP, Base.ev, SX.ev, evs, Value.oneCell', lenPV_row, binPV, v3, hlt, ix, iy, c0, c1, c2, d0, d1, d2, r1, r2, r3, ra, rn]
          · intro qs a1 w1 hq h1
            exact ⟨fun h => (by cases h), fun _ => .inr (.inr ⟨rfl, .inr rfl, shAR, qs, [SX.var 0], h1, by kernel_rfl, by simp [evs, SX.ev] at hq ⊢; subst hq; rfl⟩)⟩
      · have hie : i = xs.length := by omega
        subst hie
        have hQ : sameQ xs ys = true := sameQ_yes (List.ext_getElem hl fun j h1 h2 => hb j h1 h2 h1)
        rw [hQ] at *
        refine seg_ok names_ok mixed_ok fil.noOrc_ok Aex hin ?_ ?_
        · simp only [List.mem_cons, List.not_mem_nil, or_false, forall_eq_or_imp, forall_eq]
          simp [-holds_idx, holds_idxP, holds_cellsP, Base.ev, SX.ev, evs, Value.oneCell', lenPV_row, binPV]
        · intro qs a1 w1 hq h1
          refine ⟨fun h => (by cases h), fun _ => .inr (.inl ⟨by rw [show blockId (nth flA 4) = 0 by kernel_rfl]; rfl, ?_⟩)⟩
          simp [evs, SX.ev] at hq
          subst hq
          rw [← List.append_nil (flA.drop 5)]
          refine seg_ok names_ok mixed_ok fil.noOrc_ok Apost h1 ?_ (fun qs a1 w1 hq h1 => ⟨fun h => (by cases h), fun _ => ⟨.inr rfl, shAR, _, [SX.var 0], h1, by kernel_rfl, by simp [evs, SX.ev] at hq; subst hq; rfl⟩⟩)
          simp only [List.mem_cons, List.not_mem_nil, or_false, forall_eq_or_imp, forall_eq]
          simp [-holds_idx, holds_idxP, holds_cellsP, Base.ev, SX.ev, evs, Value.oneCell', lenPV_row]
    · have hl' : ¬ (xs.length : Int) = (ys.length : Int) := by omega
      have hQ : sameQ xs ys = false := sameQ_no fun h => hl (by rw [h])
      rw [hQ] at *
      refine seg_ok names_ok mixed_ok fil.noOrc_ok Ano hsh ?_ ?_
      · simp only [List.mem_cons, List.not_mem_nil, or_false, forall_eq_or_imp, forall_eq]
        simp [-holds_idx, holds_idxP, holds_cellsP, Base.ev, SX.ev, evs, Value.oneCell', lenPV_row, binPV, hl, hl']
      · intro qs a1 w1 hq h1
        exact ⟨fun h => (by cases h), fun _ => ⟨.inr rfl, shAR, _, [SX.var 0], h1, by kernel_rfl, by simp [evs, SX.ev] at hq; subst hq; rfl⟩⟩

theorem cutB : flB = flB.take 4 ++ .block (blockId (nth flB 4)) (.loop (loopBody (nth flB 4))) :: flB.drop 5 := by kernel_rfl
set_option maxHeartbeats 1000000 in
theorem toldB (k : Nat) : ToldF 54 (ESmF k) (spec RSmG) := by
  refine told_by (fun _ _ => none) _ (bodyOf Try.prog 54) Try.func54 (by kernel_rfl) shB (by kernel_rfl) ?_ ?_
  · intro ps qs h i hi
    obtain ⟨xs, ys, _, _, rfl, rfl⟩ := of_spec h
    simp [shB] at hi
    match i, hi with
    | 0, hi => simp at hi
    | 1, hi => simp at hi
    | i + 2, hi => simp at hi
  · intro C ps qs hF h a w hsh
    obtain ⟨xs, ys, hx, hy, rfl, rfl⟩ := of_spec h
    show wpL Try.prog flB _ a w
    rw [cutB]
    by_cases hl : xs.length = ys.length
    · have hl' : (xs.length : Int) = (ys.length : Int) := by omega
      refine seg_ok names_ok mixed_ok fil.noOrc_ok Bpre hsh ?_ ?_
      · simp only [List.mem_cons, List.not_mem_nil, or_false, forall_eq_or_imp, forall_eq]
        simp [-holds_idx, holds_idxP, holds_cellsP, Base.ev, SX.ev, evs, Value.oneCell', lenPV_row, binPV, hl']
      intro qs a1 w1 hq h1
      refine ⟨fun _ => ?_, fun h => absurd rfl h⟩
      simp [evs, SX.ev, lenPV_row] at hq
      subst hq
      refine block_loop (fun q a w => ∃ i : Nat, i ≤ xs.length ∧ q = xs.length - i ∧ (∀ j (h1 : j < xs.length) (h2 : j < ys.length), j < i → xs[j] = ys[j]) ∧ InShape C shBl [pRow encM xs, pRow encM ys, pI (xs.length : Int), pI (i : Int)] a w) ?_ (n := xs.length) ⟨0, by omega, by omega, fun j _ _ h => absurd h (by omega), h1⟩
      rintro q a w ⟨i, hi, rfl, hb, hin⟩
      show wpL Try.prog lpB _ a w
      rw [← List.append_nil lpB]
      by_cases hlt : i < xs.length
      · have hlt2 : i < ys.length := by omega
        obtain ⟨c0, c1, c2, c3⟩ := cellM4 xs i hlt
        obtain ⟨d0, d1, d2, d3⟩ := cellM4 ys i hlt2
        have ix := idxP_row encM xs i 4 4 .i64 rfl hlt (by decide)
        have iy := idxP_row encM ys i 4 4 .i64 rfl hlt2 (by decide)
        have v3 : IntKind.i64.wrap ((i : Int) + 1) = (i : Int) + 1 := wrapI _ (by omega) (by omega)
        obtain ⟨t1, t2, t3, t4, r1, r2, r3, r4, ra⟩ := cmpM xs[i] ys[i]
        by_cases he : xs[i] = ys[i]
        · rw [sameM_iff.2 he] at ra
          have rn : ropPV .notB [pB true] = some (pB false) := rfl
          have hnx : ∀ j (h1 : j < xs.length) (h2 : j < ys.length), j < i + 1 → xs[j] = ys[j] := fun j h1 h2 h3 => by
            by_cases hj : j = i
            · subst hj; exact he
            · exact hb j h1 h2 (by omega)
          clear hb he
          generalize xs[i] = xb at *
          generalize ys[i] = yb at *
          refine seg_ok names_ok mixed_ok fil.noOrc_ok Bgo hin ?_ (fun qs a1 w1 hq h1 => ⟨fun _ => .inl ⟨rfl, xs.length - (i + 1), by omega, i + 1, by omega, rfl, hnx, by simp [evs, SX.ev, binPV, v3] at hq; subst hq; exact h1⟩, fun h => absurd rfl h⟩)
          simp only [List.mem_cons, List.not_mem_nil, or_false, forall_eq_or_imp, forall_eq]
          simp [-holds_idx, holds_idxP, holds_cellsP, Base.ev, SX.ev, evs, Value.oneCell', lenPV_row, binPV, v3, hlt, ix, iy, c0, c1, c2, c3, d0, d1, d2, d3, r1, r2, r3, r4, ra, rn]
        · have hs : sameM xs[i] ys[i] = false := by rw [← Bool.not_eq_true]; exact fun h => he (sameM_iff.1 h)
          rw [hs] at ra
          have rn : ropPV .notB [pB false] = some (pB true) := rfl
          have hQ : sameQ xs ys = false := sameQ_no fun h => he (by subst h; rfl)
          rw [hQ] at *
          clear hb he hs
          generalize xs[i] = xb at *
          generalize ys[i] = yb at *
          refine seg_ok names_ok mixed_ok fil.noOrc_ok Bne hin ?_ ?_
          · simp only [List.mem_cons, List.not_mem_nil, or_false, forall_eq_or_imp, forall_eq]
            simp [-holds_idx, holds_idxP, holds_cellsP, Base.ev, SX.ev, evs, Value.oneCell', lenPV_row, binPV, v3, hlt, ix, iy, c0, c1, c2, c3, d0, d1, d2, d3, r1, r2, r3, r4, ra, rn]
          · intro qs a1 w1 hq h1
            exact ⟨fun h => (by cases h), fun _ => .inr (.inr ⟨rfl, .inr rfl, shBR, qs, [SX.var 0], h1, by kernel_rfl, by simp [evs, SX.ev] at hq ⊢; subst hq; rfl⟩)⟩
      · have hie : i = xs.length := by omega
        subst hie
        have hQ : sameQ xs ys = true := sameQ_yes (List.ext_getElem hl fun j h1 h2 => hb j h1 h2 h1)
        rw [hQ] at *
        refine seg_ok names_ok mixed_ok fil.noOrc_ok Bex hin ?_ ?_
        · simp only [List.mem_cons, List.not_mem_nil, or_false, forall_eq_or_imp, forall_eq]
          simp [-holds_idx, holds_idxP, holds_cellsP, Base.ev, SX.ev, evs, Value.oneCell', lenPV_row, binPV]
        · intro qs a1 w1 hq h1
          refine ⟨fun h => (by cases h), fun _ => .inr (.inl ⟨by rw [show blockId (nth flB 4) = 0 by kernel_rfl]; rfl, ?_⟩)⟩
          simp [evs, SX.ev] at hq
          subst hq
          rw [← List.append_nil (flB.drop 5)]
          refine seg_ok names_ok mixed_ok fil.noOrc_ok Bpost h1 ?_ (fun qs a1 w1 hq h1 => ⟨fun h => (by cases h), fun _ => ⟨.inr rfl, shBR, _, [SX.var 0], h1, by kernel_rfl, by simp [evs, SX.ev] at hq; subst hq; rfl⟩⟩)
          simp only [List.mem_cons, List.not_mem_nil, or_false, forall_eq_or_imp, forall_eq]
          simp [-holds_idx, holds_idxP, holds_cellsP, Base.ev, SX.ev, evs, Value.oneCell', lenPV_row]
    · have hl' : ¬ (xs.length : Int) = (ys.length : Int) := by omega
      have hQ : sameQ xs ys = false := sameQ_no fun h => hl (by rw [h])
      rw [hQ] at *
      refine seg_ok names_ok mixed_ok fil.noOrc_ok Bno hsh ?_ ?_
      · simp only [List.mem_cons, List.not_mem_nil, or_false, forall_eq_or_imp, forall_eq]
        simp [-holds_idx, holds_idxP, holds_cellsP, Base.ev, SX.ev, evs, Value.oneCell', lenPV_row, binPV, hl, hl']
      · intro qs a1 w1 hq h1
        exact ⟨fun h => (by cases h), fun _ => ⟨.inr rfl, shBR, _, [SX.var 0], h1, by kernel_rfl, by simp [evs, SX.ev] at hq; subst hq; rfl⟩⟩

theorem cutC : flC = flC.take 4 ++ .block (blockId (nth flC 4)) (.loop (loopBody (nth flC 4))) :: flC.drop 5 := by kernel_rfl
set_option maxHeartbeats 1000000 in
theorem toldC (k : Nat) : ToldF 45 (ESmF k) (spec RSmG) := by
  refine told_by (fun _ _ => none) _ (bodyOf Try.prog 45) Try.func45 (by kernel_rfl) shC (by kernel_rfl) ?_ ?_
  · intro ps qs h i hi
    obtain ⟨xs, ys, _, _, rfl, rfl⟩ := of_spec h
    simp [shC] at hi
    match i, hi with
    | 0, hi => simp at hi
    | 1, hi => simp at hi
    | i + 2, hi => simp at hi
  · intro C ps qs hF h a w hsh
    obtain ⟨xs, ys, hx, hy, rfl, rfl⟩ := of_spec h
    show wpL Try.prog flC _ a w
    rw [cutC]
    by_cases hl : xs.length = ys.length
    · have hl' : (xs.length : Int) = (ys.length : Int) := by omega
      refine seg_ok names_ok mixed_ok fil.noOrc_ok Cpre hsh ?_ ?_
      · simp only [List.mem_cons, List.not_mem_nil, or_false, forall_eq_or_imp, forall_eq]
        simp [-holds_idx, holds_idxP, holds_cellsP, Base.ev, SX.ev, evs, Value.oneCell', lenPV_row, binPV, hl']
      intro qs a1 w1 hq h1
      refine ⟨fun _ => ?_, fun h => absurd rfl h⟩
      simp [evs, SX.ev, lenPV_row] at hq
      subst hq
      refine block_loop (fun q a w => ∃ i : Nat, i ≤ xs.length ∧ q = xs.length - i ∧ (∀ j (h1 : j < xs.length) (h2 : j < ys.length), j < i → xs[j] = ys[j]) ∧ InShape C shCl [pRow encM xs, pRow encM ys, pI (i : Int)] a w) ?_ (n := xs.length) ⟨0, by omega, by omega, fun j _ _ h => absurd h (by omega), h1⟩
      rintro q a w ⟨i, hi, rfl, hb, hin⟩
      show wpL Try.prog lpC _ a w
      rw [← List.append_nil lpC]
      by_cases hlt : i < xs.length
      · have hlt2 : i < ys.length := by omega
        obtain ⟨c0, c1, c2, c3⟩ := cellM4 xs i hlt
        obtain ⟨d0, d1, d2, d3⟩ := cellM4 ys i hlt2
        have ix := idxP_row encM xs i 4 4 .i64 rfl hlt (by decide)
        have iy := idxP_row encM ys i 4 4 .i64 rfl hlt2 (by decide)
        have v3 : IntKind.i64.wrap ((i : Int) + 1) = (i : Int) + 1 := wrapI _ (by omega) (by omega)
        obtain ⟨t1, t2, t3, t4, r1, r2, r3, r4, ra⟩ := cmpM xs[i] ys[i]
        by_cases he : xs[i] = ys[i]
        · rw [sameM_iff.2 he] at ra
          have rn : ropPV .notB [pB true] = some (pB false) := rfl
          have hnx : ∀ j (h1 : j < xs.length) (h2 : j < ys.length), j < i + 1 → xs[j] = ys[j] := fun j h1 h2 h3 => by
            by_cases hj : j = i
            · subst hj; exact he
            · exact hb j h1 h2 (by omega)
          clear hb he
          generalize xs[i] = xb at *
          generalize ys[i] = yb at *
          refine seg_ok names_ok mixed_ok fil.noOrc_ok Cgo hin ?_ (fun qs a1 w1 hq h1 => ⟨fun _ => .inl ⟨rfl, xs.length - (i + 1), by omega, i + 1, by omega, rfl, hnx, by simp [evs, SX.ev, binPV, v3] at hq; subst hq; exact h1⟩, fun h => absurd rfl h⟩)
          simp only [List.mem_cons, List.not_mem_nil, or_false, forall_eq_or_imp, forall_eq]
          simp [-holds_idx, holds_idxP, holds_cellsP, Base.ev, SX.ev, evs, Value.oneCell', lenPV_row, binPV, v3, hlt, ix, iy, c0, c1, c2, c3, d0, d1, d2, d3, r1, r2, r3, r4, ra, rn]
        · have hs : sameM xs[i] ys[i] = false := by rw [← Bool.not_eq_true]; exact fun h => he (sameM_iff.1 h)
          rw [hs] at ra
          have rn : ropPV .notB [pB false] = some (pB true) := rfl
          have hQ : sameQ xs ys = false := sameQ_no fun h => he (by subst h; rfl)
          rw [hQ] at *
          clear hb he hs
          generalize xs[i] = xb at *
          generalize ys[i] = yb at *
          refine seg_ok names_ok mixed_ok fil.noOrc_ok Cne hin ?_ ?_
          · simp only [List.mem_cons, List.not_mem_nil, or_false, forall_eq_or_imp, forall_eq]
            simp [-holds_idx, holds_idxP, holds_cellsP, Base.ev, SX.ev, evs, Value.oneCell', lenPV_row, binPV, v3, hlt, ix, iy, c0, c1, c2, c3, d0, d1, d2, d3, r1, r2, r3, r4, ra, rn]
          · intro qs a1 w1 hq h1
            exact ⟨fun h => (by cases h), fun _ => .inr (.inr ⟨rfl, .inr rfl, shCR, qs, [SX.var 0], h1, by kernel_rfl, by simp [evs, SX.ev] at hq ⊢; subst hq; rfl⟩)⟩
      · have hie : i = xs.length := by omega
        subst hie
        have hQ : sameQ xs ys = true := sameQ_yes (List.ext_getElem hl fun j h1 h2 => hb j h1 h2 h1)
        rw [hQ] at *
        refine seg_ok names_ok mixed_ok fil.noOrc_ok Cex hin ?_ ?_
        · simp only [List.mem_cons, List.not_mem_nil, or_false, forall_eq_or_imp, forall_eq]
          simp [-holds_idx, holds_idxP, holds_cellsP, Base.ev, SX.ev, evs, Value.oneCell', lenPV_row, binPV]
        · intro qs a1 w1 hq h1
          refine ⟨fun h => (by cases h), fun _ => .inr (.inl ⟨by rw [show blockId (nth flC 4) = 0 by kernel_rfl]; rfl, ?_⟩)⟩
          simp [evs, SX.ev] at hq
          subst hq
          rw [← List.append_nil (flC.drop 5)]
          refine seg_ok names_ok mixed_ok fil.noOrc_ok Cpost h1 ?_ (fun qs a1 w1 hq h1 => ⟨fun h => (by cases h), fun _ => ⟨.inr rfl, shCR, _, [SX.var 0], h1, by kernel_rfl, by simp [evs, SX.ev] at hq; subst hq; rfl⟩⟩)
          simp only [List.mem_cons, List.not_mem_nil, or_false, forall_eq_or_imp, forall_eq]
          simp [-holds_idx, holds_idxP, holds_cellsP, Base.ev, SX.ev, evs, Value.oneCell', lenPV_row]
    · have hl' : ¬ (xs.length : Int) = (ys.length : Int) := by omega
      have hQ : sameQ xs ys = false := sameQ_no fun h => hl (by rw [h])
      rw [hQ] at *
      refine seg_ok names_ok mixed_ok fil.noOrc_ok Cno hsh ?_ ?_
      · simp only [List.mem_cons, List.not_mem_nil, or_false, forall_eq_or_imp, forall_eq]
        simp [-holds_idx, holds_idxP, holds_cellsP, Base.ev, SX.ev, evs, Value.oneCell', lenPV_row, binPV, hl, hl']
      · intro qs a1 w1 hq h1
        exact ⟨fun h => (by cases h), fun _ => ⟨.inr rfl, shCR, _, [SX.var 0], h1, by kernel_rfl, by simp [evs, SX.ev] at hq; subst hq; rfl⟩⟩

noncomputable def FQ : Fns := fun k => match k with | 1 => spec RSmG | 2 => spec RSmF | 3 => spec RSmG | _ => fun _ => none
theorem d1 : ToldF 45 (ESmN 1) (FQ 1) := told_kinds (toldC 1) rfl rfl rfl rfl rfl
theorem d2 : ToldF 53 (ESmN 2) (FQ 2) := told_kinds (toldA 2) rfl rfl rfl rfl rfl
theorem d3 : ToldF 54 (ESmN 3) (FQ 3) := told_kinds (toldB 3) rfl rfl rfl rfl rfl
end Go.Proofs.Ytnelcjofgpplgaa.sta
