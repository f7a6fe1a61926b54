/- What lasts behind each deed (the document's answer): opened, flushed, gone. -/
import Derived.Test.YtnelcjofgpplgaaSta
namespace Go.Proofs.Ytnelcjofgpplgaa.sta
open Go Go.RowKit eng SX Fact fil fileFronts dirs pck may
open fileFronts
open pck hiding F F20 F21
open dirs hiding shR shRl shRR flR lpR cutR f0 f1 f2 f3 m0 m1 m2
open may hiding m1 m2 m3 m4 r1 r2 r3 r4 r5
set_option linter.unusedVariables false
set_option linter.unusedSimpArgs false
set_option maxRecDepth 1000000

def EOpen (k : Nat) : FnE := { k := k, ins := [some 3, none, none, none], leaks := [], outs := [some 3, some 4], kinds := [.row, .row, .num, .num, .num, .num, .num] }
def EFlush (k : Nat) : FnE := { k := k, ins := [some 3, none, none, none, none], leaks := [], outs := [some 3, some 4], kinds := [.row, .row, .num, .num, .num, .num, .num] }
def EBoot (k : Nat) : FnE := { k := k, ins := [some 3], leaks := [true, true, true], outs := [some 3], kinds := [.row, .row, .num] }
def ENew (k : Nat) : FnE := { k := k, ins := [], leaks := [], outs := [some 3], kinds := [.row, .row, .num] }
def tabO (f : FuncId) : Option FnE := cond (Nat.beq f 35) (some (EName 1)) (cond (Nat.beq f 37) (some (EFind 2)) (cond (Nat.beq f 38) (some (ERoom 3)) (cond (Nat.beq f 36) (some (EMarked 4)) (cond (Nat.beq f 43) (some (EMay 5)) (cond (Nat.beq f 44) (some (EAll 6)) none)))))
def sbox (b : Bool) : BoxT := ⟨30, 0, false, [.leaf, .leaf, .leaf], none, false⟩
def zbox : BoxT := ⟨30, 0, false, [.nil, .nil, .leaf], none, false⟩
def mbox : BoxT := ⟨40, 0, false, [.leaf, .leaf, .leaf, .leaf], none, false⟩
def shU : Shape := ⟨[(0, .agg 3), (1, .leaf), (2, .leaf), (3, .leaf), (4, .leaf)], [], [some false, some false, none, none, none, none, some false], 91, 17⟩
def shUl : Shape := ⟨[(1, .leaf), (3, .leaf), (4, .leaf), (5, .ptr 0 0 0 0), (10, .ptr 1 0 0 0), (11, .ptr 2 0 0 0), (12, .ptr 3 0 0 0), (13, .leaf), (14, .leaf)], [sbox true, zbox, mbox, mbox], [none, none, some false, none, none, some false, some false, none, none, none, none, none, none, none, none, none, none], 91, 17⟩
def shUR : Shape := ⟨[(10, .ptr 0 0 0 0), (11, .ptr 1 0 0 0)], [sbox true, mbox], [some true, some true, none, none, none, none, none], 91, 17⟩
noncomputable def lpU := flat (loopBody (nth (flat (bodyOf Try.prog 17)) 6))
noncomputable def flU := flat (bodyOf Try.prog 17)
@[simp] def zStb1 : List SX := [.var 5, .var 6, .var 7, .var 0, .var 13, .var 14, .var 1, rop ROp.min2 [.bin .add (.cell (.var 5) (.bin .sub (.var 1) (.con (.int .i64 1))) 3 1) (.con (.int .i64 1)), .con (.int .i64 1073741824)], .var 1, .cell (.var 5) (.bin .sub (.var 1) (.con (.int .i64 1))) 3 0, rop ROp.min2 [.bin .add (.cell (.var 5) (.bin .sub (.var 1) (.con (.int .i64 1))) 3 1) (.con (.int .i64 1)), .con (.int .i64 1073741824)], .fn 6 [.cell (.var 5) (.bin .sub (.var 1) (.con (.int .i64 1))) 3 2, .var 2] 0]
@[simp] def zStb2 : List SX := [.var 0, .var 1, .var 2, .var 3, .var 4, .con (.int .i64 2), .con (.int .i64 0), .con (.int .i64 0), .con (.int .i64 0), .con (.string { data := { toList := [] } }), .con (.int .i64 0), .con (.string { data := { toList := [] } })]
@[simp] def zStb3 : List SX := [.var 5, .var 6, .var 7, .var 0, .var 13, .con (.int .i64 1), .var 15, .var 16, .con (.int .i64 0), .con (.string { data := { toList := [] } }), .con (.int .i64 0), .con (.string { data := { toList := [] } })]
@[simp] def zStb4 : List SX := [.var 0, .var 1, .var 2, .var 3, .var 4, .con (.int .i64 1), .con (.int .i64 0), .con (.int .i64 0), .con (.int .i64 0), .con (.string { data := { toList := [] } }), .con (.int .i64 0), .con (.string { data := { toList := [] } })]
@[simp] def zStb5 : SX := .con (.int .i64 1)
@[simp] def zStb6 : SX := .con (.int .i64 0)
@[simp] def zStb7 : SX := .bin .sub (.var 1) zStb5
@[simp] def zStb8 : List SX := [.fn 4 zStb2 0, .fn 4 zStb2 1, .fn 4 zStb2 2, .fn 4 zStb2 3, .fn 4 zStb2 4, .fn 4 zStb2 5, .fn 4 zStb2 6]
@[simp] def zStb9 : SX := .bin .neq (.cell (.var 0) (.bin .sub (.var 5) zStb5) 3 0) (.con (.string { data := { toList := [] } }))
@[simp] def zStb10 : SX := .bin .geq (.var 5) zStb5
@[simp] def zStb11 : SX := .bin .sub (.var 5) zStb5
theorem o0 : runTo Try.prog (orcFn tabO) 10000 15 (EOpen 9) [.row, .row, .num, .num, .num, .num] [0] hApp = some ([.ok (.var 2), .ok (.var 3), .ok (.var 4), .ok (.var 5), .fn 35 (EName 1) [.var 5], .is (.fn 1 [.var 5] 0) (.bool false), .fn 36 (EMarked 4) zStb4, .ok (.fn 4 zStb4 2), .ok (.fn 4 zStb4 3), .ok (.fn 4 zStb4 4), .ok (.fn 4 zStb4 5), .ok (.fn 4 zStb4 6)], [.fn 4 zStb4 0, .fn 4 zStb4 1, .fn 4 zStb4 2, .fn 4 zStb4 3, .fn 4 zStb4 4, .fn 4 zStb4 5, .fn 4 zStb4 6]) := by kernel_rfl
theorem g0 : runTo Try.prog (orcFn tabO) 10000 20 (EOpen 9) [.row, .row, .num, .num, .num, .num] [0] hApp = some ([.ok (.var 2), .ok (.var 3), .ok (.var 4), .ok (.var 5), .ok zStb10, .is zStb10 (.bool false), .fn 36 (EMarked 4) zStb2, .ok (.fn 4 zStb2 2), .ok (.fn 4 zStb2 3), .ok (.fn 4 zStb2 4), .ok (.fn 4 zStb2 5), .ok (.fn 4 zStb2 6)], zStb8) := by kernel_rfl
theorem u0 : segTo Try.prog (orcFn tabO) 10000 flU shU [0] shUR [(4, 0), (5, 0)] = some (.ret, [.ok zStb10, .is zStb10 (.bool false), .fn 36 (EMarked 4) zStb2, .ok (.fn 4 zStb2 2), .ok (.fn 4 zStb2 3), .ok (.fn 4 zStb2 4), .ok (.fn 4 zStb2 5), .ok (.fn 4 zStb2 6), .ok (.fn 4 zStb2 2), .ok (.fn 4 zStb2 3), .ok (.fn 4 zStb2 4), .ok (.fn 4 zStb2 5), .ok (.fn 4 zStb2 6)], zStb8) := by kernel_rfl
theorem v0 : segTo Try.prog (orcFn tabO) 10000 (flU.take 6) shU [1, 1, 1, 0] shUl [(3, 0), (4, 0), (5, 0), (6, 0)] = some (.normal, [.ok zStb10, .is zStb10 (.bool true), .ok (.len (.var 0)), .ok (.bin .leq (.var 5) (.len (.var 0))), .is (.bin .leq (.var 5) (.len (.var 0))) (.bool true), .ok zStb11, .idx (.var 0) zStb11 3 3, .idx (.var 0) zStb11 3 1, .ok (.cell (.var 0) zStb11 3 0), .ok zStb9, .is zStb9 (.bool true), .ok (.len (.var 6)), .ok (.bin .geq (.len (.var 6)) zStb5), .is (.bin .geq (.len (.var 6)) zStb5) (.bool false), .ok (.var 3), .ok (.var 5), .ok (.con (.bool false)), .ok zStb6, .ok (.var 2), .ok zStb6, .ok zStb6, .ok zStb6, .ok zStb6, .ok zStb6, .ok (.var 4), .ok zStb6, .ok zStb6, .ok zStb6], [.var 3, .var 5, .var 6, .con (.bool false), zStb6, .var 0, .var 1, .var 2, zStb6, zStb6, zStb6, zStb6, zStb6, .var 4, zStb6, zStb6, zStb6]) := by kernel_rfl
theorem l0 : segTo Try.prog (orcFn tabO) 10000 lpU shUl [1, 0] shUl [(0, 0), (1, 0), (2, 0), (3, 0)] = some (.normal, [.ok (.len (.var 2)), .ok (.bin .lss (.var 4) (.len (.var 2))), .is (.bin .lss (.var 4) (.len (.var 2))) (.bool true), .is (.var 3) (.bool false), .ok (.bin .add (.var 4) zStb5), .ok (.var 0), .ok (.var 1), .ok (.con (.bool false)), .ok (.bin .add (.var 4) zStb5), .ok (.var 7), .ok (.var 8), .ok (.var 9), .ok (.var 10), .ok (.var 11), .ok (.var 12), .ok (.var 13), .ok (.var 14), .ok (.var 15), .ok (.var 16)], [.var 0, .var 1, .var 2, .con (.bool false), .bin .add (.var 4) zStb5, .var 5, .var 6, .var 7, .var 8, .var 9, .var 10, .var 11, .var 12, .var 13, .var 14, .var 15, .var 16]) := by kernel_rfl
theorem w0 : segTo Try.prog (orcFn tabO) 10000 (flU.drop 7) shUl [0] shUR [(1, 0), (2, 0)] = some (.ret, [.is (.var 3) (.bool false), .fn 36 (EMarked 4) zStb3, .ok (.fn 4 zStb3 2), .ok (.fn 4 zStb3 3), .ok (.fn 4 zStb3 4), .ok (.fn 4 zStb3 5), .ok (.fn 4 zStb3 6), .ok (.fn 4 zStb3 2), .ok (.fn 4 zStb3 3), .ok (.fn 4 zStb3 4), .ok (.fn 4 zStb3 5), .ok (.fn 4 zStb3 6)], [.fn 4 zStb3 0, .fn 4 zStb3 1, .fn 4 zStb3 2, .fn 4 zStb3 3, .fn 4 zStb3 4, .fn 4 zStb3 5, .fn 4 zStb3 6]) := by kernel_rfl
theorem w1 : segTo Try.prog (orcFn tabO) 10000 (flU.drop 7) shUl [1] shUR [(1, 0), (2, 0)] = some (.ret, [.is (.var 3) (.bool true), .ok zStb7, .idx (.var 5) zStb7 3 3, .idx (.var 5) zStb7 3 3, .ok (.cell (.var 5) zStb7 3 0), .ok (.cell (.var 5) zStb7 3 1), .ok (.cell (.var 5) zStb7 3 2), .fn 44 (EAll 6) [.cell (.var 5) zStb7 3 2, .var 2], .ok (.fn 6 [.cell (.var 5) zStb7 3 2, .var 2] 0), .ok (.bin .add (.cell (.var 5) zStb7 3 1) zStb5), .ok (rop ROp.min2 [.bin .add (.cell (.var 5) zStb7 3 1) zStb5, .con (.int .i64 1073741824)]), .fn 36 (EMarked 4) zStb1, .ok (.fn 4 zStb1 2), .ok (.fn 4 zStb1 3), .ok (.fn 4 zStb1 4), .ok (.fn 4 zStb1 5), .ok (.fn 4 zStb1 6), .ok (.fn 4 zStb1 2), .ok (.fn 4 zStb1 3), .ok (.fn 4 zStb1 4), .ok (.fn 4 zStb1 5), .ok (.fn 4 zStb1 6)], [.fn 4 zStb1 0, .fn 4 zStb1 1, .fn 4 zStb1 2, .fn 4 zStb1 3, .fn 4 zStb1 4, .fn 4 zStb1 5, .fn 4 zStb1 6]) := by kernel_rfl

@[simp] theorem kOpen (k : Nat) : (EOpen k).k = k := rfl
@[simp] theorem kFlush (k : Nat) : (EFlush k).k = k := rfl
@[simp] theorem kBoot (k : Nat) : (EBoot k).k = k := rfl
@[simp] theorem kNew (k : Nat) : (ENew k).k = k := rfl
structure StOk (s : StM) : Prop where
  fl : s.files.length ≤ 1000000
  ml : s.marks.length ≤ 1000000
  fv : ∀ f ∈ s.files, -1000000000000 ≤ f.2.1 ∧ f.2.1 ≤ 1000000000000 ∧ f.2.2.size ≤ 1000
  ep : -1000000000000 ≤ s.epoch ∧ s.epoch ≤ 1000000000000
def f00 : FileM := (e0, 0, e0)
def openS (s : StM) (c seq : Int) (name : ByteArray) : StM × MarkM :=
  if okN name then match s.files.findIdx? (isN name) with
    | some i => (marked s c (seq, 0, (i : Int) + 1, (s.files.getD i f00).2.1) 0 f00, (seq, 0, (i : Int) + 1, (s.files.getD i f00).2.1))
    | none => match s.files.findIdx? (isN e0) with
      | some i => (marked s c (seq, 0, (i : Int) + 1, 1) ((i : Int) + 1) (name, 1, e0), (seq, 0, (i : Int) + 1, 1))
      | none => (marked s c (seq, 3, 0, 0) 0 f00, (seq, 3, 0, 0))
  else (marked s c (seq, 1, 0, 0) 0 f00, (seq, 1, 0, 0))
def isF (s : StM) (file : Int) : Bool := decide (1 ≤ file) && decide (file ≤ s.files.length) && !((s.files.getD (file.toNat - 1) f00).1.toList == e0.toList)
def goneS (s : StM) (c seq file : Int) : StM × MarkM :=
  if isF s file then (marked s c (seq, 0, file, 0) file f00, (seq, 0, file, 0)) else (marked s c (seq, 2, 0, 0) 0 f00, (seq, 2, 0, 0))
def written (f : FileM) (l : List (Int × ByteArray)) : FileM := (f.1, min (f.2.1 + 1) 1073741824, bs (allW f.2.2.data.toList l))
def newS : StM := ⟨List.replicate 6 f00, List.replicate 3 (0, 0, 0, 0), 0⟩
noncomputable def FO : Fns := fun k => match k with | 1 => spec RName | 2 => spec RFind | 3 => spec RRoom | 4 => spec RMarked | 5 => spec RMay | 6 => spec RAll | _ => fun _ => none
theorem z1 : ToldF 35 (EName 1) (FO 1) := toldName 1
theorem z2 : ToldF 37 (EFind 2) (FO 2) := toldRefFind 2
theorem z3 : ToldF 38 (ERoom 3) (FO 3) := toldRefRoom 3
theorem z4 : ToldF 36 (EMarked 4) (FO 4) := toldMarked 4
theorem z5 : ToldF 43 (EMay 5) (FO 5) := toldRef 5
theorem z6 : ToldF 44 (EAll 6) (FO 6) := ral.told 6
theorem pSt_inj {s s' : StM} (h1 : pRow encF s.files = pRow encF s'.files) (h2 : pRow encM s.marks = pRow encM s'.marks) (h3 : s.epoch = s'.epoch) : s = s' := by
  cases s; cases s'
  simp only at h1 h2 h3
  rw [fil.pRow_inj encF_inj h1, fil.pRow_inj encM_inj h2, h3]

theorem isF_yes {fs : List FileM} {ms : List MarkM} {ep file : Int} (h1 : 1 ≤ file) (h2 : file ≤ fs.length) : ∃ j : Nat, ∃ hj : j < fs.length, file = (j : Int) + 1 ∧ fs.getD (file.toNat - 1) f00 = fs[j] ∧ isF ⟨fs, ms, ep⟩ file = !(fs[j].1.toList == e0.toList) := by
  refine ⟨file.toNat - 1, by omega, by omega, ?_, ?_⟩
  · simp [List.getD, show file.toNat - 1 < fs.length by omega]
  · simp [isF, h1, h2, List.getD, show file.toNat - 1 < fs.length by omega]

def RNew (ps qs : List PV) : Prop := ps = [] ∧ qs = pSt newS
theorem fNew : ∀ ps q1 q2, RNew ps q1 → RNew ps q2 → q1 = q2 := by
  rintro ps q1 q2 ⟨_, rfl⟩ ⟨_, rfl⟩; rfl

end Go.Proofs.Ytnelcjofgpplgaa.sta
