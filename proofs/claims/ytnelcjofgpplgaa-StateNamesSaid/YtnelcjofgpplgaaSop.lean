/- What lasts behind each deed (package state): opened, flushed, gone, begun anew, new. -/
import Derived.Test.YtnelcjofgpplgaaSmb
namespace Go.Proofs.Ytnelcjofgpplgaa.sta
open Go Go.RowKit eng SX Fact fil fileFronts dirs pck may
open fileFronts
open pck hiding F F20 F21
open dirs hiding shR shRl shRR flR lpR cutR f0 f1 f2 f3 m0 m1 m2 x2 x3 n1
open may hiding m1 m2 m3 m4 r1 r2 r3 r4 r5
set_option linter.unusedVariables false
set_option linter.unusedSimpArgs false
set_option maxRecDepth 1000000

def fbo (k : Nat) : BoxT := ⟨56, 3, true, [], some k, false⟩
def mbo (k : Nat) : BoxT := ⟨40, 4, true, [], some k, false⟩
noncomputable def flCp := flat (bodyOf Try.prog 47)
def ECp (k : Nat) : FnE := { k := k, ins := [some 3], leaks := [false, false, false], outs := [some 3], kinds := [.own 56 3 false, .own 40 4 false, .num] }
def shCp : Shape := ⟨[(0, .agg 3)], [], [some false, some false, none], 14, 47⟩
def shCpR : Shape := ⟨[(2, .ptr 0 0 0 0)], [⟨30, 0, false, [.own 1 1 3, .own 2 2 4, .leaf], none, false⟩, fbo 1, mbo 2], [none], 14, 47⟩
def tabOf (f : FuncId) : Option FnE := cond (Nat.beq f 62) (some (EFind 1)) (cond (Nat.beq f 61) (some (EName 7)) (cond (Nat.beq f 63) (some (ERoom 8)) (cond (Nat.beq f 60) (some (EPutM 9)) (cond (Nat.beq f 65) (some (EMay 10)) (cond (Nat.beq f 66) (some (EAll 11)) (cond (Nat.beq f 55) (some (ENewM 12)) (cond (Nat.beq f 47) (some (ECp 13)) none)))))))
def orcO : Orc := orcOr (orcFn tabOf) (orcX tabNx)
@[simp] def zSop1 : List SX := [.var 0, .var 1, .var 2]
@[simp] def zSop2 : SX := .con (.int .i64 0)
@[simp] def zSop3 : SX := .fn 13 zSop1 0
@[simp] def zSop4 : SX := .con (.int .i64 1)
@[simp] def zSop5 : SX := .con (.string { data := { toList := [] } })
@[simp] def zSop6 : Fact := same (.len (.fn 13 zSop1 1)) (.len (.fn 13 zSop1 1))
@[simp] def zSop7 : List SX := [.var 4, zSop4, .con (.int .i64 1073741824)]
@[simp] def zSop8 : Fact := Fact.fx 51 (EMb 5) ([pvS1, pvS2, pvS3]) [zSop3, .fn 13 zSop1 1, .fn 13 zSop1 2]
@[simp] def zSop9 : Fact := same (.len zSop3) (.len zSop3)
@[simp] def zSop10 : List SX := [.var 3, zSop4, .con (.int .i64 3)]
@[simp] def zSop11 : Fact := .is (.fn 5 [zSop3, .fn 13 zSop1 1, .fn 13 zSop1 2] 0) (.int .i64 0)
@[simp] def zSop12 : SX := rop (ROp.upd 3 0) [zSop3, .bin .sub (.fn 8 [zSop3] 0) zSop4, .var 5, zSop4, zSop5]
@[simp] def zSop13 : List SX := [.fn 13 zSop1 1, .var 3, .var 4, .con (.int .i64 2), zSop2, zSop2]
@[simp] def zSop14 : SX := .bin .sub (.var 5) zSop4
@[simp] def zSop15 : SX := .bin .add zSop2 (.len (.var 0))
@[simp] def zSop16 : SX := .bin .add zSop2 (.len (.var 1))
@[simp] def zSop17 : SX := .bin .sub (.fn 8 [zSop3] 0) zSop4
@[simp] def zSop18 : Fact := Fact.fx 73 (EFr 2) ([pvS3]) zSop10
@[simp] def zSop19 : Fact := .is (.fn 2 zSop10 0) (.int .i64 0)
@[simp] def zSop20 : Fact := Fact.fx 73 (EFr 2) ([pvS3]) zSop7
@[simp] def zSop21 : Fact := .is (.fn 2 zSop7 0) (.int .i64 0)
@[simp] def zSop22 : SX := .fn 1 [zSop3, .var 5] 0
@[simp] def zSop23 : List SX := [zSop3, .fn 9 zSop13 0, .fn 13 zSop1 2, .var 4, .con (.int .i64 2), zSop2, zSop2]
@[simp] def zSop24 : SX := .len (rop (ROp.rep [.string { data := { toList := [] } }, .int .i64 0, .string { data := { toList := [] } }]) [.bin .sub zSop15 zSop2])
@[simp] def zSop25 : SX := .bin .lss (.var 5) zSop4
@[simp] def zSop26 : SX := .bin .gtr (.var 5) (.len zSop3)
@[simp] def zSop27 : Fact := .fn 47 (ECp 13) zSop1
@[simp] def zSop28 : SX := .bin .eql (.cell zSop3 zSop14 3 0) zSop5
@[simp] def zSop29 : Fact := .ok (.fn 13 zSop1 2)
@[simp] def zSop30 : SX := .len (rop (ROp.rep [.int .i64 0, .int .i64 0, .int .i64 0, .int .i64 0]) [.bin .sub zSop16 zSop2])
@[simp] def zSop31 : List SX := [.fn 13 zSop1 1, .var 3, .var 4, zSop2, zSop22, .cell zSop3 (.bin .sub zSop22 zSop4) 3 1]
@[simp] def zSop32 : SX := rop ROp.cat [.lit 0 [], .var 0]
@[simp] def zSop33 : SX := rop ROp.cat [.lit 0 [], .var 1]
@[simp] def zSop34 : List SX := [.fn 13 zSop1 1, .var 3, .var 4, zSop2, .fn 8 [zSop3] 0, .cell zSop12 zSop17 3 1]
@[simp] def zSop35 : List SX := [.fn 13 zSop1 1, .var 3, .var 4, .con (.int .i64 3), zSop2, zSop2]
@[simp] def zSop36 : Fact := .is (.fn 7 [.var 5] 0) (.bool true)
@[simp] def zSop37 : Fact := .fn 61 (EName 7) [.var 5]
@[simp] def zSop38 : Fact := .fn 62 (EFind 1) [zSop3, .var 5]
@[simp] def zSop39 : SX := .bin .lss zSop15 zSop2
@[simp] def zSop40 : SX := .bin .sub zSop15 zSop2
@[simp] def zSop41 : SX := .bin .lss zSop16 zSop2
@[simp] def zSop42 : SX := .bin .sub zSop16 zSop2
@[simp] def zSop43 : Fact := .ok (.var 2)
@[simp] def zSop44 : SX := .bin .sub zSop22 zSop4
@[simp] def zSop45 : List SX := [.fn 13 zSop1 1, .var 3, .var 4, zSop2, .var 5, zSop2]
@[simp] def zSop46 : SX := rop (ROp.upd 3 0) [zSop3, zSop14, zSop5, zSop2, zSop5]
theorem cp : segTo Try.prog fil.noOrc 10000 flCp shCp [0, 0, 1, 1, 0, 0, 1, 1] shCpR [(3, 0), (5, 2), (7, 2)] hApp = some (.ret, [.ok (.len (.var 0)), .ok zSop15, .ok zSop39, .is zSop39 (.bool false), .ok zSop39, .is zSop39 (.bool false), .ok zSop40, .ok (.bin .gtr zSop40 zSop2), .is (.bin .gtr zSop40 zSop2) (.bool true), upto zSop40 4294967296, rng zSop2 zSop24, upto zSop24 4294967296, cells (.var 0) 3, same zSop2 (.len (.lit 0 [])), upto (.len zSop32) 4294967296, .ok (.len (.var 1)), .ok zSop16, .ok zSop41, .is zSop41 (.bool false), .ok zSop41, .is zSop41 (.bool false), .ok zSop42, .ok (.bin .gtr zSop42 zSop2), .is (.bin .gtr zSop42 zSop2) (.bool true), upto zSop42 4294967296, rng zSop2 zSop30, upto zSop30 4294967296, cells (.var 1) 4, same zSop2 (.len (.lit 0 [])), upto (.len zSop33) 4294967296, zSop43, same (.len zSop32) (.len zSop32), same (.len zSop33) (.len zSop33)], [.var 2, zSop32, zSop33]) := by kernel_rfl
theorem nwP : runTo Try.prog orcO 10000 27 (ENew 14) [] [] hApp = some ([.fn 55 (ENewM 12) [.con (.int .i64 3)]], [.lit 6 [zSop5, zSop2, zSop5, zSop5, zSop2, zSop5, zSop5, zSop2, zSop5, zSop5, zSop2, zSop5, zSop5, zSop2, zSop5, zSop5, zSop2, zSop5], .fn 12 [.con (.int .i64 3)] 0, zSop2]) := by kernel_rfl
theorem on : runTo Try.prog orcO 10000 14 (EOpen 14) [.row, .row, .num, .num, .num, .num] [0, 0, 0, 0] hApp = some ([zSop43, .ok (.var 3), .ok (.var 4), .ok (.var 5), zSop27, zSop29, zSop8, zSop11, zSop9, zSop6, zSop18, zSop19, zSop20, zSop21, zSop37, .is (.fn 7 [.var 5] 0) (.bool false), .fn 60 (EPutM 9) [.fn 13 zSop1 1, .var 3, .var 4, zSop4, zSop2, zSop2], zSop6, zSop9], [zSop3, .fn 9 [.fn 13 zSop1 1, .var 3, .var 4, zSop4, zSop2, zSop2] 0, .fn 13 zSop1 2, .var 4, zSop4, zSop2, zSop2]) := by kernel_rfl
theorem of : runTo Try.prog orcO 10000 14 (EOpen 14) [.row, .row, .num, .num, .num, .num] [0, 0, 0, 1, 1] hApp = some ([zSop43, .ok (.var 3), .ok (.var 4), .ok (.var 5), zSop27, zSop29, zSop8, zSop11, zSop9, zSop6, zSop18, zSop19, zSop20, zSop21, zSop37, zSop36, zSop38, zSop9, .ok zSop22, .is (.fn 1 [zSop3, .var 5] 1) (.bool true), .ok zSop44, rng zSop44 (.len zSop3), .idx zSop3 zSop44 3 2, .fn 60 (EPutM 9) zSop31, zSop6, zSop9], [zSop3, .fn 9 zSop31 0, .fn 13 zSop1 2, .var 4, zSop2, zSop22, .cell zSop3 zSop44 3 1]) := by kernel_rfl
theorem or1 : runTo Try.prog orcO 10000 14 (EOpen 14) [.row, .row, .num, .num, .num, .num] [0, 0, 0, 1, 0, 1] hApp = some ([zSop43, .ok (.var 3), .ok (.var 4), .ok (.var 5), zSop27, zSop29, zSop8, zSop11, zSop9, zSop6, zSop18, zSop19, zSop20, zSop21, zSop37, zSop36, zSop38, zSop9, .ok zSop22, .is (.fn 1 [zSop3, .var 5] 1) (.bool false), .fn 63 (ERoom 8) [zSop3], zSop9, .ok (.fn 8 [zSop3] 0), .is (.fn 8 [zSop3] 1) (.bool true), .ok zSop17, rng zSop17 (.len zSop3), .idx zSop3 zSop17 3 3, .ok zSop17, rng zSop17 (.len zSop3), .idx zSop12 zSop17 3 2, .fn 60 (EPutM 9) zSop34, zSop6, same (.len zSop3) (.len zSop12)], [zSop12, .fn 9 zSop34 0, .fn 13 zSop1 2, .var 4, zSop2, .fn 8 [zSop3] 0, .cell zSop12 zSop17 3 1]) := by kernel_rfl
theorem ox : runTo Try.prog orcO 10000 14 (EOpen 14) [.row, .row, .num, .num, .num, .num] [0, 0, 0, 1, 0, 0] hApp = some ([zSop43, .ok (.var 3), .ok (.var 4), .ok (.var 5), zSop27, zSop29, zSop8, zSop11, zSop9, zSop6, zSop18, zSop19, zSop20, zSop21, zSop37, zSop36, zSop38, zSop9, .ok zSop22, .is (.fn 1 [zSop3, .var 5] 1) (.bool false), .fn 63 (ERoom 8) [zSop3], zSop9, .ok (.fn 8 [zSop3] 0), .is (.fn 8 [zSop3] 1) (.bool false), .fn 60 (EPutM 9) zSop35, zSop6, zSop9], [zSop3, .fn 9 zSop35 0, .fn 13 zSop1 2, .var 4, .con (.int .i64 3), zSop2, zSop2]) := by kernel_rfl
theorem gy : runTo Try.prog orcO 10000 19 (EOpen 14) [.row, .row, .num, .num, .num, .num] [0, 0, 0, 0, 0, 0] hApp = some ([zSop43, .ok (.var 3), .ok (.var 4), .ok (.var 5), zSop27, zSop29, zSop8, zSop11, zSop9, zSop6, zSop18, zSop19, zSop20, zSop21, .ok zSop25, .is zSop25 (.bool false), .ok zSop26, .is zSop26 (.bool false), .ok zSop14, rng zSop14 (.len zSop3), .idx zSop3 zSop14 3 1, .ok zSop28, .is zSop28 (.bool false), .ok zSop14, rng zSop14 (.len zSop3), .idx zSop3 zSop14 3 3, .fn 60 (EPutM 9) zSop45, zSop6, same (.len zSop3) (.len zSop46)], [zSop46, .fn 9 zSop45 0, .fn 13 zSop1 2, .var 4, zSop2, .var 5, zSop2]) := by kernel_rfl
theorem gn1 : runTo Try.prog orcO 10000 19 (EOpen 14) [.row, .row, .num, .num, .num, .num] [0, 0, 0, 1] hApp = some ([zSop43, .ok (.var 3), .ok (.var 4), .ok (.var 5), zSop27, zSop29, zSop8, zSop11, zSop9, zSop6, zSop18, zSop19, zSop20, zSop21, .ok zSop25, .is zSop25 (.bool true), .fn 60 (EPutM 9) zSop13, zSop6, zSop9], zSop23) := by kernel_rfl
theorem gn2 : runTo Try.prog orcO 10000 19 (EOpen 14) [.row, .row, .num, .num, .num, .num] [0, 0, 0, 0, 1] hApp = some ([zSop43, .ok (.var 3), .ok (.var 4), .ok (.var 5), zSop27, zSop29, zSop8, zSop11, zSop9, zSop6, zSop18, zSop19, zSop20, zSop21, .ok zSop25, .is zSop25 (.bool false), .ok zSop26, .is zSop26 (.bool true), .fn 60 (EPutM 9) zSop13, zSop6, zSop9], zSop23) := by kernel_rfl
theorem gn3 : runTo Try.prog orcO 10000 19 (EOpen 14) [.row, .row, .num, .num, .num, .num] [0, 0, 0, 0, 0, 1] hApp = some ([zSop43, .ok (.var 3), .ok (.var 4), .ok (.var 5), zSop27, zSop29, zSop8, zSop11, zSop9, zSop6, zSop18, zSop19, zSop20, zSop21, .ok zSop25, .is zSop25 (.bool false), .ok zSop26, .is zSop26 (.bool false), .ok zSop14, rng zSop14 (.len zSop3), .idx zSop3 zSop14 3 1, .ok zSop28, .is zSop28 (.bool true), .fn 60 (EPutM 9) zSop13, zSop6, zSop9], zSop23) := by kernel_rfl

@[simp] theorem kCpS (k : Nat) : (ECp k).k = k := rfl
theorem r_repF (n : Nat) : ropPV (.rep [.string ⟨⟨[]⟩⟩, .int .i64 0, .string ⟨⟨[]⟩⟩]) [pI (n : Int)] = some (pRow encF (List.replicate n f00)) := by
  have h0 : (0 : Int) ≤ (n : Int) := by omega
  have : ∀ k : Nat, (List.replicate k (List.map PV.v [Value.string ⟨⟨[]⟩⟩, .int .i64 0, .string ⟨⟨[]⟩⟩])).flatten = (encF.all (List.replicate k f00)).map PV.v := fun k => by
    induction k with
    | zero => rfl
    | succ k ih => rw [List.replicate_succ, List.flatten_cons, ih, List.replicate_succ, Enc.all_cons, List.map_append]; rfl
  simp only [ropPV, h0, decide_true, cond_true, Int.toNat_natCast, this, pRow, List.length_replicate]
def RCpS (ps qs : List PV) : Prop := ∃ s : StM, 1 ≤ s.files.length ∧ s.files.length ≤ 1000000 ∧ 1 ≤ s.marks.length ∧ s.marks.length ≤ 1000000 ∧ ps = pSt s ∧ qs = pSt s
theorem fCpS : ∀ ps q1 q2, RCpS ps q1 → RCpS ps q2 → q1 = q2 := by
  rintro ps q1 q2 ⟨s, _, _, _, _, rfl, rfl⟩ ⟨s', _, _, _, _, h, rfl⟩
  exact h
theorem toldCpS (k : Nat) : ToldF 47 (ECp k) (spec RCpS) := by
  refine told_byO (fun _ _ => none) _ (bodyOf Try.prog 47) Try.func47 (by kernel_rfl) shCp (by kernel_rfl) ?_ ?_
  · intro ps qs h i hi
    obtain ⟨s, _, _, _, _, rfl, rfl⟩ := of_spec h
    simp [shCp] at hi
    match i, hi with
    | 0, hi => simp at hi
    | 1, hi => simp at hi
    | 2, hi => exact ⟨_, rfl, rfl⟩
    | i + 3, hi => simp at hi
  · intro C ps qs hF h a w hsh
    obtain ⟨⟨fs, ms, ep⟩, h1, h2, h3, h4, rfl, rfl⟩ := of_spec h
    have h1 : 1 ≤ fs.length := h1
    have h2 : fs.length ≤ 1000000 := h2
    have h3 : 1 ≤ ms.length := h3
    have h4 : ms.length ≤ 1000000 := h4
    show wpL Try.prog flCp _ a w
    rw [← List.append_nil flCp]
    have cf := cellsP_row encF fs 3 rfl (by omega)
    have rcf := r_cat0 encF fs
    have wf : IntKind.i64.wrap (fs.length : Int) = (fs.length : Int) := wrapI _ (by omega) (by omega)
    have rrf := r_repF fs.length
    have rlf : (List.replicate fs.length f00).length = fs.length := by simp
    have cm := cellsP_row encM ms 4 rfl (by omega)
    have rcm := r_cat0 encM ms
    have wm : IntKind.i64.wrap (ms.length : Int) = (ms.length : Int) := wrapI _ (by omega) (by omega)
    have rrm := r_repM ms.length
    have rlm : (List.replicate ms.length m0).length = ms.length := by simp
    generalize List.replicate fs.length f00 = lf at *
    generalize List.replicate ms.length m0 = lm at *
    refine seg_ok names_ok mixed_ok fil.noOrc_ok cp hsh ?_ (fun qs a1 w1 hq hx => ⟨fun h => (by cases h), fun _ => ⟨.inr rfl, shCpR, _, [SX.var 1, SX.var 2, SX.var 0], [], hx, by kernel_rfl, by simp [evs, SX.ev, rcf, rcm] at hq; subst hq; rfl, by simp⟩⟩)
    simp only [List.mem_cons, List.not_mem_nil, or_false, forall_eq_or_imp, forall_eq]
    simp [-holds_idx, holds_idxP, holds_cellsP, Base.ev, SX.ev, evs, Value.oneCell', lenPV_row, lenPV_r, binPV, cf, cm, rcf, rcm, wf, wm, rrf, rrm, rlf, rlm]
    all_goals omega
noncomputable def FP : Fns := fun k => match k with | 1 => spec RFind | 2 => spec RFr | 5 => spec RMb | 7 => spec RName | 8 => spec RRoom | 9 => spec RPutP | 10 => spec RMay | 11 => spec RAll | 12 => spec RNewM | 13 => spec RCpS | _ => fun _ => none
theorem pp1 : ToldF 62 (EFind 1) (FP 1) := toldFind 1
theorem pp2 : ToldX 73 (EFr 2) [pvS3] (FP 2) := toldFr 2
theorem pp5 : ToldX 51 (EMb 5) [pvS1, pvS2, pvS3] (FP 5) := toldMb 5
theorem pp7 : ToldF 61 (EName 7) (FP 7) := toldMayN 7
theorem pp8 : ToldF 63 (ERoom 8) (FP 8) := toldRoom 8
theorem pp9 : ToldF 60 (EPutM 9) (FP 9) := toldPutP 9
theorem pp12 : ToldF 55 (ENewM 12) (FP 12) := toldNewM 12
theorem pp13 : ToldF 47 (ECp 13) (FP 13) := toldCpS 13
theorem FP1 {l : List FileM} {s : ByteArray} (h : l.length ≤ 1000000) (hs : s.size ≤ 1000000) : FP 1 [pRow encF l, pS s] = some (ansQ (findN l s)) := spec_of fFind ⟨l, s, h, by omega, rfl, rfl⟩
theorem FP2 {n a b : Int} (h1 : a ≤ n) (h2 : n ≤ b) : FP 2 [pI n, pI a, pI b] = some [pI 0] := spec_of fFr ⟨n, a, b, rfl, by simp [numB, bad01, h1, h2]⟩
theorem MayS.pre {s : StM} (h : MayS s) : MayPre s := by
  refine ⟨by rw [h.fl]; omega, by rw [h.ml]; omega, fun f hf => ?_⟩
  obtain ⟨j, hj, rfl⟩ := List.getElem_of_mem hf
  rcases h.fv j hj with h0 | ⟨h1, _, _, h4⟩
  · rw [isE0_eq h0]; simp only [f00, e0]; decide
  · have := (findN_some.1 h1).1
    simp only [dirs.okN, Bool.and_eq_true, decide_eq_true_eq] at this
    all_goals omega
theorem FP5 {s : StM} (h : MayS s) : FP 5 [pRow encF s.files, pRow encM s.marks, pI s.epoch] = some [pI 0] := spec_of fMb ⟨s, h.pre, rfl, by rw [mayS_iff.2 h]; rfl⟩
theorem FP7 {s : ByteArray} (h : s.size ≤ 1000000) : FP 7 [pS s] = some [pB (okN s)] := spec_of fName ⟨s, by omega, rfl, rfl⟩
theorem FP8 {l : List FileM} (h : l.length ≤ 1000000) : FP 8 [pRow encF l] = some (ansQ (l.findIdx? (isN e0))) := spec_of fRoom ⟨l, h, rfl, rfl⟩
theorem FP9 {s : StM} (h : MayS s) {c m1 m2 m3 m4 : Int} (h1 : 1 ≤ c) (h2 : c ≤ 3) : FP 9 [pRow encM s.marks, pI c, pI m1, pI m2, pI m3, pI m4] = some [pRow encM (putMk s.marks c (m1, m2, m3, m4))] :=
  spec_of fPutP ⟨s.marks, c, (m1, m2, m3, m4), by rw [h.ml]; omega, by rw [h.ml]; omega, by omega, by omega, rfl, rfl⟩
theorem FP13 {s : StM} (h : MayS s) : FP 13 [pRow encF s.files, pRow encM s.marks, pI s.epoch] = some [pRow encF s.files, pRow encM s.marks, pI s.epoch] :=
  spec_of fCpS ⟨s, by rw [h.fl]; omega, by rw [h.fl]; omega, by rw [h.ml]; omega, by rw [h.ml]; omega, rfl, rfl⟩
theorem orcO_ok : OrcOk Try.prog orcO := orcOr_ok (orcFn_ok tabOf) (orcX_ok tabNx)

theorem toldNewP (k : Nat) : ToldF 27 (ENew k) (spec RNew) := by
  refine told_of mixed_ok names_ok FP [] ?_
  intro ps qs h _
  obtain ⟨rfl, rfl⟩ := of_spec h
  have g : FP 12 [pI 3] = some [pRow encM (List.replicate 3 m0)] := spec_of fNewM ⟨3, by omega, by omega, rfl, rfl⟩
  refine ⟨_, _, _, _, _, _, orcO_ok, nwP, fun w FP => ?_, ?_⟩
  · simp only [List.mem_cons, List.not_mem_nil, or_false, forall_eq_or_imp, forall_eq]
    simp [-holds_idx, holds_idxP, holds_cellsP, Base.ev, SX.ev, evs, Value.oneCell', g, pp12]
  · simp [evs, SX.ev, g]
    exact ⟨rfl, rfl, rfl⟩

def ROpenP (ps qs : List PV) : Prop := ∃ (s : StM) (c seq : Int) (name : ByteArray), MayS s ∧ 1 ≤ c ∧ c ≤ 3 ∧ 1 ≤ seq ∧ seq ≤ 1073741824 ∧ name.size ≤ 1000000 ∧ ps = pSt s ++ [pI c, pI seq, pS name] ∧ qs = pSt (openS s c seq name).1 ++ pMk (openS s c seq name).2
theorem fOpenP : ∀ ps q1 q2, ROpenP ps q1 → ROpenP ps q2 → q1 = q2 := by
  rintro ps q1 q2 ⟨s, c, seq, name, _, _, _, _, _, _, rfl, rfl⟩ ⟨s', c', seq', name', _, _, _, _, _, _, h, rfl⟩
  simp only [List.cons_append, List.nil_append, List.cons.injEq, PV.v.injEq, Value.int.injEq, Value.string.injEq, true_and, and_true] at h
  obtain ⟨h1, h2, h3, rfl, rfl, rfl⟩ := h
  rw [pSt_inj h1 h2 h3]
set_option maxHeartbeats 1000000 in
theorem toldOpenP (k : Nat) : ToldF 14 (EOpen k) (spec ROpenP) := by
  refine told_of mixed_ok names_ok FP [.row, .row, .num, .num, .num, .num] ?_
  intro ps qs h _
  obtain ⟨⟨fs, ms, ep⟩, c, seq, name, hm, hc1, hc2, hs1, hs2, hn, rfl, rfl⟩ := of_spec h
  have hfl : fs.length = 6 := hm.fl
  have hml : ms.length = 3 := hm.ml
  have g13 := FP13 hm
  have g5 := FP5 hm
  have gc : FP 2 [pI c, pI 1, pI 3] = some [pI 0] := FP2 hc1 hc2
  have gs : FP 2 [pI seq, pI 1, pI 1073741824] = some [pI 0] := FP2 hs1 hs2
  have e1 := FP7 hn
  have e2 := FP1 (l := fs) (by omega) hn
  have e3 := FP8 (l := fs) (by omega)
  simp only at g13 g5
  cases hok : okN name with
  | false =>
    rw [hok] at e1
    have hq : openS ⟨fs, ms, ep⟩ c seq name = (⟨fs, putMk ms c (seq, 1, 0, 0), ep⟩, (seq, 1, 0, 0)) := by simp [openS, hok, marked]
    have e4 : FP 9 [pRow encM ms, pI c, pI seq, pI 1, pI 0, pI 0] = some [pRow encM (putMk ms c (seq, 1, 0, 0))] := FP9 hm hc1 hc2
    rw [hq]
    generalize putMk ms c (seq, 1, 0, 0) = ms' at *
    refine ⟨_, _, _, _, _, _, orcO_ok, on, fun w FP => ?_, ?_⟩
    · simp only [List.mem_cons, List.not_mem_nil, or_false, forall_eq_or_imp, forall_eq]
      simp [-holds_idx, holds_idxP, holds_cellsP, Base.ev, SX.ev, evs, Value.oneCell', g13, g5, gc, gs, e1, e4, lenPV_row, pp2, pp5, pp7, pp9, pp13]
    · simp [evs, SX.ev, g13, e4]
  | true =>
    rw [hok] at e1
    rw [findN, if_pos hok] at e2
    cases hf : fs.findIdx? (isN name) with
    | some i =>
      rw [hf] at e2
      have hi : i < fs.length := by rw [List.findIdx?_eq_some_iff_getElem] at hf; exact hf.1
      obtain ⟨_, cv, _⟩ := cellF fs i hi
      have hg : fs.getD i f00 = fs[i] := by simp [List.getD, hi]
      have w1 : IntKind.i64.wrap (i : Int) = (i : Int) := wrapI _ (by omega) (by omega)
      have i1 := idxP_row encF fs i 3 3 .i64 rfl hi (by decide)
      have i2 := idxP_row encF fs i 3 1 .i64 rfl hi (by decide)
      have i3 := idxP_row encF fs i 3 2 .i64 rfl hi (by decide)
      have hq : openS ⟨fs, ms, ep⟩ c seq name = (⟨fs, putMk ms c (seq, 0, (i : Int) + 1, fs[i].2.1), ep⟩, (seq, 0, (i : Int) + 1, fs[i].2.1)) := by
        simp only [openS, hok, if_true, hf, hg]
        simp [marked]
      have e4 : FP 9 [pRow encM ms, pI c, pI seq, pI 0, pI ((i : Int) + 1), pI fs[i].2.1] = some [pRow encM (putMk ms c (seq, 0, (i : Int) + 1, fs[i].2.1))] := FP9 hm hc1 hc2
      rw [hq]
      generalize fs[i].2.1 = ver at *
      generalize putMk ms c (seq, 0, (i : Int) + 1, ver) = ms' at *
      refine ⟨_, _, _, _, _, _, orcO_ok, of, fun w FP => ?_, ?_⟩
      · simp only [List.mem_cons, List.not_mem_nil, or_false, forall_eq_or_imp, forall_eq]
        simp [-holds_idx, holds_idxP, holds_cellsP, Base.ev, SX.ev, evs, Value.oneCell', g13, g5, gc, gs, e1, e2, e4, ansQ, binPV, w1, i1, i2, i3, cv, hi, lenPV_row, pp1, pp2, pp5, pp7, pp9, pp13]
      · simp [evs, SX.ev, g13, e2, e4, ansQ, binPV, w1, cv]
    | none =>
      rw [hf] at e2
      cases hr : fs.findIdx? (isN e0) with
      | none =>
        rw [hr] at e3
        have hq : openS ⟨fs, ms, ep⟩ c seq name = (⟨fs, putMk ms c (seq, 3, 0, 0), ep⟩, (seq, 3, 0, 0)) := by simp [openS, hok, hf, hr, marked]
        have e4 : FP 9 [pRow encM ms, pI c, pI seq, pI 3, pI 0, pI 0] = some [pRow encM (putMk ms c (seq, 3, 0, 0))] := FP9 hm hc1 hc2
        rw [hq]
        generalize putMk ms c (seq, 3, 0, 0) = ms' at *
        refine ⟨_, _, _, _, _, _, orcO_ok, ox, fun w FP => ?_, ?_⟩
        · simp only [List.mem_cons, List.not_mem_nil, or_false, forall_eq_or_imp, forall_eq]
          simp [-holds_idx, holds_idxP, holds_cellsP, Base.ev, SX.ev, evs, Value.oneCell', g13, g5, gc, gs, e1, e2, e3, e4, ansQ, lenPV_row, pp1, pp2, pp5, pp7, pp8, pp9, pp13]
        · simp [evs, SX.ev, g13, e4]
      | some i =>
        rw [hr] at e3
        have hi : i < fs.length := by rw [List.findIdx?_eq_some_iff_getElem] at hr; exact hr.1
        have w1 : IntKind.i64.wrap (i : Int) = (i : Int) := wrapI _ (by omega) (by omega)
        have hq : openS ⟨fs, ms, ep⟩ c seq name = (⟨fs.set i (name, 1, e0), putMk ms c (seq, 0, (i : Int) + 1, 1), ep⟩, (seq, 0, (i : Int) + 1, 1)) := by
          have hx : ((i : Int) + 1).toNat - 1 = i := by omega
          have hy : (0 : Int) < (i : Int) + 1 := by omega
          simp [openS, hok, hf, hr, marked, hx, hy]
        have e4 : FP 9 [pRow encM ms, pI c, pI seq, pI 0, pI ((i : Int) + 1), pI 1] = some [pRow encM (putMk ms c (seq, 0, (i : Int) + 1, 1))] := FP9 hm hc1 hc2
        have i1 := idxP_row encF fs i 3 3 .i64 rfl hi (by decide)
        have ru : ropPV (.upd 3 0) [pRow encF fs, pI (i : Int), pS name, pI 1, pS ⟨⟨[]⟩⟩] = some (pRow encF (fs.set i (name, 1, e0))) := r_updE encF fs i .i64 (name, 1, e0) hi
        have hls : (fs.set i (name, 1, e0)).length = fs.length := by simp
        have hi2 : i < (fs.set i (name, 1, e0)).length := by omega
        obtain ⟨_, cv, _⟩ := cellF (fs.set i (name, 1, e0)) i hi2
        rw [List.getElem_set_self] at cv
        have i2 := idxP_row encF (fs.set i (name, 1, e0)) i 3 2 .i64 rfl hi2 (by decide)
        have i3 := idxP_row encF (fs.set i (name, 1, e0)) i 3 1 .i64 rfl hi2 (by decide)
        have i4 := idxP_row encF (fs.set i (name, 1, e0)) i 3 3 .i64 rfl hi2 (by decide)
        rw [hq]
        generalize putMk ms c (seq, 0, (i : Int) + 1, 1) = ms' at *
        generalize fs.set i (name, 1, e0) = l2 at *
        refine ⟨_, _, _, _, _, _, orcO_ok, or1, fun w FP => ?_, ?_⟩
        · simp only [List.mem_cons, List.not_mem_nil, or_false, forall_eq_or_imp, forall_eq]
          simp [-holds_idx, holds_idxP, holds_cellsP, Base.ev, SX.ev, evs, Value.oneCell', g13, g5, gc, gs, e1, e2, e3, e4, ansQ, binPV, w1, i1, i2, i3, i4, cv, ru, hls, hi, lenPV_row, pp1, pp2, pp5, pp7, pp8, pp9, pp13]
        · simp [evs, SX.ev, g13, e2, e3, e4, ansQ, binPV, w1, ru, cv]

def RGoneP (ps qs : List PV) : Prop := ∃ (s : StM) (c seq file : Int), MayS s ∧ 1 ≤ c ∧ c ≤ 3 ∧ 1 ≤ seq ∧ seq ≤ 1073741824 ∧ -9223372036854775808 ≤ file ∧ file ≤ 9223372036854775807 ∧ ps = pSt s ++ [pI c, pI seq, pI file] ∧ qs = pSt (goneS s c seq file).1 ++ pMk (goneS s c seq file).2
theorem fGoneP : ∀ ps q1 q2, RGoneP ps q1 → RGoneP ps q2 → q1 = q2 := by
  rintro ps q1 q2 ⟨s, c, seq, name, _, _, _, _, _, _, _, rfl, rfl⟩ ⟨s', c', seq', name', _, _, _, _, _, _, _, h, rfl⟩
  simp only [List.cons_append, List.nil_append, List.cons.injEq, PV.v.injEq, Value.int.injEq, Value.string.injEq, true_and, and_true] at h
  obtain ⟨h1, h2, h3, rfl, rfl, rfl⟩ := h
  rw [pSt_inj h1 h2 h3]
set_option maxHeartbeats 1000000 in
theorem toldGoneP (k : Nat) : ToldF 19 (EOpen k) (spec RGoneP) := by
  refine told_of mixed_ok names_ok FP [.row, .row, .num, .num, .num, .num] ?_
  intro ps qs h _
  obtain ⟨⟨fs, ms, ep⟩, c, seq, file, hm, hc1, hc2, hs1, hs2, hf1, hf2, rfl, rfl⟩ := of_spec h
  have hfl : fs.length = 6 := hm.fl
  have hml : ms.length = 3 := hm.ml
  have g13 := FP13 hm
  have g5 := FP5 hm
  have gc : FP 2 [pI c, pI 1, pI 3] = some [pI 0] := FP2 hc1 hc2
  have gs : FP 2 [pI seq, pI 1, pI 1073741824] = some [pI 0] := FP2 hs1 hs2
  simp only at g13 g5
  have hfl' : (fs.length : Int) = 6 := by omega
  have hqn : isF ⟨fs, ms, ep⟩ file = false → goneS ⟨fs, ms, ep⟩ c seq file = (⟨fs, putMk ms c (seq, 2, 0, 0), ep⟩, (seq, 2, 0, 0)) := fun h => by simp [goneS, h, marked]
  have e4 : FP 9 [pRow encM ms, pI c, pI seq, pI 2, pI 0, pI 0] = some [pRow encM (putMk ms c (seq, 2, 0, 0))] := FP9 hm hc1 hc2
  by_cases d1 : 1 ≤ file
  · by_cases d2 : file ≤ fs.length
    · obtain ⟨j, hj, rfl, hg, hFj⟩ := isF_yes (ms := ms) (ep := ep) d1 d2
      obtain ⟨cn, cv, cb⟩ := cellF fs j hj
      have w1 : IntKind.i64.wrap (j : Int) = (j : Int) := wrapI _ (by omega) (by omega)
      have i1 := idxP_row encF fs j 3 3 .i64 rfl hj (by decide)
      have i2 := idxP_row encF fs j 3 1 .i64 rfl hj (by decide)
      by_cases hn : fs[j].1.toList = []
      · have hq := hqn (by rw [hFj, hn]; simp [e0])
        rw [hq]
        generalize putMk ms c (seq, 2, 0, 0) = ms' at *
        generalize fs[j].1 = nm at *
        refine ⟨_, _, _, _, _, _, orcO_ok, gn3, fun w FP => ?_, ?_⟩
        · simp only [List.mem_cons, List.not_mem_nil, or_false, forall_eq_or_imp, forall_eq]
          simp [-holds_idx, holds_idxP, holds_cellsP, Base.ev, SX.ev, evs, Value.oneCell', g13, g5, gc, gs, e4, binPV, w1, i1, i2, cn, hn, hj, lenPV_row, pp2, pp5, pp9, pp13]
          all_goals omega
        · simp [evs, SX.ev, g13, e4]
      · have hF' : isF ⟨fs, ms, ep⟩ ((j : Int) + 1) = true := by
          rw [hFj]
          simpa [e0] using hn
        have hx : ((j : Int) + 1).toNat - 1 = j := by omega
        have hy : (0 : Int) < (j : Int) + 1 := by omega
        have hq : goneS ⟨fs, ms, ep⟩ c seq ((j : Int) + 1) = (⟨fs.set j f00, putMk ms c (seq, 0, (j : Int) + 1, 0), ep⟩, (seq, 0, (j : Int) + 1, 0)) := by simp [goneS, hF', marked, hx, hy]
        have e5 : FP 9 [pRow encM ms, pI c, pI seq, pI 0, pI ((j : Int) + 1), pI 0] = some [pRow encM (putMk ms c (seq, 0, (j : Int) + 1, 0))] := FP9 hm hc1 hc2
        have ru : ropPV (.upd 3 0) [pRow encF fs, pI (j : Int), pS ⟨⟨[]⟩⟩, pI 0, pS ⟨⟨[]⟩⟩] = some (pRow encF (fs.set j f00)) := r_updE encF fs j .i64 f00 hj
        have hls : (fs.set j f00).length = fs.length := by simp
        rw [hq]
        generalize putMk ms c (seq, 0, (j : Int) + 1, 0) = ms' at *
        generalize fs.set j f00 = l2 at *
        generalize fs[j].1 = nm at *
        refine ⟨_, _, _, _, _, _, orcO_ok, gy, fun w FP => ?_, ?_⟩
        · simp only [List.mem_cons, List.not_mem_nil, or_false, forall_eq_or_imp, forall_eq]
          simp [-holds_idx, holds_idxP, holds_cellsP, Base.ev, SX.ev, evs, Value.oneCell', g13, g5, gc, gs, e5, binPV, w1, i1, i2, cn, hn, hj, ru, hls, lenPV_row, pp2, pp5, pp9, pp13]
          all_goals omega
        · simp [evs, SX.ev, g13, e5, binPV, w1, ru]
    · have hq := hqn (by simp [isF, d2])
      rw [hq]
      generalize putMk ms c (seq, 2, 0, 0) = ms' at *
      refine ⟨_, _, _, _, _, _, orcO_ok, gn2, fun w FP => ?_, ?_⟩
      · simp only [List.mem_cons, List.not_mem_nil, or_false, forall_eq_or_imp, forall_eq]
        simp [-holds_idx, holds_idxP, holds_cellsP, Base.ev, SX.ev, evs, Value.oneCell', g13, g5, gc, gs, e4, binPV, lenPV_row, pp2, pp5, pp9, pp13]
        all_goals omega
      · simp [evs, SX.ev, g13, e4]
  · have hq := hqn (by simp [isF, d1])
    rw [hq]
    generalize putMk ms c (seq, 2, 0, 0) = ms' at *
    refine ⟨_, _, _, _, _, _, orcO_ok, gn1, fun w FP => ?_, ?_⟩
    · simp only [List.mem_cons, List.not_mem_nil, or_false, forall_eq_or_imp, forall_eq]
      simp [-holds_idx, holds_idxP, holds_cellsP, Base.ev, SX.ev, evs, Value.oneCell', g13, g5, gc, gs, e4, binPV, lenPV_row, pp2, pp5, pp9, pp13]
      all_goals omega
    · simp [evs, SX.ev, g13, e4]
end Go.Proofs.Ytnelcjofgpplgaa.sta
