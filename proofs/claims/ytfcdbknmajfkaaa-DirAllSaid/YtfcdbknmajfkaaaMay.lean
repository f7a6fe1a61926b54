/- Which writes may be: file.May, tenancyref7.MayWrite. -/
import Derived.Test.YtfcdbknmajfkaaaFroA
namespace Go.Proofs.Ytfcdbknmajfkaaa.may
open Go Go.RowKit eng SX Fact fil fileFronts
set_option linter.unusedVariables false
set_option linter.unusedSimpArgs false
set_option maxRecDepth 1000000

def EMay (k : Nat) : FnE := { k := k, ins := [some 2], leaks := [false, false], outs := [none], kinds := [.truth] }
theorem m1 : runTo Try.prog fil.noOrc 10000 34 (EMay 1) [.num, .num] [1] = some ([.ok (.var 0), .ok (.var 1), .ok (.slen (.var 1)), .ok (.bin .lss (.slen (.var 1)) (.con (.int .i64 1))), .is (.bin .lss (.slen (.var 1)) (.con (.int .i64 1))) (.bool true)], [.con (.bool false)]) := by kernel_rfl
theorem m2 : runTo Try.prog fil.noOrc 10000 34 (EMay 1) [.num, .num] [0, 1] = some ([.ok (.var 0), .ok (.var 1), .ok (.slen (.var 1)), .ok (.bin .lss (.slen (.var 1)) (.con (.int .i64 1))), .is (.bin .lss (.slen (.var 1)) (.con (.int .i64 1))) (.bool false), .ok (.bin .lss (.var 0) (.con (.int .i64 0))), .is (.bin .lss (.var 0) (.con (.int .i64 0))) (.bool true)], [.con (.bool false)]) := by kernel_rfl
theorem m3 : runTo Try.prog fil.noOrc 10000 34 (EMay 1) [.num, .num] [0, 0, 1] = some ([.ok (.var 0), .ok (.var 1), .ok (.slen (.var 1)), .ok (.bin .lss (.slen (.var 1)) (.con (.int .i64 1))), .is (.bin .lss (.slen (.var 1)) (.con (.int .i64 1))) (.bool false), .ok (.bin .lss (.var 0) (.con (.int .i64 0))), .is (.bin .lss (.var 0) (.con (.int .i64 0))) (.bool false), .ok (.slen (.var 1)), .ok (.bin .sub (.con (.int .i64 24)) (.slen (.var 1))), .ok (.bin .gtr (.var 0) (.bin .sub (.con (.int .i64 24)) (.slen (.var 1)))), .is (.bin .gtr (.var 0) (.bin .sub (.con (.int .i64 24)) (.slen (.var 1)))) (.bool true)], [.con (.bool false)]) := by kernel_rfl
theorem m4 : runTo Try.prog fil.noOrc 10000 34 (EMay 1) [.num, .num] [0, 0, 0] = some ([.ok (.var 0), .ok (.var 1), .ok (.slen (.var 1)), .ok (.bin .lss (.slen (.var 1)) (.con (.int .i64 1))), .is (.bin .lss (.slen (.var 1)) (.con (.int .i64 1))) (.bool false), .ok (.bin .lss (.var 0) (.con (.int .i64 0))), .is (.bin .lss (.var 0) (.con (.int .i64 0))) (.bool false), .ok (.slen (.var 1)), .ok (.bin .sub (.con (.int .i64 24)) (.slen (.var 1))), .ok (.bin .gtr (.var 0) (.bin .sub (.con (.int .i64 24)) (.slen (.var 1)))), .is (.bin .gtr (.var 0) (.bin .sub (.con (.int .i64 24)) (.slen (.var 1)))) (.bool false)], [.con (.bool true)]) := by kernel_rfl
theorem r1 : runTo Try.prog fil.noOrc 10000 35 (EMay 1) [.num, .num] [0] = some ([.ok (.var 0), .ok (.var 1), .ok (.bin .geq (.var 0) (.con (.int .i64 0))), .is (.bin .geq (.var 0) (.con (.int .i64 0))) (.bool false)], [.con (.bool false)]) := by kernel_rfl
theorem r2 : runTo Try.prog fil.noOrc 10000 35 (EMay 1) [.num, .num] [1, 0] = some ([.ok (.var 0), .ok (.var 1), .ok (.bin .geq (.var 0) (.con (.int .i64 0))), .is (.bin .geq (.var 0) (.con (.int .i64 0))) (.bool true), .ok (.bin .lss (.var 0) (.con (.int .i64 24))), .is (.bin .lss (.var 0) (.con (.int .i64 24))) (.bool false)], [.con (.bool false)]) := by kernel_rfl
theorem r3 : runTo Try.prog fil.noOrc 10000 35 (EMay 1) [.num, .num] [1, 1, 0] = some ([.ok (.var 0), .ok (.var 1), .ok (.bin .geq (.var 0) (.con (.int .i64 0))), .is (.bin .geq (.var 0) (.con (.int .i64 0))) (.bool true), .ok (.bin .lss (.var 0) (.con (.int .i64 24))), .is (.bin .lss (.var 0) (.con (.int .i64 24))) (.bool true), .ok (.slen (.var 1)), .ok (.bin .geq (.slen (.var 1)) (.con (.int .i64 1))), .is (.bin .geq (.slen (.var 1)) (.con (.int .i64 1))) (.bool false)], [.con (.bool false)]) := by kernel_rfl
theorem r4 : runTo Try.prog fil.noOrc 10000 35 (EMay 1) [.num, .num] [1, 1, 1, 0] = some ([.ok (.var 0), .ok (.var 1), .ok (.bin .geq (.var 0) (.con (.int .i64 0))), .is (.bin .geq (.var 0) (.con (.int .i64 0))) (.bool true), .ok (.bin .lss (.var 0) (.con (.int .i64 24))), .is (.bin .lss (.var 0) (.con (.int .i64 24))) (.bool true), .ok (.slen (.var 1)), .ok (.bin .geq (.slen (.var 1)) (.con (.int .i64 1))), .is (.bin .geq (.slen (.var 1)) (.con (.int .i64 1))) (.bool true), .ok (.slen (.var 1)), .ok (.bin .sub (.con (.int .i64 24)) (.var 0)), .ok (.bin .leq (.slen (.var 1)) (.bin .sub (.con (.int .i64 24)) (.var 0))), .is (.bin .leq (.slen (.var 1)) (.bin .sub (.con (.int .i64 24)) (.var 0))) (.bool false)], [.con (.bool false)]) := by kernel_rfl
theorem r5 : runTo Try.prog fil.noOrc 10000 35 (EMay 1) [.num, .num] [1, 1, 1, 1] = some ([.ok (.var 0), .ok (.var 1), .ok (.bin .geq (.var 0) (.con (.int .i64 0))), .is (.bin .geq (.var 0) (.con (.int .i64 0))) (.bool true), .ok (.bin .lss (.var 0) (.con (.int .i64 24))), .is (.bin .lss (.var 0) (.con (.int .i64 24))) (.bool true), .ok (.slen (.var 1)), .ok (.bin .geq (.slen (.var 1)) (.con (.int .i64 1))), .is (.bin .geq (.slen (.var 1)) (.con (.int .i64 1))) (.bool true), .ok (.slen (.var 1)), .ok (.bin .sub (.con (.int .i64 24)) (.var 0)), .ok (.bin .leq (.slen (.var 1)) (.bin .sub (.con (.int .i64 24)) (.var 0))), .is (.bin .leq (.slen (.var 1)) (.bin .sub (.con (.int .i64 24)) (.var 0))) (.bool true)], [.con (.bool true)]) := by kernel_rfl

def RMay (ps qs : List PV) : Prop := ∃ (o : Int) (s : ByteArray), -9223372036854775808 ≤ o ∧ o ≤ 9223372036854775807 ∧ s.size ≤ 9223372036854775807 ∧ ps = [pI o, pS s] ∧ qs = [pB (mayW (o, s))]
theorem fMay : ∀ ps q1 q2, RMay ps q1 → RMay ps q2 → q1 = q2 := by
  rintro ps q1 q2 ⟨o, s, _, _, _, rfl, rfl⟩ ⟨o', s', _, _, _, h, rfl⟩
  simp only [List.cons.injEq, PV.v.injEq, Value.string.injEq, Value.int.injEq, true_and, and_true] at h
  obtain ⟨rfl, rfl⟩ := h
  rfl
@[simp] theorem kMay (k : Nat) : (EMay k).k = k := rfl
theorem toldMay (k : Nat) : ToldF 34 (EMay k) (spec RMay) := by
  refine told_of mixed_ok names_ok (fun _ _ => none) [.num, .num] ?_
  intro ps qs h _
  obtain ⟨o, s, h1, h2, h3, rfl, rfl⟩ := of_spec h
  have w1 : IntKind.i64.wrap (24 - (s.size : Int)) = 24 - (s.size : Int) := wrapI _ (by omega) (by omega)
  by_cases c1 : (s.size : Int) < 1
  · refine ⟨_, _, _, _, _, _, fil.noOrc_ok, m1, fun w FP => ?_, ?_⟩
    · simp only [List.mem_cons, List.not_mem_nil, or_false, forall_eq_or_imp, forall_eq]
      simp [Base.ev, SX.ev, evs, Value.oneCell', slenPV, binPV]
      omega
    · simp [evs, SX.ev, mayW]
      omega
  by_cases c2 : o < 0
  · refine ⟨_, _, _, _, _, _, fil.noOrc_ok, m2, fun w FP => ?_, ?_⟩
    · simp only [List.mem_cons, List.not_mem_nil, or_false, forall_eq_or_imp, forall_eq]
      simp [Base.ev, SX.ev, evs, Value.oneCell', slenPV, binPV]
      omega
    · simp [evs, SX.ev, mayW]
      omega
  by_cases c3 : o > 24 - (s.size : Int)
  · refine ⟨_, _, _, _, _, _, fil.noOrc_ok, m3, fun w FP => ?_, ?_⟩
    · simp only [List.mem_cons, List.not_mem_nil, or_false, forall_eq_or_imp, forall_eq]
      simp [Base.ev, SX.ev, evs, Value.oneCell', slenPV, binPV, w1]
      omega
    · simp [evs, SX.ev, mayW]
      omega
  · refine ⟨_, _, _, _, _, _, fil.noOrc_ok, m4, fun w FP => ?_, ?_⟩
    · simp only [List.mem_cons, List.not_mem_nil, or_false, forall_eq_or_imp, forall_eq]
      simp [Base.ev, SX.ev, evs, Value.oneCell', slenPV, binPV, w1]
      omega
    · simp [evs, SX.ev, mayW]
      omega
theorem toldRef (k : Nat) : ToldF 35 (EMay k) (spec RMay) := by
  refine told_of mixed_ok names_ok (fun _ _ => none) [.num, .num] ?_
  intro ps qs h _
  obtain ⟨o, s, h1, h2, h3, rfl, rfl⟩ := of_spec h
  by_cases c1 : 0 ≤ o
  · by_cases c2 : o < 24
    · have w1 : IntKind.i64.wrap (24 - o) = 24 - o := wrapI _ (by omega) (by omega)
      by_cases c3 : 1 ≤ (s.size : Int)
      · by_cases c4 : (s.size : Int) ≤ 24 - o
        · refine ⟨_, _, _, _, _, _, fil.noOrc_ok, r5, fun w FP => ?_, ?_⟩
          · simp only [List.mem_cons, List.not_mem_nil, or_false, forall_eq_or_imp, forall_eq]
            simp [Base.ev, SX.ev, evs, Value.oneCell', slenPV, binPV, w1]
            omega
          · simp [evs, SX.ev, mayW]
            omega
        · refine ⟨_, _, _, _, _, _, fil.noOrc_ok, r4, fun w FP => ?_, ?_⟩
          · simp only [List.mem_cons, List.not_mem_nil, or_false, forall_eq_or_imp, forall_eq]
            simp [Base.ev, SX.ev, evs, Value.oneCell', slenPV, binPV, w1]
            omega
          · simp [evs, SX.ev, mayW]
            omega
      · refine ⟨_, _, _, _, _, _, fil.noOrc_ok, r3, fun w FP => ?_, ?_⟩
        · simp only [List.mem_cons, List.not_mem_nil, or_false, forall_eq_or_imp, forall_eq]
          simp [Base.ev, SX.ev, evs, Value.oneCell', slenPV, binPV]
          omega
        · simp [evs, SX.ev, mayW]
          omega
    · refine ⟨_, _, _, _, _, _, fil.noOrc_ok, r2, fun w FP => ?_, ?_⟩
      · simp only [List.mem_cons, List.not_mem_nil, or_false, forall_eq_or_imp, forall_eq]
        simp [Base.ev, SX.ev, evs, Value.oneCell', slenPV, binPV]
        omega
      · simp [evs, SX.ev, mayW]
        omega
  · refine ⟨_, _, _, _, _, _, fil.noOrc_ok, r1, fun w FP => ?_, ?_⟩
    · simp only [List.mem_cons, List.not_mem_nil, or_false, forall_eq_or_imp, forall_eq]
      simp [Base.ev, SX.ev, evs, Value.oneCell', slenPV, binPV]
      omega
    · simp [evs, SX.ev, mayW]
      omega
end Go.Proofs.Ytfcdbknmajfkaaa.may
