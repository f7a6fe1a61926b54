/- JrnlHead by the symbolic engine. -/
import Derived.Test.YtegfdigljpnhcaaJlc
namespace Go.Proofs.Ytegfdigljpnhcaa.jrnlHead
open Go Go.RowKit eng SX Fact dsk jlb jlc
open jhd
open jcm (dkbox)
open jco (EMd ECm)
open jmt hiding Pt Calm
open fil
open rdk hiding dbox
open symD hiding pRow_inj
set_option linter.unusedVariables false
set_option linter.unusedSimpArgs false
set_option maxRecDepth 1000000

noncomputable def flH := flat (bodyOf Try.prog 4)
def tabH (f : FuncId) : Option FnE := cond (Nat.beq f 16) (some (EMd 8)) (tabT f)
def shH : Shape := ⟨[(0, .agg 8), (1, .leaf)], [], List.replicate 9 none, 87, 4⟩
def shHR : Shape := ⟨[(4, .leaf)], [], [none], 87, 4⟩
theorem q1 : segTo Try.prog (orcFn tabH) 10000 flH shH [1, 1] shHR [] = some (.ret, [.fn 10 (ETrue 5) [], .is (.fn 5 [] 0) (.bool true), .fn 13 (EPt 6) [.lit 8 [.var 0, .var 1, .var 2, .var 3, .var 4, .var 5, .var 6, .var 7], .con (.int .i64 8)], .ok (.len (.fn 6 [.lit 8 [.var 0, .var 1, .var 2, .var 3, .var 4, .var 5, .var 6, .var 7], .con (.int .i64 8)] 0)), .ok (.bin .eql (.len (.fn 6 [.lit 8 [.var 0, .var 1, .var 2, .var 3, .var 4, .var 5, .var 6, .var 7], .con (.int .i64 8)] 0)) (.con (.int .i64 0))), .is (.bin .eql (.len (.fn 6 [.lit 8 [.var 0, .var 1, .var 2, .var 3, .var 4, .var 5, .var 6, .var 7], .con (.int .i64 8)] 0)) (.con (.int .i64 0))) (.bool true), .ok (.con (.bool true))], [.con (.bool true)]) := by kernel_rfl
def z1 : List SX := [.fn 1 [.con (.int .i64 17)] 0, .fn 1 [.con (.int .i64 17)] 1, .bin .add (.con (.int .i64 2)) (.len (.fn 6 [.lit 8 [.var 0, .var 1, .var 2, .var 3, .var 4, .var 5, .var 6, .var 7], .con (.int .i64 8)] 0)), .fn 1 [.con (.int .i64 17)] 3, .con (.int .i64 8), .fn 6 [.lit 8 [.var 0, .var 1, .var 2, .var 3, .var 4, .var 5, .var 6, .var 7], .con (.int .i64 8)] 0]
def z2 : List SX := [.fn 7 z1 0, .fn 7 z1 1, .fn 7 z1 2, .fn 7 z1 3, .lit 1 [.conv .i64 (.bin .rem (.var 8) (.con (.int .u8 40)))]]
def z3 : List SX := [.fn 3 z2 0, .fn 3 z2 1, .fn 3 z2 2, .fn 3 z2 3, .con (.int .i64 8)]
def z4 : List SX := [.fn 8 z3 0, .fn 8 z3 1, .fn 8 z3 2, .fn 8 z3 3, .cell (.fn 6 [.lit 8 [.var 0, .var 1, .var 2, .var 3, .var 4, .var 5, .var 6, .var 7], .con (.int .i64 8)] 0) (.con (.int .i64 0)) 2 0]
theorem h1 : segTo Try.prog (orcFn tabH) 10000 flH shH [1, 0, 0, 1, 1, 1, 1, 1] shHR [] = some (.ret, [.fn 10 (ETrue 5) [], .is (.fn 5 [] 0) (.bool true), .fn 13 (EPt 6) [.lit 8 [.var 0, .var 1, .var 2, .var 3, .var 4, .var 5, .var 6, .var 7], .con (.int .i64 8)], .ok (.len (.fn 6 [.lit 8 [.var 0, .var 1, .var 2, .var 3, .var 4, .var 5, .var 6, .var 7], .con (.int .i64 8)] 0)), .ok (.bin .eql (.len (.fn 6 [.lit 8 [.var 0, .var 1, .var 2, .var 3, .var 4, .var 5, .var 6, .var 7], .con (.int .i64 8)] 0)) (.con (.int .i64 0))), .is (.bin .eql (.len (.fn 6 [.lit 8 [.var 0, .var 1, .var 2, .var 3, .var 4, .var 5, .var 6, .var 7], .con (.int .i64 8)] 0)) (.con (.int .i64 0))) (.bool false), .fn 12 (ENew 1) [.con (.int .i64 17)], .ok (.fn 1 [.con (.int .i64 17)] 2), .ok (.fn 1 [.con (.int .i64 17)] 3), .ok (.len (.fn 6 [.lit 8 [.var 0, .var 1, .var 2, .var 3, .var 4, .var 5, .var 6, .var 7], .con (.int .i64 8)] 0)), .ok (.bin .add (.con (.int .i64 2)) (.len (.fn 6 [.lit 8 [.var 0, .var 1, .var 2, .var 3, .var 4, .var 5, .var 6, .var 7], .con (.int .i64 8)] 0))), .fn 11 (ECm 7) z1, .ok (.fn 7 z1 2), .ok (.fn 7 z1 3), .is (.fn 7 z1 4) (.bool false), .is (.fn 7 z1 3) (.bool true), .ok (.bin .rem (.var 8) (.con (.int .u8 40))), .ok (.conv .i64 (.bin .rem (.var 8) (.con (.int .u8 40)))), .fn 15 (ECrashR 3) z2, .ok (.fn 3 z2 2), .ok (.fn 3 z2 3), .fn 16 (EMd 8) z3, .ok (.fn 8 z3 2), .ok (.fn 8 z3 3), .is (.fn 8 z3 4) (.bool true), .idx (.fn 6 [.lit 8 [.var 0, .var 1, .var 2, .var 3, .var 4, .var 5, .var 6, .var 7], .con (.int .i64 8)] 0) (.con (.int .i64 0)) 2 2, .idx (.fn 6 [.lit 8 [.var 0, .var 1, .var 2, .var 3, .var 4, .var 5, .var 6, .var 7], .con (.int .i64 8)] 0) (.con (.int .i64 0)) 2 1, .ok (.cell (.fn 6 [.lit 8 [.var 0, .var 1, .var 2, .var 3, .var 4, .var 5, .var 6, .var 7], .con (.int .i64 8)] 0) (.con (.int .i64 0)) 2 0), .fn 14 (ERead 2) z4, .ok (.fn 2 z4 0), .is (.fn 2 z4 1) (.bool true), .ok (.bin .rem (.var 8) (.con (.int .u8 40))), .ok (.bin .geq (.bin .rem (.var 8) (.con (.int .u8 40))) (.con (.int .u8 32))), .is (.bin .geq (.bin .rem (.var 8) (.con (.int .u8 40))) (.con (.int .u8 32))) (.bool true), .idx (.fn 6 [.lit 8 [.var 0, .var 1, .var 2, .var 3, .var 4, .var 5, .var 6, .var 7], .con (.int .i64 8)] 0) (.con (.int .i64 0)) 2 2, .idx (.fn 6 [.lit 8 [.var 0, .var 1, .var 2, .var 3, .var 4, .var 5, .var 6, .var 7], .con (.int .i64 8)] 0) (.con (.int .i64 0)) 2 2, .ok (.cell (.fn 6 [.lit 8 [.var 0, .var 1, .var 2, .var 3, .var 4, .var 5, .var 6, .var 7], .con (.int .i64 8)] 0) (.con (.int .i64 0)) 2 1), .ok (.bin .eql (.fn 2 z4 0) (.cell (.fn 6 [.lit 8 [.var 0, .var 1, .var 2, .var 3, .var 4, .var 5, .var 6, .var 7], .con (.int .i64 8)] 0) (.con (.int .i64 0)) 2 1)), .is (.bin .eql (.fn 2 z4 0) (.cell (.fn 6 [.lit 8 [.var 0, .var 1, .var 2, .var 3, .var 4, .var 5, .var 6, .var 7], .con (.int .i64 8)] 0) (.con (.int .i64 0)) 2 1)) (.bool true), .ok (.con (.bool true))], [.con (.bool true)]) := by kernel_rfl
theorem h01 : segTo Try.prog (orcFn tabH) 10000 flH shH [1, 0, 0, 1, 0, 1, 0, 1, 1, 1] shHR [] = some (.ret, [.fn 10 (ETrue 5) [], .is (.fn 5 [] 0) (.bool true), .fn 13 (EPt 6) [.lit 8 [.var 0, .var 1, .var 2, .var 3, .var 4, .var 5, .var 6, .var 7], .con (.int .i64 8)], .ok (.len (.fn 6 [.lit 8 [.var 0, .var 1, .var 2, .var 3, .var 4, .var 5, .var 6, .var 7], .con (.int .i64 8)] 0)), .ok (.bin .eql (.len (.fn 6 [.lit 8 [.var 0, .var 1, .var 2, .var 3, .var 4, .var 5, .var 6, .var 7], .con (.int .i64 8)] 0)) (.con (.int .i64 0))), .is (.bin .eql (.len (.fn 6 [.lit 8 [.var 0, .var 1, .var 2, .var 3, .var 4, .var 5, .var 6, .var 7], .con (.int .i64 8)] 0)) (.con (.int .i64 0))) (.bool false), .fn 12 (ENew 1) [.con (.int .i64 17)], .ok (.fn 1 [.con (.int .i64 17)] 2), .ok (.fn 1 [.con (.int .i64 17)] 3), .ok (.len (.fn 6 [.lit 8 [.var 0, .var 1, .var 2, .var 3, .var 4, .var 5, .var 6, .var 7], .con (.int .i64 8)] 0)), .ok (.bin .add (.con (.int .i64 2)) (.len (.fn 6 [.lit 8 [.var 0, .var 1, .var 2, .var 3, .var 4, .var 5, .var 6, .var 7], .con (.int .i64 8)] 0))), .fn 11 (ECm 7) z1, .ok (.fn 7 z1 2), .ok (.fn 7 z1 3), .is (.fn 7 z1 4) (.bool false), .is (.fn 7 z1 3) (.bool true), .ok (.bin .rem (.var 8) (.con (.int .u8 40))), .ok (.conv .i64 (.bin .rem (.var 8) (.con (.int .u8 40)))), .fn 15 (ECrashR 3) z2, .ok (.fn 3 z2 2), .ok (.fn 3 z2 3), .fn 16 (EMd 8) z3, .ok (.fn 8 z3 2), .ok (.fn 8 z3 3), .is (.fn 8 z3 4) (.bool false), .idx (.fn 6 [.lit 8 [.var 0, .var 1, .var 2, .var 3, .var 4, .var 5, .var 6, .var 7], .con (.int .i64 8)] 0) (.con (.int .i64 0)) 2 2, .idx (.fn 6 [.lit 8 [.var 0, .var 1, .var 2, .var 3, .var 4, .var 5, .var 6, .var 7], .con (.int .i64 8)] 0) (.con (.int .i64 0)) 2 1, .ok (.cell (.fn 6 [.lit 8 [.var 0, .var 1, .var 2, .var 3, .var 4, .var 5, .var 6, .var 7], .con (.int .i64 8)] 0) (.con (.int .i64 0)) 2 0), .fn 14 (ERead 2) z4, .ok (.fn 2 z4 0), .is (.fn 2 z4 1) (.bool true), .ok (.bin .rem (.var 8) (.con (.int .u8 40))), .ok (.bin .geq (.bin .rem (.var 8) (.con (.int .u8 40))) (.con (.int .u8 32))), .is (.bin .geq (.bin .rem (.var 8) (.con (.int .u8 40))) (.con (.int .u8 32))) (.bool false), .idx (.fn 6 [.lit 8 [.var 0, .var 1, .var 2, .var 3, .var 4, .var 5, .var 6, .var 7], .con (.int .i64 8)] 0) (.con (.int .i64 0)) 2 2, .idx (.fn 6 [.lit 8 [.var 0, .var 1, .var 2, .var 3, .var 4, .var 5, .var 6, .var 7], .con (.int .i64 8)] 0) (.con (.int .i64 0)) 2 2, .ok (.cell (.fn 6 [.lit 8 [.var 0, .var 1, .var 2, .var 3, .var 4, .var 5, .var 6, .var 7], .con (.int .i64 8)] 0) (.con (.int .i64 0)) 2 1), .ok (.bin .eql (.fn 2 z4 0) (.cell (.fn 6 [.lit 8 [.var 0, .var 1, .var 2, .var 3, .var 4, .var 5, .var 6, .var 7], .con (.int .i64 8)] 0) (.con (.int .i64 0)) 2 1)), .is (.bin .eql (.fn 2 z4 0) (.cell (.fn 6 [.lit 8 [.var 0, .var 1, .var 2, .var 3, .var 4, .var 5, .var 6, .var 7], .con (.int .i64 8)] 0) (.con (.int .i64 0)) 2 1)) (.bool true), .ok (.bin .eql (.fn 2 z4 0) (.con ((Value.string dsk.noughts)))), .is (.bin .eql (.fn 2 z4 0) (.con ((Value.string dsk.noughts)))) (.bool true), .idx (.fn 6 [.lit 8 [.var 0, .var 1, .var 2, .var 3, .var 4, .var 5, .var 6, .var 7], .con (.int .i64 8)] 0) (.con (.int .i64 0)) 2 2, .idx (.fn 6 [.lit 8 [.var 0, .var 1, .var 2, .var 3, .var 4, .var 5, .var 6, .var 7], .con (.int .i64 8)] 0) (.con (.int .i64 0)) 2 2, .ok (.cell (.fn 6 [.lit 8 [.var 0, .var 1, .var 2, .var 3, .var 4, .var 5, .var 6, .var 7], .con (.int .i64 8)] 0) (.con (.int .i64 0)) 2 1), .ok (.bin .eql (.fn 2 z4 0) (.cell (.fn 6 [.lit 8 [.var 0, .var 1, .var 2, .var 3, .var 4, .var 5, .var 6, .var 7], .con (.int .i64 8)] 0) (.con (.int .i64 0)) 2 1)), .is (.bin .eql (.fn 2 z4 0) (.cell (.fn 6 [.lit 8 [.var 0, .var 1, .var 2, .var 3, .var 4, .var 5, .var 6, .var 7], .con (.int .i64 8)] 0) (.con (.int .i64 0)) 2 1)) (.bool true), .ok (.con (.bool true))], [.con (.bool true)]) := by kernel_rfl
theorem h00 : segTo Try.prog (orcFn tabH) 10000 flH shH [1, 0, 0, 1, 0, 1, 0, 0] shHR [] = some (.ret, [.fn 10 (ETrue 5) [], .is (.fn 5 [] 0) (.bool true), .fn 13 (EPt 6) [.lit 8 [.var 0, .var 1, .var 2, .var 3, .var 4, .var 5, .var 6, .var 7], .con (.int .i64 8)], .ok (.len (.fn 6 [.lit 8 [.var 0, .var 1, .var 2, .var 3, .var 4, .var 5, .var 6, .var 7], .con (.int .i64 8)] 0)), .ok (.bin .eql (.len (.fn 6 [.lit 8 [.var 0, .var 1, .var 2, .var 3, .var 4, .var 5, .var 6, .var 7], .con (.int .i64 8)] 0)) (.con (.int .i64 0))), .is (.bin .eql (.len (.fn 6 [.lit 8 [.var 0, .var 1, .var 2, .var 3, .var 4, .var 5, .var 6, .var 7], .con (.int .i64 8)] 0)) (.con (.int .i64 0))) (.bool false), .fn 12 (ENew 1) [.con (.int .i64 17)], .ok (.fn 1 [.con (.int .i64 17)] 2), .ok (.fn 1 [.con (.int .i64 17)] 3), .ok (.len (.fn 6 [.lit 8 [.var 0, .var 1, .var 2, .var 3, .var 4, .var 5, .var 6, .var 7], .con (.int .i64 8)] 0)), .ok (.bin .add (.con (.int .i64 2)) (.len (.fn 6 [.lit 8 [.var 0, .var 1, .var 2, .var 3, .var 4, .var 5, .var 6, .var 7], .con (.int .i64 8)] 0))), .fn 11 (ECm 7) z1, .ok (.fn 7 z1 2), .ok (.fn 7 z1 3), .is (.fn 7 z1 4) (.bool false), .is (.fn 7 z1 3) (.bool true), .ok (.bin .rem (.var 8) (.con (.int .u8 40))), .ok (.conv .i64 (.bin .rem (.var 8) (.con (.int .u8 40)))), .fn 15 (ECrashR 3) z2, .ok (.fn 3 z2 2), .ok (.fn 3 z2 3), .fn 16 (EMd 8) z3, .ok (.fn 8 z3 2), .ok (.fn 8 z3 3), .is (.fn 8 z3 4) (.bool false), .idx (.fn 6 [.lit 8 [.var 0, .var 1, .var 2, .var 3, .var 4, .var 5, .var 6, .var 7], .con (.int .i64 8)] 0) (.con (.int .i64 0)) 2 2, .idx (.fn 6 [.lit 8 [.var 0, .var 1, .var 2, .var 3, .var 4, .var 5, .var 6, .var 7], .con (.int .i64 8)] 0) (.con (.int .i64 0)) 2 1, .ok (.cell (.fn 6 [.lit 8 [.var 0, .var 1, .var 2, .var 3, .var 4, .var 5, .var 6, .var 7], .con (.int .i64 8)] 0) (.con (.int .i64 0)) 2 0), .fn 14 (ERead 2) z4, .ok (.fn 2 z4 0), .is (.fn 2 z4 1) (.bool true), .ok (.bin .rem (.var 8) (.con (.int .u8 40))), .ok (.bin .geq (.bin .rem (.var 8) (.con (.int .u8 40))) (.con (.int .u8 32))), .is (.bin .geq (.bin .rem (.var 8) (.con (.int .u8 40))) (.con (.int .u8 32))) (.bool false), .idx (.fn 6 [.lit 8 [.var 0, .var 1, .var 2, .var 3, .var 4, .var 5, .var 6, .var 7], .con (.int .i64 8)] 0) (.con (.int .i64 0)) 2 2, .idx (.fn 6 [.lit 8 [.var 0, .var 1, .var 2, .var 3, .var 4, .var 5, .var 6, .var 7], .con (.int .i64 8)] 0) (.con (.int .i64 0)) 2 2, .ok (.cell (.fn 6 [.lit 8 [.var 0, .var 1, .var 2, .var 3, .var 4, .var 5, .var 6, .var 7], .con (.int .i64 8)] 0) (.con (.int .i64 0)) 2 1), .ok (.bin .eql (.fn 2 z4 0) (.cell (.fn 6 [.lit 8 [.var 0, .var 1, .var 2, .var 3, .var 4, .var 5, .var 6, .var 7], .con (.int .i64 8)] 0) (.con (.int .i64 0)) 2 1)), .is (.bin .eql (.fn 2 z4 0) (.cell (.fn 6 [.lit 8 [.var 0, .var 1, .var 2, .var 3, .var 4, .var 5, .var 6, .var 7], .con (.int .i64 8)] 0) (.con (.int .i64 0)) 2 1)) (.bool false), .ok (.con (.bool true))], [.con (.bool true)]) := by kernel_rfl
def ELaw (k : Nat) : FnE := { k := k, ins := [some 8, none], leaks := [], outs := [none], kinds := [.truth] }
def RL (ps qs : List PV) : Prop := ∃ (A : List Nat) (n : Nat), A.length = 8 ∧ (∀ z ∈ A, z < 256) ∧ n < 256 ∧ ps = lu A ++ [pU (n : Int)] ∧ qs = [pB true]
theorem fL : ∀ ps q1 q2, RL ps q1 → RL ps q2 → q1 = q2 := by
  rintro ps q1 q2 ⟨_, _, _, _, _, _, rfl⟩ ⟨_, _, _, _, _, _, rfl⟩; rfl
set_option maxHeartbeats 4000000 in
theorem told (k0 : Nat) : ToldF 4 (ELaw k0) (spec RL) := by
  refine told_by G _ (bodyOf Try.prog 4) Try.func4 (by kernel_rfl) shH (by kernel_rfl) ?_ ?_
  · intro ps qs h i hi
    obtain ⟨A, n, hA, _, _, rfl, rfl⟩ := of_spec h
    obtain ⟨a0, a1, a2, a3, a4, a5, a6, a7, rfl⟩ := len8 hA
    match i, hi with
    | 0, _ => exact ⟨_, rfl, rfl⟩
    | 1, _ => exact ⟨_, rfl, rfl⟩
    | 2, _ => exact ⟨_, rfl, rfl⟩
    | 3, _ => exact ⟨_, rfl, rfl⟩
    | 4, _ => exact ⟨_, rfl, rfl⟩
    | 5, _ => exact ⟨_, rfl, rfl⟩
    | 6, _ => exact ⟨_, rfl, rfl⟩
    | 7, _ => exact ⟨_, rfl, rfl⟩
    | 8, _ => exact ⟨_, rfl, rfl⟩
    | i + 9, hi => simp [shH] at hi
  · intro C ps qs hF h a w hsh
    obtain ⟨A, n, hA, hAb, hn, rfl, rfl⟩ := of_spec h
    have f6a := G6 hA hAb
    have hp := puts_of hA
    obtain ⟨p, hpa⟩ : ∃ p, putsF SEC 0 A = p := ⟨_, rfl⟩
    rw [hpa] at f6a hp
    obtain ⟨a0, a1, a2, a3, a4, a5, a6, a7, rfl⟩ := len8 hA
    clear hpa hAb hA
    rw [← row8] at f6a
    simp only [lu, List.map_cons, List.map_nil, List.cons_append, List.nil_append] at hsh
    obtain ⟨ps, hps⟩ : ∃ ps : List PV, ps = [pU (a0 : Int), pU (a1 : Int), pU (a2 : Int), pU (a3 : Int), pU (a4 : Int), pU (a5 : Int), pU (a6 : Int), pU (a7 : Int), pU (n : Int)] := ⟨_, rfl⟩
    rw [← hps] at hsh
    have s0 : ps[0]? = some (pU (a0 : Int)) := by rw [hps]; rfl
    have s1 : ps[1]? = some (pU (a1 : Int)) := by rw [hps]; rfl
    have s2 : ps[2]? = some (pU (a2 : Int)) := by rw [hps]; rfl
    have s3 : ps[3]? = some (pU (a3 : Int)) := by rw [hps]; rfl
    have s4 : ps[4]? = some (pU (a4 : Int)) := by rw [hps]; rfl
    have s5 : ps[5]? = some (pU (a5 : Int)) := by rw [hps]; rfl
    have s6 : ps[6]? = some (pU (a6 : Int)) := by rw [hps]; rfl
    have s7 : ps[7]? = some (pU (a7 : Int)) := by rw [hps]; rfl
    have s8 : ps[8]? = some (pU (n : Int)) := by rw [hps]; rfl
    clear hps
    show wpL Try.prog flH _ a w
    have fin : ∀ qs a1 w1, qs = [pB true] → InShape C shHR qs a1 w1 → (AX.ret = .normal → wpL Try.prog [] (fun e a' w' => (e = .normal ∨ e = .ret) ∧ ∃ sh' ps' es, InShape C sh' ps' a' w' ∧ resTo Try.prog Try.f4 sh' (ELaw k0) = some es ∧ evs (fun i => ps'[i]?) G es = some [pB true]) a1 w1) ∧ (AX.ret ≠ .normal → ((AX.ret.to = .normal ∨ AX.ret.to = .ret) ∧ ∃ sh' ps' es, InShape C sh' ps' a1 w1 ∧ resTo Try.prog Try.f4 sh' (ELaw k0) = some es ∧ evs (fun i => ps'[i]?) G es = some [pB true])) := by
      rintro qs a1 w1 rfl h1
      exact ⟨fun h => (by cases h), fun _ => ⟨.inr rfl, shHR, _, [SX.var 0], h1, by kernel_rfl, rfl⟩⟩
    rw [← List.append_nil flH]
    rcases hp with rfl | hp
    · refine seg_ok eng.names_ok eng.mixed_ok (orcFn_ok _) q1 hsh ?_ (fun qs a1 w1 hq h1 => fin qs a1 w1 (by simp [evs, SX.ev] at hq; exact hq.symm) h1)
      simp only [List.mem_cons, List.not_mem_nil, or_false, forall_eq_or_imp, forall_eq]
      simp [holds_idxP, holds_cellsP, Base.ev, SX.ev, evs, Value.oneCell', hF, lenPV_row, binPV, G5, u5, f6a, u6, s0, s1, s2, s3, s4, s5, s6, s7, s8]
    have h1p := hp.one
    have h8p := hp.few
    have h0 : 0 < p.length := by omega
    have hlt := hp.lt _ (List.getElem_mem h0)
    obtain ⟨ar, har⟩ : ∃ ar, 2 + p.length = ar := ⟨_, rfl⟩
    have v2 : IntKind.i64.wrap (2 + (p.length : Int)) = (ar : Int) := by rw [wrapI _ (by omega) (by omega)]; omega
    have hcm := commit_head calm0 hp
    rw [har] at hcm
    have f7 := G7 calm0 (by omega) (.inr hp) hcm
    obtain ⟨rr, hrr⟩ : ∃ rr, n % 40 = rr := ⟨_, rfl⟩
    have rn : ((n : Int).tmod 40) = (rr : Int) := by rw [← hrr]; rfl
    have wn : IntKind.i64.wrap (rr : Int) = (rr : Int) := wrapI _ (by omega) (by omega)
    obtain ⟨L', hc', hcr, hy, hno⟩ := head_part calm0 hp [(rr : Int)]
    have hka : keepAt [(rr : Int)] 0 = 32 ↔ 32 ≤ rr := by
      show (max 0 (min (rr : Int) 32)).toNat = 32 ↔ _
      omega
    have okc : (⟨S2 L0 p, [(8, headB (ats p))], 0, true⟩ : D).ok := ok_cut (calm2 calm0 hp) (fit_h hp) (by simp)
    have f3 : G 3 [pRow encS (S2 L0 p), pRow encP [(8, headB (ats p))], pI 0, pB true, .row 1 [pI (rr : Int)]] = some [pRow encS L', pRow encP [], pI 0, pB false] := G3 okc hcr
    have f8 := G8f hc'
    have hcU := mended_calm hc'
    have f2 := G20 (i := p[0].1) hcU (by omega)
    have c0 : cellPV (pRow encP p) (pI 0) 2 0 = some (pI (p[0].1 : Int)) := (cellP p 0 h0).1
    have c1 : cellPV (pRow encP p) (pI 0) 2 1 = some (pS p[0].2) := (cellP p 0 h0).2
    have i1 : IdxP (some (pRow encP p)) (some (pI 0)) 2 1 := idxP_row encP p 0 2 1 .i64 rfl h0 (by decide)
    have i2 : IdxP (some (pRow encP p)) (some (pI 0)) 2 2 := idxP_row encP p 0 2 2 .i64 rfl h0 (by decide)
    have hne : ¬ (p.length : Int) = 0 := by omega
    have hne2 : ¬ p = [] := fun e => by rw [e] at h0; simp at h0
    have hP : 32 ≤ rr → (mended L').getD p[0].1 e0 = p[0].2 := fun h => put_there calm0 hp (hy (hka.2 h)).2 0 h0
    have hN : ¬ 32 ≤ rr → (mended L').getD p[0].1 e0 = noughts := fun h => by
      rw [(hno (fun e => h (hka.1 e))).2 _ hlt, L0, List.getD, List.getElem?_replicate, if_pos (by omega)]; rfl
    have hb1 : 32 ≤ rr → (named L' 8).isSome = true := fun h => by rw [(hy (hka.2 h)).1]; rfl
    have hb0 : ¬ 32 ≤ rr → (named L' 8).isSome = false := fun h => by rw [(hno (fun e => h (hka.1 e))).1]; rfl
    have geb : (32 : Int) ≤ (rr : Int) ↔ 32 ≤ rr := by omega
    generalize (mended L').getD p[0].1 e0 = got at *
    generalize (named L' 8).isSome = nm at *
    generalize p[0].1 = x1 at *
    generalize p[0].2 = x2 at *
    generalize mended L' = U at *
    generalize S2 L0 p = W2 at *
    simp only [dk] at f7 f8
    have g1 : evs (fun i => ps[i]?) G z1 = some [pRow encS L0, pRow encP [], pI (ar : Int), pB false, pI 8, pRow encP p] := by
      simp [z1, evs, SX.ev, G1, f6a, binPV, lenPV_row, v2, s0, s1, s2, s3, s4, s5, s6, s7, s8]
    have g2 : evs (fun i => ps[i]?) G z2 = some [pRow encS W2, pRow encP [(8, headB (ats p))], pI 0, pB true, .row 1 [pI (rr : Int)]] := by
      simp [z2, evs, SX.ev, g1, f7, binPV, convPV, rn, wn, s8]
    have g3 : evs (fun i => ps[i]?) G z3 = some [pRow encS L', pRow encP [], pI 0, pB false, pI 8] := by
      simp [z3, evs, SX.ev, g2, f3]
    have g4 : evs (fun i => ps[i]?) G z4 = some [pRow encS U, pRow encP [], pI 0, pB false, pI (x1 : Int)] := by
      simp [z4, evs, SX.ev, g3, f8, f6a, c0, s0, s1, s2, s3, s4, s5, s6, s7, s8]
    by_cases hge : 32 ≤ rr
    · have e1 := hb1 hge
      have e2 := hP hge
      subst e1
      subst e2
      refine seg_ok eng.names_ok eng.mixed_ok (orcFn_ok _) h1 hsh ?_ (fun qs a1 w1 hq h1 => fin qs a1 w1 (by simp [evs, SX.ev] at hq; exact hq.symm) h1)
      simp only [List.mem_cons, List.not_mem_nil, or_false, forall_eq_or_imp, forall_eq]
      simp [holds_idxP, holds_cellsP, Base.ev, SX.ev, evs, Value.oneCell', hF, lenPV_row, binPV, convPV, G5, u5, f6a, u6, hne, hne2, G1, u1, v2, g1, f7, u7, rn, wn, geb, g2, f3, u3, g3, f8, u8d, hge, i1, i2, c0, c1, g4, f2, u2, s0, s1, s2, s3, s4, s5, s6, s7, s8]
    · have e1 := hb0 hge
      have e2 := hN hge
      subst e1
      subst e2
      have hlt32 : rr < 32 := by omega
      by_cases heq : noughts = x2
      · subst heq
        refine seg_ok eng.names_ok eng.mixed_ok (orcFn_ok _) h01 hsh ?_ (fun qs a1 w1 hq h1 => fin qs a1 w1 (by simp [evs, SX.ev] at hq; exact hq.symm) h1)
        simp only [List.mem_cons, List.not_mem_nil, or_false, forall_eq_or_imp, forall_eq]
        simp [holds_idxP, holds_cellsP, Base.ev, SX.ev, evs, Value.oneCell', hF, lenPV_row, binPV, convPV, G5, u5, f6a, u6, hne, hne2, G1, u1, v2, g1, f7, u7, rn, wn, geb, g2, f3, u3, g3, f8, u8d, hge, hlt32, i1, i2, c0, c1, g4, f2, u2, s0, s1, s2, s3, s4, s5, s6, s7, s8]
      · refine seg_ok eng.names_ok eng.mixed_ok (orcFn_ok _) h00 hsh ?_ (fun qs a1 w1 hq h1 => fin qs a1 w1 (by simp [evs, SX.ev] at hq; exact hq.symm) h1)
        simp only [List.mem_cons, List.not_mem_nil, or_false, forall_eq_or_imp, forall_eq]
        simp [holds_idxP, holds_cellsP, Base.ev, SX.ev, evs, Value.oneCell', hF, lenPV_row, binPV, convPV, G5, u5, f6a, u6, hne, hne2, G1, u1, v2, g1, f7, u7, rn, wn, geb, g2, f3, u3, g3, f8, u8d, hge, hlt32, heq, i1, i2, c0, c1, g4, f2, u2, s0, s1, s2, s3, s4, s5, s6, s7, s8]
        exact fun e => heq (rdk.toList_inj e)
theorem walk (w : World) (z0 : List Int) (n0 : z0.length = 8) (w0 : ∀ z ∈ z0, (Lit.int .u8 z).wf = true) (a1 : Int) (w1 : (Lit.int .u8 a1).wf = true) :
    Calls Try.prog 4 #[.agg (z0.map (Value.int .u8)).toArray, .int .u8 a1] w fun e w' => e = .returned (.bool true) ∧ Ex w w' := by
  obtain ⟨A, hA, hAb, rfl⟩ := nats8 n0 w0
  have hb2 := bounds_u8 w1
  obtain ⟨n, rfl⟩ : ∃ n : Nat, a1 = (n : Int) := ⟨a1.toNat, by omega⟩
  have hsp : spec RL (lu A ++ [pU (n : Int)]) = some [pB true] := spec_of fL ⟨A, n, hA, hAb, by omega, rfl, rfl⟩
  obtain ⟨a0, a1, a2, a3, a4, a5, a6, a7, rfl⟩ := len8 hA
  refine told_true (told 0) rfl (us := [.int .u8 (a0 : Int), .int .u8 (a1 : Int), .int .u8 (a2 : Int), .int .u8 (a3 : Int), .int .u8 (a4 : Int), .int .u8 (a5 : Int), .int .u8 (a6 : Int), .int .u8 (a7 : Int), .int .u8 (n : Int)]) hsp rfl rfl (fun i p u hp hu => ?_)
  match i, hp, hu with
  | 0, hp, hu => simp [lu] at hp hu; subst hp; subst hu; exact plainReads rfl
  | 1, hp, hu => simp [lu] at hp hu; subst hp; subst hu; exact plainReads rfl
  | 2, hp, hu => simp [lu] at hp hu; subst hp; subst hu; exact plainReads rfl
  | 3, hp, hu => simp [lu] at hp hu; subst hp; subst hu; exact plainReads rfl
  | 4, hp, hu => simp [lu] at hp hu; subst hp; subst hu; exact plainReads rfl
  | 5, hp, hu => simp [lu] at hp hu; subst hp; subst hu; exact plainReads rfl
  | 6, hp, hu => simp [lu] at hp hu; subst hp; subst hu; exact plainReads rfl
  | 7, hp, hu => simp [lu] at hp hu; subst hp; subst hu; exact plainReads rfl
  | 8, hp, hu => simp [lu] at hp hu; subst hp; subst hu; exact plainReads rfl
  | i + 9, hp, hu => simp [lu] at hp
end Go.Proofs.Ytegfdigljpnhcaa.jrnlHead
