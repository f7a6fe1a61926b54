/- JrnlTwice by the symbolic engine. -/
import Derived.Test.YtegfdigljpnhcaaJlc
namespace Go.Proofs.Ytegfdigljpnhcaa.jrnlTwice
open Go Go.RowKit eng SX Fact dsk jlb jlc
open jhd
open jcm (dkbox)
open jco (EMd ECm)
open jmt hiding Pt Calm
open fil
open rdk hiding dbox
open symD hiding pRow_inj
set_option linter.unusedVariables false
set_option linter.unusedSimpArgs false
set_option maxRecDepth 1000000

noncomputable def flT := flat (bodyOf Try.prog 5)
noncomputable def lpT := flat (loopBody (nth flT 15))
def n8 : List (Option Bool) := List.replicate 8 none
def shT : Shape := ⟨[(0, .agg 8), (1, .agg 8), (2, .leaf), (3, .leaf)], [], n8 ++ n8 ++ [none, some false], 104, 5⟩
def shTl : Shape := ⟨[(12, .ptr 0 0 0 0), (13, .leaf), (14, .ptr 1 0 0 0), (15, .leaf), (17, .leaf), (18, .ptr 2 0 0 0), (20, .leaf), (21, .leaf)], [dkbox, dkbox, dkbox], [none, none, none, some true, none, some true, some true, none, none, some true, some true, none, none, some true, some true, none, none], 104, 5⟩
def shTR : Shape := ⟨[(8, .leaf)], [], [none], 104, 5⟩
theorem q1 : segTo Try.prog (orcFn tabT) 10000 flT shT [1, 1] shTR [] = some (.ret, [.fn 10 (ETrue 5) [], .is (.fn 5 [] 0) (.bool true), .ok (.len (.var 17)), .ok (.bin .gtr (.len (.var 17)) (.con (.int .i64 20))), .is (.bin .gtr (.len (.var 17)) (.con (.int .i64 20))) (.bool true), .ok (.con (.bool true))], [.con (.bool true)]) := by kernel_rfl
def z1 : List SX := [.fn 1 [.con (.int .i64 17)] 0, .fn 1 [.con (.int .i64 17)] 1, .conv .i64 (.bin .rem (.var 16) (.con (.int .u8 24))), .fn 1 [.con (.int .i64 17)] 3, .con (.int .i64 8), .fn 6 [.lit 8 [.var 0, .var 1, .var 2, .var 3, .var 4, .var 5, .var 6, .var 7], .con (.int .i64 8)] 0]
def z2 : List SX := [.fn 7 z1 0, .fn 7 z1 1, .fn 7 z1 2, .fn 7 z1 3, .var 17]
def z3 : List SX := [.fn 3 z2 0, .fn 3 z2 1, .fn 3 z2 2, .fn 3 z2 3, .con (.int .i64 8)]
def z4 : List SX := [.fn 8 z3 0, .fn 8 z3 1, .fn 8 z3 2, .fn 8 z3 3, .con (.int .i64 8)]
def z5 : List SX := [.fn 8 z4 0, .fn 8 z4 1, .fn 8 z4 2, .fn 8 z4 3, .con (.int .i64 8), .fn 6 [.lit 8 [.var 8, .var 9, .var 10, .var 11, .var 12, .var 13, .var 14, .var 15], .con (.int .i64 8)] 0]
def z6 : List SX := [.fn 7 z5 0, .fn 7 z5 1, .fn 7 z5 2, .fn 7 z5 3, .con (.int .i64 8)]
theorem pre1 : segTo Try.prog (orcFn tabT) 10000 (flT.take 15) shT [1, 0, 1, 1] shTl [(14, 0), (17, 0), (24, 0)] hL = some (.normal, [.fn 10 (ETrue 5) [], .is (.fn 5 [] 0) (.bool true), .ok (.len (.var 17)), .ok (.bin .gtr (.len (.var 17)) (.con (.int .i64 20))), .is (.bin .gtr (.len (.var 17)) (.con (.int .i64 20))) (.bool false), .fn 12 (ENew 1) [.con (.int .i64 17)], .ok (.fn 1 [.con (.int .i64 17)] 2), .ok (.fn 1 [.con (.int .i64 17)] 3), .ok (.bin .rem (.var 16) (.con (.int .u8 24))), .ok (.conv .i64 (.bin .rem (.var 16) (.con (.int .u8 24)))), .fn 13 (EPt 6) [.lit 8 [.var 0, .var 1, .var 2, .var 3, .var 4, .var 5, .var 6, .var 7], .con (.int .i64 8)], .fn 11 (ECm 7) z1, .ok (.fn 7 z1 2), .ok (.fn 7 z1 3), .is (.fn 7 z1 4) (.bool true), .fn 15 (ECrashR 3) z2, .ok (.fn 3 z2 2), .ok (.fn 3 z2 3), .fn 16 (EMn 8) z3, .ok (.fn 8 z3 2), .ok (.fn 8 z3 3), .ok (.fn 8 z3 4), .fn 16 (EMn 8) z4, .ok (.fn 8 z4 2), .ok (.fn 8 z4 3), .ok (.fn 8 z4 4), .fn 13 (EPt 6) [.lit 8 [.var 8, .var 9, .var 10, .var 11, .var 12, .var 13, .var 14, .var 15], .con (.int .i64 8)], .fn 11 (ECm 7) z5, .ok (.fn 7 z5 2), .ok (.fn 7 z5 3), .is (.fn 7 z5 4) (.bool true), .fn 16 (EMn 8) z6, .ok (.fn 8 z6 2), .ok (.fn 8 z6 3), .ok (.fn 8 z6 4), .fn 13 (EPt 6) [.lit 8 [.var 8, .var 9, .var 10, .var 11, .var 12, .var 13, .var 14, .var 15], .con (.int .i64 8)], .ok (.fn 8 z3 4), .ok (.fn 8 z4 4), .ok (.con (.bool true)), .ok (.con (.int .i64 0)), .ok (.fn 8 z3 2), .ok (.fn 8 z3 3), .ok (.fn 8 z4 2), .ok (.fn 8 z4 3), .ok (.fn 8 z6 2), .ok (.fn 8 z6 3)], [.fn 8 z3 4, .fn 8 z4 4, .con (.bool true), .fn 6 [.lit 8 [.var 8, .var 9, .var 10, .var 11, .var 12, .var 13, .var 14, .var 15], .con (.int .i64 8)] 0, .con (.int .i64 0), .fn 8 z3 0, .fn 8 z3 1, .fn 8 z3 2, .fn 8 z3 3, .fn 8 z4 0, .fn 8 z4 1, .fn 8 z4 2, .fn 8 z4 3, .fn 8 z6 0, .fn 8 z6 1, .fn 8 z6 2, .fn 8 z6 3]) := by kernel_rfl
theorem pre0 : segTo Try.prog (orcFn tabT) 10000 (flT.take 15) shT [1, 0, 0, 1] shTl [(14, 0), (17, 0), (24, 0)] hL = some (.normal, [.fn 10 (ETrue 5) [], .is (.fn 5 [] 0) (.bool true), .ok (.len (.var 17)), .ok (.bin .gtr (.len (.var 17)) (.con (.int .i64 20))), .is (.bin .gtr (.len (.var 17)) (.con (.int .i64 20))) (.bool false), .fn 12 (ENew 1) [.con (.int .i64 17)], .ok (.fn 1 [.con (.int .i64 17)] 2), .ok (.fn 1 [.con (.int .i64 17)] 3), .ok (.bin .rem (.var 16) (.con (.int .u8 24))), .ok (.conv .i64 (.bin .rem (.var 16) (.con (.int .u8 24)))), .fn 13 (EPt 6) [.lit 8 [.var 0, .var 1, .var 2, .var 3, .var 4, .var 5, .var 6, .var 7], .con (.int .i64 8)], .fn 11 (ECm 7) z1, .ok (.fn 7 z1 2), .ok (.fn 7 z1 3), .is (.fn 7 z1 4) (.bool false), .fn 15 (ECrashR 3) z2, .ok (.fn 3 z2 2), .ok (.fn 3 z2 3), .fn 16 (EMn 8) z3, .ok (.fn 8 z3 2), .ok (.fn 8 z3 3), .ok (.fn 8 z3 4), .fn 16 (EMn 8) z4, .ok (.fn 8 z4 2), .ok (.fn 8 z4 3), .ok (.fn 8 z4 4), .fn 13 (EPt 6) [.lit 8 [.var 8, .var 9, .var 10, .var 11, .var 12, .var 13, .var 14, .var 15], .con (.int .i64 8)], .fn 11 (ECm 7) z5, .ok (.fn 7 z5 2), .ok (.fn 7 z5 3), .is (.fn 7 z5 4) (.bool true), .fn 16 (EMn 8) z6, .ok (.fn 8 z6 2), .ok (.fn 8 z6 3), .ok (.fn 8 z6 4), .fn 13 (EPt 6) [.lit 8 [.var 8, .var 9, .var 10, .var 11, .var 12, .var 13, .var 14, .var 15], .con (.int .i64 8)], .ok (.fn 8 z3 4), .ok (.fn 8 z4 4), .ok (.con (.bool true)), .ok (.con (.int .i64 0)), .ok (.fn 8 z3 2), .ok (.fn 8 z3 3), .ok (.fn 8 z4 2), .ok (.fn 8 z4 3), .ok (.fn 8 z6 2), .ok (.fn 8 z6 3)], [.fn 8 z3 4, .fn 8 z4 4, .con (.bool true), .fn 6 [.lit 8 [.var 8, .var 9, .var 10, .var 11, .var 12, .var 13, .var 14, .var 15], .con (.int .i64 8)] 0, .con (.int .i64 0), .fn 8 z3 0, .fn 8 z3 1, .fn 8 z3 2, .fn 8 z3 3, .fn 8 z4 0, .fn 8 z4 1, .fn 8 z4 2, .fn 8 z4 3, .fn 8 z6 0, .fn 8 z6 1, .fn 8 z6 2, .fn 8 z6 3]) := by kernel_rfl
theorem ex : segTo Try.prog (orcFn tabT) 10000 lpT shTl [0] shTl [(0, 0), (1, 0), (2, 0)] hL = some (.exit 0, [.ok (.len (.var 3)), .ok (.bin .lss (.var 4) (.len (.var 3))), .is (.bin .lss (.var 4) (.len (.var 3))) (.bool false), .ok (.var 0), .ok (.var 1), .ok (.var 2), .ok (.var 4), .ok (.var 7), .ok (.var 8), .ok (.var 11), .ok (.var 12), .ok (.var 15), .ok (.var 16)], [.var 0, .var 1, .var 2, .var 3, .var 4, .var 5, .var 6, .var 7, .var 8, .var 9, .var 10, .var 11, .var 12, .var 13, .var 14, .var 15, .var 16]) := by kernel_rfl
theorem on : segTo Try.prog (orcFn tabT) 10000 lpT shTl [1, 1, 0] shTl [(0, 0), (1, 0), (2, 0)] hL = some (.normal, [.ok (.len (.var 3)), .ok (.bin .lss (.var 4) (.len (.var 3))), .is (.bin .lss (.var 4) (.len (.var 3))) (.bool true), .idx (.var 3) (.var 4) 2 2, .idx (.var 3) (.var 4) 2 1, .ok (.cell (.var 3) (.var 4) 2 0), .fn 14 (ERead 2) [.var 13, .var 14, .var 15, .var 16, .cell (.var 3) (.var 4) 2 0], .ok (.fn 2 [.var 13, .var 14, .var 15, .var 16, .cell (.var 3) (.var 4) 2 0] 0), .is (.fn 2 [.var 13, .var 14, .var 15, .var 16, .cell (.var 3) (.var 4) 2 0] 1) (.bool true), .idx (.var 3) (.var 4) 2 2, .idx (.var 3) (.var 4) 2 2, .ok (.cell (.var 3) (.var 4) 2 1), .ok (.bin .neq (.fn 2 [.var 13, .var 14, .var 15, .var 16, .cell (.var 3) (.var 4) 2 0] 0) (.cell (.var 3) (.var 4) 2 1)), .is (.bin .neq (.fn 2 [.var 13, .var 14, .var 15, .var 16, .cell (.var 3) (.var 4) 2 0] 0) (.cell (.var 3) (.var 4) 2 1)) (.bool false), .ok (.bin .add (.var 4) (.con (.int .i64 1))), .ok (.var 0), .ok (.var 1), .ok (.var 2), .ok (.bin .add (.var 4) (.con (.int .i64 1))), .ok (.var 7), .ok (.var 8), .ok (.var 11), .ok (.var 12), .ok (.var 15), .ok (.var 16)], [.var 0, .var 1, .var 2, .var 3, .bin .add (.var 4) (.con (.int .i64 1)), .var 5, .var 6, .var 7, .var 8, .var 9, .var 10, .var 11, .var 12, .var 13, .var 14, .var 15, .var 16]) := by kernel_rfl
theorem post : segTo Try.prog (orcFn tabT) 10000 (flT.drop 16) shTl [1, 1] shTR [] hL = some (.ret, [.ok (rop ROp.eqB [.var 0, .var 1]), .is (rop ROp.eqB [.var 0, .var 1]) (.bool true), .fn 17 (ESame2 4) [.var 5, .var 9], .is (.fn 4 [.var 5, .var 9] 0) (.bool true), .ok (.var 2)], [.var 2]) := by kernel_rfl

def ELaw (k : Nat) : FnE := { k := k, ins := [some 8, some 8, none, none], leaks := [], outs := [none], kinds := [.truth] }
def RL (ps qs : List PV) : Prop := ∃ (A B : List Nat) (arm : Nat) (keep : List Int), A.length = 8 ∧ B.length = 8 ∧ (∀ z ∈ A, z < 256) ∧ (∀ z ∈ B, z < 256) ∧ arm < 256 ∧ ps = lu A ++ (lu B ++ [pU (arm : Int), pRow encI keep]) ∧ qs = [pB true]
theorem fL : ∀ ps q1 q2, RL ps q1 → RL ps q2 → q1 = q2 := by
  rintro ps q1 q2 ⟨_, _, _, _, _, _, _, _, _, _, rfl⟩ ⟨_, _, _, _, _, _, _, _, _, _, rfl⟩; rfl
theorem cutT : flT = flT.take 15 ++ .block (blockId (nth flT 15)) (.loop (loopBody (nth flT 15))) :: flT.drop 16 := by kernel_rfl
abbrev stL (n : Bool) (p : List jmt.Pt) (i : Nat) (M U : List ByteArray) : List PV := [pB n, pB n, pB true, pRow encP p, pI (i : Int), pRow encS M, pRow encP [], pI 0, pB false, pRow encS M, pRow encP [], pI 0, pB false, pRow encS U, pRow encP [], pI 0, pB false]
set_option maxHeartbeats 4000000 in
theorem told (k0 : Nat) : ToldF 5 (ELaw k0) (spec RL) := by
  refine told_by G _ (bodyOf Try.prog 5) Try.func5 (by kernel_rfl) shT (by kernel_rfl) ?_ ?_
  · intro ps qs h i hi
    obtain ⟨A, B, arm, keep, hA, hB, _, _, _, rfl, rfl⟩ := of_spec h
    obtain ⟨a0, a1, a2, a3, a4, a5, a6, a7, rfl⟩ := len8 hA
    obtain ⟨b0, b1, b2, b3, b4, b5, b6, b7, rfl⟩ := len8 hB
    simp [shT, n8] at hi
    match i, hi with
    | 0, _ => exact ⟨_, rfl, rfl⟩
    | 1, _ => exact ⟨_, rfl, rfl⟩
    | 2, _ => exact ⟨_, rfl, rfl⟩
    | 3, _ => exact ⟨_, rfl, rfl⟩
    | 4, _ => exact ⟨_, rfl, rfl⟩
    | 5, _ => exact ⟨_, rfl, rfl⟩
    | 6, _ => exact ⟨_, rfl, rfl⟩
    | 7, _ => exact ⟨_, rfl, rfl⟩
    | 8, _ => exact ⟨_, rfl, rfl⟩
    | 9, _ => exact ⟨_, rfl, rfl⟩
    | 10, _ => exact ⟨_, rfl, rfl⟩
    | 11, _ => exact ⟨_, rfl, rfl⟩
    | 12, _ => exact ⟨_, rfl, rfl⟩
    | 13, _ => exact ⟨_, rfl, rfl⟩
    | 14, _ => exact ⟨_, rfl, rfl⟩
    | 15, _ => exact ⟨_, rfl, rfl⟩
    | 16, _ => exact ⟨_, rfl, rfl⟩
    | 17, hi => simp at hi
    | i + 18, hi => simp at hi
  · intro C ps qs hF h a w hsh
    obtain ⟨A, B, arm, keep, hA, hB, hAb, hBb, harm, rfl, rfl⟩ := of_spec h
    have f6a := G6 hA hAb
    have f6b := G6 hB hBb
    have hpA := puts_of hA
    have hpB := puts_of hB
    obtain ⟨pA, hpa⟩ : ∃ p, putsF SEC 0 A = p := ⟨_, rfl⟩
    obtain ⟨pB', hpb⟩ : ∃ p, putsF SEC 0 B = p := ⟨_, rfl⟩
    rw [hpa] at f6a hpA
    rw [hpb] at f6b hpB
    obtain ⟨a0, a1, a2, a3, a4, a5, a6, a7, rfl⟩ := len8 hA
    obtain ⟨b0, b1, b2, b3, b4, b5, b6, b7, rfl⟩ := len8 hB
    clear hpa hpb hAb hBb hA hB
    rw [← row8] at f6a f6b
    simp only [lu, List.map_cons, List.map_nil, List.cons_append, List.nil_append] at hsh
    obtain ⟨ps, hps⟩ : ∃ ps : List PV, ps = [pU (a0 : Int), pU (a1 : Int), pU (a2 : Int), pU (a3 : Int), pU (a4 : Int), pU (a5 : Int), pU (a6 : Int), pU (a7 : Int), pU (b0 : Int), pU (b1 : Int), pU (b2 : Int), pU (b3 : Int), pU (b4 : Int), pU (b5 : Int), pU (b6 : Int), pU (b7 : Int), pU (arm : Int), pRow encI keep] := ⟨_, rfl⟩
    rw [← hps] at hsh
    have s0 : ps[0]? = some (pU (a0 : Int)) := by rw [hps]; rfl
    have s1 : ps[1]? = some (pU (a1 : Int)) := by rw [hps]; rfl
    have s2 : ps[2]? = some (pU (a2 : Int)) := by rw [hps]; rfl
    have s3 : ps[3]? = some (pU (a3 : Int)) := by rw [hps]; rfl
    have s4 : ps[4]? = some (pU (a4 : Int)) := by rw [hps]; rfl
    have s5 : ps[5]? = some (pU (a5 : Int)) := by rw [hps]; rfl
    have s6 : ps[6]? = some (pU (a6 : Int)) := by rw [hps]; rfl
    have s7 : ps[7]? = some (pU (a7 : Int)) := by rw [hps]; rfl
    have s8 : ps[8]? = some (pU (b0 : Int)) := by rw [hps]; rfl
    have s9 : ps[9]? = some (pU (b1 : Int)) := by rw [hps]; rfl
    have s10 : ps[10]? = some (pU (b2 : Int)) := by rw [hps]; rfl
    have s11 : ps[11]? = some (pU (b3 : Int)) := by rw [hps]; rfl
    have s12 : ps[12]? = some (pU (b4 : Int)) := by rw [hps]; rfl
    have s13 : ps[13]? = some (pU (b5 : Int)) := by rw [hps]; rfl
    have s14 : ps[14]? = some (pU (b6 : Int)) := by rw [hps]; rfl
    have s15 : ps[15]? = some (pU (b7 : Int)) := by rw [hps]; rfl
    have s16 : ps[16]? = some (pU (arm : Int)) := by rw [hps]; rfl
    have s17 : ps[17]? = some (pRow encI keep) := by rw [hps]; rfl
    clear hps
    show wpL Try.prog flT _ a w
    have fin : ∀ qs a1 w1, qs = [pB true] → InShape C shTR qs a1 w1 → (AX.ret = .normal → wpL Try.prog [] (fun e a' w' => (e = .normal ∨ e = .ret) ∧ ∃ sh' ps' es, InShape C sh' ps' a' w' ∧ resTo Try.prog Try.f5 sh' (ELaw k0) = some es ∧ evs (fun i => ps'[i]?) G es = some [pB true]) a1 w1) ∧ (AX.ret ≠ .normal → ((AX.ret.to = .normal ∨ AX.ret.to = .ret) ∧ ∃ sh' ps' es, InShape C sh' ps' a1 w1 ∧ resTo Try.prog Try.f5 sh' (ELaw k0) = some es ∧ evs (fun i => ps'[i]?) G es = some [pB true])) := by
      rintro qs a1 w1 rfl h1
      exact ⟨fun h => (by cases h), fun _ => ⟨.inr rfl, shTR, _, [SX.var 0], h1, by kernel_rfl, rfl⟩⟩
    by_cases hl1 : 20 < keep.length
    · rw [← List.append_nil flT]
      refine seg_ok eng.names_ok eng.mixed_ok (orcFn_ok _) q1 hsh ?_ (fun qs a1 w1 hq h1 => fin qs a1 w1 (by simp [evs, SX.ev] at hq; exact hq.symm) h1)
      simp only [List.mem_cons, List.not_mem_nil, or_false, forall_eq_or_imp, forall_eq]
      simp [holds_idxP, holds_cellsP, Base.ev, SX.ev, evs, Value.oneCell', hF, s17, lenPV_row, binPV, G5, u5]
      omega
    rw [cutT]
    -- what is reckoned
    obtain ⟨ar, har⟩ : ∃ ar, arm % 24 = ar := ⟨_, rfl⟩
    have ra : ((arm : Int).tmod 24) = (ar : Int) := by rw [← har]; rfl
    have ha1 : ar ≤ 1000 := by omega
    have wa : IntKind.i64.wrap (ar : Int) = (ar : Int) := wrapI _ (by omega) (by omega)
    obtain ⟨okd, hcr⟩ := commit_all (a := ar) calm0 hpA clean0 ha1
    obtain ⟨L', hc', hk, _⟩ := hcr keep
    cases hcm : commitD (dk L0 ar) 8 pA with
    | mk d1 c1 =>
    rw [hcm] at okd hk
    have f7 := G7 calm0 ha1 hpA hcm
    have f3 := G3 okd hk
    have f8 := G8f hc'
    have hcM := mended_calm hc'
    have f8b := G8f hcM
    have hcl := mended_clean hc'
    rw [mended_twice hc', mended_named hc'] at f8b
    obtain ⟨M, hcm2, hM, hMs, hMM⟩ := commit_now hcM hpB hcl
    have f7b := G7now hcM hpB hM
    have f8c := G8f hcm2
    have hcU := mended_calm hcm2
    have hU : Same8 (mended M) (setAll (mended L') pB') := same8_trans hMM hMs
    have rd : ∀ i (hi : i < pB'.length), (mended M).getD pB'[i].1 e0 = pB'[i].2 ∧ pB'[i].1 < 8 := fun i hi => by
      rcases hpB with rfl | hp
      · simp at hi
      · exact ⟨put_there hcM hp hU i hi, hp.lt _ (List.getElem_mem hi)⟩
    have hpl : pB'.length ≤ 8 := by
      rcases hpB with rfl | hp
      · simp
      · exact hp.few
    obtain ⟨ld, wd, ad, dd⟩ := d1
    simp only [dk] at f7 f3 f8 f8b f7b f8c
    generalize (named L' 8).isSome = nm at *
    generalize mended L' = ML at *
    generalize mended M = U at *
    have g1 : evs (fun i => ps[i]?) G z1 = some [pRow encS L0, pRow encP [], pI (ar : Int), pB false, pI 8, pRow encP pA] := by
      simp [z1, evs, SX.ev, G1, f6a, binPV, convPV, ra, wa, s0, s1, s2, s3, s4, s5, s6, s7, s8, s9, s10, s11, s12, s13, s14, s15, s16, s17]
    have g2 : evs (fun i => ps[i]?) G z2 = some [pRow encS ld, pRow encP wd, pI (ad : Int), pB dd, pRow encI keep] := by
      simp [z2, evs, SX.ev, g1, f7, s17]
    have g3 : evs (fun i => ps[i]?) G z3 = some [pRow encS L', pRow encP [], pI 0, pB false, pI 8] := by
      simp [z3, evs, SX.ev, g2, f3]
    have g4 : evs (fun i => ps[i]?) G z4 = some [pRow encS ML, pRow encP [], pI 0, pB false, pI 8] := by
      simp [z4, evs, SX.ev, g3, f8]
    have g5 : evs (fun i => ps[i]?) G z5 = some [pRow encS ML, pRow encP [], pI 0, pB false, pI 8, pRow encP pB'] := by
      simp [z5, evs, SX.ev, g4, f8b, f6b, s0, s1, s2, s3, s4, s5, s6, s7, s8, s9, s10, s11, s12, s13, s14, s15, s16, s17]
    have g6 : evs (fun i => ps[i]?) G z6 = some [pRow encS M, pRow encP [], pI 0, pB false, pI 8] := by
      simp [z6, evs, SX.ev, g5, f7b]
    have inv0 : ∀ a1 w1, InShape C shTl (stL nm pB' 0 ML U) a1 w1 → wpL Try.prog (.block (blockId (nth flT 15)) (.loop (loopBody (nth flT 15))) :: flT.drop 16) (fun e a' w' => (e = .normal ∨ e = .ret) ∧ ∃ sh' ps' es, InShape C sh' ps' a' w' ∧ resTo Try.prog Try.f5 sh' (ELaw k0) = some es ∧ evs (fun i => ps'[i]?) G es = some [pB true]) a1 w1 := by
      intro a1 w1 h1
      refine block_loop (fun m a w => ∃ i : Nat, i ≤ pB'.length ∧ m = pB'.length - i ∧ InShape C shTl (stL nm pB' i ML U) a w) ?_ (n := pB'.length) ⟨0, by omega, by omega, h1⟩
      rintro m a w ⟨i, hi, rfl, hin⟩
      show wpL Try.prog lpT _ a w
      rw [← List.append_nil lpT]
      by_cases hlt : i < pB'.length
      · obtain ⟨c0, c1⟩ := cellP pB' i hlt
        obtain ⟨r1, r2⟩ := rd i hlt
        have v3 : IntKind.i64.wrap ((i : Int) + 1) = (i : Int) + 1 := wrapI _ (by omega) (by omega)
        have i1 := idxP_row encP pB' i 2 1 .i64 rfl hlt (by decide)
        have i2 := idxP_row encP pB' i 2 2 .i64 rfl hlt (by decide)
        have f2 := G20 (i := pB'[i].1) hcU (by omega)
        rw [r1] at f2
        generalize pB'[i].1 = x1 at *
        generalize pB'[i].2 = x2 at *
        refine seg_ok eng.names_ok eng.mixed_ok (orcFn_ok _) on hin ?_ (fun qs a1 w1 hq h1 => ⟨fun _ => .inl ⟨rfl, pB'.length - (i + 1), by omega, i + 1, by omega, rfl, by simp [evs, SX.ev, binPV, v3] at hq; subst hq; exact h1⟩, fun h => absurd rfl h⟩)
        simp only [List.mem_cons, List.not_mem_nil, or_false, forall_eq_or_imp, forall_eq]
        simp [holds_idxP, holds_cellsP, Base.ev, SX.ev, evs, Value.oneCell', hF, lenPV_row, binPV, v3, hlt, i1, i2, c0, c1, f2, u2]
      · refine seg_ok eng.names_ok eng.mixed_ok (orcFn_ok _) ex hin ?_ ?_
        · simp only [List.mem_cons, List.not_mem_nil, or_false, forall_eq_or_imp, forall_eq]
          simp [holds_idxP, holds_cellsP, Base.ev, SX.ev, evs, Value.oneCell', lenPV_row, binPV]
          omega
        · intro qs a1 w1 hq h1
          refine ⟨fun h => (by cases h), fun _ => .inr (.inl ⟨by rw [show blockId (nth flT 15) = 0 by kernel_rfl]; rfl, ?_⟩)⟩
          simp [evs, SX.ev] at hq
          subst hq
          rw [← List.append_nil (flT.drop 16)]
          have f4 := G4 (xs := ML) (ys := ML) (by rw [hcM.n]; omega) (by rw [hcM.n]; omega)
          simp only [decide_true] at f4
          refine seg_ok eng.names_ok eng.mixed_ok (orcFn_ok _) post h1 ?_ (fun qs a1 w1 hq h1 => fin qs a1 w1 (by simp [evs, SX.ev] at hq; exact hq.symm) h1)
          have re : ropPV .eqB [pB nm, pB nm] = some (pB true) := by cases nm <;> rfl
          simp only [List.mem_cons, List.not_mem_nil, or_false, forall_eq_or_imp, forall_eq]
          simp [holds_idxP, holds_cellsP, Base.ev, SX.ev, evs, Value.oneCell', hF, lenPV_row, binPV, f4, u4, re]
    cases c1 with
    | true =>
      refine seg_ok eng.names_ok eng.mixed_ok (orcFn_ok _) pre1 hsh ?_ ?_
      · simp only [List.mem_cons, List.not_mem_nil, or_false, forall_eq_or_imp, forall_eq]
        simp [holds_idxP, holds_cellsP, Base.ev, SX.ev, evs, Value.oneCell', hF, lenPV_row, binPV, convPV, ra, wa, hl1, G5, u5, G1, u1, f6a, f6b, u6, g1, f7, f7b, u7, g2, f3, u3, g3, f8, u8, g4, f8b, g5, g6, f8c, s0, s1, s2, s3, s4, s5, s6, s7, s8, s9, s10, s11, s12, s13, s14, s15, s16, s17]
        omega
      · intro qs a1 w1 hq h1
        refine ⟨fun _ => inv0 a1 w1 ?_, fun h => absurd rfl h⟩
        simp [evs, SX.ev, hF, g1, g2, g3, g4, g5, g6, f7, f7b, f3, f8, f8b, f8c, f6b, s0, s1, s2, s3, s4, s5, s6, s7, s8, s9, s10, s11, s12, s13, s14, s15, s16, s17] at hq
        subst hq
        exact h1
    | false =>
      refine seg_ok eng.names_ok eng.mixed_ok (orcFn_ok _) pre0 hsh ?_ ?_
      · simp only [List.mem_cons, List.not_mem_nil, or_false, forall_eq_or_imp, forall_eq]
        simp [holds_idxP, holds_cellsP, Base.ev, SX.ev, evs, Value.oneCell', hF, lenPV_row, binPV, convPV, ra, wa, hl1, G5, u5, G1, u1, f6a, f6b, u6, g1, f7, f7b, u7, g2, f3, u3, g3, f8, u8, g4, f8b, g5, g6, f8c, s0, s1, s2, s3, s4, s5, s6, s7, s8, s9, s10, s11, s12, s13, s14, s15, s16, s17]
        omega
      · intro qs a1 w1 hq h1
        refine ⟨fun _ => inv0 a1 w1 ?_, fun h => absurd rfl h⟩
        simp [evs, SX.ev, hF, g1, g2, g3, g4, g5, g6, f7, f7b, f3, f8, f8b, f8c, f6b, s0, s1, s2, s3, s4, s5, s6, s7, s8, s9, s10, s11, s12, s13, s14, s15, s16, s17] at hq
        subst hq
        exact h1
theorem walk (w : World) (z0 : List Int) (n0 : z0.length = 8) (w0 : ∀ z ∈ z0, (Lit.int .u8 z).wf = true) (z1 : List Int) (n1 : z1.length = 8) (w1 : ∀ z ∈ z1, (Lit.int .u8 z).wf = true) (a2 : Int) (w2 : (Lit.int .u8 a2).wf = true) (v3 : Value) (len3 : Nat) (Z3 : Nat → Int) (w3 : IsRow .i64 w v3 len3 Z3) :
    Calls Try.prog 5 #[.agg (z0.map (Value.int .u8)).toArray, .agg (z1.map (Value.int .u8)).toArray, .int .u8 a2, v3] w fun e w' => e = .returned (.bool true) ∧ Ex w w' := by
  obtain ⟨A, hA, hAb, rfl⟩ := nats8 n0 w0
  obtain ⟨B, hB, hBb, rfl⟩ := nats8 n1 w1
  obtain ⟨keep, hk⟩ := rowI w3
  have hb2 := bounds_u8 w2
  obtain ⟨arm, rfl⟩ : ∃ n : Nat, a2 = (n : Int) := ⟨a2.toNat, by omega⟩
  have hsp : spec RL (lu A ++ (lu B ++ [pU (arm : Int), pRow encI keep])) = some [pB true] := spec_of fL ⟨A, B, arm, keep, hA, hB, hAb, hBb, by omega, rfl, rfl⟩
  obtain ⟨a0, a1, a2, a3, a4, a5, a6, a7, rfl⟩ := len8 hA
  obtain ⟨b0, b1, b2, b3, b4, b5, b6, b7, rfl⟩ := len8 hB
  refine told_true (told 0) rfl (us := [.int .u8 (a0 : Int), .int .u8 (a1 : Int), .int .u8 (a2 : Int), .int .u8 (a3 : Int), .int .u8 (a4 : Int), .int .u8 (a5 : Int), .int .u8 (a6 : Int), .int .u8 (a7 : Int), .int .u8 (b0 : Int), .int .u8 (b1 : Int), .int .u8 (b2 : Int), .int .u8 (b3 : Int), .int .u8 (b4 : Int), .int .u8 (b5 : Int), .int .u8 (b6 : Int), .int .u8 (b7 : Int), .int .u8 (arm : Int), v3]) hsp rfl rfl (fun i p u hp hu => ?_)
  match i, hp, hu with
  | 0, hp, hu => simp [lu] at hp hu; subst hp; subst hu; exact plainReads rfl
  | 1, hp, hu => simp [lu] at hp hu; subst hp; subst hu; exact plainReads rfl
  | 2, hp, hu => simp [lu] at hp hu; subst hp; subst hu; exact plainReads rfl
  | 3, hp, hu => simp [lu] at hp hu; subst hp; subst hu; exact plainReads rfl
  | 4, hp, hu => simp [lu] at hp hu; subst hp; subst hu; exact plainReads rfl
  | 5, hp, hu => simp [lu] at hp hu; subst hp; subst hu; exact plainReads rfl
  | 6, hp, hu => simp [lu] at hp hu; subst hp; subst hu; exact plainReads rfl
  | 7, hp, hu => simp [lu] at hp hu; subst hp; subst hu; exact plainReads rfl
  | 8, hp, hu => simp [lu] at hp hu; subst hp; subst hu; exact plainReads rfl
  | 9, hp, hu => simp [lu] at hp hu; subst hp; subst hu; exact plainReads rfl
  | 10, hp, hu => simp [lu] at hp hu; subst hp; subst hu; exact plainReads rfl
  | 11, hp, hu => simp [lu] at hp hu; subst hp; subst hu; exact plainReads rfl
  | 12, hp, hu => simp [lu] at hp hu; subst hp; subst hu; exact plainReads rfl
  | 13, hp, hu => simp [lu] at hp hu; subst hp; subst hu; exact plainReads rfl
  | 14, hp, hu => simp [lu] at hp hu; subst hp; subst hu; exact plainReads rfl
  | 15, hp, hu => simp [lu] at hp hu; subst hp; subst hu; exact plainReads rfl
  | 16, hp, hu => simp [lu] at hp hu; subst hp; subst hu; exact plainReads rfl
  | 17, hp, hu => simp [lu] at hp hu; subst hp; subst hu; exact hk
  | i + 18, hp, hu => simp [lu] at hp
end Go.Proofs.Ytegfdigljpnhcaa.jrnlTwice
