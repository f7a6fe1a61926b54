/- StateNames by the symbolic engine. -/
import Derived.Test.YtnelcjofgpplgaaSop
import Derived.Test.YtnelcjofgpplgaaSnp
import Derived.Test.YtnelcjofgpplgaaGrd
import Derived.Test.YtnelcjofgpplgaaSbg
namespace Go.Proofs.Ytnelcjofgpplgaa.stateNames
open Go Go.RowKit eng SX Fact fil fileFronts dirs pck may sta
open fileFronts
open pck hiding F F20 F21
open dirs hiding shR shRl shRR flR lpR cutR f0 f1 f2 f3 m0 m1 m2 x2 x3 n1
open may hiding m1 m2 m3 m4 r1 r2 r3 r4 r5
set_option linter.unusedVariables false
set_option linter.unusedSimpArgs false
set_option maxRecDepth 1000000

def tabA (f : FuncId) : Option FnE := cond (Nat.beq f 9) (some (ETrue 7)) (cond (Nat.beq f 14) (some (EOpen 1)) (cond (Nat.beq f 24) (some (EMayS 2)) (cond (Nat.beq f 19) (some (EOpen 3)) (cond (Nat.beq f 27) (some (ENew 4)) none))))
def orcA : Orc := orcFn tabA
def hM (_ : FuncId) (o : Oper) : Option Hint := match o.op with
  | .makeMap .. => some .mp
  | .lookup .. => some .mp
  | .mapUpdate .. => some .mp
  | .call c => (match c.callee with
    | .builtin .delete => some .mp
    | .builtin .len => some .mp
    | _ => some .parts)
  | _ => some .parts
noncomputable def flA := flat (bodyOf Try.prog 4)
noncomputable def lpA := flat (loopBody (nth flA 8))
noncomputable def bdA := flat (blockBody (nth lpA 2))
noncomputable def lpK := flat (loopBody (nth bdA 8))
def mapb (k : Nat) : BoxT := ⟨52, 0, false, [], some k, false⟩
def sh0 : Shape := ⟨[(0, .leaf)], [], [some false], 169, 4⟩
def shL : Shape := ⟨[(0, .leaf), (3, .ptr 0 0 0 0), (4, .map 1), (5, .leaf)], [sbox true, mapb 5], [some false, none, some true, some true, none], 169, 4⟩
def shK : Shape := ⟨[(0, .leaf), (3, .ptr 0 0 0 0), (4, .map 1), (5, .leaf), (13, .leaf), (14, .leaf)], [sbox true, mapb 7], [some false, none, none, none, some true, some true, none], 169, 4⟩
def shE : Shape := ⟨[(2, .leaf)], [], [none], 169, 4⟩
@[simp] def zSnm1 : SX := rop ROp.toStr [.lit 1 [.bin .add (.con (.int .u8 97)) (.bin .rem (.cell (.var 0) (.var 1) 2 1) (.con (.int .u8 9)))]]
@[simp] def zSnm2 : List SX := [.var 2, .var 3, .var 4, .con (.int .i64 1), .bin .add (.con (.int .i64 1)) (.var 1), zSnm1]
@[simp] def zSnm3 : List SX := [.var 2, .var 3, .var 4, .con (.int .i64 1), .bin .add (.con (.int .i64 1)) (.var 1), rop (ROp.mget (.int .i64 0)) [.var 5, zSnm1]]
@[simp] def zSnm4 : SX := .bin .add (.con (.int .u8 97)) (.bin .rem (.cell (.var 0) (.var 1) 2 1) (.con (.int .u8 9)))
@[simp] def zSnm5 : SX := .bin .gtr (.bin .rem (.cell (.var 0) (.var 1) 2 0) (.con (.int .u8 3))) (.con (.int .u8 0))
@[simp] def zSnm6 : Fact := .idx (.var 0) (.var 1) 2 2
@[simp] def zSnm7 : SX := .con (.int .i64 1)
@[simp] def zSnm8 : SX := .con (.int .i64 0)
@[simp] def zSnm9 : Fact := .ok (.bin .rem (.cell (.var 0) (.var 1) 2 1) (.con (.int .u8 9)))
@[simp] def zSnm10 : SX := .bin .neq (.cell (.var 4) (.var 3) 3 0) (.con (.string { data := { toList := [] } }))
@[simp] def zSnm11 : Fact := .ok (.bin .rem (.cell (.var 0) (.var 1) 2 0) (.con (.int .u8 3)))
@[simp] def zSnm12 : SX := .con (.int .i64 6)
@[simp] def zSnm13 : Fact := same (.len (.lit 1 [zSnm4])) (.len (.lit 1 [zSnm4]))
@[simp] def zSnm14 : SX := .bin .add (.var 3) zSnm7
@[simp] def zSnm15 : SX := .bin .eql (.fn 1 zSnm2 4) zSnm8
@[simp] def zSnm16 : SX := .bin .gtr (.len (.var 0)) (.con (.int .i64 25))
@[simp] def zSnm17 : Fact := .ok (.cell (.var 0) (.var 1) 2 1)
@[simp] def zSnm18 : Fact := .ok (.cell (.var 0) (.var 1) 2 0)
@[simp] def zSnm19 : SX := .cell (.var 4) (.var 3) 3 0
@[simp] def zSnm20 : List SX := [.var 0, .var 1, .fn 1 zSnm2 0, .fn 1 zSnm2 1, .fn 1 zSnm2 2, rop ROp.mput [.var 5, zSnm1, .fn 1 zSnm2 5]]
@[simp] def zSnm21 : Fact := .ok (.bin .add zSnm7 (.var 1))
@[simp] def zSnm22 : SX := .bin .lss (.var 3) zSnm12
@[simp] def zSnm23 : Fact := .ok (.slen zSnm1)
@[simp] def zSnm24 : SX := rop ROp.mhas [.var 5, zSnm1]
@[simp] def zSnm25 : List SX := [.var 0, .var 1, .fn 3 zSnm3 0, .fn 3 zSnm3 1, .fn 3 zSnm3 2, rop ROp.mdel [.var 5, zSnm1]]
@[simp] def zSnm26 : SX := .bin .lss (.var 1) (.len (.var 0))
@[simp] def zSnm27 : Fact := .idx (.var 0) (.var 1) 2 1
@[simp] def zSnm28 : SX := .bin .lss (.len (.var 5)) zSnm12
@[simp] def zSnm29 : SX := .bin .eql (.len (.var 5)) zSnm12
@[simp] def zSnm30 : SX := .bin .neq (.fn 1 zSnm2 4) zSnm8
@[simp] def zSnm31 : SX := .bin .eql (.fn 3 zSnm3 4) zSnm8
@[simp] def zSnm32 : Fact := .ok (.var 1)
@[simp] def zSnm33 : SX := .bin .neq (.fn 1 zSnm2 5) (rop (ROp.mget (.int .i64 0)) [.var 5, zSnm1])
@[simp] def zSnm34 : Fact := .ok (.fn 1 zSnm2 2)
@[simp] def zSnm35 : SX := .bin .neq (rop (ROp.mget (.int .i64 0)) [.var 7, zSnm19]) zSnm14
theorem q1 : segTo Try.prog orcA 10000 flA sh0 [1, 1] shE [] hM = some (.ret, [.fn 9 (ETrue 7) [], .is (.fn 7 [] 0) (.bool true), .ok (.len (.var 0)), .ok zSnm16, .is zSnm16 (.bool true), .ok (.con (.bool true))], [.con (.bool true)]) := by kernel_rfl
theorem pre : segTo Try.prog orcA 10000 (flA.take 8) sh0 [1, 0] shL [(3, 0), (4, 0)] hM = some (.normal, [.fn 9 (ETrue 7) [], .is (.fn 7 [] 0) (.bool true), .ok (.len (.var 0)), .ok zSnm16, .is zSnm16 (.bool false), .fn 27 (ENew 4) [], .ok (.fn 4 [] 2), .ok zSnm8, .ok (.fn 4 [] 2)], [.var 0, zSnm8, .fn 4 [] 0, .fn 4 [] 1, .fn 4 [] 2, .lit 0 []]) := by kernel_rfl
theorem lx : segTo Try.prog orcA 10000 lpA shL [0] shL [(0, 0), (1, 0)] hM = some (.exit 0, [.ok (.len (.var 0)), .ok zSnm26, .is zSnm26 (.bool false), zSnm32, .ok (.var 4)], [.var 0, .var 1, .var 2, .var 3, .var 4, .var 5]) := by kernel_rfl
theorem hd : segTo Try.prog orcA 10000 (lpA.take 2) shL [1] shL [(0, 0), (1, 0)] hM = some (.normal, [.ok (.len (.var 0)), .ok zSnm26, .is zSnm26 (.bool true), zSnm32, .ok (.var 4)], [.var 0, .var 1, .var 2, .var 3, .var 4, .var 5]) := by kernel_rfl
theorem dOa : segTo Try.prog orcA 10000 (bdA.take 4) shL [1, 1, 0, 0, 1] shL [(0, 0), (1, 0)] hM = some (.normal, [zSnm6, zSnm6, zSnm17, zSnm9, .ok zSnm4, zSnm13, .ok zSnm1, zSnm23, .is zSnm24 (.bool true), zSnm6, zSnm27, zSnm18, zSnm11, .ok zSnm5, .is zSnm5 (.bool true), zSnm21, .fn 14 (EOpen 1) zSnm2, zSnm34, .ok (.fn 1 zSnm2 3), .ok (.fn 1 zSnm2 4), .ok (.fn 1 zSnm2 5), .ok (.fn 1 zSnm2 6), .ok zSnm30, .is zSnm30 (.bool false), .ok zSnm33, .is zSnm33 (.bool false), .ok zSnm15, .is zSnm15 (.bool true), zSnm23, zSnm32, zSnm34], zSnm20) := by kernel_rfl
theorem dOr : segTo Try.prog orcA 10000 (bdA.take 4) shL [0, 1, 1, 0, 0, 0, 0, 1] shL [(0, 0), (1, 0)] hM = some (.normal, [zSnm6, zSnm6, zSnm17, zSnm9, .ok zSnm4, zSnm13, .ok zSnm1, zSnm23, .is zSnm24 (.bool false), zSnm6, zSnm27, zSnm18, zSnm11, .ok zSnm5, .is zSnm5 (.bool true), zSnm21, .fn 14 (EOpen 1) zSnm2, zSnm34, .ok (.fn 1 zSnm2 3), .ok (.fn 1 zSnm2 4), .ok (.fn 1 zSnm2 5), .ok (.fn 1 zSnm2 6), .ok zSnm28, .is zSnm28 (.bool true), .ok zSnm30, .is zSnm30 (.bool false), .ok (.bin .lss (.fn 1 zSnm2 5) zSnm7), .is (.bin .lss (.fn 1 zSnm2 5) zSnm7) (.bool false), .ok (.bin .gtr (.fn 1 zSnm2 5) zSnm12), .is (.bin .gtr (.fn 1 zSnm2 5) zSnm12) (.bool false), .ok zSnm29, .is zSnm29 (.bool false), .ok zSnm15, .is zSnm15 (.bool true), zSnm23, zSnm32, zSnm34], zSnm20) := by kernel_rfl
theorem dOf : segTo Try.prog orcA 10000 (bdA.take 4) shL [0, 1, 0, 1, 0, 0] shL [(0, 0), (1, 0)] hM = some (.normal, [zSnm6, zSnm6, zSnm17, zSnm9, .ok zSnm4, zSnm13, .ok zSnm1, zSnm23, .is zSnm24 (.bool false), zSnm6, zSnm27, zSnm18, zSnm11, .ok zSnm5, .is zSnm5 (.bool true), zSnm21, .fn 14 (EOpen 1) zSnm2, zSnm34, .ok (.fn 1 zSnm2 3), .ok (.fn 1 zSnm2 4), .ok (.fn 1 zSnm2 5), .ok (.fn 1 zSnm2 6), .ok zSnm28, .is zSnm28 (.bool false), .ok zSnm29, .is zSnm29 (.bool true), .ok (.bin .neq (.fn 1 zSnm2 4) (.con (.int .i64 3))), .is (.bin .neq (.fn 1 zSnm2 4) (.con (.int .i64 3))) (.bool false), .ok zSnm15, .is zSnm15 (.bool false), zSnm32, zSnm34], [.var 0, .var 1, .fn 1 zSnm2 0, .fn 1 zSnm2 1, .fn 1 zSnm2 2, .var 5]) := by kernel_rfl
theorem dGa : segTo Try.prog orcA 10000 (bdA.take 4) shL [1, 0, 1] shL [(0, 0), (1, 0)] hM = some (.normal, [zSnm6, zSnm6, zSnm17, zSnm9, .ok zSnm4, zSnm13, .ok zSnm1, zSnm23, .is zSnm24 (.bool true), zSnm6, zSnm27, zSnm18, zSnm11, .ok zSnm5, .is zSnm5 (.bool false), zSnm21, .fn 19 (EOpen 3) zSnm3, .ok (.fn 3 zSnm3 2), .ok (.fn 3 zSnm3 3), .ok (.fn 3 zSnm3 4), .ok (.fn 3 zSnm3 5), .ok (.fn 3 zSnm3 6), .ok zSnm31, .is zSnm31 (.bool true), zSnm23, zSnm32, .ok (.fn 3 zSnm3 2)], zSnm25) := by kernel_rfl
theorem dGn : segTo Try.prog orcA 10000 (bdA.take 4) shL [0, 0, 0] shL [(0, 0), (1, 0)] hM = some (.normal, [zSnm6, zSnm6, zSnm17, zSnm9, .ok zSnm4, zSnm13, .ok zSnm1, zSnm23, .is zSnm24 (.bool false), zSnm6, zSnm27, zSnm18, zSnm11, .ok zSnm5, .is zSnm5 (.bool false), zSnm21, .fn 19 (EOpen 3) zSnm3, .ok (.fn 3 zSnm3 2), .ok (.fn 3 zSnm3 3), .ok (.fn 3 zSnm3 4), .ok (.fn 3 zSnm3 5), .ok (.fn 3 zSnm3 6), .ok zSnm31, .is zSnm31 (.bool false), zSnm23, zSnm32, .ok (.fn 3 zSnm3 2)], zSnm25) := by kernel_rfl
theorem chk : segTo Try.prog orcA 10000 ((bdA.drop 4).take 4) shL [0, 1] shK [(0, 0), (1, 0)] hM = some (.normal, [.ok (.len (.var 2)), .ok (.bin .neq (.len (.var 2)) zSnm12), .is (.bin .neq (.len (.var 2)) zSnm12) (.bool false), .fn 24 (EMayS 2) [.var 2, .var 3, .var 4], .is (.fn 2 [.var 2, .var 3, .var 4] 0) (.bool true), zSnm32, .ok zSnm8, .ok zSnm8, .ok (.var 4)], [.var 0, .var 1, zSnm8, zSnm8, .var 2, .var 3, .var 4, .var 5]) := by kernel_rfl
theorem kx : segTo Try.prog orcA 10000 lpK shK [0] shK [(0, 0), (1, 0)] hM = some (.exit 2, [.ok zSnm22, .is zSnm22 (.bool false), zSnm32, .ok (.var 2), .ok (.var 3), .ok (.var 6)], [.var 0, .var 1, .var 2, .var 3, .var 4, .var 5, .var 6, .var 7]) := by kernel_rfl
theorem ky : segTo Try.prog orcA 10000 lpK shK [1, 1, 0] shK [(0, 0), (1, 0)] hM = some (.normal, [.ok zSnm22, .is zSnm22 (.bool true), .idx (.var 4) (.var 3) 3 3, .idx (.var 4) (.var 3) 3 1, .ok zSnm19, .ok zSnm10, .is zSnm10 (.bool true), .ok (.bin .add (.var 2) zSnm7), .idx (.var 4) (.var 3) 3 3, .idx (.var 4) (.var 3) 3 1, .ok zSnm19, .ok (.slen zSnm19), .ok zSnm14, .ok zSnm35, .is zSnm35 (.bool false), .ok zSnm14, zSnm32, .ok (.bin .add (.var 2) zSnm7), .ok zSnm14, .ok (.var 6)], [.var 0, .var 1, .bin .add (.var 2) zSnm7, zSnm14, .var 4, .var 5, .var 6, .var 7]) := by kernel_rfl
theorem kn : segTo Try.prog orcA 10000 lpK shK [1, 0] shK [(0, 0), (1, 0)] hM = some (.normal, [.ok zSnm22, .is zSnm22 (.bool true), .idx (.var 4) (.var 3) 3 3, .idx (.var 4) (.var 3) 3 1, .ok zSnm19, .ok zSnm10, .is zSnm10 (.bool false), .ok zSnm14, zSnm32, .ok (.var 2), .ok zSnm14, .ok (.var 6)], [.var 0, .var 1, .var 2, zSnm14, .var 4, .var 5, .var 6, .var 7]) := by kernel_rfl
theorem en : segTo Try.prog orcA 10000 (bdA.drop 9) shK [0] shL [(0, 0), (1, 0)] hM = some (.normal, [.ok (.bin .neq (.var 2) (.len (.var 7))), .is (.bin .neq (.var 2) (.len (.var 7))) (.bool false), zSnm32, .ok (.var 6)], [.var 0, .var 1, .var 4, .var 5, .var 6, .var 7]) := by kernel_rfl
theorem stp : segTo Try.prog orcA 10000 (lpA.drop 3) shL [] shL [(0, 0), (1, 0)] hM = some (.normal, [.ok (.bin .add (.var 1) zSnm7), .ok (.bin .add (.var 1) zSnm7), .ok (.var 4)], [.var 0, .bin .add (.var 1) zSnm7, .var 2, .var 3, .var 4, .var 5]) := by kernel_rfl
theorem post : segTo Try.prog orcA 10000 (flA.drop 9) shL [] shE [] hM = some (.ret, [.ok (.con (.bool true))], [.con (.bool true)]) := by kernel_rfl

open grd in
abbrev E2 := encK 2 (by decide)
def ELaw (k : Nat) : FnE := { k := k, ins := [none], leaks := [false], outs := [none], kinds := [.truth] }
def RL (ps qs : List PV) : Prop := ∃ l : List (Nat → Nat), (∀ f ∈ l, ∀ j, f j < 256) ∧ l.length ≤ 9223372036854775807 ∧ ps = [pRow E2 l] ∧ qs = [pB true]
theorem fL : ∀ ps q1 q2, RL ps q1 → RL ps q2 → q1 = q2 := by
  rintro ps q1 q2 ⟨_, _, _, _, rfl⟩ ⟨_, _, _, _, rfl⟩; rfl
noncomputable def G : Fns := fun k => match k with | 1 => spec ROpenP | 2 => spec RMayS | 3 => spec RGoneP | 4 => spec RNew | 7 => spec RTrue | _ => fun _ => none
theorem u1 : ToldF 14 (EOpen 1) (G 1) := toldOpenP 1
theorem u2 : ToldF 24 (EMayS 2) (G 2) := toldMayP 2
theorem u3 : ToldF 19 (EOpen 3) (G 3) := toldGoneP 3
theorem u4 : ToldF 27 (ENew 4) (G 4) := toldNewP 4
theorem u7 : ToldF 9 (ETrue 7) (G 7) := told_closed 7 fun w => calls_true names_ok mixed_ok fil.noOrc_ok (args := []) ranB w
theorem G7 : G 7 [] = some [pB true] := spec_of fTrue ⟨rfl, rfl⟩
theorem orcA_ok : OrcOk Try.prog orcA := orcFn_ok tabA
theorem cutA : flA = flA.take 8 ++ .block (blockId (nth flA 8)) (.loop (loopBody (nth flA 8))) :: flA.drop 9 := by kernel_rfl
theorem cutL : lpA = lpA.take 2 ++ .block (blockId (nth lpA 2)) (blockBody (nth lpA 2)) :: lpA.drop 3 := by kernel_rfl
theorem cutB : bdA = bdA.take 4 ++ bdA.drop 4 := by kernel_rfl
theorem cutB4 : bdA.drop 4 = (bdA.drop 4).take 4 ++ .block (blockId (nth bdA 8)) (.loop (loopBody (nth bdA 8))) :: bdA.drop 9 := by kernel_rfl
abbrev stL (l : List (Nat → Nat)) (i : Nat) (s : StM) (M : MapM) : List PV := [pRow E2 l, pI (i : Int), pRow encF s.files, pRow encM s.marks, pI s.epoch, pRow encN2 M]
abbrev stK (l : List (Nat → Nat)) (i n k : Nat) (s : StM) (M : MapM) : List PV := [pRow E2 l, pI (i : Int), pI (n : Int), pI (k : Int), pRow encF s.files, pRow encM s.marks, pI s.epoch, pRow encN2 M]
def nB (r : Nat) : ByteArray := ⟨⟨[UInt8.ofNat (97 + r)]⟩⟩
theorem nB_ok : ∀ r, r < 9 → dirs.okN (nB r) = true := by decide
theorem nB_str {r : Nat} (h : r < 9) : ropPV .toStr [.row 1 [pU ((97 + r : Nat) : Int)]] = some (pS (nB r)) := by
  have h1 : (0 : Int) ≤ ((97 + r : Nat) : Int) := by omega
  have h2 : ((97 + r : Nat) : Int) < 256 := by omega
  simp only [ropPV, List.length_cons, List.length_nil, bytesPV, bytePV, h1, h2, decide_true, Bool.and_self, cond_true, Int.toNat_natCast]
  rfl

set_option maxHeartbeats 1000000 in
theorem inner_ok {C : Base} (hF : C.F = G) {l : List (Nat → Nat)} {i : Nat} {s : StM} {M : MapM} (hI : Inv s M) {Q : Exit → Act → World → Prop} {a : Act} {w : World} (hin : InShape C shK (stK l i 0 0 s M) a w)
    (hQ : ∀ a w, InShape C shK (stK l i M.length 6 s M) a w → wpL Try.prog (bdA.drop 9) Q a w) : wpL Try.prog (.block (blockId (nth bdA 8)) (.loop (loopBody (nth bdA 8))) :: bdA.drop 9) Q a w := by
  have hfl := hI.may.fl
  refine block_loop (fun q a w => ∃ k : Nat, k ≤ 6 ∧ q = 6 - k ∧ InShape C shK (stK l i ((List.range k).filterMap (nmG s)).length k s M) a w) ?_ (n := 6) ⟨0, by omega, by omega, hin⟩
  rintro q a w ⟨k, hk, rfl, hin⟩
  show wpL Try.prog lpK _ a w
  rw [← List.append_nil lpK]
  by_cases hlt : k < 6
  · have hlt6 : (k : Int) < 6 := by omega
    have hks : k < s.files.length := by omega
    obtain ⟨c0, c1, c2⟩ := cellF s.files k hks
    have i1 := idxP_row encF s.files k 3 1 .i64 rfl hks (by decide)
    have i3 := idxP_row encF s.files k 3 3 .i64 rfl hks (by decide)
    have v3 : IntKind.i64.wrap ((k : Int) + 1) = (k : Int) + 1 := wrapI _ (by omega) (by omega)
    have hd : s.files.getD k f00 = s.files[k] := by simp [List.getD, hks]
    have hstep : ((List.range (k + 1)).filterMap (nmG s)).length = ((List.range k).filterMap (nmG s)).length + (if s.files[k].1 = e0 then 0 else 1) := by
      rw [List.range_succ, List.filterMap_append, List.length_append]
      congr 1
      show (List.filterMap (nmG s) [k]).length = _
      have hg0 : nmG s k = if s.files[k].1 = e0 then none else nmG s k := by
        by_cases h0 : s.files[k].1 = e0
        · rw [if_pos h0]; unfold nmG; rw [hd]; simp only [h0, if_true]
        · rw [if_neg h0]
      by_cases h0 : s.files[k].1 = e0
      · rw [if_pos h0] at hg0 ⊢
        rw [List.filterMap_cons, hg0]; rfl
      · rw [if_neg h0]
        have hg1 : ∃ x, nmG s k = some x := by unfold nmG; rw [hd]; simp only [h0, if_false]; exact ⟨_, rfl⟩
        obtain ⟨x, hx⟩ := hg1
        rw [List.filterMap_cons, hx]; rfl
    have hsz : s.files[k].1.size ≤ 1000000 := (hI.may.pre.fv _ (List.getElem_mem hks)).1
    by_cases h0 : s.files[k].1 = e0
    · rw [if_pos h0, Nat.add_zero] at hstep
      have hl0 : s.files[k].1.toList = [] := by rw [h0, e0_list]
      have hin : InShape C shK (stK l i ((List.range (k + 1)).filterMap (nmG s)).length k s M) a w := by rw [hstep]; exact hin
      clear hstep h0 hd
      generalize s.files[k] = fx at *
      refine seg_ok names_ok mixed_ok orcA_ok kn hin ?_ (fun qs a1 w1 hq h1 => ⟨fun _ => .inl ⟨rfl, 6 - (k + 1), by omega, k + 1, by omega, rfl, by simp [evs, SX.ev, binPV, v3] at hq; subst hq; exact h1⟩, fun h => absurd rfl h⟩)
      simp only [List.mem_cons, List.not_mem_nil, or_false, forall_eq_or_imp, forall_eq]
      simp [-holds_idx, holds_idxP, holds_cellsP, Base.ev, SX.ev, evs, Value.oneCell', hF, lenPV_row, binPV, v3, hlt6, c0, c1, c2, i1, i3, hl0]
    · rw [if_neg h0] at hstep
      have hl0 : ¬ s.files[k].1.toList = [] := fun e => h0 (tl_inj (by rw [e, e0_list]))
      have hmem := hI.i2 k hks h0
      obtain ⟨b, hb, hbe⟩ := List.getElem_of_mem hmem
      have hb1 : M[b].1 = s.files[k].1 := by rw [hbe]
      have hb2 : M[b].2 = (k : Int) + 1 := by rw [hbe]
      have hg := m_get_at hb hb1 (fun b' hb' hlt e => by have := hI.nd b' b hb' hb (by rw [e, hb1]); omega)
      rw [hb2] at hg
      have vn : IntKind.i64.wrap ((((List.range k).filterMap (nmG s)).length : Int) + 1) = (((List.range k).filterMap (nmG s)).length : Int) + 1 := by
        have : ((List.range k).filterMap (nmG s)).length ≤ (List.range k).length := List.length_filterMap_le ..
        rw [List.length_range] at this
        exact wrapI _ (by omega) (by omega)
      have hcast : (((List.range (k + 1)).filterMap (nmG s)).length : Int) = (((List.range k).filterMap (nmG s)).length : Int) + 1 := by omega
      clear hstep h0 hd hbe hmem hb1 hb2
      generalize ((List.range k).filterMap (nmG s)).length = n at *
      generalize hN : ((List.range (k + 1)).filterMap (nmG s)).length = n1 at *
      generalize s.files[k] = fx at *
      refine seg_ok names_ok mixed_ok orcA_ok ky hin ?_ (fun qs a1 w1 hq h1 => ⟨fun _ => .inl ⟨rfl, 6 - (k + 1), by omega, k + 1, by omega, rfl, by rw [hN]; simp [evs, SX.ev, binPV, v3, vn] at hq; subst hq; show InShape C shK [pRow E2 l, pI (i : Int), pI (n1 : Int), pI ((k + 1 : Nat) : Int), pRow encF s.files, pRow encM s.marks, pI s.epoch, pRow encN2 M] a1 w1; rw [hcast]; exact h1⟩, fun h => absurd rfl h⟩)
      simp only [List.mem_cons, List.not_mem_nil, or_false, forall_eq_or_imp, forall_eq]
      simp [-holds_idx, holds_idxP, holds_cellsP, Base.ev, SX.ev, evs, Value.oneCell', hF, lenPV_row, slenPV, binPV, v3, vn, hlt6, c0, c1, c2, i1, i3, hl0, hg]
  · have hke : k = 6 := by omega
    subst hke
    refine seg_ok names_ok mixed_ok orcA_ok kx hin ?_ ?_
    · simp only [List.mem_cons, List.not_mem_nil, or_false, forall_eq_or_imp, forall_eq]
      simp [-holds_idx, holds_idxP, holds_cellsP, Base.ev, SX.ev, evs, Value.oneCell', lenPV_row, binPV]
    · intro qs a1 w1 hq h1
      refine ⟨fun h => (by cases h), fun _ => .inr (.inl ⟨by rw [show blockId (nth bdA 8) = 2 by kernel_rfl]; rfl, hQ a1 w1 ?_⟩)⟩
      simp [evs, SX.ev] at hq
      subst hq
      rw [inv_len hI] at h1
      exact h1
set_option maxHeartbeats 1000000 in
theorem rest_ok {C : Base} (hF : C.F = G) {l : List (Nat → Nat)} {i : Nat} {s : StM} {M : MapM} (hI : Inv s M) {Q : Exit → Act → World → Prop} {a : Act} {w : World} (hin : InShape C shL (stL l i s M) a w)
    (hQ : ∀ a w, InShape C shL (stL l i s M) a w → Q .normal a w) : wpL Try.prog (bdA.drop 4) Q a w := by
  have hfl := hI.may.fl
  have hLf : lenPV (pRow encF s.files) = some (pI 6) := by rw [lenPV_row, hfl]; rfl
  have g2 : G 2 [pRow encF s.files, pRow encM s.marks, pI s.epoch] = some [pB true] := spec_of fMayS ⟨s, hI.may.pre, rfl, by rw [mayS_eq.2 hI.may]⟩
  rw [cutB4]
  refine seg_ok names_ok mixed_ok orcA_ok chk hin ?_ ?_
  · simp only [List.mem_cons, List.not_mem_nil, or_false, forall_eq_or_imp, forall_eq]
    simp [-holds_idx, holds_idxP, holds_cellsP, Base.ev, SX.ev, evs, Value.oneCell', hF, hLf, binPV, g2, u2]
  intro qs a1 w1 hq h1
  refine ⟨fun _ => ?_, fun h => absurd rfl h⟩
  simp [evs, SX.ev] at hq
  subst hq
  refine inner_ok hF hI h1 fun a w h2 => ?_
  rw [← List.append_nil (bdA.drop 9)]
  refine seg_ok names_ok mixed_ok orcA_ok en h2 ?_ (fun qs a1 w1 hq h1 => ⟨fun _ => hQ a1 w1 (by simp [evs, SX.ev] at hq; subst hq; exact h1), fun h => absurd rfl h⟩)
  simp only [List.mem_cons, List.not_mem_nil, or_false, forall_eq_or_imp, forall_eq]
  simp [-holds_idx, holds_idxP, holds_cellsP, Base.ev, SX.ev, evs, Value.oneCell', lenPV_row, binPV]
set_option maxHeartbeats 1000000 in
theorem deed_ok {C : Base} (hF : C.F = G) {l : List (Nat → Nat)} (hl : ∀ f ∈ l, ∀ j, f j < 256) {i : Nat} (hi : i < l.length) (hi25 : i < 25) {s : StM} {M : MapM} (hI : Inv s M) {Q : Exit → Act → World → Prop} {a : Act} {w : World} (hin : InShape C shL (stL l i s M) a w)
    (hQ : ∀ s M, Inv s M → ∀ a w, InShape C shL (stL l i s M) a w → Q .normal a w) : wpL Try.prog bdA Q a w := by
  rw [cutB]
  have c0 : cellPV (pRow E2 l) (pI (i : Int)) 2 0 = some (pU (l[i] 0 : Int)) := grd.cellK 2 _ l i hi 0 (by omega)
  have c1 : cellPV (pRow E2 l) (pI (i : Int)) 2 1 = some (pU (l[i] 1 : Int)) := grd.cellK 2 _ l i hi 1 (by omega)
  have i1 := idxP_row E2 l i 2 1 .i64 rfl hi (by decide)
  have i2 := idxP_row E2 l i 2 2 .i64 rfl hi (by decide)
  have h0 := hl _ (List.getElem_mem hi) 0
  have h1 := hl _ (List.getElem_mem hi) 1
  generalize l[i] 0 = x0 at *
  generalize l[i] 1 = x1 at *
  have t0 : ((x0 : Int).tmod 3) = ((x0 % 3 : Nat) : Int) := rfl
  have t1 : ((x1 : Int).tmod 9) = ((x1 % 9 : Nat) : Int) := rfl
  have hr : x1 % 9 < 9 := Nat.mod_lt _ (by omega)
  generalize x0 % 3 = d at *
  generalize x1 % 9 = r at *
  have wr : IntKind.u8.wrap (97 + (r : Int)) = ((97 + r : Nat) : Int) := by
    have : IntKind.u8.wrap (97 + (r : Int)) = 97 + (r : Int) := IntWalk.u8_in _ ⟨by omega, by omega⟩
    rw [this]; omega
  have hstr := nB_str hr
  have hok := nB_ok r hr
  have hsz : (nB r).size = 1 := rfl
  have hsl : slenPV (pS (nB r)) = some (pI 1) := by simp [slenPV, hsz]
  generalize nB r = nm at *
  generalize ((97 + r : Nat) : Int) = zr at *
  have wq : IntKind.i64.wrap (1 + (i : Int)) = 1 + (i : Int) := wrapI _ (by omega) (by omega)
  have eo : G 1 [pRow encF s.files, pRow encM s.marks, pI s.epoch, pI 1, pI (1 + (i : Int)), pS nm] = some (pSt (openS s 1 (1 + (i : Int)) nm).1 ++ pMk (openS s 1 (1 + (i : Int)) nm).2) := spec_of fOpenP ⟨s, 1, 1 + (i : Int), nm, hI.may, by omega, by omega, by omega, by omega, by omega, rfl, rfl⟩
  have eg : ∀ f : Int, -1000 ≤ f → f ≤ 1000 → G 3 [pRow encF s.files, pRow encM s.marks, pI s.epoch, pI 1, pI (1 + (i : Int)), pI f] = some (pSt (goneS s 1 (1 + (i : Int)) f).1 ++ pMk (goneS s 1 (1 + (i : Int)) f).2) := fun f h1 h2 => spec_of fGoneP ⟨s, 1, 1 + (i : Int), f, hI.may, by omega, by omega, by omega, by omega, by omega, by omega, rfl, rfl⟩
  have hLm : lenPV (pRow encN2 M) = some (pI (M.length : Int)) := lenPV_row ..
  rcases inv_case hI nm with ⟨b, hb, hbn, hbf⟩ | hno
  · have mh := m_has_at hb hbn hbf
    have mg := m_get_at hb hbn hbf
    by_cases hd : 0 < d
    · have hd' : (0 : Int) < (d : Int) := by omega
      obtain ⟨v, hv, hfs⟩ := inv_open_at hI hok hb hbn 1 (1 + (i : Int))
      have hI' := inv_keep hI hfs (may_open hI.may 1 (1 + (i : Int)) nm (by omega) (by omega))
      rw [hv] at eo
      have mp := m_put_at hb hbn hbf (v := M[b].2) rfl
      generalize (openS s 1 (1 + (i : Int)) nm).1 = s1 at *
      generalize M[b].2 = at' at *
      refine seg_ok names_ok mixed_ok orcA_ok dOa hin ?_ (fun qs a1 w1 hq h1 => ⟨fun _ => rest_ok hF hI' (by simp [evs, SX.ev, hF, binPV, c0, c1, t1, wr, hstr, wq, eo, mp] at hq; subst hq; exact h1) (hQ s1 M hI'), fun h => absurd rfl h⟩)
      simp only [List.mem_cons, List.not_mem_nil, or_false, forall_eq_or_imp, forall_eq]
      simp [-holds_idx, holds_idxP, holds_cellsP, Base.ev, SX.ev, evs, Value.oneCell', hF, lenPV_r, binPV, c0, c1, i1, i2, t0, t1, wr, hstr, hsl, wq, mh, mg, mp, eo, hd, hd', hLm, u1]
    · have hd0 : d = 0 := by omega
      subst hd0
      obtain ⟨hv, hI'⟩ := inv_gone_at hI hb 1 (1 + (i : Int)) (by omega) (by omega)
      have hat : -1000 ≤ M[b].2 ∧ M[b].2 ≤ 1000 := by
        obtain ⟨j, hj, he, _⟩ := hI.i1 _ (List.getElem_mem hb)
        have hj6 : j < 6 := by rw [← hI.may.fl]; exact hj
        rw [he]
        simp only
        omega
      have eg' := eg _ hat.1 hat.2
      rw [hv] at eg'
      have md := m_del_at hb hbn hbf
      generalize (goneS s 1 (1 + (i : Int)) M[b].2).1 = s1 at *
      generalize M[b].2 = at' at *
      generalize M.eraseIdx b = M1 at *
      refine seg_ok names_ok mixed_ok orcA_ok dGa hin ?_ (fun qs a1 w1 hq h1 => ⟨fun _ => rest_ok hF hI' (by simp [evs, SX.ev, hF, binPV, c0, c1, t1, wr, hstr, wq, mg, eg', md] at hq; subst hq; exact h1) (hQ s1 M1 hI'), fun h => absurd rfl h⟩)
      simp only [List.mem_cons, List.not_mem_nil, or_false, forall_eq_or_imp, forall_eq]
      simp [-holds_idx, holds_idxP, holds_cellsP, Base.ev, SX.ev, evs, Value.oneCell', hF, lenPV_r, binPV, c0, c1, i1, i2, t0, t1, wr, hstr, hsl, wq, mh, mg, md, eg', hLm, u3]
  · have mh := m_has_no hno
    have mg := m_get_no hno
    by_cases hd : 0 < d
    · have hd' : (0 : Int) < (d : Int) := by omega
      rcases inv_open_no hI hok hno 1 (1 + (i : Int)) (by omega) (by omega) with ⟨h6, j, hj, hv, hI'⟩ | ⟨h6, hv, hI'⟩
      · rw [hv] at eo
        have h6a : (M.length : Int) < 6 := by omega
        have h6b : ¬ (M.length : Int) = 6 := by omega
        have mp := m_put_no hno ((j : Int) + 1)
        generalize (openS s 1 (1 + (i : Int)) nm).1 = s1 at *
        generalize M ++ [(nm, (j : Int) + 1)] = M1 at *
        refine seg_ok names_ok mixed_ok orcA_ok dOr hin ?_ (fun qs a1 w1 hq h1 => ⟨fun _ => rest_ok hF hI' (by simp [evs, SX.ev, hF, binPV, c0, c1, t1, wr, hstr, wq, eo, mp] at hq; subst hq; exact h1) (hQ s1 M1 hI'), fun h => absurd rfl h⟩)
        simp only [List.mem_cons, List.not_mem_nil, or_false, forall_eq_or_imp, forall_eq]
        simp [-holds_idx, holds_idxP, holds_cellsP, Base.ev, SX.ev, evs, Value.oneCell', hF, lenPV_r, binPV, c0, c1, i1, i2, t0, t1, wr, hstr, hsl, wq, mh, mg, mp, eo, hd, hd', hLm, h6a, h6b, u1]
        all_goals omega
      · rw [hv] at eo
        have hLm6 : lenPV (pRow encN2 M) = some (pI 6) := by rw [hLm, h6]; rfl
        generalize (openS s 1 (1 + (i : Int)) nm).1 = s1 at *
        refine seg_ok names_ok mixed_ok orcA_ok dOf hin ?_ (fun qs a1 w1 hq h1 => ⟨fun _ => rest_ok hF hI' (by simp [evs, SX.ev, hF, binPV, c0, c1, t1, wr, hstr, wq, eo] at hq; subst hq; exact h1) (hQ s1 M hI'), fun h => absurd rfl h⟩)
        simp only [List.mem_cons, List.not_mem_nil, or_false, forall_eq_or_imp, forall_eq]
        simp [-holds_idx, holds_idxP, holds_cellsP, Base.ev, SX.ev, evs, Value.oneCell', hF, lenPV_r, binPV, c0, c1, i1, i2, t0, t1, wr, hstr, hsl, wq, mh, mg, eo, hd, hd', hLm6, u1]
    · have hd0 : d = 0 := by omega
      subst hd0
      obtain ⟨hv, hI'⟩ := inv_gone_no hI 1 (1 + (i : Int)) (by omega) (by omega)
      have eg' := eg 0 (by omega) (by omega)
      rw [hv] at eg'
      have md := m_del_no hno
      generalize (goneS s 1 (1 + (i : Int)) 0).1 = s1 at *
      refine seg_ok names_ok mixed_ok orcA_ok dGn hin ?_ (fun qs a1 w1 hq h1 => ⟨fun _ => rest_ok hF hI' (by simp [evs, SX.ev, hF, binPV, c0, c1, t1, wr, hstr, wq, mg, eg', md] at hq; subst hq; exact h1) (hQ s1 M hI'), fun h => absurd rfl h⟩)
      simp only [List.mem_cons, List.not_mem_nil, or_false, forall_eq_or_imp, forall_eq]
      simp [-holds_idx, holds_idxP, holds_cellsP, Base.ev, SX.ev, evs, Value.oneCell', hF, lenPV_r, binPV, c0, c1, i1, i2, t0, t1, wr, hstr, hsl, wq, mh, mg, md, eg', hLm, u3]
set_option maxHeartbeats 1000000 in
theorem told (k0 : Nat) : ToldF 4 (ELaw k0) (spec RL) := by
  refine told_by G _ (bodyOf Try.prog 4) Try.func4 (by kernel_rfl) sh0 (by kernel_rfl) ?_ ?_
  · intro ps qs h i hi
    obtain ⟨l, _, _, rfl, rfl⟩ := of_spec h
    simp [sh0] at hi
    match i, hi with
    | 0, hi => simp at hi
    | i + 1, hi => simp at hi
  · intro C ps qs hF h a w hsh
    obtain ⟨l, hl, hll, rfl, rfl⟩ := of_spec h
    show wpL Try.prog flA _ a w
    have fin : ∀ qs a1 w1, qs = [pB true] → InShape C shE qs a1 w1 → (AX.ret = .normal → wpL Try.prog [] (fun e a' w' => (e = .normal ∨ e = .ret) ∧ ∃ sh' ps' es, InShape C sh' ps' a' w' ∧ resTo Try.prog Try.f4 sh' (ELaw k0) = some es ∧ evs (fun i => ps'[i]?) G es = some [pB true]) a1 w1) ∧ (AX.ret ≠ .normal → (AX.ret.to = .normal ∨ AX.ret.to = .ret) ∧ ∃ sh' ps' es, InShape C sh' ps' a1 w1 ∧ resTo Try.prog Try.f4 sh' (ELaw k0) = some es ∧ evs (fun i => ps'[i]?) G es = some [pB true]) := by
      rintro qs a1 w1 rfl h1
      exact ⟨fun h => (by cases h), fun _ => ⟨.inr rfl, shE, _, [SX.var 0], h1, by kernel_rfl, rfl⟩⟩
    by_cases h25 : 25 < l.length
    · rw [← List.append_nil flA]
      refine seg_ok names_ok mixed_ok orcA_ok stateNames.q1 hsh ?_ (fun qs a1 w1 hq h1 => fin qs a1 w1 (by simp [evs, SX.ev] at hq; exact hq.symm) h1)
      simp only [List.mem_cons, List.not_mem_nil, or_false, forall_eq_or_imp, forall_eq]
      simp [-holds_idx, holds_idxP, holds_cellsP, Base.ev, SX.ev, evs, Value.oneCell', hF, lenPV_row, binPV, G7, u7]
      all_goals omega
    rw [cutA]
    have g4 : G 4 [] = some [pRow encF newS.files, pRow encM newS.marks, pI newS.epoch] := spec_of fNew ⟨rfl, rfl⟩
    have hI0 := inv_new
    have r0 : (PV.row 0 []) = pRow encN2 [] := rfl
    generalize newS = s0 at *
    refine seg_ok names_ok mixed_ok orcA_ok pre hsh ?_ ?_
    · simp only [List.mem_cons, List.not_mem_nil, or_false, forall_eq_or_imp, forall_eq]
      simp [-holds_idx, holds_idxP, holds_cellsP, Base.ev, SX.ev, evs, Value.oneCell', hF, lenPV_row, binPV, G7, u7, g4, u4]
      all_goals omega
    intro qs a1 w1 hq h1
    refine ⟨fun _ => ?_, fun h => absurd rfl h⟩
    simp [evs, SX.ev, hF, g4, r0] at hq
    subst hq
    refine block_loop (fun q a w => ∃ (i : Nat) (s : StM) (M : MapM), i ≤ l.length ∧ q = l.length - i ∧ Inv s M ∧ InShape C shL (stL l i s M) a w) ?_ (n := l.length) ⟨0, s0, [], by omega, by omega, hI0, h1⟩
    rintro q a w ⟨i, s, M, hi, rfl, hI, hin⟩
    show wpL Try.prog lpA _ a w
    by_cases hlt : i < l.length
    · rw [cutL]
      refine seg_ok names_ok mixed_ok orcA_ok hd hin ?_ ?_
      · simp only [List.mem_cons, List.not_mem_nil, or_false, forall_eq_or_imp, forall_eq]
        simp [-holds_idx, holds_idxP, holds_cellsP, Base.ev, SX.ev, evs, Value.oneCell', lenPV_row, binPV, hlt]
      intro qs a1 w1 hq h1
      refine ⟨fun _ => ?_, fun h => absurd rfl h⟩
      simp [evs, SX.ev] at hq
      subst hq
      refine block_in ?_
      show wpL Try.prog bdA _ a1 w1
      refine deed_ok hF hl hlt (by omega) hI h1 fun s' M' hI' a w hin => ?_
      refine .inl ⟨rfl, ?_⟩
      rw [← List.append_nil (lpA.drop 3)]
      have v3 : IntKind.i64.wrap ((i : Int) + 1) = (i : Int) + 1 := wrapI _ (by omega) (by omega)
      refine seg_ok names_ok mixed_ok orcA_ok stp hin ?_ (fun qs a1 w1 hq h1 => ⟨fun _ => .inl ⟨rfl, l.length - (i + 1), by omega, i + 1, s', M', by omega, rfl, hI', by simp [evs, SX.ev, binPV, v3] at hq; subst hq; exact h1⟩, fun h => absurd rfl h⟩)
      simp only [List.mem_cons, List.not_mem_nil, or_false, forall_eq_or_imp, forall_eq]
      simp [-holds_idx, holds_idxP, holds_cellsP, Base.ev, SX.ev, evs, Value.oneCell', binPV, v3]
    · have hie : i = l.length := by omega
      subst hie
      rw [← List.append_nil lpA]
      refine seg_ok names_ok mixed_ok orcA_ok lx hin ?_ ?_
      · simp only [List.mem_cons, List.not_mem_nil, or_false, forall_eq_or_imp, forall_eq]
        simp [-holds_idx, holds_idxP, holds_cellsP, Base.ev, SX.ev, evs, Value.oneCell', lenPV_row, binPV]
      · intro qs a1 w1 hq h1
        refine ⟨fun h => (by cases h), fun _ => .inr (.inl ⟨by rw [show blockId (nth flA 8) = 0 by kernel_rfl]; rfl, ?_⟩)⟩
        simp [evs, SX.ev] at hq
        subst hq
        rw [← List.append_nil (flA.drop 9)]
        refine seg_ok names_ok mixed_ok orcA_ok stateNames.post h1 ?_ (fun qs a1 w1 hq h1 => fin qs a1 w1 (by simp [evs, SX.ev] at hq; exact hq.symm) h1)
        simp only [List.mem_cons, List.not_mem_nil, or_false, forall_eq_or_imp, forall_eq]
        simp [-holds_idx, holds_idxP, holds_cellsP, Base.ev, SX.ev, evs, Value.oneCell', lenPV_row]
theorem walk (w : World) (v : Value) (len : Nat) (Z : Nat → Nat → Int) (h : IsGrid 2 w v len Z) :
    Calls Try.prog 4 #[v] w fun e w' => e = .returned (.bool true) ∧ Ex w w' := by
  obtain ⟨l, hb, hr⟩ := grd.gridK (by decide) h
  have hl : l.length ≤ 9223372036854775807 := grd.reads_len hr
  refine told_true (told 0) rfl (us := [v]) (ps := [pRow E2 l]) (spec_of fL ⟨l, hb, hl, rfl, rfl⟩) rfl rfl (fun i p u hp hu => ?_)
  match i, hp, hu with
  | 0, hp, hu => simp at hp hu; subst hp; subst hu; exact hr
  | i + 1, hp, hu => simp at hp
end Go.Proofs.Ytnelcjofgpplgaa.stateNames
