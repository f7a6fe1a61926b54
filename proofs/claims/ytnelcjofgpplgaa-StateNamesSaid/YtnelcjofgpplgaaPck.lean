/- Picks: numbers out of which choices are made; writes. -/
import Derived.Test.YtnelcjofgpplgaaFil
namespace Go.Proofs.Ytnelcjofgpplgaa.pck
open Go Go.RowKit eng SX Fact fil
set_option linter.unusedVariables false
set_option linter.unusedSimpArgs false
set_option maxRecDepth 1000000

def encU : Enc Nat := { sz := 1, enc := fun z => [.int .u8 (z : Int)], len := fun _ => rfl, one := fun _ u hu => by simp at hu; subst hu; rfl, pos := by decide }
def pbox : BoxT := ⟨66, 0, false, [.leaf, .leaf], none, true⟩
def ENum (k : Nat) : PtrE := { k := k, elem := 66, cells := 2, ins := [none], outs := [none], kinds := [.num, .row, .num] }
noncomputable def flW := flat (bodyOf Try.prog 30)
def shW : Shape := ⟨[(0, .ptr 0 0 0 0)], [pbox], [some true, none], 11, 30⟩
def shWR : Shape := ⟨[(2, .ptr 1 0 0 0)], [pbox, ⟨26, 0, false, [.leaf, .leaf], none, false⟩], [some true, none, none, none], 11, 30⟩
def EWs (k : Nat) : PtrE := { k := k, elem := 66, cells := 2, ins := [none], outs := [none], kinds := [.row, .row, .num] }
def EWr1 (k : Nat) : PtrE := { k := k, elem := 66, cells := 2, ins := [], outs := [some 2], kinds := [.num, .num, .row, .num] }
def tabW (f : FuncId) : Option PtrE := cond (Nat.beq f 29) (some (ENum 20)) (cond (Nat.beq f 30) (some (EWr1 21)) none)
def isApp : Op → Bool | .call { callee := .builtin .append, .. } => true | _ => false
def hApp (_ : FuncId) (o : Oper) : Option Hint := cond (isApp o.op) (some .own) none
theorem w0 : segTo Try.prog (orcP tabW) 10000 flW shW [0] shWR [(0, 0), (2, 0)] = some (.ret, [.fp 29 (ENum 20) [.con (.int .i64 10), .var 0, .var 1], .ok (.fn 20 [.con (.int .i64 10), .var 0, .var 1] 0), .ok (.fn 20 [.con (.int .i64 10), .var 0, .var 1] 2), .fp 29 (ENum 20) [.con (.int .i64 6), .fn 20 [.con (.int .i64 10), .var 0, .var 1] 1, .fn 20 [.con (.int .i64 10), .var 0, .var 1] 2], .ok (.fn 20 [.con (.int .i64 6), .fn 20 [.con (.int .i64 10), .var 0, .var 1] 1, .fn 20 [.con (.int .i64 10), .var 0, .var 1] 2] 0), .ok (.fn 20 [.con (.int .i64 6), .fn 20 [.con (.int .i64 10), .var 0, .var 1] 1, .fn 20 [.con (.int .i64 10), .var 0, .var 1] 2] 2), Fact.at (.fn 20 [.con (.int .i64 6), .fn 20 [.con (.int .i64 10), .var 0, .var 1] 1, .fn 20 [.con (.int .i64 10), .var 0, .var 1] 2] 0) 0, .ok (.fn 20 [.con (.int .i64 6), .fn 20 [.con (.int .i64 10), .var 0, .var 1] 1, .fn 20 [.con (.int .i64 10), .var 0, .var 1] 2] 2), .ok (.fn 20 [.con (.int .i64 10), .var 0, .var 1] 0), .ok (.con (.string { data := { toList := [UInt8.ofNat 120] } }))], [.fn 20 [.con (.int .i64 6), .fn 20 [.con (.int .i64 10), .var 0, .var 1] 1, .fn 20 [.con (.int .i64 10), .var 0, .var 1] 2] 1, .fn 20 [.con (.int .i64 6), .fn 20 [.con (.int .i64 10), .var 0, .var 1] 1, .fn 20 [.con (.int .i64 10), .var 0, .var 1] 2] 2, .fn 20 [.con (.int .i64 10), .var 0, .var 1] 0, .con (.string { data := { toList := [UInt8.ofNat 120] } })]) := by kernel_rfl
theorem w1 : segTo Try.prog (orcP tabW) 10000 flW shW [1] shWR [(0, 0), (2, 0)] = some (.ret, [.fp 29 (ENum 20) [.con (.int .i64 10), .var 0, .var 1], .ok (.fn 20 [.con (.int .i64 10), .var 0, .var 1] 0), .ok (.fn 20 [.con (.int .i64 10), .var 0, .var 1] 2), .fp 29 (ENum 20) [.con (.int .i64 6), .fn 20 [.con (.int .i64 10), .var 0, .var 1] 1, .fn 20 [.con (.int .i64 10), .var 0, .var 1] 2], .ok (.fn 20 [.con (.int .i64 6), .fn 20 [.con (.int .i64 10), .var 0, .var 1] 1, .fn 20 [.con (.int .i64 10), .var 0, .var 1] 2] 0), .ok (.fn 20 [.con (.int .i64 6), .fn 20 [.con (.int .i64 10), .var 0, .var 1] 1, .fn 20 [.con (.int .i64 10), .var 0, .var 1] 2] 2), Fact.at (.fn 20 [.con (.int .i64 6), .fn 20 [.con (.int .i64 10), .var 0, .var 1] 1, .fn 20 [.con (.int .i64 10), .var 0, .var 1] 2] 0) 1, .ok (.fn 20 [.con (.int .i64 6), .fn 20 [.con (.int .i64 10), .var 0, .var 1] 1, .fn 20 [.con (.int .i64 10), .var 0, .var 1] 2] 2), .ok (.fn 20 [.con (.int .i64 10), .var 0, .var 1] 0), .ok (.con (.string { data := { toList := [UInt8.ofNat 121, UInt8.ofNat 122] } }))], [.fn 20 [.con (.int .i64 6), .fn 20 [.con (.int .i64 10), .var 0, .var 1] 1, .fn 20 [.con (.int .i64 10), .var 0, .var 1] 2] 1, .fn 20 [.con (.int .i64 6), .fn 20 [.con (.int .i64 10), .var 0, .var 1] 1, .fn 20 [.con (.int .i64 10), .var 0, .var 1] 2] 2, .fn 20 [.con (.int .i64 10), .var 0, .var 1] 0, .con (.string { data := { toList := [UInt8.ofNat 121, UInt8.ofNat 122] } })]) := by kernel_rfl
theorem w2 : segTo Try.prog (orcP tabW) 10000 flW shW [2] shWR [(0, 0), (2, 0)] = some (.ret, [.fp 29 (ENum 20) [.con (.int .i64 10), .var 0, .var 1], .ok (.fn 20 [.con (.int .i64 10), .var 0, .var 1] 0), .ok (.fn 20 [.con (.int .i64 10), .var 0, .var 1] 2), .fp 29 (ENum 20) [.con (.int .i64 6), .fn 20 [.con (.int .i64 10), .var 0, .var 1] 1, .fn 20 [.con (.int .i64 10), .var 0, .var 1] 2], .ok (.fn 20 [.con (.int .i64 6), .fn 20 [.con (.int .i64 10), .var 0, .var 1] 1, .fn 20 [.con (.int .i64 10), .var 0, .var 1] 2] 0), .ok (.fn 20 [.con (.int .i64 6), .fn 20 [.con (.int .i64 10), .var 0, .var 1] 1, .fn 20 [.con (.int .i64 10), .var 0, .var 1] 2] 2), Fact.at (.fn 20 [.con (.int .i64 6), .fn 20 [.con (.int .i64 10), .var 0, .var 1] 1, .fn 20 [.con (.int .i64 10), .var 0, .var 1] 2] 0) 2, .ok (.fn 20 [.con (.int .i64 6), .fn 20 [.con (.int .i64 10), .var 0, .var 1] 1, .fn 20 [.con (.int .i64 10), .var 0, .var 1] 2] 2), .ok (.fn 20 [.con (.int .i64 10), .var 0, .var 1] 0), .ok (.con (.string { data := { toList := [UInt8.ofNat 104, UInt8.ofNat 101, UInt8.ofNat 108, UInt8.ofNat 108, UInt8.ofNat 111] } }))], [.fn 20 [.con (.int .i64 6), .fn 20 [.con (.int .i64 10), .var 0, .var 1] 1, .fn 20 [.con (.int .i64 10), .var 0, .var 1] 2] 1, .fn 20 [.con (.int .i64 6), .fn 20 [.con (.int .i64 10), .var 0, .var 1] 1, .fn 20 [.con (.int .i64 10), .var 0, .var 1] 2] 2, .fn 20 [.con (.int .i64 10), .var 0, .var 1] 0, .con (.string { data := { toList := [UInt8.ofNat 104, UInt8.ofNat 101, UInt8.ofNat 108, UInt8.ofNat 108, UInt8.ofNat 111] } })]) := by kernel_rfl
theorem w3 : segTo Try.prog (orcP tabW) 10000 flW shW [3] shWR [(0, 0), (2, 0)] = some (.ret, [.fp 29 (ENum 20) [.con (.int .i64 10), .var 0, .var 1], .ok (.fn 20 [.con (.int .i64 10), .var 0, .var 1] 0), .ok (.fn 20 [.con (.int .i64 10), .var 0, .var 1] 2), .fp 29 (ENum 20) [.con (.int .i64 6), .fn 20 [.con (.int .i64 10), .var 0, .var 1] 1, .fn 20 [.con (.int .i64 10), .var 0, .var 1] 2], .ok (.fn 20 [.con (.int .i64 6), .fn 20 [.con (.int .i64 10), .var 0, .var 1] 1, .fn 20 [.con (.int .i64 10), .var 0, .var 1] 2] 0), .ok (.fn 20 [.con (.int .i64 6), .fn 20 [.con (.int .i64 10), .var 0, .var 1] 1, .fn 20 [.con (.int .i64 10), .var 0, .var 1] 2] 2), Fact.at (.fn 20 [.con (.int .i64 6), .fn 20 [.con (.int .i64 10), .var 0, .var 1] 1, .fn 20 [.con (.int .i64 10), .var 0, .var 1] 2] 0) 3, .ok (.fn 20 [.con (.int .i64 6), .fn 20 [.con (.int .i64 10), .var 0, .var 1] 1, .fn 20 [.con (.int .i64 10), .var 0, .var 1] 2] 2), .ok (.fn 20 [.con (.int .i64 10), .var 0, .var 1] 0), .ok (.con (.string { data := { toList := [UInt8.ofNat 48] } }))], [.fn 20 [.con (.int .i64 6), .fn 20 [.con (.int .i64 10), .var 0, .var 1] 1, .fn 20 [.con (.int .i64 10), .var 0, .var 1] 2] 1, .fn 20 [.con (.int .i64 6), .fn 20 [.con (.int .i64 10), .var 0, .var 1] 1, .fn 20 [.con (.int .i64 10), .var 0, .var 1] 2] 2, .fn 20 [.con (.int .i64 10), .var 0, .var 1] 0, .con (.string { data := { toList := [UInt8.ofNat 48] } })]) := by kernel_rfl
theorem w4 : segTo Try.prog (orcP tabW) 10000 flW shW [4] shWR [(0, 0), (2, 0)] = some (.ret, [.fp 29 (ENum 20) [.con (.int .i64 10), .var 0, .var 1], .ok (.fn 20 [.con (.int .i64 10), .var 0, .var 1] 0), .ok (.fn 20 [.con (.int .i64 10), .var 0, .var 1] 2), .fp 29 (ENum 20) [.con (.int .i64 6), .fn 20 [.con (.int .i64 10), .var 0, .var 1] 1, .fn 20 [.con (.int .i64 10), .var 0, .var 1] 2], .ok (.fn 20 [.con (.int .i64 6), .fn 20 [.con (.int .i64 10), .var 0, .var 1] 1, .fn 20 [.con (.int .i64 10), .var 0, .var 1] 2] 0), .ok (.fn 20 [.con (.int .i64 6), .fn 20 [.con (.int .i64 10), .var 0, .var 1] 1, .fn 20 [.con (.int .i64 10), .var 0, .var 1] 2] 2), Fact.at (.fn 20 [.con (.int .i64 6), .fn 20 [.con (.int .i64 10), .var 0, .var 1] 1, .fn 20 [.con (.int .i64 10), .var 0, .var 1] 2] 0) 4, .ok (.fn 20 [.con (.int .i64 6), .fn 20 [.con (.int .i64 10), .var 0, .var 1] 1, .fn 20 [.con (.int .i64 10), .var 0, .var 1] 2] 2), .ok (.fn 20 [.con (.int .i64 10), .var 0, .var 1] 0), .ok (.con (.string { data := { toList := [UInt8.ofNat 97, UInt8.ofNat 98, UInt8.ofNat 0, UInt8.ofNat 99, UInt8.ofNat 100] } }))], [.fn 20 [.con (.int .i64 6), .fn 20 [.con (.int .i64 10), .var 0, .var 1] 1, .fn 20 [.con (.int .i64 10), .var 0, .var 1] 2] 1, .fn 20 [.con (.int .i64 6), .fn 20 [.con (.int .i64 10), .var 0, .var 1] 1, .fn 20 [.con (.int .i64 10), .var 0, .var 1] 2] 2, .fn 20 [.con (.int .i64 10), .var 0, .var 1] 0, .con (.string { data := { toList := [UInt8.ofNat 97, UInt8.ofNat 98, UInt8.ofNat 0, UInt8.ofNat 99, UInt8.ofNat 100] } })]) := by kernel_rfl
theorem w5 : segTo Try.prog (orcP tabW) 10000 flW shW [5] shWR [(0, 0), (2, 0)] = some (.ret, [.fp 29 (ENum 20) [.con (.int .i64 10), .var 0, .var 1], .ok (.fn 20 [.con (.int .i64 10), .var 0, .var 1] 0), .ok (.fn 20 [.con (.int .i64 10), .var 0, .var 1] 2), .fp 29 (ENum 20) [.con (.int .i64 6), .fn 20 [.con (.int .i64 10), .var 0, .var 1] 1, .fn 20 [.con (.int .i64 10), .var 0, .var 1] 2], .ok (.fn 20 [.con (.int .i64 6), .fn 20 [.con (.int .i64 10), .var 0, .var 1] 1, .fn 20 [.con (.int .i64 10), .var 0, .var 1] 2] 0), .ok (.fn 20 [.con (.int .i64 6), .fn 20 [.con (.int .i64 10), .var 0, .var 1] 1, .fn 20 [.con (.int .i64 10), .var 0, .var 1] 2] 2), Fact.at (.fn 20 [.con (.int .i64 6), .fn 20 [.con (.int .i64 10), .var 0, .var 1] 1, .fn 20 [.con (.int .i64 10), .var 0, .var 1] 2] 0) 5, .ok (.fn 20 [.con (.int .i64 6), .fn 20 [.con (.int .i64 10), .var 0, .var 1] 1, .fn 20 [.con (.int .i64 10), .var 0, .var 1] 2] 2), .ok (.fn 20 [.con (.int .i64 10), .var 0, .var 1] 0), .ok (.con (.string { data := { toList := [UInt8.ofNat 102, UInt8.ofNat 111, UInt8.ofNat 117, UInt8.ofNat 114, UInt8.ofNat 116, UInt8.ofNat 101, UInt8.ofNat 101, UInt8.ofNat 110, UInt8.ofNat 32, UInt8.ofNat 98, UInt8.ofNat 121, UInt8.ofNat 116, UInt8.ofNat 101, UInt8.ofNat 115] } }))], [.fn 20 [.con (.int .i64 6), .fn 20 [.con (.int .i64 10), .var 0, .var 1] 1, .fn 20 [.con (.int .i64 10), .var 0, .var 1] 2] 1, .fn 20 [.con (.int .i64 6), .fn 20 [.con (.int .i64 10), .var 0, .var 1] 1, .fn 20 [.con (.int .i64 10), .var 0, .var 1] 2] 2, .fn 20 [.con (.int .i64 10), .var 0, .var 1] 0, .con (.string { data := { toList := [UInt8.ofNat 102, UInt8.ofNat 111, UInt8.ofNat 117, UInt8.ofNat 114, UInt8.ofNat 116, UInt8.ofNat 101, UInt8.ofNat 101, UInt8.ofNat 110, UInt8.ofNat 32, UInt8.ofNat 98, UInt8.ofNat 121, UInt8.ofNat 116, UInt8.ofNat 101, UInt8.ofNat 115] } })]) := by kernel_rfl

@[simp] theorem holds_fp (B : Base) (f : FuncId) (E : PtrE) (es : List SX) : (Fact.fp f E es).holds B ↔ ToldP f E (B.F E.k) ∧ ∃ ps qs, evs B.s B.F es = some ps ∧ B.F E.k ps = some qs := Iff.rfl
@[simp] theorem kNum (k : Nat) : (ENum k).k = k := rfl
@[simp] theorem kWr1 (k : Nat) : (EWr1 k).k = k := rfl
theorem encU_inj : ∀ xs ys : List Nat, encU.all xs = encU.all ys → xs = ys
  | [], [], _ => rfl
  | [], _ :: _, h => by simp [Enc.all, encU] at h
  | _ :: _, [], h => by simp [Enc.all, encU] at h
  | x :: xs, y :: ys, h => by
    rw [Enc.all_cons, Enc.all_cons] at h
    obtain ⟨h1, h2⟩ := List.append_inj h (by rw [encU.len, encU.len])
    simp only [encU, List.cons.injEq, Value.int.injEq, true_and, and_true, Int.ofNat_inj] at h1
    rw [h1, encU_inj xs ys h2]

def numV (l : List Nat) (n m : Nat) : Nat := if n < l.length then l.getD n 0 % m else 0
def numN (l : List Nat) (n : Nat) : Nat := if n < l.length then n + 1 else n
theorem numN_le {l : List Nat} {n : Nat} (h : n ≤ l.length) : numN l n ≤ l.length := by unfold numN; split <;> omega
def RNum (ps qs : List PV) : Prop := ∃ (m n : Nat) (l : List Nat), 1 ≤ m ∧ m ≤ 1000 ∧ n ≤ l.length ∧ l.length ≤ 1000000 ∧ (∀ z ∈ l, z < 256) ∧ ps = [pI (m : Int), pRow encU l, pI (n : Int)] ∧ qs = [pI (numV l n m : Int), pRow encU l, pI (numN l n : Int)]
theorem fNum : ∀ ps q1 q2, RNum ps q1 → RNum ps q2 → q1 = q2 := by
  rintro ps q1 q2 ⟨m, n, l, _, _, _, _, _, rfl, rfl⟩ ⟨m', n', l', _, _, _, _, _, h, rfl⟩
  simp only [List.cons.injEq, PV.v.injEq, Value.int.injEq, true_and, and_true, Int.ofNat_inj] at h
  obtain ⟨rfl, h, rfl⟩ := h
  rw [fil.pRow_inj encU_inj h]

def tbl : Nat → ByteArray
  | 0 => ⟨⟨[UInt8.ofNat 120]⟩⟩
  | 1 => ⟨⟨[UInt8.ofNat 121, UInt8.ofNat 122]⟩⟩
  | 2 => ⟨⟨[UInt8.ofNat 104, UInt8.ofNat 101, UInt8.ofNat 108, UInt8.ofNat 108, UInt8.ofNat 111]⟩⟩
  | 3 => ⟨⟨[UInt8.ofNat 48]⟩⟩
  | 4 => ⟨⟨[UInt8.ofNat 97, UInt8.ofNat 98, UInt8.ofNat 0, UInt8.ofNat 99, UInt8.ofNat 100]⟩⟩
  | 5 => ⟨⟨[UInt8.ofNat 102, UInt8.ofNat 111, UInt8.ofNat 117, UInt8.ofNat 114, UInt8.ofNat 116, UInt8.ofNat 101, UInt8.ofNat 101, UInt8.ofNat 110, UInt8.ofNat 32, UInt8.ofNat 98, UInt8.ofNat 121, UInt8.ofNat 116, UInt8.ofNat 101, UInt8.ofNat 115]⟩⟩
  | _ => ⟨⟨[UInt8.ofNat 120]⟩⟩
def wr1 (l : List Nat) (n : Nat) : (Int × ByteArray) × Nat := (((numV l n 10 : Nat), tbl (numV l (numN l n) 6)), numN l (numN l n))
structure OkP (l : List Nat) (n : Nat) : Prop where
  n : n ≤ l.length
  len : l.length ≤ 1000000
  u8 : ∀ z ∈ l, z < 256
def RWr1 (ps qs : List PV) : Prop := ∃ (n : Nat) (l : List Nat), OkP l n ∧ ps = [pRow encU l, pI (n : Int)] ∧ qs = [pI (wr1 l n).1.1, pS (wr1 l n).1.2, pRow encU l, pI ((wr1 l n).2 : Int)]
theorem fWr1 : ∀ ps q1 q2, RWr1 ps q1 → RWr1 ps q2 → q1 = q2 := by
  rintro ps q1 q2 ⟨n, l, _, rfl, rfl⟩ ⟨n', l', _, h, rfl⟩
  simp only [List.cons.injEq, PV.v.injEq, Value.int.injEq, true_and, and_true, Int.ofNat_inj] at h
  obtain ⟨h, rfl⟩ := h
  rw [fil.pRow_inj encU_inj h]
noncomputable def F : Fns := fun k => match k with | 20 => spec RNum | 21 => spec RWr1 | _ => fun _ => none
theorem F20 {m n : Nat} {l : List Nat} (h1 : 1 ≤ m) (h2 : m ≤ 1000) (ok : OkP l n) : F 20 [pI (m : Int), pRow encU l, pI (n : Int)] = some [pI (numV l n m : Int), pRow encU l, pI (numN l n : Int)] := spec_of fNum ⟨m, n, l, h1, h2, ok.n, ok.len, ok.u8, rfl, rfl⟩
theorem okN {l : List Nat} {n : Nat} (ok : OkP l n) : OkP l (numN l n) := ⟨numN_le ok.n, ok.len, ok.u8⟩

theorem F21 {n : Nat} {l : List Nat} (ok : OkP l n) : F 21 [pRow encU l, pI (n : Int)] = some [pI (wr1 l n).1.1, pS (wr1 l n).1.2, pRow encU l, pI ((wr1 l n).2 : Int)] := spec_of fWr1 ⟨n, l, ok, rfl, rfl⟩
def EWo (k : Nat) : PtrE := { k := k, elem := 66, cells := 2, ins := [none], outs := [none], kinds := [.own 26 2 true, .row, .num] }
@[simp] theorem kWo (k : Nat) : (EWo k).k = k := rfl
end Go.Proofs.Ytnelcjofgpplgaa.pck
