/- What is written into files: what the laws of writes reckon with. -/
import Derived.Test.YtnelcjofgpplgaaPck
import Derived.Test.YtnelcjofgpplgaaFrame
namespace Go.Proofs.Ytnelcjofgpplgaa.fileFronts
open Go Go.RowKit eng SX Fact fil pck
set_option linter.unusedVariables false
set_option linter.unusedSimpArgs false
set_option maxRecDepth 1000000

def bs (l : List UInt8) : ByteArray := ⟨l.toArray⟩
def EPut (k : Nat) : FnE := { k := k, ins := [none, some 2], leaks := [false, false, false], outs := [none], kinds := [.num] }
def RPut (ps qs : List PV) : Prop := ∃ (b : ByteArray) (o : Int) (s : ByteArray), b.size ≤ 1000 ∧ -9223372036854775808 ≤ o ∧ o ≤ 9223372036854775807 ∧ s.size ≤ 1000000 ∧ ps = [pS b, pI o, pS s] ∧ qs = [pS (bs (putW b.data.toList (o, s)))]
theorem fPut : ∀ ps q1 q2, RPut ps q1 → RPut ps q2 → q1 = q2 := by
  rintro ps q1 q2 ⟨b, o, s, _, _, _, _, rfl, rfl⟩ ⟨b', o', s', _, _, _, _, h, rfl⟩
  simp only [List.cons.injEq, PV.v.injEq, Value.string.injEq, Value.int.injEq, true_and, and_true] at h
  obtain ⟨rfl, rfl, rfl⟩ := h
  rfl
@[simp] theorem kPut (k : Nat) : (EPut k).k = k := rfl
@[simp] theorem holds_fn (B : Base) (f : FuncId) (E : FnE) (es : List SX) : (Fact.fn f E es).holds B ↔ ToldF f E (B.F E.k) ∧ ∃ ps qs, evs B.s B.F es = some ps ∧ B.F E.k ps = some qs := Iff.rfl
@[simp] theorem kAll (k : Nat) : (EAll k).k = k := rfl
@[simp] theorem kWs (k : Nat) : (EWs k).k = k := rfl
theorem bs_list (l : List UInt8) : (bs l).data.toList = l := by simp [bs]
theorem bs_size (l : List UInt8) : (bs l).size = l.length := by simp [bs, ByteArray.size]

@[simp] theorem ex_cast0 (p : Nat → Prop) : (∃ a : Nat, (0 : Int) = (a : Int) ∧ p a) ↔ p 0 := by
  constructor
  · rintro ⟨a, h, hp⟩
    have : a = 0 := by omega
    rw [this] at hp
    exact hp
  · exact fun h => ⟨0, rfl, h⟩
@[simp] theorem holds_idx (B : Base) (e i : SX) (sz q : Nat) : (Fact.idx e i sz q).holds B ↔ ∃ n cs k z, B.ev e = some (.row n cs) ∧ B.ev i = some (.v (.int k z)) ∧ 0 ≤ z ∧ z < (n : Int) ∧ z.toNat * sz + q ≤ cs.length := Iff.rfl
end Go.Proofs.Ytnelcjofgpplgaa.fileFronts
