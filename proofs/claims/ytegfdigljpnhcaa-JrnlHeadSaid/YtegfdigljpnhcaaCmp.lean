/- Parts of texts, and things compared, as the symbolic engine has them. -/
import Derived.Test.YtegfdigljpnhcaaMrg5
namespace Go.Proofs.Ytegfdigljpnhcaa.symD
open Go Go.RowKit eng
set_option linter.unusedVariables false
set_option linter.unusedSimpArgs false
set_option maxRecDepth 100000

/-! Parts of texts. -/
theorem pn_prog (P : Program) (k : Program → Sem Next) : pureNext P (Sem.program k) = pureNext P (k P) := rfl
theorem pn_pure (P : Program) (v : Value) : pureNext P (Sem.pure (.value v)) = some (.inl v) := rfl
theorem sb_prog {α β : Type} (k : Program → Sem α) (f : α → Sem β) : (Sem.program k).bind f = Sem.program fun P => (k P).bind f := rfl
theorem sb_pure {α β : Type} (a : α) (f : α → Sem β) : (Sem.pure a).bind f = f a := rfl
theorem s_prog : (program : Sem Program) = Sem.program fun P => Sem.pure P := rfl
theorem s_pure {α : Type} (a : α) : (pure a : Sem α) = Sem.pure a := rfl
theorem s_bind {α β : Type} (x : Sem α) (f : α → Sem β) : (x >>= f) = x.bind f := rfl
theorem s_bound {n : Int} {y : Nat} (c : BoundsCode) (h0 : 0 ≤ n) (h1 : n ≤ y) : Instr.sliceBound (.int .i64 n) y c = Sem.pure n.toNat := by
  simp [Instr.sliceBound, asIntOf, s_bind, s_pure, sb_pure, h0, h1]
theorem op_to (P : Program) (t t' : TypeId) (s : ByteArray) (n : Int) (a b : Nat) (hab : Nat.beq a b = false) (hu : P.underlying t = some .string) (h0 : 0 ≤ n) (h1 : n ≤ s.size) : opVal P (Op.slice t (Operand.tmp a) none (some (Operand.tmp b)) none) t' [a, b] [.string s, .int .i64 n] = some (.string (s.extract 0 n.toNat)) := by
  have hb : Nat.beq b b = true := Nat.beq_refl b
  have ha : Nat.beq a a = true := Nat.beq_refl a
  simp only [opVal, Op.isSelect, cond_false, execOp, envR, lookT, ha, hab, hb, Option.map, cond_true, Instr.sliceAt, Instr.slice, Instr.sliceBounds]
  simp [s_bind, s_prog, s_pure, underlying, sb_prog, sb_pure, pn_prog, pn_pure, hu, s_bound _ h0 h1]
theorem op_from (P : Program) (t t' : TypeId) (s : ByteArray) (n : Int) (a b : Nat) (hab : Nat.beq a b = false) (hu : P.underlying t = some .string) (h0 : 0 ≤ n) (h1 : n ≤ s.size) : opVal P (Op.slice t (Operand.tmp a) (some (Operand.tmp b)) none none) t' [a, b] [.string s, .int .i64 n] = some (.string (s.extract n.toNat s.size)) := by
  have hb : Nat.beq b b = true := Nat.beq_refl b
  have ha : Nat.beq a a = true := Nat.beq_refl a
  simp only [opVal, Op.isSelect, cond_false, execOp, envR, lookT, ha, hab, hb, Option.map, cond_true, Instr.sliceAt, Instr.slice, Instr.sliceBounds]
  simp [s_bind, s_prog, s_pure, underlying, sb_prog, sb_pure, pn_prog, pn_pure, hu, s_bound _ h0 h1]

/-! Things compared. -/

end Go.Proofs.Ytegfdigljpnhcaa.symD
