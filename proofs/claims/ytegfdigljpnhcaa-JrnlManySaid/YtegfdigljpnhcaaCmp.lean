/- Parts of texts, and things compared, as the symbolic engine has them. -/
import Derived.Test.YtegfdigljpnhcaaMrg5
namespace Go.Proofs.Ytegfdigljpnhcaa.symD
open Go Go.RowKit eng
set_option linter.unusedVariables false
set_option linter.unusedSimpArgs false
set_option maxRecDepth 100000

/-! Parts of texts. -/
theorem pn_prog (P : Program) (k : Program → Sem Next) : pureNext P (Sem.program k) = pureNext P (k P) := rfl
theorem pn_pure (P : Program) (v : Value) : pureNext P (Sem.pure (.value v)) = some (.inl v) := rfl
theorem sb_prog {α β : Type} (k : Program → Sem α) (f : α → Sem β) : (Sem.program k).bind f = Sem.program fun P => (k P).bind f := rfl
theorem sb_pure {α β : Type} (a : α) (f : α → Sem β) : (Sem.pure a).bind f = f a := rfl
theorem s_prog : (program : Sem Program) = Sem.program fun P => Sem.pure P := rfl
theorem s_pure {α : Type} (a : α) : (pure a : Sem α) = Sem.pure a := rfl
theorem s_bind {α β : Type} (x : Sem α) (f : α → Sem β) : (x >>= f) = x.bind f := rfl
theorem s_bound {n : Int} {y : Nat} (c : BoundsCode) (h0 : 0 ≤ n) (h1 : n ≤ y) : Instr.sliceBound (.int .i64 n) y c = Sem.pure n.toNat := by
  simp [Instr.sliceBound, asIntOf, s_bind, s_pure, sb_pure, h0, h1]
theorem op_to (P : Program) (t t' : TypeId) (s : ByteArray) (n : Int) (a b : Nat) (hab : Nat.beq a b = false) (hu : P.underlying t = some .string) (h0 : 0 ≤ n) (h1 : n ≤ s.size) : opVal P (Op.slice t (Operand.tmp a) none (some (Operand.tmp b)) none) t' [a, b] [.string s, .int .i64 n] = some (.string (s.extract 0 n.toNat)) := by
  have hb : Nat.beq b b = true := Nat.beq_refl b
  have ha : Nat.beq a a = true := Nat.beq_refl a
  simp only [opVal, Op.isSelect, cond_false, execOp, envR, lookT, ha, hab, hb, Option.map, cond_true, Instr.sliceAt, Instr.slice, Instr.sliceBounds]
  simp [s_bind, s_prog, s_pure, underlying, sb_prog, sb_pure, pn_prog, pn_pure, hu, s_bound _ h0 h1]
theorem op_from (P : Program) (t t' : TypeId) (s : ByteArray) (n : Int) (a b : Nat) (hab : Nat.beq a b = false) (hu : P.underlying t = some .string) (h0 : 0 ≤ n) (h1 : n ≤ s.size) : opVal P (Op.slice t (Operand.tmp a) (some (Operand.tmp b)) none none) t' [a, b] [.string s, .int .i64 n] = some (.string (s.extract n.toNat s.size)) := by
  have hb : Nat.beq b b = true := Nat.beq_refl b
  have ha : Nat.beq a a = true := Nat.beq_refl a
  simp only [opVal, Op.isSelect, cond_false, execOp, envR, lookT, ha, hab, hb, Option.map, cond_true, Instr.sliceAt, Instr.slice, Instr.sliceBounds]
  simp [s_bind, s_prog, s_pure, underlying, sb_prog, sb_pure, pn_prog, pn_pure, hu, s_bound _ h0 h1]

/-! Things compared. -/
def Pv (P : Program) {α : Type} (m : Sem α) (a : α) : Prop := ∀ k : α → Sem Next, pureNext P (m.bind k) = pureNext P (k a)
theorem sb_assoc {α β γ : Type} (m : Sem α) (f : α → Sem β) (g : β → Sem γ) : (m.bind f).bind g = m.bind fun a => (f a).bind g := by
  induction m <;> simp [Sem.bind, *]
theorem pv_struct {P : Program} (d : Nat) (t : TypeId) (xs : Array Value) (ht : P.underlying t = some (.struct (P.fieldsOf t))) (hp : P.stoodInHeld t = false)
    (h : ∀ f ∈ (P.fieldsOf t).toList, ∃ a, Pv P (part f.type xs f.offset) a ∧ Pv P (Op.equalIn d f.type a a) true) : Pv P (Op.equalIn (d + 1) t (.agg xs) (.agg xs)) true := by
  intro k
  simp only [Op.equalIn, s_bind, underlying, s_prog, s_pure, sb_prog, pn_prog, sb_pure, ht, hp, Bool.false_eq_true, if_false]
  rw [← Array.forIn_toList]
  generalize (P.fieldsOf t).toList = fs at h
  clear ht
  induction fs with
  | nil => simp [s_pure, sb_pure]
  | cons f fs ih =>
    obtain ⟨a, h1, h2⟩ := h f (by simp)
    simp only [List.forIn_cons, s_bind, sb_assoc]
    split
    · simp only [sb_assoc]
      rw [h1, h1, h2]
      simp only [Bool.not_true, Bool.false_eq_true, if_false, s_pure, sb_pure]
      have := ih (fun g hg => h g (List.mem_cons_of_mem _ hg))
      rwa [sb_assoc] at this
    · simp only [s_pure, sb_pure]
      have := ih (fun g hg => h g (List.mem_cons_of_mem _ hg))
      rwa [sb_assoc] at this
theorem pv_int {P : Program} (d : Nat) (t : TypeId) (k k' : IntKind) (a : Int) (h : P.underlying t = some (.int k')) : Pv P (Op.equalIn (d + 1) t (.int k a) (.int k a)) true := by
  intro c
  simp [Op.equalIn, s_bind, underlying, s_prog, s_pure, sb_prog, pn_prog, sb_pure, h]
theorem pv_str {P : Program} (d : Nat) (t : TypeId) (s : ByteArray) (h : P.underlying t = some .string) : Pv P (Op.equalIn (d + 1) t (.string s) (.string s)) true := by
  intro c
  simp [Op.equalIn, s_bind, underlying, s_prog, s_pure, sb_prog, pn_prog, sb_pure, h, beq_toListBytes]
theorem op_neq_refl (P : Program) (t t' : TypeId) (a b : Nat) (hab : Nat.beq a b = false) (xs : Array Value) (hm : P.eqGuardType P.depth t = false) (h : Pv P (Op.equalIn 10000 t (.agg xs) (.agg xs)) true) : opVal P (Op.binOp .neq t (Operand.tmp a) (Operand.tmp b) t) t' [a, b] [.agg xs, .agg xs] = some (.bool false) := by
  have hb : Nat.beq b b = true := Nat.beq_refl b
  have ha : Nat.beq a a = true := Nat.beq_refl a
  have h' := fun k => h k
  simp only [opVal, Op.isSelect, cond_false, execOp, envR, lookT, ha, hab, hb, cond_true, eqGuard, binOp, Op.equal, Op.maxDepth]
  simp [s_bind, s_prog, s_pure, sb_prog, sb_pure, pn_prog, pn_pure, hm, sb_assoc, h']
theorem op_eql_refl (P : Program) (t t' : TypeId) (a b : Nat) (hab : Nat.beq a b = false) (xs : Array Value) (hm : P.eqGuardType P.depth t = false) (h : Pv P (Op.equalIn 10000 t (.agg xs) (.agg xs)) true) : opVal P (Op.binOp .eql t (Operand.tmp a) (Operand.tmp b) t) t' [a, b] [.agg xs, .agg xs] = some (.bool true) := by
  have hb : Nat.beq b b = true := Nat.beq_refl b
  have ha : Nat.beq a a = true := Nat.beq_refl a
  have h' := fun k => h k
  simp only [opVal, Op.isSelect, cond_false, execOp, envR, lookT, ha, hab, hb, cond_true, eqGuard, binOp, Op.equal, Op.maxDepth]
  simp [s_bind, s_prog, s_pure, sb_prog, sb_pure, pn_prog, pn_pure, hm, sb_assoc, h']

theorem pv_part {P : Program} (t : TypeId) (cs : Array Value) (off : Nat) (v : Value) (ha : Pv P (isAgg t) false) (h : cs[off]? = some v) : Pv P (part t cs off) v := by
  intro c
  simp only [part, s_bind, sb_assoc]
  rw [ha]
  simp [h, s_pure, sb_pure]
theorem pv_isInt {P : Program} (t : TypeId) (k : IntKind) (h : P.underlying t = some (.int k)) : Pv P (isAgg t) false := by
  intro c
  simp [isAgg, s_bind, underlying, s_prog, s_pure, sb_prog, pn_prog, sb_pure, h]
theorem pv_isStr {P : Program} (t : TypeId) (h : P.underlying t = some .string) : Pv P (isAgg t) false := by
  intro c
  simp [isAgg, s_bind, underlying, s_prog, s_pure, sb_prog, pn_prog, sb_pure, h]
end Go.Proofs.Ytegfdigljpnhcaa.symD
