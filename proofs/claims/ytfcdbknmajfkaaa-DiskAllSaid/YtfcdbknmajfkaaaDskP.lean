/- A disk as the symbolic engine has it; what its functions answer. -/
import Derived.Test.YtfcdbknmajfkaaaMrg4
import Derived.Test.YtfcdbknmajfkaaaDskMath
namespace Go.Proofs.Ytfcdbknmajfkaaa.symD
open Go Go.RowKit eng dsk
set_option linter.unusedVariables false
set_option linter.unusedSimpArgs false
set_option maxRecDepth 100000

/-! Parts of texts. -/
theorem pn_prog (P : Program) (k : Program → Sem Next) : pureNext P (Sem.program k) = pureNext P (k P) := rfl
theorem pn_pure (P : Program) (v : Value) : pureNext P (Sem.pure (.value v)) = some (.inl v) := rfl
theorem sb_prog {α β : Type} (k : Program → Sem α) (f : α → Sem β) : (Sem.program k).bind f = Sem.program fun P => (k P).bind f := rfl
theorem sb_pure {α β : Type} (a : α) (f : α → Sem β) : (Sem.pure a).bind f = f a := rfl
theorem s_prog : (program : Sem Program) = Sem.program fun P => Sem.pure P := rfl
theorem s_pure {α : Type} (a : α) : (pure a : Sem α) = Sem.pure a := rfl
theorem s_bind {α β : Type} (x : Sem α) (f : α → Sem β) : (x >>= f) = x.bind f := rfl
theorem s_bound {n : Int} {y : Nat} (c : BoundsCode) (h0 : 0 ≤ n) (h1 : n ≤ y) : Instr.sliceBound (.int .i64 n) y c = Sem.pure n.toNat := by
  simp [Instr.sliceBound, asIntOf, s_bind, s_pure, sb_pure, h0, h1]
theorem op_to (P : Program) (t t' : TypeId) (s : ByteArray) (n : Int) (a b : Nat) (hab : Nat.beq a b = false) (hu : P.underlying t = some .string) (h0 : 0 ≤ n) (h1 : n ≤ s.size) : opVal P (Op.slice t (Operand.tmp a) none (some (Operand.tmp b)) none) t' [a, b] [.string s, .int .i64 n] = some (.string (s.extract 0 n.toNat)) := by
  have hb : Nat.beq b b = true := Nat.beq_refl b
  have ha : Nat.beq a a = true := Nat.beq_refl a
  simp only [opVal, Op.isSelect, cond_false, execOp, envR, lookT, ha, hab, hb, Option.map, cond_true, Instr.sliceAt, Instr.slice, Instr.sliceBounds]
  simp [s_bind, s_prog, s_pure, underlying, sb_prog, sb_pure, pn_prog, pn_pure, hu, s_bound _ h0 h1]
theorem op_from (P : Program) (t t' : TypeId) (s : ByteArray) (n : Int) (a b : Nat) (hab : Nat.beq a b = false) (hu : P.underlying t = some .string) (h0 : 0 ≤ n) (h1 : n ≤ s.size) : opVal P (Op.slice t (Operand.tmp a) (some (Operand.tmp b)) none none) t' [a, b] [.string s, .int .i64 n] = some (.string (s.extract n.toNat s.size)) := by
  have hb : Nat.beq b b = true := Nat.beq_refl b
  have ha : Nat.beq a a = true := Nat.beq_refl a
  simp only [opVal, Op.isSelect, cond_false, execOp, envR, lookT, ha, hab, hb, Option.map, cond_true, Instr.sliceAt, Instr.slice, Instr.sliceBounds]
  simp [s_bind, s_prog, s_pure, underlying, sb_prog, sb_pure, pn_prog, pn_pure, hu, s_bound _ h0 h1]

/-! Things compared. -/
def Pv (P : Program) {α : Type} (m : Sem α) (a : α) : Prop := ∀ k : α → Sem Next, pureNext P (m.bind k) = pureNext P (k a)
theorem sb_assoc {α β γ : Type} (m : Sem α) (f : α → Sem β) (g : β → Sem γ) : (m.bind f).bind g = m.bind fun a => (f a).bind g := by
  induction m <;> simp [Sem.bind, *]
theorem pv_struct {P : Program} (d : Nat) (t : TypeId) (xs : Array Value) (ht : P.underlying t = some (.struct (P.fieldsOf t))) (hp : P.stoodInHeld t = false)
    (h : ∀ f ∈ (P.fieldsOf t).toList, ∃ a, Pv P (part f.type xs f.offset) a ∧ Pv P (Op.equalIn d f.type a a) true) : Pv P (Op.equalIn (d + 1) t (.agg xs) (.agg xs)) true := by
  intro k
  simp only [Op.equalIn, s_bind, underlying, s_prog, s_pure, sb_prog, pn_prog, sb_pure, ht, hp, Bool.false_eq_true, if_false]
  rw [← Array.forIn_toList]
  generalize (P.fieldsOf t).toList = fs at h
  clear ht
  induction fs with
  | nil => simp [s_pure, sb_pure]
  | cons f fs ih =>
    obtain ⟨a, h1, h2⟩ := h f (by simp)
    simp only [List.forIn_cons, s_bind, sb_assoc]
    split
    · simp only [sb_assoc]
      rw [h1, h1, h2]
      simp only [Bool.not_true, Bool.false_eq_true, if_false, s_pure, sb_pure]
      have := ih (fun g hg => h g (List.mem_cons_of_mem _ hg))
      rwa [sb_assoc] at this
    · simp only [s_pure, sb_pure]
      have := ih (fun g hg => h g (List.mem_cons_of_mem _ hg))
      rwa [sb_assoc] at this
theorem pv_int {P : Program} (d : Nat) (t : TypeId) (k k' : IntKind) (a : Int) (h : P.underlying t = some (.int k')) : Pv P (Op.equalIn (d + 1) t (.int k a) (.int k a)) true := by
  intro c
  simp [Op.equalIn, s_bind, underlying, s_prog, s_pure, sb_prog, pn_prog, sb_pure, h]
theorem pv_str {P : Program} (d : Nat) (t : TypeId) (s : ByteArray) (h : P.underlying t = some .string) : Pv P (Op.equalIn (d + 1) t (.string s) (.string s)) true := by
  intro c
  simp [Op.equalIn, s_bind, underlying, s_prog, s_pure, sb_prog, pn_prog, sb_pure, h, beq_toListBytes]
theorem op_neq_refl (P : Program) (t t' : TypeId) (a b : Nat) (hab : Nat.beq a b = false) (xs : Array Value) (hm : P.eqGuardType P.depth t = false) (h : Pv P (Op.equalIn 10000 t (.agg xs) (.agg xs)) true) : opVal P (Op.binOp .neq t (Operand.tmp a) (Operand.tmp b) t) t' [a, b] [.agg xs, .agg xs] = some (.bool false) := by
  have hb : Nat.beq b b = true := Nat.beq_refl b
  have ha : Nat.beq a a = true := Nat.beq_refl a
  have h' := fun k => h k
  simp only [opVal, Op.isSelect, cond_false, execOp, envR, lookT, ha, hab, hb, cond_true, eqGuard, binOp, Op.equal, Op.maxDepth]
  simp [s_bind, s_prog, s_pure, sb_prog, sb_pure, pn_prog, pn_pure, hm, sb_assoc, h']

theorem pv_part {P : Program} (t : TypeId) (cs : Array Value) (off : Nat) (v : Value) (ha : Pv P (isAgg t) false) (h : cs[off]? = some v) : Pv P (part t cs off) v := by
  intro c
  simp only [part, s_bind, sb_assoc]
  rw [ha]
  simp [h, s_pure, sb_pure]
theorem pv_isInt {P : Program} (t : TypeId) (k : IntKind) (h : P.underlying t = some (.int k)) : Pv P (isAgg t) false := by
  intro c
  simp [isAgg, s_bind, underlying, s_prog, s_pure, sb_prog, pn_prog, sb_pure, h]
theorem pv_isStr {P : Program} (t : TypeId) (h : P.underlying t = some .string) : Pv P (isAgg t) false := by
  intro c
  simp [isAgg, s_bind, underlying, s_prog, s_pure, sb_prog, pn_prog, sb_pure, h]
theorem put_neq (t' : TypeId) (a b : Nat) (hab : Nat.beq a b = false) (n : Int) (s : ByteArray) : opVal Try.prog (Op.binOp .neq 45 (Operand.tmp a) (Operand.tmp b) 45) t' [a, b] [.agg #[.int .i64 n, .string s], .agg #[.int .i64 n, .string s]] = some (.bool false) := by
  have hl : (Try.prog.fieldsOf 45).toList = [{ name := "At", type := 3, offset := 0, embedded := false, tag := "", pkgPath := "", byteOffset := 0 }, { name := "B", type := 9, offset := 1, embedded := false, tag := "", pkgPath := "", byteOffset := 8 }] := by kernel_rfl
  refine op_neq_refl Try.prog _ _ a b hab _ (by kernel_rfl) (pv_struct 9999 _ _ (by kernel_rfl) (by kernel_rfl) ?_)
  rw [hl]
  intro f hf
  simp only [List.mem_cons, List.not_mem_nil, or_false] at hf
  have hi : Try.prog.underlying 3 = some (.int .i64) := by kernel_rfl
  have hs : Try.prog.underlying 9 = some .string := by kernel_rfl
  rcases hf with rfl | rfl
  · exact ⟨.int .i64 n, pv_part _ _ _ _ (pv_isInt _ _ hi) rfl, pv_int _ _ _ _ _ hi⟩
  · exact ⟨.string s, pv_part _ _ _ _ (pv_isStr _ hs) rfl, pv_str _ _ _ hs⟩

/-- A disk's cells. -/
def pD (d : D) : List PV := [pRow encS d.last, pRow encP d.wait, pI (d.arm : Int), pB d.down]
theorem plain_reads {w : World} {x : Value} (h : x.oneCell' = true) : Reads w (.v x) x := by simp only [Reads]; exact ⟨trivial, h⟩
/-! New. -/
def RNew (ps qs : List PV) : Prop := ∃ n : Int, ps = [pI n] ∧ qs = pD (newD n)
def ENew (k : Nat) : FnE := { k := k, ins := [none], leaks := [], outs := [some 4], kinds := [.row, .row, .num, .num] }
theorem fNew : ∀ ps q1 q2, RNew ps q1 → RNew ps q2 → q1 = q2 := by
  rintro ps q1 q2 ⟨n, rfl, rfl⟩ ⟨n', h, rfl⟩
  simp at h; subst h; rfl

/-! Read. -/
def RRead (ps qs : List PV) : Prop := ∃ (d : D) (i : Int), d.ok ∧ ps = pD d ++ [pI i] ∧ qs = [pS (readD d i).1, pB (readD d i).2]
def ERead (k : Nat) : FnE := { k := k, ins := [some 4, none], leaks := [], outs := [none, none], kinds := [.num, .truth] }
theorem pRow_inj {α : Type} {E : Enc α} (hinj : ∀ xs ys : List α, E.all xs = E.all ys → xs = ys) {xs ys : List α} (h : pRow E xs = pRow E ys) : xs = ys := by
  simp only [pRow, PV.row.injEq] at h
  refine hinj xs ys ?_
  have := congrArg (List.map fun p => (PV.plain p).getD undef) h.2
  simpa [List.map_map, Function.comp_def, PV.plain] using this
theorem encS_inj : ∀ xs ys : List ByteArray, encS.all xs = encS.all ys → xs = ys
  | [], [], _ => rfl
  | [], _ :: _, h => by simp [Enc.all, encS] at h
  | _ :: _, [], h => by simp [Enc.all, encS] at h
  | x :: xs, y :: ys, h => by
    rw [Enc.all_cons, Enc.all_cons] at h
    simp only [encS, List.cons_append, List.nil_append, List.cons.injEq, Value.string.injEq] at h
    rw [h.1, encS_inj xs ys h.2]
theorem encP_inj : ∀ xs ys : List (Nat × ByteArray), encP.all xs = encP.all ys → xs = ys
  | [], [], _ => rfl
  | [], _ :: _, h => by simp [Enc.all, encP] at h
  | _ :: _, [], h => by simp [Enc.all, encP] at h
  | x :: xs, y :: ys, h => by
    rw [Enc.all_cons, Enc.all_cons] at h
    obtain ⟨h1, h2⟩ := List.append_inj h (by rw [encP.len, encP.len])
    simp only [encP, List.cons.injEq, Value.int.injEq, Value.string.injEq, Int.ofNat_inj, true_and, and_true] at h1
    rw [Prod.ext h1.1 h1.2, encP_inj xs ys h2]
theorem pD_inj {d d' : D} (h : pD d = pD d') : d = d' := by
  simp only [pD, List.cons.injEq, PV.v.injEq, Value.int.injEq, Value.bool.injEq, and_true, true_and] at h
  obtain ⟨h1, h2, h3, h4⟩ := h
  obtain ⟨a, b, c, e⟩ := d
  obtain ⟨a', b', c', e'⟩ := d'
  have := pRow_inj encS_inj h1
  have := pRow_inj encP_inj h2
  simp only at *
  subst_vars
  have : c = c' := by omega
  rw [this]
theorem pD_app {d d' : D} {x y : List PV} (h : pD d ++ x = pD d' ++ y) : d = d' ∧ x = y := by
  have := List.append_inj h rfl
  exact ⟨pD_inj this.1, this.2⟩
theorem fRead : ∀ ps q1 q2, RRead ps q1 → RRead ps q2 → q1 = q2 := by
  rintro ps q1 q2 ⟨d, i, _, rfl, rfl⟩ ⟨d', i', _, h, rfl⟩
  obtain ⟨rfl, h⟩ := pD_app h
  simp at h; subst h; rfl
/-! Write. -/
def RWrite (ps qs : List PV) : Prop := ∃ (d : D) (i : Int) (b : ByteArray), d.ok ∧ ps = pD d ++ [pI i, pS b] ∧ qs = pD (writeD d i b).1 ++ [pB (writeD d i b).2]
def EWrite (k : Nat) : FnE := { k := k, ins := [some 4, none, none], leaks := [], outs := [some 4, none], kinds := [.row, .row, .num, .num, .truth] }
theorem fWrite : ∀ ps q1 q2, RWrite ps q1 → RWrite ps q2 → q1 = q2 := by
  rintro ps q1 q2 ⟨d, i, b, _, rfl, rfl⟩ ⟨d', i', b', _, h, rfl⟩
  obtain ⟨rfl, h⟩ := pD_app h
  simp at h; obtain ⟨rfl, rfl⟩ := h; rfl

/-! Flush. -/
def RFlush (ps qs : List PV) : Prop := ∃ d : D, d.ok ∧ ps = pD d ∧ qs = pD (flush2 d).1 ++ [pB (flush2 d).2]
def EFlush (k : Nat) : FnE := { k := k, ins := [some 4], leaks := [], outs := [some 4, none], kinds := [.row, .row, .num, .num, .truth] }
theorem fFlush : ∀ ps q1 q2, RFlush ps q1 → RFlush ps q2 → q1 = q2 := by
  rintro ps q1 q2 ⟨d, _, rfl, rfl⟩ ⟨d', _, h, rfl⟩
  rw [pD_inj h]

/-! Crash. -/
theorem encI_inj : ∀ xs ys : List Int, encI.all xs = encI.all ys → xs = ys
  | [], [], _ => rfl
  | [], _ :: _, h => by simp [Enc.all, encI] at h
  | _ :: _, [], h => by simp [Enc.all, encI] at h
  | x :: xs, y :: ys, h => by
    rw [Enc.all_cons, Enc.all_cons] at h
    obtain ⟨h1, h2⟩ := List.append_inj h (by rw [encI.len, encI.len])
    simp only [encI, List.cons.injEq, Value.int.injEq, true_and, and_true] at h1
    rw [h1, encI_inj xs ys h2]
def RCrash (ps qs : List PV) : Prop := ∃ (d : D) (keep : List Int), d.ok ∧ ps = pD d ++ [pRow encI keep] ∧ qs = pD (crashD d keep)
def ECrash (k : Nat) : FnE := { k := k, ins := [some 4, none], leaks := [], outs := [some 4], kinds := [.row, .row, .num, .num] }
theorem fCrash : ∀ ps q1 q2, RCrash ps q1 → RCrash ps q2 → q1 = q2 := by
  rintro ps q1 q2 ⟨d, i, _, rfl, rfl⟩ ⟨d', i', _, h, rfl⟩
  obtain ⟨rfl, h2⟩ := pD_app h
  injection h2 with h2 _
  rw [pRow_inj encI_inj h2]
end Go.Proofs.Ytfcdbknmajfkaaa.symD
