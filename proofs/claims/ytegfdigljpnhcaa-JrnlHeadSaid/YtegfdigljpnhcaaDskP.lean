/- A disk as the symbolic engine has it; what its functions answer. -/
import Derived.Test.YtegfdigljpnhcaaCmp
import Derived.Test.YtegfdigljpnhcaaDskMath
namespace Go.Proofs.Ytegfdigljpnhcaa.symD
open Go Go.RowKit eng dsk
set_option linter.unusedVariables false
set_option linter.unusedSimpArgs false
set_option maxRecDepth 100000


/-- A disk's cells. -/
def pD (d : D) : List PV := [pRow encS d.last, pRow encP d.wait, pI (d.arm : Int), pB d.down]
theorem plain_reads {w : World} {x : Value} (h : x.oneCell' = true) : Reads w (.v x) x := by simp only [Reads]; exact ⟨trivial, h⟩
/-! New. -/
def RNew (ps qs : List PV) : Prop := ∃ n : Int, ps = [pI n] ∧ qs = pD (newD n)
def ENew (k : Nat) : FnE := { k := k, ins := [none], leaks := [], outs := [some 4], kinds := [.row, .row, .num, .num] }
theorem fNew : ∀ ps q1 q2, RNew ps q1 → RNew ps q2 → q1 = q2 := by
  rintro ps q1 q2 ⟨n, rfl, rfl⟩ ⟨n', h, rfl⟩
  simp at h; subst h; rfl

/-! Read. -/
def RRead (ps qs : List PV) : Prop := ∃ (d : D) (i : Int), d.ok ∧ ps = pD d ++ [pI i] ∧ qs = [pS (readD d i).1, pB (readD d i).2]
def ERead (k : Nat) : FnE := { k := k, ins := [some 4, none], leaks := [], outs := [none, none], kinds := [.num, .truth] }
theorem pRow_inj {α : Type} {E : Enc α} (hinj : ∀ xs ys : List α, E.all xs = E.all ys → xs = ys) {xs ys : List α} (h : pRow E xs = pRow E ys) : xs = ys := by
  simp only [pRow, PV.row.injEq] at h
  refine hinj xs ys ?_
  have := congrArg (List.map fun p => (PV.plain p).getD undef) h.2
  simpa [List.map_map, Function.comp_def, PV.plain] using this
theorem encS_inj : ∀ xs ys : List ByteArray, encS.all xs = encS.all ys → xs = ys
  | [], [], _ => rfl
  | [], _ :: _, h => by simp [Enc.all, encS] at h
  | _ :: _, [], h => by simp [Enc.all, encS] at h
  | x :: xs, y :: ys, h => by
    rw [Enc.all_cons, Enc.all_cons] at h
    simp only [encS, List.cons_append, List.nil_append, List.cons.injEq, Value.string.injEq] at h
    rw [h.1, encS_inj xs ys h.2]
theorem encP_inj : ∀ xs ys : List (Nat × ByteArray), encP.all xs = encP.all ys → xs = ys
  | [], [], _ => rfl
  | [], _ :: _, h => by simp [Enc.all, encP] at h
  | _ :: _, [], h => by simp [Enc.all, encP] at h
  | x :: xs, y :: ys, h => by
    rw [Enc.all_cons, Enc.all_cons] at h
    obtain ⟨h1, h2⟩ := List.append_inj h (by rw [encP.len, encP.len])
    simp only [encP, List.cons.injEq, Value.int.injEq, Value.string.injEq, Int.ofNat_inj, true_and, and_true] at h1
    rw [Prod.ext h1.1 h1.2, encP_inj xs ys h2]
theorem pD_inj {d d' : D} (h : pD d = pD d') : d = d' := by
  simp only [pD, List.cons.injEq, PV.v.injEq, Value.int.injEq, Value.bool.injEq, and_true, true_and] at h
  obtain ⟨h1, h2, h3, h4⟩ := h
  obtain ⟨a, b, c, e⟩ := d
  obtain ⟨a', b', c', e'⟩ := d'
  have := pRow_inj encS_inj h1
  have := pRow_inj encP_inj h2
  simp only at *
  subst_vars
  have : c = c' := by omega
  rw [this]
theorem pD_app {d d' : D} {x y : List PV} (h : pD d ++ x = pD d' ++ y) : d = d' ∧ x = y := by
  have := List.append_inj h rfl
  exact ⟨pD_inj this.1, this.2⟩
theorem fRead : ∀ ps q1 q2, RRead ps q1 → RRead ps q2 → q1 = q2 := by
  rintro ps q1 q2 ⟨d, i, _, rfl, rfl⟩ ⟨d', i', _, h, rfl⟩
  obtain ⟨rfl, h⟩ := pD_app h
  simp at h; subst h; rfl
/-! Write. -/
def RWrite (ps qs : List PV) : Prop := ∃ (d : D) (i : Int) (b : ByteArray), d.ok ∧ ps = pD d ++ [pI i, pS b] ∧ qs = pD (writeD d i b).1 ++ [pB (writeD d i b).2]
def EWrite (k : Nat) : FnE := { k := k, ins := [some 4, none, none], leaks := [], outs := [some 4, none], kinds := [.row, .row, .num, .num, .truth] }
theorem fWrite : ∀ ps q1 q2, RWrite ps q1 → RWrite ps q2 → q1 = q2 := by
  rintro ps q1 q2 ⟨d, i, b, _, rfl, rfl⟩ ⟨d', i', b', _, h, rfl⟩
  obtain ⟨rfl, h⟩ := pD_app h
  simp at h; obtain ⟨rfl, rfl⟩ := h; rfl

/-! Flush. -/
def RFlush (ps qs : List PV) : Prop := ∃ d : D, d.ok ∧ ps = pD d ∧ qs = pD (flush2 d).1 ++ [pB (flush2 d).2]
def EFlush (k : Nat) : FnE := { k := k, ins := [some 4], leaks := [], outs := [some 4, none], kinds := [.row, .row, .num, .num, .truth] }
theorem fFlush : ∀ ps q1 q2, RFlush ps q1 → RFlush ps q2 → q1 = q2 := by
  rintro ps q1 q2 ⟨d, _, rfl, rfl⟩ ⟨d', _, h, rfl⟩
  rw [pD_inj h]

/-! Crash. -/
theorem encI_inj : ∀ xs ys : List Int, encI.all xs = encI.all ys → xs = ys
  | [], [], _ => rfl
  | [], _ :: _, h => by simp [Enc.all, encI] at h
  | _ :: _, [], h => by simp [Enc.all, encI] at h
  | x :: xs, y :: ys, h => by
    rw [Enc.all_cons, Enc.all_cons] at h
    obtain ⟨h1, h2⟩ := List.append_inj h (by rw [encI.len, encI.len])
    simp only [encI, List.cons.injEq, Value.int.injEq, true_and, and_true] at h1
    rw [h1, encI_inj xs ys h2]
def RCrash (ps qs : List PV) : Prop := ∃ (d : D) (keep : List Int), d.ok ∧ ps = pD d ++ [pRow encI keep] ∧ qs = pD (crashD d keep)
theorem fCrash : ∀ ps q1 q2, RCrash ps q1 → RCrash ps q2 → q1 = q2 := by
  rintro ps q1 q2 ⟨d, i, _, rfl, rfl⟩ ⟨d', i', _, h, rfl⟩
  obtain ⟨rfl, h2⟩ := pD_app h
  injection h2 with h2 _
  rw [pRow_inj encI_inj h2]
end Go.Proofs.Ytegfdigljpnhcaa.symD
