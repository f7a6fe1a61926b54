/- Texts joined: SymA, Fil, SymB. -/
import Derived.Test.YtfcdbknmajfkaaaMrg3
import Derived.IntWalk
import Derived.Laws.Strings
import Derived.KernelRfl
import Derived.Test.YtfcdbknmajfkaaaRowE
section
/- What the symbolic engine's user needs: values, rows, relations as contracts, numbers. -/
namespace Go.Proofs.Ytfcdbknmajfkaaa.eng
open Go Go.RowKit
set_option linter.unusedVariables false
set_option linter.unusedSimpArgs false

abbrev pI (x : Int) : PV := .v (.int .i64 x)
abbrev pU (x : Int) : PV := .v (.int .u8 x)
abbrev pS (s : ByteArray) : PV := .v (.string s)
abbrev pB (b : Bool) : PV := .v (.bool b)
/-- A row of things that are so many plain cells each. -/
def pRow {α : Type} (E : Enc α) (xs : List α) : PV := .row xs.length ((E.all xs).map .v)

theorem reads_row {α : Type} (E : Enc α) {w : World} {u : Value} {xs : List α} : Reads w (pRow E xs) u ↔ RowE E w u xs := by
  constructor
  · intro h
    simp only [pRow, Reads] at h
    obtain ⟨a, cap, rfl, h1, h2, h3⟩ := h
    refine ⟨a, cap, rfl, h1, h2, fun h0 => ?_⟩
    rcases h3 with h3 | ⟨b, off, rfl, h3⟩
    · exfalso
      have := congrArg List.length h3
      rw [List.length_map, E.all_length] at this
      have hp := E.pos
      simp only [List.length_nil] at this
      rcases Nat.mul_eq_zero.1 this with h | h <;> omega
    · have hlen : 0 < (E.all xs).length := by rw [E.all_length]; exact Nat.mul_pos h0 E.pos
      obtain ⟨u0, hu0, _⟩ := ReadsL.at h3 (i := 0) (p := .v (E.all xs)[0]) (by simp [List.getElem?_eq_getElem hlen])
      refine ⟨b, off, rfl, World.block_lt_of_cell? w ⟨b, off + 0, none⟩ hu0, fun i v hv => ?_⟩
      obtain ⟨u, hu, hr⟩ := ReadsL.at h3 (i := i) (p := .v v) (by simp [hv])
      simp only [Reads] at hr
      rw [hu, hr.1]
  · rintro ⟨a, cap, rfl, h1, h2, h3⟩
    simp only [pRow, Reads]
    refine ⟨a, cap, rfl, h1, h2, ?_⟩
    by_cases h0 : 0 < xs.length
    · obtain ⟨b, off, rfl, _, h4⟩ := h3 h0
      refine .inr ⟨b, off, rfl, ReadsL.of fun i p hp => ?_⟩
      rw [List.getElem?_map, Option.map_eq_some_iff] at hp
      obtain ⟨v, hv, rfl⟩ := hp
      exact ⟨v, h4 i v hv, by simp only [Reads]; exact ⟨trivial, E.all_one' xs v (List.mem_of_getElem? hv)⟩⟩
    · left
      have : xs = [] := List.eq_nil_of_length_eq_zero (by omega)
      rw [this]; rfl

/-! Contracts as relations. -/
open Classical in
noncomputable def spec (R : List PV → List PV → Prop) (ps : List PV) : Option (List PV) := if h : ∃ qs, R ps qs then some h.choose else none
theorem spec_of {R : List PV → List PV → Prop} (hf : ∀ ps q1 q2, R ps q1 → R ps q2 → q1 = q2) {ps qs : List PV} (h : R ps qs) : spec R ps = some qs := by
  unfold spec
  have he : ∃ qs, R ps qs := ⟨qs, h⟩
  rw [dif_pos he]
  exact congrArg some (hf ps _ _ he.choose_spec h)
theorem of_spec {R : List PV → List PV → Prop} {ps qs : List PV} (h : spec R ps = some qs) : R ps qs := by
  unfold spec at h
  split at h
  · rename_i he
    cases h
    exact he.choose_spec
  · cases h

theorem toList_inj {a b : ByteArray} (h : a.toList = b.toList) : a = b := by
  rw [ByteArray.toList_eq, ByteArray.toList_eq] at h
  exact ByteArray.ext (Array.toList_inj.mp h)
/-! Reckoning. -/
@[simp] theorem holds_ok (B : Base) (e : SX) : (Fact.ok e).holds B ↔ ∃ x, B.ev e = some (.v x) ∧ x.oneCell' = true := Iff.rfl
@[simp] theorem holds_is (B : Base) (e : SX) (v : Value) : (Fact.is e v).holds B ↔ B.ev e = some (.v v) := Iff.rfl
@[simp] theorem holds_at (B : Base) (e : SX) (n : Nat) : (Fact.at e n).holds B ↔ ∃ k, B.ev e = some (.v (.int k (n : Int))) := Iff.rfl
theorem ev_at (ps : List PV) (F : Fns) (e : SX) (B : Base) (hs : B.s = fun i => ps[i]?) (hF : B.F = F) : B.ev e = e.ev (fun i => ps[i]?) F := by rw [Base.ev, hs, hF]
@[simp] theorem with_s (B : Base) (ps : List PV) : (B.with ps).s = fun i => ps[i]? := rfl
@[simp] theorem with_F (B : Base) (ps : List PV) : (B.with ps).F = B.F := rfl
theorem lenPV_row {α : Type} (E : Enc α) (xs : List α) : lenPV (pRow E xs) = some (pI xs.length) := rfl
theorem cellPV_row {α : Type} (E : Enc α) (xs : List α) (i : Nat) (k : IntKind) (sz sub : Nat) (hz : sz = E.sz) (h : i < xs.length) : cellPV (pRow E xs) (.v (.int k (i : Int))) sz sub = ((E.all xs)[i * E.sz + sub]?).map .v := by
  subst hz
  have : ((i : Int) < (xs.length : Int)) := by omega
  simp [cellPV, pRow, this]
theorem all_cell {α : Type} (E : Enc α) (xs : List α) (i j : Nat) (x : α) (hx : xs[i]? = some x) (hj : j < E.sz) : (E.all xs)[i * E.sz + j]? = (E.enc x)[j]? := E.all_get xs i j x hx hj
theorem idx_row {α : Type} (E : Enc α) (xs : List α) (i sz sub : Nat) (hz : sz = E.sz) (h : i < xs.length) (hs : sub ≤ E.sz) : ∃ n cs k z, (some (pRow E xs) : Option PV) = some (.row n cs) ∧ (some (pI (i : Int)) : Option PV) = some (.v (.int k z)) ∧ 0 ≤ z ∧ z < (n : Int) ∧ z.toNat * sz + sub ≤ cs.length := by
  subst hz
  refine ⟨_, _, _, _, rfl, rfl, by omega, by omega, ?_⟩
  rw [List.length_map, E.all_length]
  have : (i + 1) * E.sz ≤ xs.length * E.sz := Nat.mul_le_mul_right _ h
  rw [Nat.add_mul] at this
  simp
  omega
theorem wrapI (x : Int) (h0 : -9223372036854775808 ≤ x) (h1 : x ≤ 9223372036854775807) : IntKind.i64.wrap x = x := IntWalk.i64_in x ⟨h0, h1⟩
theorem plainReads {w : World} {x : Value} (h : x.oneCell' = true) : Reads w (.v x) x := by simp only [Reads]; exact ⟨trivial, h⟩
/-- A law that is told of as true: what it answers. -/
theorem told_true {f : FuncId} {E : FnE} {spec : List PV → Option (List PV)} (h : ToldF f E spec) (ho : E.outs = [none]) {w : World} {us : List Value} {ps : List PV} (hs : spec ps = some [pB true]) (hul : us.length = ps.length) (hpl : ps.length = shLen E.ins)
    (hrd : ∀ (i : Nat) (p : PV) (u : Value), ps[i]? = some p → us[i]? = some u → Reads w p u) : Calls Try.prog f (assemble E.ins us).toArray w fun e w' => e = .returned (.bool true) ∧ Ex w w' := by
  refine (h w (fun k => k < w.heap.size) us ps _ hs hul hpl (fun _ h => h) (fun i p u hp hu => ⟨hrd i p u hp hu, fun _ w2 hw2 => Reads.keep hw2 _ (hrd i p u hp hu)⟩)).mono ?_
  rintro e w' ⟨us', ow, h1, _, _, h2, rfl, hex⟩
  obtain ⟨x, rfl⟩ : ∃ x, us' = [x] := by match us', h1 with | [x], _ => exact ⟨x, rfl⟩
  have := h2 0 (pB true) x rfl rfl w' (fun _ _ _ => rfl)
  simp only [Reads] at this
  rw [ho, this.1]
  exact ⟨rfl, hex⟩
/-- A closed function of no argument that answers true. -/
def RTrue (ps qs : List PV) : Prop := ps = [] ∧ qs = [pB true]
theorem fTrue : ∀ ps q1 q2, RTrue ps q1 → RTrue ps q2 → q1 = q2 := by
  rintro ps q1 q2 ⟨_, rfl⟩ ⟨_, rfl⟩; rfl
def ETrue (k : Nat) : FnE := { k := k, ins := [], leaks := [], outs := [none], kinds := [.truth] }
theorem told_closed {f : FuncId} (k : Nat) (h : ∀ w, Calls Try.prog f #[] w fun e w' => e = .returned (.bool true) ∧ Ex w w') : ToldF f (ETrue k) (spec RTrue) := by
  intro w FP us ps qs hs hul hpl hFP hrd
  obtain ⟨rfl, rfl⟩ := of_spec hs
  obtain rfl : us = [] := List.eq_nil_of_length_eq_zero (by simpa using hul)
  refine (h w).mono ?_
  rintro e w' ⟨rfl, hex⟩
  refine ⟨[.bool true], fun _ => none, rfl, rfl, owns_none rfl, fun j q u hq hu w2 _ => ?_, rfl, hex⟩
  match j, hq, hu with
  | 0, hq, hu => simp at hq hu; subst hq; subst hu; exact plainReads rfl
  | j + 1, hq, hu => simp at hq
@[simp] theorem kTrue (k : Nat) : (ETrue k).k = k := rfl
end Go.Proofs.Ytfcdbknmajfkaaa.eng
end

section
/- What is written into a file: file.All. -/
namespace Go.Proofs.Ytfcdbknmajfkaaa.fil
open Go Go.RowKit eng SX Fact
set_option linter.unusedVariables false
set_option linter.unusedSimpArgs false
set_option maxRecDepth 1000000

theorem names_ok : GoodP Try.prog := ⟨by kernel_rfl, rfl⟩
theorem mixed_ok : Try.prog.follows .mixedOrders = true := by kernel_rfl
def noOrc : Orc := fun _ _ _ => none
theorem noOrc_ok : OrcOk Try.prog noOrc := ⟨fun f args st r st' lg h => by simp [noOrc] at h, fun f args st r st' lg h => by simp [noOrc] at h⟩
def encW : Enc (Int × ByteArray) := { sz := 2, enc := fun p => [.int .i64 p.1, .string p.2], len := fun _ => rfl, one := fun _ u hu => by simp at hu; rcases hu with rfl | rfl <;> rfl, pos := by decide }
noncomputable def flA := flat (bodyOf Try.prog 38)
noncomputable def lpA := flat (loopBody (nth flA 3))
def bvar (j k : Nat) : BoxT := ⟨43, 0, false, [.own j k 1], none, false⟩
def brow (k : Nat) : BoxT := ⟨5, 1, true, [], some k, false⟩
def shA : Shape := ⟨[(0, .leaf), (1, .leaf)], [], [none, some false], 21, 38⟩
def shAl : Shape := ⟨[(5, .ptr 0 0 0 0), (10, .leaf), (11, .leaf), (12, .leaf)], [bvar 1 3, brow 3], [some false, none, none], 21, 38⟩
def shAr : Shape := ⟨[(4, .leaf)], [], [none], 21, 38⟩
theorem preA : segTo Try.prog noOrc 10000 (flA.take 3) shA [] shAl [(2, 0), (1, 0)] = some (.normal, [upto (.slen (.var 0)) 4294967296, .ok (.len (.var 1)), .ok (.len (.var 1)), .ok (.con (.int .i64 0)), same (.len (rop ROp.ofStr [.var 0])) (.len (rop ROp.ofStr [.var 0]))], [.var 1, .len (.var 1), .con (.int .i64 0), rop ROp.ofStr [.var 0]]) := by kernel_rfl
theorem exA : segTo Try.prog noOrc 10000 lpA shAl [0] shAl [(0, 0), (1, 0)] = some (.exit 0, [.ok (.bin .lss (.var 2) (.var 1)), .is (.bin .lss (.var 2) (.var 1)) (.bool false), .ok (.var 1), .ok (.var 2), same (.len (.var 3)) (.len (.var 3))], [.var 0, .var 1, .var 2, .var 3]) := by kernel_rfl
theorem noA1 : segTo Try.prog noOrc 10000 lpA shAl [1, 1] shAl [(0, 0), (1, 0)] = some (.normal, [.ok (.bin .lss (.var 2) (.var 1)), .is (.bin .lss (.var 2) (.var 1)) (.bool true), .idx (.var 0) (.var 2) 2 2, .idx (.var 0) (.var 2) 2 2, .ok (.cell (.var 0) (.var 2) 2 0), .ok (.cell (.var 0) (.var 2) 2 1), .ok (.slen (.cell (.var 0) (.var 2) 2 1)), .ok (.bin .lss (.slen (.cell (.var 0) (.var 2) 2 1)) (.con (.int .i64 1))), .is (.bin .lss (.slen (.cell (.var 0) (.var 2) 2 1)) (.con (.int .i64 1))) (.bool true), .ok (.bin .add (.var 2) (.con (.int .i64 1))), .ok (.var 1), .ok (.bin .add (.var 2) (.con (.int .i64 1))), same (.len (.var 3)) (.len (.var 3))], [.var 0, .var 1, .bin .add (.var 2) (.con (.int .i64 1)), .var 3]) := by kernel_rfl
theorem noA2 : segTo Try.prog noOrc 10000 lpA shAl [1, 0, 1] shAl [(0, 0), (1, 0)] = some (.normal, [.ok (.bin .lss (.var 2) (.var 1)), .is (.bin .lss (.var 2) (.var 1)) (.bool true), .idx (.var 0) (.var 2) 2 2, .idx (.var 0) (.var 2) 2 2, .ok (.cell (.var 0) (.var 2) 2 0), .ok (.cell (.var 0) (.var 2) 2 1), .ok (.slen (.cell (.var 0) (.var 2) 2 1)), .ok (.bin .lss (.slen (.cell (.var 0) (.var 2) 2 1)) (.con (.int .i64 1))), .is (.bin .lss (.slen (.cell (.var 0) (.var 2) 2 1)) (.con (.int .i64 1))) (.bool false), .ok (.bin .lss (.cell (.var 0) (.var 2) 2 0) (.con (.int .i64 0))), .is (.bin .lss (.cell (.var 0) (.var 2) 2 0) (.con (.int .i64 0))) (.bool true), .ok (.bin .add (.var 2) (.con (.int .i64 1))), .ok (.var 1), .ok (.bin .add (.var 2) (.con (.int .i64 1))), same (.len (.var 3)) (.len (.var 3))], [.var 0, .var 1, .bin .add (.var 2) (.con (.int .i64 1)), .var 3]) := by kernel_rfl
theorem noA3 : segTo Try.prog noOrc 10000 lpA shAl [1, 0, 0, 1] shAl [(0, 0), (1, 0)] = some (.normal, [.ok (.bin .lss (.var 2) (.var 1)), .is (.bin .lss (.var 2) (.var 1)) (.bool true), .idx (.var 0) (.var 2) 2 2, .idx (.var 0) (.var 2) 2 2, .ok (.cell (.var 0) (.var 2) 2 0), .ok (.cell (.var 0) (.var 2) 2 1), .ok (.slen (.cell (.var 0) (.var 2) 2 1)), .ok (.bin .lss (.slen (.cell (.var 0) (.var 2) 2 1)) (.con (.int .i64 1))), .is (.bin .lss (.slen (.cell (.var 0) (.var 2) 2 1)) (.con (.int .i64 1))) (.bool false), .ok (.bin .lss (.cell (.var 0) (.var 2) 2 0) (.con (.int .i64 0))), .is (.bin .lss (.cell (.var 0) (.var 2) 2 0) (.con (.int .i64 0))) (.bool false), .ok (.slen (.cell (.var 0) (.var 2) 2 1)), .ok (.bin .sub (.con (.int .i64 24)) (.slen (.cell (.var 0) (.var 2) 2 1))), .ok (.bin .gtr (.cell (.var 0) (.var 2) 2 0) (.bin .sub (.con (.int .i64 24)) (.slen (.cell (.var 0) (.var 2) 2 1)))), .is (.bin .gtr (.cell (.var 0) (.var 2) 2 0) (.bin .sub (.con (.int .i64 24)) (.slen (.cell (.var 0) (.var 2) 2 1)))) (.bool true), .ok (.bin .add (.var 2) (.con (.int .i64 1))), .ok (.var 1), .ok (.bin .add (.var 2) (.con (.int .i64 1))), same (.len (.var 3)) (.len (.var 3))], [.var 0, .var 1, .bin .add (.var 2) (.con (.int .i64 1)), .var 3]) := by kernel_rfl
theorem yesA : segTo Try.prog noOrc 10000 lpA shAl [1, 0, 0, 0] shAl [(0, 0), (1, 1)] = some (.normal, [.ok (.bin .lss (.var 2) (.var 1)), .is (.bin .lss (.var 2) (.var 1)) (.bool true), .idx (.var 0) (.var 2) 2 2, .idx (.var 0) (.var 2) 2 2, .ok (.cell (.var 0) (.var 2) 2 0), .ok (.cell (.var 0) (.var 2) 2 1), .ok (.slen (.cell (.var 0) (.var 2) 2 1)), .ok (.bin .lss (.slen (.cell (.var 0) (.var 2) 2 1)) (.con (.int .i64 1))), .is (.bin .lss (.slen (.cell (.var 0) (.var 2) 2 1)) (.con (.int .i64 1))) (.bool false), .ok (.bin .lss (.cell (.var 0) (.var 2) 2 0) (.con (.int .i64 0))), .is (.bin .lss (.cell (.var 0) (.var 2) 2 0) (.con (.int .i64 0))) (.bool false), .ok (.slen (.cell (.var 0) (.var 2) 2 1)), .ok (.bin .sub (.con (.int .i64 24)) (.slen (.cell (.var 0) (.var 2) 2 1))), .ok (.bin .gtr (.cell (.var 0) (.var 2) 2 0) (.bin .sub (.con (.int .i64 24)) (.slen (.cell (.var 0) (.var 2) 2 1)))), .is (.bin .gtr (.cell (.var 0) (.var 2) 2 0) (.bin .sub (.con (.int .i64 24)) (.slen (.cell (.var 0) (.var 2) 2 1)))) (.bool false), .ok (.slen (.cell (.var 0) (.var 2) 2 1)), .ok (.bin .add (.cell (.var 0) (.var 2) 2 0) (.slen (.cell (.var 0) (.var 2) 2 1))), .ok (.bin .sub (.bin .add (.cell (.var 0) (.var 2) 2 0) (.slen (.cell (.var 0) (.var 2) 2 1))) (.len (.var 3))), .ok (rop ROp.max2 [.con (.int .i64 0), .bin .sub (.bin .add (.cell (.var 0) (.var 2) 2 0) (.slen (.cell (.var 0) (.var 2) 2 1))) (.len (.var 3))]), upto (rop ROp.max2 [.con (.int .i64 0), .bin .sub (.bin .add (.cell (.var 0) (.var 2) 2 0) (.slen (.cell (.var 0) (.var 2) 2 1))) (.len (.var 3))]) 4294967296, same (.len (.var 3)) (.len (.var 3)), upto (.len (rop ROp.cat [.var 3, rop (ROp.rep [.int .u8 0]) [rop ROp.max2 [.con (.int .i64 0), .bin .sub (.bin .add (.cell (.var 0) (.var 2) 2 0) (.slen (.cell (.var 0) (.var 2) 2 1))) (.len (.var 3))]]])) 4294967296, same (.len (rop ROp.cat [.var 3, rop (ROp.rep [.int .u8 0]) [rop ROp.max2 [.con (.int .i64 0), .bin .sub (.bin .add (.cell (.var 0) (.var 2) 2 0) (.slen (.cell (.var 0) (.var 2) 2 1))) (.len (.var 3))]]])) (.len (rop ROp.cat [.var 3, rop (ROp.rep [.int .u8 0]) [rop ROp.max2 [.con (.int .i64 0), .bin .sub (.bin .add (.cell (.var 0) (.var 2) 2 0) (.slen (.cell (.var 0) (.var 2) 2 1))) (.len (.var 3))]]])), le3 (rop ROp.min2 [.cell (.var 0) (.var 2) 2 0, .cell (.var 0) (.var 2) 2 0]) (.len (rop ROp.cat [.var 3, rop (ROp.rep [.int .u8 0]) [rop ROp.max2 [.con (.int .i64 0), .bin .sub (.bin .add (.cell (.var 0) (.var 2) 2 0) (.slen (.cell (.var 0) (.var 2) 2 1))) (.len (.var 3))]]])) (.len (rop ROp.cat [.var 3, rop (ROp.rep [.int .u8 0]) [rop ROp.max2 [.con (.int .i64 0), .bin .sub (.bin .add (.cell (.var 0) (.var 2) 2 0) (.slen (.cell (.var 0) (.var 2) 2 1))) (.len (.var 3))]]])), rng (rop ROp.min2 [.cell (.var 0) (.var 2) 2 0, .cell (.var 0) (.var 2) 2 0]) (.len (rop ROp.cat [.var 3, rop (ROp.rep [.int .u8 0]) [rop ROp.max2 [.con (.int .i64 0), .bin .sub (.bin .add (.cell (.var 0) (.var 2) 2 0) (.slen (.cell (.var 0) (.var 2) 2 1))) (.len (.var 3))]]])), cut (rop ROp.min2 [.cell (.var 0) (.var 2) 2 0, .cell (.var 0) (.var 2) 2 0]) (.bin .sub (.len (rop ROp.cat [.var 3, rop (ROp.rep [.int .u8 0]) [rop ROp.max2 [.con (.int .i64 0), .bin .sub (.bin .add (.cell (.var 0) (.var 2) 2 0) (.slen (.cell (.var 0) (.var 2) 2 1))) (.len (.var 3))]]])) (rop ROp.min2 [.cell (.var 0) (.var 2) 2 0, .cell (.var 0) (.var 2) 2 0])) (.len (rop ROp.cat [.var 3, rop (ROp.rep [.int .u8 0]) [rop ROp.max2 [.con (.int .i64 0), .bin .sub (.bin .add (.cell (.var 0) (.var 2) 2 0) (.slen (.cell (.var 0) (.var 2) 2 1))) (.len (.var 3))]]])), .ok (.slen (.cell (.var 0) (.var 2) 2 1)), .ok (.bin .add (.var 2) (.con (.int .i64 1))), .ok (.var 1), .ok (.bin .add (.var 2) (.con (.int .i64 1))), same (.len (rop ROp.cat [.var 3, rop (ROp.rep [.int .u8 0]) [rop ROp.max2 [.con (.int .i64 0), .bin .sub (.bin .add (.cell (.var 0) (.var 2) 2 0) (.slen (.cell (.var 0) (.var 2) 2 1))) (.len (.var 3))]]])) (.len (rop (ROp.copy 1) [rop ROp.cat [.var 3, rop (ROp.rep [.int .u8 0]) [rop ROp.max2 [.con (.int .i64 0), .bin .sub (.bin .add (.cell (.var 0) (.var 2) 2 0) (.slen (.cell (.var 0) (.var 2) 2 1))) (.len (.var 3))]]], rop ROp.min2 [.cell (.var 0) (.var 2) 2 0, .cell (.var 0) (.var 2) 2 0], .bin .sub (.len (rop ROp.cat [.var 3, rop (ROp.rep [.int .u8 0]) [rop ROp.max2 [.con (.int .i64 0), .bin .sub (.bin .add (.cell (.var 0) (.var 2) 2 0) (.slen (.cell (.var 0) (.var 2) 2 1))) (.len (.var 3))]]])) (rop ROp.min2 [.cell (.var 0) (.var 2) 2 0, .cell (.var 0) (.var 2) 2 0]), rop ROp.ofStr [.cell (.var 0) (.var 2) 2 1]]))], [.var 0, .var 1, .bin .add (.var 2) (.con (.int .i64 1)), rop (ROp.copy 1) [rop ROp.cat [.var 3, rop (ROp.rep [.int .u8 0]) [rop ROp.max2 [.con (.int .i64 0), .bin .sub (.bin .add (.cell (.var 0) (.var 2) 2 0) (.slen (.cell (.var 0) (.var 2) 2 1))) (.len (.var 3))]]], rop ROp.min2 [.cell (.var 0) (.var 2) 2 0, .cell (.var 0) (.var 2) 2 0], .bin .sub (.len (rop ROp.cat [.var 3, rop (ROp.rep [.int .u8 0]) [rop ROp.max2 [.con (.int .i64 0), .bin .sub (.bin .add (.cell (.var 0) (.var 2) 2 0) (.slen (.cell (.var 0) (.var 2) 2 1))) (.len (.var 3))]]])) (rop ROp.min2 [.cell (.var 0) (.var 2) 2 0, .cell (.var 0) (.var 2) 2 0]), rop ROp.ofStr [.cell (.var 0) (.var 2) 2 1]]]) := by kernel_rfl
theorem postA : segTo Try.prog noOrc 10000 (flA.drop 4) shAl [] shAr [] = some (.ret, [same (.len (.var 3)) (.len (.var 3)), .ok (rop ROp.toStr [.var 3]), .ok (rop ROp.toStr [.var 3])], [rop ROp.toStr [.var 3]]) := by kernel_rfl

theorem cutA : flA = flA.take 3 ++ .block (blockId (nth flA 3)) (.loop (loopBody (nth flA 3))) :: flA.drop 4 := by kernel_rfl

/-! The model: bytes. -/
def pBy (l : List UInt8) : PV := .row l.length (l.map fun b => .v (.int .u8 b.toNat))
theorem r_ofStr (s : ByteArray) : ropPV .ofStr [pS s] = some (pBy s.data.toList) := by
  simp only [ropPV, pBy]
  congr 2
theorem r_cat (a b : List UInt8) : ropPV .cat [pBy a, pBy b] = some (pBy (a ++ b)) := by simp [ropPV, pBy]
theorem r_rep (n : Int) (h : 0 ≤ n) : ropPV (.rep [.int .u8 0]) [pI n] = some (pBy (List.replicate n.toNat 0)) := by
  have hf : ∀ k : Nat, (List.replicate k [PV.v (.int .u8 0)]).flatten = List.replicate k (PV.v (.int .u8 0)) := fun k => by
    induction k with
    | zero => rfl
    | succ k ih => simp [List.replicate_succ, ih]
  simp [ropPV, pBy, h, hf]
theorem r_max (a b : Int) : ropPV .max2 [pI a, pI b] = some (pI (max a b)) := rfl
theorem r_min (a b : Int) : ropPV .min2 [pI a, pI b] = some (pI (min a b)) := rfl
theorem r_len (l : List UInt8) : lenPV (pBy l) = some (pI l.length) := rfl
theorem r_copy (m x : List UInt8) (o : Nat) (h : o + x.length ≤ m.length) : ropPV (.copy 1) [pBy m, pI (o : Int), pI ((m.length : Int) - (o : Int)), pBy x] = some (pBy (m.take o ++ x ++ m.drop (o + x.length))) := by
  have h1 : (0 : Int) ≤ (o : Int) := by omega
  have h2 : (o : Int) ≤ (m.length : Int) := by omega
  have h2' : (0 : Int) ≤ (m.length : Int) - (o : Int) := by omega
  have h3 : (o : Int) + ((m.length : Int) - (o : Int)) ≤ (m.length : Int) := by omega
  have h4 : Nat.min x.length (((m.length : Int) - (o : Int)).toNat) = x.length := by
    show min _ _ = _
    omega
  have h5 : (x.map fun b => PV.v (.int .u8 b.toNat)).length = x.length := by simp
  have hl : (m.take o ++ x ++ m.drop (o + x.length)).length = m.length := by simp; omega
  have hp : putPV (m.map fun b => PV.v (.int .u8 b.toNat)) o (x.map fun b => PV.v (.int .u8 b.toNat)) = (m.take o ++ x ++ m.drop (o + x.length)).map fun b => PV.v (.int .u8 b.toNat) := by
    simp [putPV, List.map_take, List.map_drop]
  have ht : (x.map fun b => PV.v (.int .u8 b.toNat)).take x.length = x.map fun b => PV.v (.int .u8 b.toNat) := List.take_of_length_le (by simp)
  simp only [ropPV, pBy, h1, h2', h3, decide_true, Bool.and_self, Bool.true_and, h5, Nat.mul_one, Nat.beq_refl, cond_true, Int.toNat_natCast, h4, ht, hp, hl]
theorem bytes_back : ∀ (l : List UInt8), bytesPV (l.map fun b => .v (.int .u8 b.toNat)) = some l
  | [] => rfl
  | b :: l => by
    have h1 : (0 : Int) ≤ (b.toNat : Int) := by omega
    have h2 : (b.toNat : Int) < 256 := by have := b.toNat_lt; omega
    simp [bytesPV, bytePV, h1, h2, bytes_back l]
theorem r_toStr (l : List UInt8) : ropPV .toStr [pBy l] = some (pS ⟨l.toArray⟩) := by
  simp [ropPV, pBy, bytes_back]
def mayW (w : Int × ByteArray) : Bool := decide (1 ≤ w.2.size) && decide (0 ≤ w.1) && decide (w.1 ≤ 24 - (w.2.size : Int))
def grown (l : List UInt8) (n : Nat) : List UInt8 := l ++ List.replicate (n - l.length) 0
def over (m x : List UInt8) (o : Nat) : List UInt8 := m.take o ++ x ++ m.drop (o + x.length)
def putW (l : List UInt8) (w : Int × ByteArray) : List UInt8 := cond (mayW w) (over (grown l (w.1.toNat + w.2.size)) w.2.data.toList w.1.toNat) l
def allW (l : List UInt8) (ws : List (Int × ByteArray)) : List UInt8 := ws.foldl putW l
theorem putW_len (l : List UInt8) (w : Int × ByteArray) : (putW l w).length ≤ max l.length 24 := by
  unfold putW
  cases h : mayW w with
  | false => simp; omega
  | true =>
    simp only [mayW, Bool.and_eq_true, decide_eq_true_eq] at h
    have : w.2.data.toList.length = w.2.size := by simp
    simp only [cond_true, over, grown, List.length_append, List.length_take, List.length_drop, List.length_replicate, this]
    omega
theorem allW_len : ∀ (ws : List (Int × ByteArray)) (l : List UInt8), (allW l ws).length ≤ max l.length 24
  | [], l => by simp [allW]; omega
  | w :: ws, l => by
    have h1 := putW_len l w
    have h2 := allW_len ws (putW l w)
    simp only [allW, List.foldl_cons] at h2 ⊢
    omega

def RAll (ps qs : List PV) : Prop := ∃ (b : ByteArray) (ws : List (Int × ByteArray)), b.size ≤ 1000 ∧ ws.length ≤ 1000 ∧ (∀ w ∈ ws, -9223372036854775808 ≤ w.1 ∧ w.1 ≤ 9223372036854775807 ∧ w.2.size ≤ 1000000) ∧ ps = [pS b, pRow encW ws] ∧ qs = [pS ⟨(allW b.data.toList ws).toArray⟩]
def EAll (k : Nat) : FnE := { k := k, ins := [none, none], leaks := [false, false], outs := [none], kinds := [.num] }
theorem encW_inj : ∀ xs ys : List (Int × ByteArray), encW.all xs = encW.all ys → xs = ys
  | [], [], _ => rfl
  | [], _ :: _, h => by simp [Enc.all, encW] at h
  | _ :: _, [], h => by simp [Enc.all, encW] at h
  | x :: xs, y :: ys, h => by
    rw [Enc.all_cons, Enc.all_cons] at h
    obtain ⟨h1, h2⟩ := List.append_inj h (by rw [encW.len, encW.len])
    simp only [encW, List.cons.injEq, Value.int.injEq, Value.string.injEq, true_and, and_true] at h1
    rw [Prod.ext h1.1 h1.2, encW_inj xs ys h2]
theorem pRow_inj {α : Type} {E : Enc α} (hinj : ∀ xs ys : List α, E.all xs = E.all ys → xs = ys) {xs ys : List α} (h : pRow E xs = pRow E ys) : xs = ys := by
  simp only [pRow, PV.row.injEq] at h
  refine hinj xs ys ?_
  have := congrArg (List.map fun p => (PV.plain p).getD undef) h.2
  simpa [List.map_map, Function.comp_def, PV.plain] using this
theorem fAll : ∀ ps q1 q2, RAll ps q1 → RAll ps q2 → q1 = q2 := by
  rintro ps q1 q2 ⟨b, ws, _, _, _, rfl, rfl⟩ ⟨b', ws', _, _, _, h, rfl⟩
  simp only [List.cons.injEq, PV.v.injEq, Value.string.injEq, and_true] at h
  obtain ⟨rfl, h⟩ := h
  rw [pRow_inj encW_inj h]
theorem cellW (ws : List (Int × ByteArray)) (i : Nat) (h : i < ws.length) (j : Nat) (hj : j < 2) : cellPV (pRow encW ws) (pI (i : Int)) 2 j = ((encW.enc ws[i])[j]?).map .v := by
  rw [cellPV_row encW ws i .i64 2 j rfl h, all_cell encW ws i j ws[i] (List.getElem?_eq_getElem h) hj]
@[simp] theorem holds_rng (B : Base) (x y : SX) : (Fact.rng x y).holds B ↔ ∃ k z m, B.ev x = some (.v (.int k z)) ∧ B.ev y = some (.v (.int .i64 m)) ∧ 0 ≤ z ∧ z < m := Iff.rfl
@[simp] theorem holds_upto (B : Base) (x : SX) (K : Nat) : (Fact.upto x K).holds B ↔ ∃ z : Nat, B.ev x = some (.v (.int .i64 (z : Int))) ∧ z ≤ K := Iff.rfl
@[simp] theorem holds_le3 (B : Base) (x y n : SX) : (Fact.le3 x y n).holds B ↔ ∃ a b c : Nat, B.ev x = some (.v (.int .i64 (a : Int))) ∧ B.ev y = some (.v (.int .i64 (b : Int))) ∧ B.ev n = some (.v (.int .i64 (c : Int))) ∧ a ≤ b ∧ b ≤ c := Iff.rfl
@[simp] theorem holds_cut (B : Base) (x y n : SX) : (Fact.cut x y n).holds B ↔ ∃ a b c : Nat, B.ev x = some (.v (.int .i64 (a : Int))) ∧ B.ev y = some (.v (.int .i64 (b : Int))) ∧ B.ev n = some (.v (.int .i64 (c : Int))) ∧ a + b ≤ c := Iff.rfl
@[simp] theorem holds_same (B : Base) (x y : SX) : (Fact.same x y).holds B ↔ ∃ z : Nat, B.ev x = some (.v (.int .i64 (z : Int))) ∧ B.ev y = some (.v (.int .i64 (z : Int))) := Iff.rfl
@[simp] theorem ex_cast (n : Nat) (p : Nat → Prop) : (∃ z : Nat, n = z ∧ p z) ↔ p n := ⟨fun ⟨z, h, hp⟩ => h ▸ hp, fun h => ⟨n, rfl, h⟩⟩
@[simp] theorem ex_castI (n : Nat) (p : Nat → Prop) : (∃ z : Nat, (n : Int) = (z : Int) ∧ p z) ↔ p n := ⟨fun ⟨z, h, hp⟩ => by rw [Int.ofNat_inj.1 h]; exact hp, fun h => ⟨n, rfl, h⟩⟩
@[simp] theorem ex_castT (n : Nat) : (∃ z : Nat, (n : Int) = (z : Int)) ↔ True := ⟨fun _ => trivial, fun _ => ⟨n, rfl⟩⟩
abbrev stL (ws : List (Int × ByteArray)) (i : Nat) (l : List UInt8) : List PV := [pRow encW ws, pI (ws.length : Int), pI (i : Int), pBy l]
set_option maxHeartbeats 2000000 in
theorem toldAll (k : Nat) : ToldF 38 (EAll k) (spec RAll) := by
  refine told_by (fun _ _ => none) _ (bodyOf Try.prog 38) Try.func38 (by kernel_rfl) shA (by kernel_rfl) ?_ ?_
  · intro ps qs h i hi
    obtain ⟨b, ws, _, _, _, rfl, rfl⟩ := of_spec h
    simp [shA] at hi
    match i, hi with
    | 0, hi => exact ⟨_, rfl, rfl⟩
    | 1, hi => simp at hi
    | i + 2, hi => simp at hi
  · intro C ps qs hF h a w hsh
    obtain ⟨b, ws, hb, hw, hwf, rfl, rfl⟩ := of_spec h
    show wpL Try.prog flA _ a w
    rw [cutA]
    refine seg_ok names_ok mixed_ok noOrc_ok preA hsh ?_ ?_
    · simp only [List.mem_cons, List.not_mem_nil, or_false, forall_eq_or_imp, forall_eq]
      simp [Base.ev, SX.ev, evs, lenPV_row, slenPV, r_ofStr, r_len, Value.oneCell']
      omega
    · intro qs a1 w1 hq h1
      refine ⟨fun _ => ?_, fun h => absurd rfl h⟩
      simp [evs, SX.ev, lenPV_row, r_ofStr] at hq
      subst hq
      refine block_loop (fun n a w => ∃ i, i ≤ ws.length ∧ n = ws.length - i ∧ InShape C shAl (stL ws i (allW b.data.toList (ws.take i))) a w) ?_ (n := ws.length) ⟨0, by omega, by omega, h1⟩
      rintro n a w ⟨i, hi, rfl, hin⟩
      show wpL Try.prog lpA _ a w
      rw [← List.append_nil lpA]
      have hL : (allW b.data.toList (ws.take i)).length ≤ 1000 := by
        have := allW_len (ws.take i) b.data.toList
        have hb' : b.data.toList.length = b.size := by simp
        omega
      by_cases hlt : i < ws.length
      · have hstep : allW b.data.toList (ws.take (i + 1)) = putW (allW b.data.toList (ws.take i)) ws[i] := by
          rw [List.take_add_one, List.getElem?_eq_getElem hlt]
          simp only [allW, Option.toList_some, List.foldl_append, List.foldl_cons, List.foldl_nil]
        have k0 : cellPV (pRow encW ws) (pI (i : Int)) 2 0 = some (pI ws[i].1) := by rw [cellW ws i hlt 0 (by omega)]; rfl
        have k1 : cellPV (pRow encW ws) (pI (i : Int)) 2 1 = some (pS ws[i].2) := by rw [cellW ws i hlt 1 (by omega)]; rfl
        obtain ⟨g1, g2, g3⟩ := hwf _ (List.getElem_mem hlt)
        generalize allW b.data.toList (ws.take i) = l at *
        have ix : (Fact.idx (var 0) (var 2) 2 2).holds (C.with (stL ws i l)) := idx_row encW ws i 2 2 rfl hlt (by decide)
        have w5 : IntKind.i64.wrap ((i : Int) + 1) = ((i + 1 : Nat) : Int) := by rw [wrapI _ (by omega) (by omega)]; rfl
        generalize ws[i] = x at *
        obtain ⟨o, s⟩ := x
        simp only at k0 k1 g1 g2 g3
        have done : ∀ l', l' = putW l (o, s) → ∀ a1 w1, InShape C shAl (stL ws (i + 1) l') a1 w1 → ∃ n', n' < ws.length - i ∧ ∃ j, j ≤ ws.length ∧ n' = ws.length - j ∧ InShape C shAl (stL ws j (allW b.data.toList (ws.take j))) a1 w1 := fun l' hl' a1 w1 h => ⟨ws.length - (i + 1), by omega, i + 1, by omega, rfl, by rw [hstep, ← hl']; exact h⟩
        have hlt' : (i : Int) < (ws.length : Int) := by omega
        by_cases c1 : s.size < 1
        · refine seg_ok names_ok mixed_ok noOrc_ok noA1 hin ?_ ?_
          · simp only [List.mem_cons, List.not_mem_nil, or_false, forall_eq_or_imp, forall_eq]
            simp [Base.ev, SX.ev, evs, lenPV_row, slenPV, r_len, binPV, Value.oneCell', hlt, k0, k1, ix]
            omega
          · intro qs a1 w1 hq h1
            refine ⟨fun _ => .inl ⟨rfl, ?_⟩, fun h => absurd rfl h⟩
            simp [evs, SX.ev, binPV, w5] at hq
            subst hq
            exact done l (by simp [putW, mayW, show ¬ (1 ≤ s.size) by omega]) a1 w1 h1
        · by_cases c2 : o < 0
          · refine seg_ok names_ok mixed_ok noOrc_ok noA2 hin ?_ ?_
            · simp only [List.mem_cons, List.not_mem_nil, or_false, forall_eq_or_imp, forall_eq]
              simp [Base.ev, SX.ev, evs, lenPV_row, slenPV, r_len, binPV, Value.oneCell', hlt, k0, k1, ix]
              omega
            · intro qs a1 w1 hq h1
              refine ⟨fun _ => .inl ⟨rfl, ?_⟩, fun h => absurd rfl h⟩
              simp [evs, SX.ev, binPV, w5] at hq
              subst hq
              exact done l (by simp [putW, mayW, show ¬ (0 ≤ o) by omega]) a1 w1 h1
          · have w3 : IntKind.i64.wrap (24 - (s.size : Int)) = 24 - (s.size : Int) := wrapI _ (by omega) (by omega)
            by_cases c3 : o > 24 - (s.size : Int)
            · refine seg_ok names_ok mixed_ok noOrc_ok noA3 hin ?_ ?_
              · simp only [List.mem_cons, List.not_mem_nil, or_false, forall_eq_or_imp, forall_eq]
                simp [Base.ev, SX.ev, evs, lenPV_row, slenPV, r_len, binPV, Value.oneCell', hlt, k0, k1, ix, w3]
                omega
              · intro qs a1 w1 hq h1
                refine ⟨fun _ => .inl ⟨rfl, ?_⟩, fun h => absurd rfl h⟩
                simp [evs, SX.ev, binPV, w5] at hq
                subst hq
                exact done l (by simp [putW, mayW, show ¬ (o ≤ 24 - (s.size : Int)) by omega]) a1 w1 h1
            · obtain ⟨n, rfl⟩ : ∃ n : Nat, o = (n : Int) := ⟨o.toNat, by omega⟩
              have w1' : IntKind.i64.wrap ((n : Int) + (s.size : Int)) = (n : Int) + (s.size : Int) := wrapI _ (by omega) (by omega)
              have w2' : IntKind.i64.wrap ((n : Int) + (s.size : Int) - (l.length : Int)) = (n : Int) + (s.size : Int) - (l.length : Int) := wrapI _ (by omega) (by omega)
              have hsl : s.data.toList.length = s.size := by simp
              obtain ⟨m, hm⟩ : ∃ m, m = l ++ List.replicate (max 0 ((n : Int) + (s.size : Int) - (l.length : Int))).toNat 0 := ⟨_, rfl⟩
              have hmg : m = grown l (n + s.size) := by rw [hm, grown]; congr 2; omega
              have hml : n + s.size ≤ m.length := by rw [hm]; simp; omega
              have hml2 : m.length ≤ 1100 := by rw [hm]; simp; omega
              have e1 : ropPV (.rep [.int .u8 0]) [pI (max 0 ((n : Int) + (s.size : Int) - (l.length : Int)))] = some (pBy (List.replicate (max 0 ((n : Int) + (s.size : Int) - (l.length : Int))).toNat 0)) := r_rep _ (by omega)
              have e2 : ropPV .cat [pBy l, pBy (List.replicate (max 0 ((n : Int) + (s.size : Int) - (l.length : Int))).toNat 0)] = some (pBy m) := by rw [hm]; exact r_cat _ _
              have w4 : IntKind.i64.wrap ((m.length : Int) - (n : Int)) = (m.length : Int) - (n : Int) := wrapI _ (by omega) (by omega)
              have e3 := r_copy m s.data.toList n (by omega)
              have e4 : (m.take n ++ s.data.toList ++ m.drop (n + s.data.toList.length)).length = m.length := by simp; omega
              have e5 : putW l ((n : Int), s) = m.take n ++ s.data.toList ++ m.drop (n + s.data.toList.length) := by
                have : mayW ((n : Int), s) = true := by simp [mayW]; omega
                simp only [putW, this, cond_true, over, Int.toNat_natCast, ← hmg]
              generalize m.take n ++ s.data.toList ++ m.drop (n + s.data.toList.length) = l' at *
              refine seg_ok names_ok mixed_ok noOrc_ok yesA hin ?_ ?_
              · clear done hstep hm hmg
                simp only [List.mem_cons, List.not_mem_nil, or_false, forall_eq_or_imp, forall_eq]
                simp [Base.ev, SX.ev, evs, lenPV_row, slenPV, r_len, r_ofStr, r_max, r_min, e1, e2, e3, binPV, Value.oneCell', hlt, k0, k1, ix, w1', w2', w3, w4, w5, e4]
                exact ⟨by omega, by omega, ⟨(max 0 ((n : Int) + (s.size : Int) - (l.length : Int))).toNat, by omega, by omega⟩, by omega, by omega, ⟨_, _, ⟨rfl, rfl⟩, by omega, by omega⟩, ⟨m.length - n, by omega, by omega⟩⟩
              · intro qs a1 w1 hq h1
                refine ⟨fun _ => .inl ⟨rfl, ?_⟩, fun h => absurd rfl h⟩
                simp [evs, SX.ev, slenPV, lenPV_row, r_len, r_ofStr, r_max, r_min, e1, e2, e3, binPV, k0, k1, w1', w2', w4, w5] at hq
                subst hq
                exact done l' e5.symm a1 w1 h1
      · have hie : i = ws.length := by omega
        refine seg_ok names_ok mixed_ok noOrc_ok exA hin ?_ ?_
        · simp only [List.mem_cons, List.not_mem_nil, or_false, forall_eq_or_imp, forall_eq]
          simp [Base.ev, SX.ev, evs, lenPV_row, r_len, binPV, Value.oneCell']
          omega
        · intro qs a1 w1 hq h1
          refine ⟨fun h => (by cases h), fun _ => .inr (.inl ⟨by rw [show blockId (nth flA 3) = 0 by kernel_rfl]; rfl, ?_⟩)⟩
          simp [evs, SX.ev] at hq
          subst hq
          rw [← List.append_nil (flA.drop 4)]
          refine seg_ok names_ok mixed_ok noOrc_ok postA h1 ?_ ?_
          · simp only [List.mem_cons, List.not_mem_nil, or_false, forall_eq_or_imp, forall_eq]
            simp [Base.ev, SX.ev, evs, r_len, r_toStr, Value.oneCell']
          · intro qs a2 w2 hq h2
            refine ⟨fun h => (by cases h), fun _ => ⟨.inr rfl, shAr, qs, [SX.var 0], h2, by kernel_rfl, ?_⟩⟩
            simp [evs, SX.ev, r_toStr] at hq ⊢
            subst hq
            rw [hie, List.take_length]
            simp
end Go.Proofs.Ytfcdbknmajfkaaa.fil
end

section
/- What the symbolic engine's user needs, more of it. -/
namespace Go.Proofs.Ytfcdbknmajfkaaa.eng
open Go Go.RowKit
set_option linter.unusedVariables false
set_option linter.unusedSimpArgs false
@[simp] theorem ex_kz (k0 : IntKind) (x : Int) (p : Int → Prop) : (∃ k z, (k0 = k ∧ x = z) ∧ p z) ↔ p x := ⟨fun ⟨_, _, ⟨_, h⟩, hp⟩ => h ▸ hp, fun h => ⟨_, _, ⟨rfl, rfl⟩, h⟩⟩
theorem lenPV_r (n : Nat) (cs : List PV) : lenPV (.row n cs) = some (pI n) := rfl
@[simp] theorem ex_one : (∃ z : Nat, (1 : Int) = (z : Int)) ↔ True := ⟨fun _ => trivial, fun _ => ⟨1, rfl⟩⟩
@[simp] theorem ex_one' (K : Nat) : (∃ z : Nat, (1 : Int) = (z : Int) ∧ z ≤ K) ↔ 1 ≤ K := ⟨fun ⟨z, h, h2⟩ => by omega, fun h => ⟨1, rfl, h⟩⟩
/-! Rows of things: put behind one another, one put anew. -/
theorem all_len {α : Type} (E : Enc α) (xs : List α) : (E.all xs).length = xs.length * E.sz := E.all_length xs
theorem r_catE {α : Type} (E : Enc α) (a b : List α) : ropPV .cat [pRow E a, pRow E b] = some (pRow E (a ++ b)) := by simp [ropPV, pRow, Enc.all]
theorem r_cat0 {α : Type} (E : Enc α) (b : List α) : ropPV .cat [.row 0 [], pRow E b] = some (pRow E b) := by simp [ropPV, pRow]
theorem all_split' {α : Type} (E : Enc α) (xs : List α) (i : Nat) (h : i < xs.length) : E.all xs = E.all (xs.take i) ++ (E.enc xs[i] ++ E.all (xs.drop (i + 1))) := by
  rw [← Enc.all_cons, ← Enc.all_append, ← List.drop_eq_getElem_cons h, List.take_append_drop]
theorem set_split {α : Type} (xs : List α) (i : Nat) (x : α) (h : i < xs.length) : xs.set i x = xs.take i ++ x :: xs.drop (i + 1) := by
  rw [List.set_eq_take_append_cons_drop, if_pos h]
theorem r_updE {α : Type} (E : Enc α) (xs : List α) (i : Nat) (k : IntKind) (x : α) (h : i < xs.length) : ropPV (.upd E.sz 0) (pRow E xs :: .v (.int k (i : Int)) :: (E.enc x).map .v) = some (pRow E (xs.set i x)) := by
  have h0 : (0 : Int) ≤ (i : Int) := by omega
  have h1 : (i : Int) < (xs.length : Int) := by omega
  have hl : (E.all (xs.take i)).length = i * E.sz := by rw [all_len, List.length_take, Nat.min_eq_left (by omega)]
  have hp : putPV ((E.all xs).map PV.v) (i * E.sz) ((E.enc x).map PV.v) = (E.all (xs.set i x)).map PV.v := by
    rw [set_split xs i x h, Enc.all_append, Enc.all_cons, all_split' E xs i h]
    simp only [putPV, List.length_map, E.len, ← hl, List.map_append]
    rw [List.take_left' (by simp), ← List.append_assoc ((E.all (xs.take i)).map PV.v), List.drop_left' (by simp [E.len]), List.append_assoc]
  simp [ropPV, pRow, h1, E.len, hp]
theorem cells_row {α : Type} (E : Enc α) {B : Base} {e : SX} {xs : List α} (h : B.ev e = some (pRow E xs)) (hl : xs.length ≤ 1000000000) : (Fact.cells e E.sz).holds B := by
  refine ⟨xs.length, E.all xs, h, all_len E xs, ?_, fun v hv => E.all_one' xs v hv⟩
  have : maxLen = 9223372036854775807 := by unfold maxLen; simp [IntKind.max]
  omega
/-- What a fact says of an index, and of a row's cells. -/
def IdxP (p q : Option PV) (sz sub : Nat) : Prop := ∃ n cs k z, p = some (.row n cs) ∧ q = some (.v (.int k z)) ∧ 0 ≤ z ∧ z < (n : Int) ∧ z.toNat * sz + sub ≤ cs.length
theorem holds_idxP (B : Base) (e i : SX) (sz sub : Nat) : (Fact.idx e i sz sub).holds B ↔ IdxP (B.ev e) (B.ev i) sz sub := Iff.rfl
theorem idxP_row {α : Type} (E : Enc α) (xs : List α) (j sz sub : Nat) (k : IntKind) (hz : sz = E.sz) (h : j < xs.length) (hs : sub ≤ E.sz) : IdxP (some (pRow E xs)) (some (.v (.int k (j : Int)))) sz sub := by
  subst hz
  refine ⟨_, _, _, _, rfl, rfl, by omega, by omega, ?_⟩
  rw [List.length_map, E.all_length]
  have : (j + 1) * E.sz ≤ xs.length * E.sz := Nat.mul_le_mul_right _ h
  rw [Nat.add_mul] at this
  simp
  omega
def CellsP (p : Option PV) (sz : Nat) : Prop := ∃ (n : Nat) (vs : List Value), p = some (.row n (vs.map PV.v)) ∧ vs.length = n * sz ∧ n ≤ maxLen ∧ ∀ v ∈ vs, v.oneCell' = true
theorem holds_cellsP (B : Base) (e : SX) (sz : Nat) : (Fact.cells e sz).holds B ↔ CellsP (B.ev e) sz := Iff.rfl
theorem cellsP_row {α : Type} (E : Enc α) (xs : List α) (sz : Nat) (hz : sz = E.sz) (hl : xs.length ≤ 1000000000) : CellsP (some (pRow E xs)) sz := by
  subst hz
  refine ⟨xs.length, E.all xs, rfl, all_len E xs, ?_, fun v hv => E.all_one' xs v hv⟩
  have : maxLen = 9223372036854775807 := by unfold maxLen; simp [IntKind.max]
  omega
@[simp] theorem ex_zero : (∃ z : Nat, (0 : Int) = (z : Int)) ↔ True := ⟨fun _ => trivial, fun _ => ⟨0, rfl⟩⟩
@[simp] theorem ex_two : (∃ z : Nat, (2 : Int) = (z : Int)) ↔ True := ⟨fun _ => trivial, fun _ => ⟨2, rfl⟩⟩
/-- What a run is told of the answer's truths is the caller's affair. -/
theorem told_kinds {f : FuncId} {E E' : FnE} {spec : List PV → Option (List PV)} (h : ToldF f E spec) (h1 : E'.ins = E.ins) (h2 : E'.leaks = E.leaks) (h3 : E'.outs = E.outs) (h4 : E.kinds.all CK.plain = true) (h5 : E'.kinds.all CK.plain = true) : ToldF f E' spec := by
  intro w FP us ps qs hs hul hpl hFP hrd
  rw [h1] at hpl ⊢
  rw [h2] at hrd
  refine (h w FP us ps qs hs hul hpl hFP hrd).mono ?_
  rintro e w' ⟨us', ow, g1, g2, g3, g4, g5, g6⟩
  have hno : ∀ i, ow i = none := fun i => by
    cases ho : ow i with
    | none => rfl
    | some b =>
      obtain ⟨el, sz, may, q, u, k1, _⟩ := g3.at' i b ho
      have := List.all_eq_true.1 h4 _ (List.mem_of_getElem? k1)
      simp [CK.plain] at this
  exact ⟨us', fun _ => none, g1, by rw [h3]; exact g2, owns_none h5, fun i q u hq hu w2 hw2 => g4 i q u hq hu w2 (fun k hk _ => hw2 k hk (fun _ _ hx => by cases hx)), by rw [h3]; exact g5, g6⟩
def blockBody : Code → Code | .block _ b => b | _ => .skip
/-- A block that is no loop: in it, and on behind it. -/
theorem block_in {P : Program} {id : Nat} {c : Code} {k : List Code} {Q : Exit → Act → World → Prop} {a : Act} {w : World}
    (h : wpL P (flat c) (fun e a' w' => (e = .normal ∧ wpL P k Q a' w') ∨ (e = .exit id ∧ wpL P k Q a' w') ∨ (e = .ret ∧ Q .ret a' w') ∨ (∃ j, j ≠ id ∧ e = .exit j ∧ Q (.exit j) a' w') ∨ (∃ ch, e = .panic ch ∧ Q (.panic ch) a' w')) a w) : wpL P (.block id c :: k) Q a w := by
  refine wp_block (wp_mono (wp_of_flat h) ?_)
  rintro e a' w' (⟨rfl, hk⟩ | ⟨rfl, hk⟩ | ⟨rfl, hq⟩ | ⟨j, hj, rfl, hq⟩ | ⟨ch, rfl, hq⟩)
  · exact hk
  · simp only [Exit.inBlock, if_true]
    exact hk
  · exact hq
  · simp only [Exit.inBlock, if_neg hj]
    exact hq
  · exact hq
end Go.Proofs.Ytfcdbknmajfkaaa.eng
end
