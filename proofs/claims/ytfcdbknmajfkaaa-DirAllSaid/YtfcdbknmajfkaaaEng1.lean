/- An engine: values and memory by names instead of addresses; what a memory by names says of a world. -/
import Derived.WalkKit
import Derived.ProofKit
import Derived.Calls
import Derived.Defers
import Derived.Recover
import Derived.Laws.Cells
import Derived.Laws.IdiomCopy
import Derived.Laws.Append
import Derived.Laws.Sem
import Derived.Test.YtfcdbknmajfkaaaChecked
import Derived.Test.YtfcdbknmajfkaaaAfter
namespace Go.Proofs.Ytfcdbknmajfkaaa.eng
open Go

/-! What is known of a value: a plain one, or a row of so many things, each of so many cells. -/
inductive PV where
  | v (x : Value)
  | row (n : Nat) (cs : List PV)
  deriving Inhabited
mutual
/-- In this world the value reads so. -/
def Reads (w : World) : PV → Value → Prop
  | .v x, u => u = x ∧ x.oneCell' = true
  | .row n cs, u => ∃ a cap, u = .slice a n cap ∧ n ≤ cap ∧ cap ≤ maxLen ∧ (cs = [] ∨ ∃ b off, a = some ⟨b, off, none⟩ ∧ ReadsL w b cs off)
def ReadsL (w : World) (b : Nat) : List PV → Nat → Prop
  | [], _ => True
  | c :: cs, off => (∃ u, w.cell? ⟨b, off, none⟩ = some u ∧ Reads w c u) ∧ ReadsL w b cs (off + 1)
end
theorem Reads.one {w : World} {p : PV} {u : Value} (h : Reads w p u) : u.oneCell' = true := by
  cases p with
  | v x => simp only [Reads] at h; rw [h.1]; exact h.2
  | row n cs => simp only [Reads] at h; obtain ⟨a, cap, rfl, _⟩ := h; rfl
theorem ReadsL.at {w : World} {b : Nat} : ∀ {cs : List PV} {off i : Nat} {p : PV}, ReadsL w b cs off → cs[i]? = some p → ∃ u, w.cell? ⟨b, off + i, none⟩ = some u ∧ Reads w p u
  | [], off, i, p, _, hi => by simp at hi
  | c :: cs, off, i, p, h, hi => by
    simp only [ReadsL] at h
    cases i with
    | zero => simp at hi; subst hi; simpa using h.1
    | succ i =>
      have := ReadsL.at h.2 (by simpa using hi)
      rwa [show off + 1 + i = off + (i + 1) by omega] at this
theorem ReadsL.of {w : World} {b : Nat} : ∀ {cs : List PV} {off : Nat}, (∀ (i : Nat) (p : PV), cs[i]? = some p → ∃ u, w.cell? ⟨b, off + i, none⟩ = some u ∧ Reads w p u) → ReadsL w b cs off
  | [], off, _ => by simp [ReadsL]
  | c :: cs, off, h => by
    simp only [ReadsL]
    exact ⟨by simpa using h 0 c rfl, ReadsL.of fun i p hi => by
      have := h (i + 1) p (by simpa using hi)
      rwa [show off + (i + 1) = off + 1 + i by omega] at this⟩

/-! Numbers that are not known, written down. -/
/-- What is made of rows. -/
inductive ROp where
  /-- so many of these cells -/
  | rep (z : List Value)
  | cat
  /-- cells put at an element -/
  | upd (sz sub : Nat)
  | ofStr
  | toStr
  /-- the front of a row over a part of one: the row, from where on, how many there are, the other row -/
  | copy (sz : Nat)
  | min2
  | max2
  /-- of two truths: whether they are the same, or not -/
  | eqB
  | neB
  deriving Inhabited
inductive SX where
  /-- what came in -/
  | var (i : Nat)
  | con (v : Value)
  /-- what an operation makes of them -/
  | op (o : Op) (ty : TypeId) (ts : List Nat) (es : List SX)
  | bin (o : BinOp) (x y : SX)
  | conv (k : IntKind) (x : SX)
  | slen (x : SX)
  /-- a byte of a text -/
  | sidx (x i : SX)
  /-- what is told of a function by other means: the j-th cell of its answer -/
  | fn (k : Nat) (es : List SX) (j : Nat)
  | cell (e i : SX) (sz sub : Nat)
  | len (e : SX)
  | lit (n : Nat) (es : List SX)
  | agg (es : List SX)
  | sub (e lo hi : SX) (sz : Nat)
  | rop (o : ROp) (es : List SX)
  deriving Inhabited

/-- What needs no memory. -/
def pureNext (P : Program) : Sem Next → Option (Value ⊕ Value)
  | .pure (.value v) => some (.inl v)
  | .program k => pureNext P (k P)
  | .mark _ k => pureNext P k
  | .halt (.panic v) => some (.inr v)
  | _ => none
def lookT : List Nat → List Value → Nat → Value
  | t :: ts, v :: vs, k => cond (Nat.beq t k) v (lookT ts vs k)
  | _, _, _ => undef
def envR (ts : List Nat) (vs : List Value) : Operand → Value
  | .tmp t => lookT ts vs t
  | .const v => v
  | .func f => .func (.func f) #[] #[]
  | .global _ => undef
def Op.isSelect : Op → Bool | .select .. => true | _ => false
def opVal (P : Program) (o : Op) (ty : TypeId) (ts : List Nat) (vs : List Value) : Option Value :=
  cond (Op.isSelect o) none (match pureNext P (execOp (envR ts vs) { dst := none, op := o, type := ty, pos := "", after := #[], guard := none }) with
    | some (.inl v) => some v
    | _ => none)
def PV.plain : PV → Option Value | .v x => some x | _ => none
def plainL : List PV → Option (List Value)
  | [] => some []
  | p :: ps => p.plain.bind fun x => (plainL ps).map (x :: ·)
def PV.int : PV → Option Int | .v (.int _ z) => some z | _ => none
def cellPV (p q : PV) (sz sub : Nat) : Option PV := match p, q with
  | .row n cs, .v (.int _ z) => cond (decide (0 ≤ z) && decide (z < (n : Int))) (cs[z.toNat * sz + sub]?) none
  | _, _ => none
def lenPV : PV → Option PV | .row n _ => some (.v (.int .i64 n)) | _ => none
def subPV (p q r : PV) (sz : Nat) : Option PV := match p, q, r with
  | .row n cs, .v (.int _ a), .v (.int _ b) => cond (decide (0 ≤ a) && decide (a ≤ b) && decide (b ≤ (n : Int))) (some (.row (b.toNat - a.toNat) ((cs.drop (a.toNat * sz)).take ((b.toNat - a.toNat) * sz)))) none
  | _, _, _ => none
/-- Numbers of one kind, and texts: what an operation makes of two. -/
def binPV (o : BinOp) : PV → PV → Option PV
  | .v (.int k a), .v (.int k' b) => cond (decide (k = k')) (match o with
    | .add => some (.v (.int k (k.wrap (a + b))))
    | .sub => some (.v (.int k (k.wrap (a - b))))
    | .mul => some (.v (.int k (k.wrap (a * b))))
    | .quo => cond (decide (b = 0)) none (some (.v (.int k (k.wrap (a.tdiv b)))))
    | .rem => cond (decide (b = 0)) none (some (.v (.int k (a.tmod b))))
    | .eql => some (.v (.bool (a == b)))
    | .neq => some (.v (.bool (a != b)))
    | .lss => some (.v (.bool (a < b)))
    | .leq => some (.v (.bool (a ≤ b)))
    | .gtr => some (.v (.bool (a > b)))
    | .geq => some (.v (.bool (a ≥ b)))
    | _ => none) none
  | .v (.string a), .v (.string b) => match o with
    | .add => cond (decide (((a.size + b.size : Nat) : Int) > IntKind.i64.max)) none (some (.v (.string (a ++ b))))
    | .eql => some (.v (.bool (a.toList == b.toList)))
    | .neq => some (.v (.bool (!(a.toList == b.toList))))
    | _ => none
  | _, _ => none
def convPV (k : IntKind) : PV → Option PV | .v (.int _ n) => some (.v (.int k (k.wrap n))) | _ => none
def slenPV : PV → Option PV | .v (.string s) => some (.v (.int .i64 s.size)) | _ => none
def sidxPV : PV → PV → Option PV
  | .v (.string s), .v (.int _ z) => (if 0 ≤ z then s[z.toNat]? else none).map fun b => .v (.int .u8 b.toNat)
  | _, _ => none
def bytePV : PV → Option UInt8 | .v (.int .u8 z) => cond (decide (0 ≤ z) && decide (z < 256)) (some (UInt8.ofNat z.toNat)) none | _ => none
def bytesPV : List PV → Option (List UInt8)
  | [] => some []
  | p :: ps => (bytePV p).bind fun b => (bytesPV ps).map (b :: ·)
def putPV (cs : List PV) (off : Nat) (ps : List PV) : List PV := cs.take off ++ ps ++ cs.drop (off + ps.length)
def ropPV (o : ROp) (ps : List PV) : Option PV := match o, ps with
  | .rep z, [.v (.int _ n)] => cond (decide (0 ≤ n)) (some (.row n.toNat (List.replicate n.toNat (z.map PV.v)).flatten)) none
  | .cat, [.row k cs, .row n ds] => some (.row (k + n) (cs ++ ds))
  | .upd sz sub, .row k cs :: .v (.int _ i) :: ps => cond (decide (0 ≤ i) && decide (i < (k : Int)) && decide (sub + ps.length ≤ sz)) (some (.row k (putPV cs (i.toNat * sz + sub) ps))) none
  | .ofStr, [.v (.string s)] => some (.row s.size (s.data.toList.map fun b => .v (.int .u8 b.toNat)))
  | .toStr, [.row n cs] => cond (Nat.beq cs.length n) ((bytesPV cs).map fun l => .v (.string ⟨l.toArray⟩)) none
  | .copy sz, [.row k cs, .v (.int _ lo), .v (.int _ len), .row n ds] => cond (decide (0 ≤ lo) && decide (0 ≤ len) && decide (lo + len ≤ (k : Int)) && Nat.beq ds.length (n * sz)) (some (.row k (putPV cs (lo.toNat * sz) (ds.take (Nat.min n len.toNat * sz))))) none
  | .min2, [.v (.int k a), .v (.int _ b)] => some (.v (.int k (min a b)))
  | .max2, [.v (.int k a), .v (.int _ b)] => some (.v (.int k (max a b)))
  | .eqB, [.v (.bool a), .v (.bool b)] => some (.v (.bool (a == b)))
  | .neB, [.v (.bool a), .v (.bool b)] => some (.v (.bool (a != b)))
  | _, _ => none
abbrev Fns := Nat → List PV → Option (List PV)
mutual
noncomputable def SX.ev (s : Nat → Option PV) (F : Fns) : SX → Option PV
  | .var i => s i
  | .con v => some (.v v)
  | .op o ty ts es => (evs s F es).bind fun ps => (plainL ps).bind fun vs => (opVal Try.prog o ty ts vs).map .v
  | .bin o x y => (x.ev s F).bind fun p => (y.ev s F).bind fun q => binPV o p q
  | .conv k x => (x.ev s F).bind (convPV k)
  | .slen x => (x.ev s F).bind slenPV
  | .sidx x i => (x.ev s F).bind fun p => (i.ev s F).bind fun q => sidxPV p q
  | .fn k es j => (evs s F es).bind fun ps => (F k ps).bind fun qs => qs[j]?
  | .cell e i sz o => (e.ev s F).bind fun p => (i.ev s F).bind fun q => cellPV p q sz o
  | .len e => (e.ev s F).bind lenPV
  | .lit n es => (evs s F es).map (.row n)
  | .agg es => (evs s F es).bind fun ps => (plainL ps).map fun vs => .v (.agg vs.toArray)
  | .sub e lo hi sz => (e.ev s F).bind fun p => (lo.ev s F).bind fun q => (hi.ev s F).bind fun r => subPV p q r sz
  | .rop o es => (evs s F es).bind (ropPV o)
noncomputable def evs (s : Nat → Option PV) (F : Fns) : List SX → Option (List PV)
  | [] => some []
  | e :: es => (e.ev s F).bind fun p => (evs s F es).map (p :: ·)
end

/-- What a run is over: the world in which the call began, what came in, the functions told of, the memory that what came in hangs on. -/
structure Base where
  w : World
  s : Nat → Option PV
  F : Fns
  fp : Nat → Prop
  /-- the blocks that are lent to the call: it may turn them -/
  mine : Nat → Prop
def Base.heap (B : Base) := B.w.heap
noncomputable def Base.ev (B : Base) (e : SX) : Option PV := e.ev B.s B.F
noncomputable def Base.sv (B : Base) (e : SX) : Option Value := (B.ev e).bind PV.plain
def Base.know (B : Base) (e : SX) (w : World) (v : Value) : Prop := ∃ p, B.ev e = some p ∧ Reads w p v

/-! How a call's values are made of their cells: each a cell alone, or so many together. -/
abbrev Sh := List (Option Nat)
def shLen : Sh → Nat
  | [] => 0
  | none :: s => shLen s + 1
  | some n :: s => n + shLen s
def assemble : Sh → List Value → List Value
  | none :: s, u :: us => u :: assemble s us
  | some n :: s, us => .agg (us.take n).toArray :: assemble s (us.drop n)
  | _, _ => []
def answer (s : Sh) (us : List Value) : Value := match assemble s us with | [v] => v | vs => .tuple vs.toArray
/-- A number, a truth (a run is told which), a row. -/
inductive CK where
  | num
  | truth
  | row
  /-- a row that is the caller's from then on, of plain cells: which elements, of how many cells; whether it may be none -/
  | own (el : TypeId) (sz : Nat) (may : Bool)
  deriving Inhabited
/-- In such a block lies a row that nobody else has. -/
def OwnAt (w w' : World) (el : TypeId) (sz b : Nat) (q : PV) (u : Value) : Prop :=
  w.heap.size ≤ b ∧ b < w'.heap.size ∧ ∃ (n cap : Nat) (cs : List PV) (c : Array Value) (fz : Nat × Nat), q = .row n cs ∧ u = .slice (some ⟨b, 0, none⟩) n cap ∧ w'.heap[b]? = some (.cells c el fz) ∧ (∀ i, i < c.size → ¬ (fz.1 ≤ i ∧ i < fz.2)) ∧ 0 < sz ∧ cs.length = n * sz ∧ n ≤ cap ∧ c.size = cap * sz ∧ cap ≤ maxLen ∧
    ∀ (i : Nat) (p : PV), cs[i]? = some p → ∃ v : Value, p = PV.v v ∧ v.oneCell' = true ∧ c[i]? = some v
/-- Which of what is answered is such a row, and where it lies. -/
structure Owns (w w' : World) (ks : List CK) (qs : List PV) (us : List Value) (ow : Nat → Option Nat) : Prop where
  at' : ∀ i b, ow i = some b → ∃ el sz may q u, ks[i]? = some (.own el sz may) ∧ qs[i]? = some q ∧ us[i]? = some u ∧ OwnAt w w' el sz b q u ∧ (may = true → ∃ n cs, q = .row (n + 1) cs)
  no : ∀ i el sz may, ks[i]? = some (.own el sz may) → ow i = none → may = true ∧ us[i]? = some (.slice none 0 0) ∧ qs[i]? = some (.row 0 [])
  inj : ∀ i j b, ow i = some b → ow j = some b → i = j
def CK.plain : CK → Bool | .own .. => false | _ => true
theorem owns_none {w w' : World} {ks : List CK} {qs : List PV} {us : List Value} (h : ks.all CK.plain = true) : Owns w w' ks qs us (fun _ => none) :=
  ⟨fun _ _ h => (by cases h), fun i el sz may hk => (by have := List.all_eq_true.1 h _ (List.mem_of_getElem? hk); simp [CK.plain] at this), fun _ _ _ h => (by cases h)⟩
/-- A function by its contract: its number, its arguments' form, which of them may live on in what it answers, the form of that. -/
structure FnE where
  k : Nat
  ins : Sh
  leaks : List Bool
  outs : Sh
  kinds : List CK
  deriving Inhabited
/-- The contract: called with what reads so it answers what reads as it is told, which hangs on what may live on and on new memory; nothing else has turned. -/
def ToldF (f : FuncId) (E : FnE) (spec : List PV → Option (List PV)) : Prop :=
  ∀ (w : World) (FP : Nat → Prop) (us : List Value) (ps qs : List PV), spec ps = some qs → us.length = ps.length → ps.length = shLen E.ins → (∀ k, FP k → k < w.heap.size) →
    (∀ (i : Nat) (p : PV) (u : Value), ps[i]? = some p → us[i]? = some u → Reads w p u ∧ (E.leaks.getD i false = true → ∀ w2 : World, (∀ k, FP k → w2.heap[k]? = w.heap[k]?) → Reads w2 p u)) →
    Calls Try.prog f (assemble E.ins us).toArray w fun e w' => ∃ (us' : List Value) (ow : Nat → Option Nat), us'.length = qs.length ∧ qs.length = shLen E.outs ∧ Owns w w' E.kinds qs us' ow ∧
      (∀ (i : Nat) (q : PV) (u : Value), qs[i]? = some q → us'[i]? = some u → ∀ w2 : World, (∀ k, FP k ∨ (w.heap.size ≤ k ∧ k < w'.heap.size) → (∀ j, j ≠ i → ow j ≠ some k) → w2.heap[k]? = w'.heap[k]?) → Reads w2 q u) ∧
      e = .returned (answer E.outs us') ∧ Ex w w'

/-- What a call answers by its contract. -/
def RetD (E : FnE) (FP : Nat → Prop) (w : World) (qs : List PV) (e : Ending) (w' : World) : Prop := ∃ (us' : List Value) (ow : Nat → Option Nat), us'.length = qs.length ∧ qs.length = shLen E.outs ∧ Owns w w' E.kinds qs us' ow ∧
      (∀ (i : Nat) (q : PV) (u : Value), qs[i]? = some q → us'[i]? = some u → ∀ w2 : World, (∀ k, FP k ∨ (w.heap.size ≤ k ∧ k < w'.heap.size) → (∀ j, j ≠ i → ow j ≠ some k) → w2.heap[k]? = w'.heap[k]?) → Reads w2 q u) ∧
      e = .returned (answer E.outs us') ∧ Ex w w'
/-- The contract of a function that may panic: what is told begins with 0 where it answers, with j + 1 where it panics with the j-th of these. -/
def ToldX (f : FuncId) (E : FnE) (pans : List Value) (spec : List PV → Option (List PV)) : Prop :=
  ∀ (w : World) (FP : Nat → Prop) (us : List Value) (ps qs : List PV), spec ps = some qs → us.length = ps.length → ps.length = shLen E.ins → (∀ k, FP k → k < w.heap.size) →
    (∀ (i : Nat) (p : PV) (u : Value), ps[i]? = some p → us[i]? = some u → Reads w p u ∧ (E.leaks.getD i false = true → ∀ w2 : World, (∀ k, FP k → w2.heap[k]? = w.heap[k]?) → Reads w2 p u)) →
    Calls Try.prog f (assemble E.ins us).toArray w fun e w' => (∃ qs', qs = .v (.int .i64 0) :: qs' ∧ RetD E FP w qs' e w') ∨ (∃ (j : Nat) (v : Value), qs = [.v (.int .i64 ((j + 1 : Nat) : Int))] ∧ pans[j]? = some v ∧ e = .panicked [{ v, recovered := false }] ∧ Ex w w')

/-- A function by its contract whose first argument is a pointer to a thing of so many cells, which it may turn. -/
structure PtrE where
  k : Nat
  elem : TypeId
  cells : Nat
  ins : Sh
  outs : Sh
  kinds : List CK
  deriving Inhabited
/-- The contract: what is given, and what lies in the cells, reads so; what is answered, and what lies in the cells then, reads as it is told. -/
def ToldP (f : FuncId) (E : PtrE) (spec : List PV → Option (List PV)) : Prop :=
  ∀ (w : World) (FP : Nat → Prop) (b : Nat) (c : Array Value) (fz : Nat × Nat) (us : List Value) (ps qs : List PV), spec ps = some qs → us.length = shLen E.ins → ps.length = shLen E.ins + E.cells → c.size = E.cells →
    w.heap[b]? = some (.cells c E.elem fz) → (∀ i, i < c.size → ¬ (fz.1 ≤ i ∧ i < fz.2)) → (∀ k, FP k → k < w.heap.size ∧ k ≠ b) →
    (∀ (i : Nat) (p : PV) (u : Value), ps[i]? = some p → (us ++ c.toList)[i]? = some u → ∀ w2 : World, (∀ k, FP k → w2.heap[k]? = w.heap[k]?) → Reads w2 p u) →
    Calls Try.prog f (.pointer (some ⟨b, 0, none⟩) :: assemble E.ins us).toArray w fun e w' => ∃ (us' : List Value) (c' : Array Value) (fz' : Nat × Nat) (ow : Nat → Option Nat), us'.length = shLen E.outs ∧ c'.size = E.cells ∧ qs.length = shLen E.outs + E.cells ∧
      w'.heap[b]? = some (.cells c' E.elem fz') ∧ (∀ i, i < c'.size → ¬ (fz'.1 ≤ i ∧ i < fz'.2)) ∧ Owns w w' E.kinds qs (us' ++ c'.toList) ow ∧
      (∀ (i : Nat) (q : PV) (u : Value), qs[i]? = some q → (us' ++ c'.toList)[i]? = some u → ∀ w2 : World, (∀ k, FP k ∨ (w.heap.size ≤ k ∧ k < w'.heap.size) → (∀ j, j ≠ i → ow j ≠ some k) → w2.heap[k]? = w'.heap[k]?) → Reads w2 q u) ∧
      e = .returned (answer E.outs us') ∧ w'.os = w.os ∧ w'.tape = w.tape ∧ w'.output = w.output ∧ w.heap.size ≤ w'.heap.size ∧ ∀ k, k < w.heap.size → k ≠ b → w'.heap[k]? = w.heap[k]?

/-- What a run takes for granted. -/
inductive Fact where
  /-- it is a plain value of one cell -/
  | ok (e : SX)
  | is (e : SX) (v : Value)
  /-- an index is this one -/
  | at (e : SX) (n : Nat)
  | idx (e i : SX) (sz sub : Nat)
  | sub (e lo hi : SX) (sz : Nat)
  /-- a number below another one -/
  | rng (i n : SX)
  /-- one that is no greater -/
  | upto (n : SX) (K : Nat)
  | le3 (lo hi n : SX)
  /-- the same number -/
  | same (x y : SX)
  /-- from there on so many are there -/
  | cut (lo len n : SX)
  /-- a row of elements of so many cells, all plain -/
  | cells (e : SX) (sz : Nat)
  /-- the function is told of, and there -/
  | fn (f : FuncId) (E : FnE) (es : List SX)
  | fp (f : FuncId) (E : PtrE) (es : List SX)
  | fx (f : FuncId) (E : FnE) (pans : List Value) (es : List SX)
  deriving Inhabited
def Fact.holds (B : Base) : Fact → Prop
  | .ok e => ∃ x, B.ev e = some (.v x) ∧ x.oneCell' = true
  | .is e v => B.ev e = some (.v v)
  | .at e n => ∃ k, B.ev e = some (.v (.int k (n : Int)))
  | .idx e i sz q => ∃ n cs k z, B.ev e = some (.row n cs) ∧ B.ev i = some (.v (.int k z)) ∧ 0 ≤ z ∧ z < (n : Int) ∧ z.toNat * sz + q ≤ cs.length
  | .sub e lo hi sz => ∃ p, B.ev (.sub e lo hi sz) = some p
  | .rng i n => ∃ k z m, B.ev i = some (.v (.int k z)) ∧ B.ev n = some (.v (.int .i64 m)) ∧ 0 ≤ z ∧ z < m
  | .upto n K => ∃ z : Nat, B.ev n = some (.v (.int .i64 (z : Int))) ∧ z ≤ K
  | .le3 lo hi n => ∃ a b c : Nat, B.ev lo = some (.v (.int .i64 (a : Int))) ∧ B.ev hi = some (.v (.int .i64 (b : Int))) ∧ B.ev n = some (.v (.int .i64 (c : Int))) ∧ a ≤ b ∧ b ≤ c
  | .cut lo len n => ∃ a b c : Nat, B.ev lo = some (.v (.int .i64 (a : Int))) ∧ B.ev len = some (.v (.int .i64 (b : Int))) ∧ B.ev n = some (.v (.int .i64 (c : Int))) ∧ a + b ≤ c
  | .same x y => ∃ z : Nat, B.ev x = some (.v (.int .i64 (z : Int))) ∧ B.ev y = some (.v (.int .i64 (z : Int)))
  | .cells e sz => ∃ (n : Nat) (vs : List Value), B.ev e = some (.row n (vs.map PV.v)) ∧ vs.length = n * sz ∧ n ≤ maxLen ∧ ∀ v ∈ vs, v.oneCell' = true
  | .fp f E es => ToldP f E (B.F E.k) ∧ ∃ ps qs, evs B.s B.F es = some ps ∧ B.F E.k ps = some qs
  | .fx f E pans es => ToldX f E pans (B.F E.k) ∧ ∃ ps qs, evs B.s B.F es = some ps ∧ B.F E.k ps = some qs
  | .fn f E es => ToldF f E (B.F E.k) ∧ ∃ ps qs, evs B.s B.F es = some ps ∧ B.F E.k ps = some qs

variable {W0 : Base}
set_option linter.unusedVariables false

/-- A value: places are named by a root and a version of it. -/
inductive AV where
  | val (v : Value)
  | ptr (r v idx sz sub : Nat)
  | slice (r v lo sz len cap : Nat) (opn : Bool)
  /-- a thing of which something is known -/
  | dat (r : Nat)
  /-- where the e-th element of such a slice lies, sub cells on -/
  | ptrD (r : Nat) (e : SX) (sz sub : Nat)
  /-- of a row of the call's own of unknown length: from such an element on so many -/
  | sliceS (r v : Nat) (lo len : SX) (sz : Nat)
  /-- where the e-th element of such a row lies, sub cells on -/
  | ptrS (r v : Nat) (e : SX) (sz sub : Nat)
  /-- a number that is not known -/
  | sym (e : SX)
  | agg (cs : List AV)
  | tuple (cs : List AV)
  | func (fn : Fn) (first captured : List AV)
  | iface (t : TypeId) (x : AV)
  deriving Inhabited

/-- Where a version of a root lies: its block, and of how many elements that is; which value a thing is of which something is known, and which blocks it hangs on. -/
structure Map where
  f : Nat → Nat → Option (Nat × Nat)
  d : Nat → Option (Value × (Nat → Prop))
  s : SX → Option Value
instance : CoeFun Map fun _ => Nat → Nat → Option (Nat × Nat) := ⟨Map.f⟩
def Map.Le (m m' : Map) : Prop := (∀ r v b, m r v = some b → m' r v = some b) ∧ (∀ r x, m.d r = some x → m'.d r = some x) ∧ ∀ e x, m.s e = some x → m'.s e = some x
def elemAt (n : Nat) : Value → Option Value
  | .slice (some ⟨b, off, none⟩) _ _ => some (.pointer (some ⟨b, off + n, none⟩))
  | _ => none

def natOf : Value → Option Nat | .int _ z => some z.toNat | _ => none
def natI : Value → Option Nat | .int .i64 (.ofNat n) => some n | _ => none
theorem natI_ok {v : Value} {n : Nat} (h : natI v = some n) : v = .int .i64 (n : Int) := by
  unfold natI at h
  split at h
  · cases h; rfl
  · cases h

mutual
def AV.den (m : Map) : AV → Option Value
  | .val v => some v
  | .ptr r v idx sz sub => (m r v).map fun b => .pointer (some ⟨b.1, idx * sz + sub, none⟩)
  | .slice r v lo sz len cap opn => (m r v).map fun b => .slice (some ⟨b.1, lo * sz, none⟩) len (cond opn (b.2 - cap) cap)
  | .dat r => (m.d r).bind fun x => cond x.1.oneCell' (some x.1) none
  | .ptrD r e sz sub => (m.d r).bind fun x => (m.s e).bind fun i => (natOf i).bind fun n => elemAt (n * sz + sub) x.1
  | .sliceS r v lo len sz => (m r v).bind fun b => (m.s lo).bind fun l => (m.s len).bind fun n => (natI l).bind fun l => (natI n).map fun n => .slice (some ⟨b.1, l * sz, none⟩) n (b.2 - l)
  | .ptrS r v e sz sub => (m r v).bind fun b => (m.s e).bind fun i => (natOf i).map fun n => .pointer (some ⟨b.1, n * sz + sub, none⟩)
  | .sym e => (m.s e).bind fun x => cond x.oneCell' (some x) none
  | .agg cs => (denL m cs).map fun l => .agg l.toArray
  | .tuple cs => (denL m cs).map fun l => .tuple l.toArray
  | .func fn f c => (denL m f).bind fun f => (denL m c).map fun c => .func fn f.toArray c.toArray
  | .iface t x => (x.den m).map (.iface t)
def denL (m : Map) : List AV → Option (List Value)
  | [] => some []
  | c :: cs => (c.den m).bind fun v => (denL m cs).map (v :: ·)
end

mutual
theorem AV.den_mono {m m' : Map} (h : m.Le m') : ∀ (x : AV) {v : Value}, x.den m = some v → x.den m' = some v
  | .val v, u, hu => hu
  | .ptr r v idx sz sub, u, hu => by
    simp only [AV.den, Option.map_eq_some_iff] at hu ⊢
    obtain ⟨b, hb, rfl⟩ := hu
    exact ⟨b, h.1 _ _ _ hb, rfl⟩
  | .slice r v lo sz len cap opn, u, hu => by
    simp only [AV.den, Option.map_eq_some_iff] at hu ⊢
    obtain ⟨b, hb, rfl⟩ := hu
    exact ⟨b, h.1 _ _ _ hb, rfl⟩
  | .dat r, u, hu => by
    simp only [AV.den, Option.bind_eq_some_iff] at hu ⊢
    obtain ⟨b, hb, he⟩ := hu
    exact ⟨b, h.2.1 _ _ hb, he⟩
  | .ptrD r e sz sub, u, hu => by
    simp only [AV.den, Option.bind_eq_some_iff] at hu ⊢
    obtain ⟨b, hb, i, hi, n, hn, he⟩ := hu
    exact ⟨b, h.2.1 _ _ hb, i, h.2.2 _ _ hi, n, hn, he⟩
  | .sliceS r v lo len sz, u, hu => by
    simp only [AV.den, Option.bind_eq_some_iff] at hu ⊢
    obtain ⟨b, hb, l, hl, n, hn, he⟩ := hu
    exact ⟨b, h.1 _ _ _ hb, l, h.2.2 _ _ hl, n, h.2.2 _ _ hn, he⟩
  | .ptrS r v e sz sub, u, hu => by
    simp only [AV.den, Option.bind_eq_some_iff] at hu ⊢
    obtain ⟨b, hb, i, hi, he⟩ := hu
    exact ⟨b, h.1 _ _ _ hb, i, h.2.2 _ _ hi, he⟩
  | .sym e, u, hu => by
    simp only [AV.den, Option.bind_eq_some_iff] at hu ⊢
    obtain ⟨b, hb, he⟩ := hu
    exact ⟨b, h.2.2 _ _ hb, he⟩
  | .agg cs, u, hu => by
    simp only [AV.den, Option.map_eq_some_iff] at hu ⊢
    obtain ⟨b, hb, rfl⟩ := hu
    exact ⟨b, denL_mono h cs hb, rfl⟩
  | .tuple cs, u, hu => by
    simp only [AV.den, Option.map_eq_some_iff] at hu ⊢
    obtain ⟨b, hb, rfl⟩ := hu
    exact ⟨b, denL_mono h cs hb, rfl⟩
  | .func fn f c, u, hu => by
    simp only [AV.den, Option.bind_eq_some_iff, Option.map_eq_some_iff] at hu ⊢
    obtain ⟨a, ha, b, hb, rfl⟩ := hu
    exact ⟨a, denL_mono h f ha, b, denL_mono h c hb, rfl⟩
  | .iface t x, u, hu => by
    simp only [AV.den, Option.map_eq_some_iff] at hu ⊢
    obtain ⟨b, hb, rfl⟩ := hu
    exact ⟨b, AV.den_mono h x hb, rfl⟩
theorem denL_mono {m m' : Map} (h : m.Le m') : ∀ (l : List AV) {vs : List Value}, denL m l = some vs → denL m' l = some vs
  | [], u, hu => hu
  | c :: cs, u, hu => by
    simp only [denL, Option.bind_eq_some_iff, Option.map_eq_some_iff] at hu ⊢
    obtain ⟨a, ha, b, hb, rfl⟩ := hu
    exact ⟨a, AV.den_mono h c ha, b, denL_mono h cs hb, rfl⟩
end
theorem Map.Le.refl (m : Map) : m.Le m := ⟨fun _ _ _ h => h, fun _ _ h => h, fun _ _ h => h⟩
theorem Map.Le.trans {a b c : Map} (h : a.Le b) (k : b.Le c) : a.Le c := ⟨fun r v x hx => k.1 _ _ _ (h.1 _ _ _ hx), fun r x hx => k.2.1 _ _ (h.2.1 _ _ hx), fun r x hx => k.2.2 _ _ (h.2.2 _ _ hx)⟩

/-- The empty map: what it reads stands in every world. -/
def Map.empty : Map := ⟨fun _ _ => none, fun _ => none, fun _ => none⟩
theorem Map.empty_le (m : Map) : Map.empty.Le m := ⟨fun _ _ _ h => (by simp [Map.empty] at h), fun _ _ h => (by simp [Map.empty] at h), fun _ _ h => (by simp [Map.empty] at h)⟩

theorem denL_length {m : Map} : ∀ {l : List AV} {vs : List Value}, denL m l = some vs → vs.length = l.length
  | [], vs, h => by simp [denL] at h; subst h; rfl
  | c :: cs, vs, h => by
    simp only [denL, Option.bind_eq_some_iff, Option.map_eq_some_iff] at h
    obtain ⟨a, ha, b, hb, rfl⟩ := h
    simp [denL_length hb]
theorem denL_get {m : Map} : ∀ {l : List AV} {vs : List Value} {i : Nat} {x : AV}, denL m l = some vs → l[i]? = some x → ∃ v, AV.den m x = some v ∧ vs[i]? = some v
  | [], vs, i, x, h, hx => by simp at hx
  | c :: cs, vs, i, x, h, hx => by
    simp only [denL, Option.bind_eq_some_iff, Option.map_eq_some_iff] at h
    obtain ⟨a, ha, b, hb, rfl⟩ := h
    cases i with
    | zero => simp at hx; subst hx; exact ⟨a, ha, rfl⟩
    | succ i => simp at hx; obtain ⟨v, hv, hg⟩ := denL_get hb hx; exact ⟨v, hv, by simpa using hg⟩
theorem denL_append {m : Map} : ∀ {l l' : List AV} {vs vs' : List Value}, denL m l = some vs → denL m l' = some vs' → denL m (l ++ l') = some (vs ++ vs')
  | [], l', vs, vs', h, h' => by simp [denL] at h; subst h; simpa using h'
  | c :: cs, l', vs, vs', h, h' => by
    simp only [denL, Option.bind_eq_some_iff, Option.map_eq_some_iff] at h
    obtain ⟨a, ha, b, hb, rfl⟩ := h
    simp [denL, ha, denL_append hb h']
/-- A row each of whose places reads as a value. -/
theorem denL_of_get {m : Map} : ∀ {l : List AV} {vs : List Value}, vs.length = l.length → (∀ (i : Nat) (x : AV), l[i]? = some x → ∃ v, AV.den m x = some v ∧ vs[i]? = some v) → denL m l = some vs
  | [], vs, h, _ => by simp at h; subst h; rfl
  | c :: cs, [], h, _ => by simp at h
  | c :: cs, v :: vs, h, hg => by
    obtain ⟨u, hu, hv⟩ := hg 0 c rfl
    simp at hv
    subst hv
    have := denL_of_get (m := m) (l := cs) (vs := vs) (by simpa using h) (fun i x hx => by
      obtain ⟨u, hu, hv⟩ := hg (i + 1) x (by simpa using hx)
      exact ⟨u, hu, by simpa using hv⟩)
    simp [denL, hu, this]

/-! Numbered things. -/
inductive T (α : Type) where
  | nil
  | node (v : Option α) (l r : T α)
  deriving Inhabited
namespace T
variable {α : Type}
def v : T α → Option α | .nil => none | .node v _ _ => v
def l : T α → T α | .nil => .nil | .node _ l _ => l
def r : T α → T α | .nil => .nil | .node _ _ r => r
def get : T α → Nat → Option α
  | .nil, _ => none
  | .node v l r, n => cond (Nat.beq n 0) v (cond (Nat.beq (n % 2) 1) (l.get (n / 2)) (r.get (n / 2 - 1)))
def set : Nat → T α → Nat → Option α → T α
  | 0, t, _, _ => t
  | f + 1, t, n, x => cond (Nat.beq n 0) (.node x t.l t.r) (cond (Nat.beq (n % 2) 1) (.node t.v (set f t.l (n / 2) x) t.r) (.node t.v t.l (set f t.r (n / 2 - 1) x)))
theorem get_eq (t : T α) (n : Nat) : t.get n = if n = 0 then t.v else if n % 2 = 1 then t.l.get (n / 2) else t.r.get (n / 2 - 1) := by
  cases t with
  | nil => simp [get, v, l, r]
  | node x a b =>
    simp only [get, v, l, r, cond_eq_ite, Nat.beq_eq]
theorem get_set : ∀ (f : Nat) (t : T α) (n : Nat) (x : Option α) (k : Nat), n + 1 < 2 ^ f → (set f t n x).get k = if k = n then x else t.get k := by
  intro f
  induction f with
  | zero => intro t n x k h; simp at h
  | succ f ih =>
    intro t n x k h
    rw [Nat.pow_succ] at h
    simp only [set, cond_eq_ite, Nat.beq_eq]
    by_cases h0 : n = 0
    · subst h0
      simp only [if_true]
      rw [get_eq, get_eq t]
      simp only [v, l, r]
      by_cases hk : k = 0 <;> simp [hk]
    · rw [if_neg h0]
      by_cases h1 : n % 2 = 1
      · rw [if_pos h1, get_eq, get_eq t]
        simp only [v, l, r]
        rw [ih _ _ _ _ (by omega)]
        by_cases hk : k = 0
        · have : ¬ k = n := by omega
          simp [hk, Ne.symm h0]
        · by_cases hk1 : k % 2 = 1
          · by_cases he : k = n
            · subst he; simp [hk, hk1]
            · have : ¬ k / 2 = n / 2 := by omega
              simp [hk, hk1, he, this]
          · have : ¬ k = n := by intro e; subst e; omega
            simp [hk, hk1, this]
      · rw [if_neg h1, get_eq, get_eq t]
        simp only [v, l, r]
        rw [ih _ _ _ _ (by omega)]
        by_cases hk : k = 0
        · have : ¬ k = n := by omega
          simp [hk, Ne.symm h0]
        · by_cases hk1 : k % 2 = 1
          · have : ¬ k = n := by intro e; subst e; omega
            simp [hk, hk1, this]
          · by_cases he : k = n
            · subst he; simp [hk, hk1]
            · have : ¬ k / 2 - 1 = n / 2 - 1 := by omega
              simp [hk, hk1, he, this]
end T

/-- What is known of a root: the cells of its newest version, of which each version that counts has the first so many. -/
structure ARoot where
  cells : List AV
  elem : TypeId
  esz : Nat
  ro : Bool
  opn : Bool
  vers : List (Nat × Nat)
  /-- of a thing of which something is known: what -/
  dat : Option SX := none
  /-- of a row of the call's own of unknown length: what is in it -/
  sym : Option SX := none
  /-- it lies in a block that is lent to the call -/
  lent : Bool := false
  deriving Inhabited

/-- What is in such a row. -/
def RowAt (W0 : Base) (w : World) (o : ARoot) (b : Nat × Nat) (e : SX) : Prop :=
  ∃ (n : Nat) (cs : List PV) (c : Array Value) (fz : Nat × Nat), W0.ev e = some (.row n cs) ∧ w.heap[b.1]? = some (.cells c o.elem fz) ∧ (∀ i, i < c.size → ¬ (fz.1 ≤ i ∧ i < fz.2)) ∧ 0 < o.esz ∧ cs.length = n * o.esz ∧ n ≤ b.2 ∧ c.size = b.2 * o.esz ∧ b.2 ≤ maxLen ∧
    ∀ (i : Nat) (p : PV), cs[i]? = some p → ∃ v : Value, p = PV.v v ∧ v.oneCell' = true ∧ c[i]? = some v
theorem RowAt.mono {W0 : Base} {w w' : World} {o : ARoot} {b : Nat × Nat} {e : SX} (h : RowAt W0 w o b e) (hw : w'.heap[b.1]? = w.heap[b.1]?) : RowAt W0 w' o b e := by
  obtain ⟨n, cs, c, fz, h1, h2, h3⟩ := h
  exact ⟨n, cs, c, fz, h1, hw.trans h2, h3⟩

/-- A block of the world is a version of the root. -/
def Blk (m : Map) (w : World) (o : ARoot) (b : Nat × Nat) (n : Nat) : Prop :=
  ∃ c fz, w.heap[b.1]? = some (.cells c o.elem fz) ∧ (∀ i, i < c.size → ¬ (fz.1 ≤ i ∧ i < fz.2)) ∧ n ≤ o.cells.length ∧ n ≤ c.size ∧
    (∀ i x, i < n → o.cells[i]? = some x → ∃ v, x.den m = some v ∧ c[i]? = some v) ∧ (cond o.opn (c.size = b.2 * o.esz ∧ b.2 ≤ 9223372036854775807) (c.size = n))

abbrev Heap := Nat → Option ARoot

/-- The memory by names says what is so of the world, at those roots; what lay there in the world W0 lies there still, below them. -/
structure Rel (W0 : Base) (A : Nat → Prop) (m : Map) (g : Heap) (w : World) : Prop where
  blk : ∀ r o, A r → g r = some o → ∀ v n, (v, n) ∈ o.vers → ∃ b, m r v = some b ∧ Blk m w o b n
  inj : ∀ r r' o o' v n v' n' b b', A r → A r' → g r = some o → g r' = some o' → (v, n) ∈ o.vers → (v', n') ∈ o'.vers → m r v = some b → m r' v' = some b' → b.1 = b'.1 → r = r'
  top : ∀ r o v n rest, A r → g r = some o → o.vers = (v, n) :: rest → ∀ v', v < v' → m r v' = none
  size0 : W0.heap.size ≤ w.heap.size
  amb : ∀ k, k < W0.heap.size → ¬ W0.mine k → w.heap[k]? = W0.heap[k]?
  abv : ∀ r o v n b, A r → g r = some o → (v, n) ∈ o.vers → m r v = some b → (o.lent = false → W0.heap.size ≤ b.1) ∧ (o.lent = true → W0.mine b.1)
  dat : ∀ r o e, A r → g r = some o → o.dat = some e → ∃ v fp, m.d r = some (v, fp) ∧ v.oneCell' = true ∧ (∀ k, fp k → k < w.heap.size) ∧ ∀ w2 : World, (∀ k, fp k → w2.heap[k]? = w.heap[k]?) → W0.know e w2 v
  disj : ∀ r o e v fp r' o' u n b, A r → A r' → g r = some o → o.dat = some e → m.d r = some (v, fp) → g r' = some o' → (u, n) ∈ o'.vers → m r' u = some b → ¬ fp b.1
  sv : ∀ e, m.s e = W0.sv e
  same : w.os = W0.w.os ∧ w.tape = W0.w.tape ∧ w.output = W0.w.output
  fpb : ∀ r o e v fp, A r → g r = some o → o.dat = some e → m.d r = some (v, fp) → o.ro = true → ∀ k, fp k → W0.fp k ∨ W0.heap.size ≤ k
  row : ∀ r o e v n b, A r → g r = some o → o.sym = some e → (v, n) ∈ o.vers → m r v = some b → RowAt W0 w o b e

/-- Such names as may be given are given to nothing yet. -/
def Fresh (A : Nat → Prop) (m : Map) (next : Nat) : Prop := ∀ r, A r → next ≤ r → (∀ v, m r v = none) ∧ m.d r = none

/-- From a world to a later one: of the roots Tc alone something may have turned. -/
structure Step (W0 : Base) (A Tc : Nat → Prop) (m : Map) (g : Heap) (w : World) (m' : Map) (g' : Heap) (w' : World) : Prop where
  ext : m.Le m'
  rel : Rel W0 A m' g' w'
  mkeep : ∀ r, ¬ Tc r → ∀ v, m' r v = m r v
  dkeep : ∀ r, ¬ Tc r → m'.d r = m.d r
  gk : ∀ r, ¬ Tc r → g' r = g r
  os : w'.os = w.os
  tape : w'.tape = w.tape
  output : w'.output = w.output
  size : w.heap.size ≤ w'.heap.size
  keep : ∀ k, k < w.heap.size → (∀ r o v n b, Tc r → g r = some o → (v, n) ∈ o.vers → m r v = some b → b.1 ≠ k) → w'.heap[k]? = w.heap[k]?
  own : ∀ r o' v n b, Tc r → g' r = some o' → (v, n) ∈ o'.vers → m' r v = some b → b.1 < w.heap.size → ∃ o v0 n0 b0, g r = some o ∧ (v0, n0) ∈ o.vers ∧ m r v0 = some b0 ∧ b0.1 = b.1
  dfp : ∀ r o' R v fp, A r → Tc r → g' r = some o' → o'.dat = some R → m'.d r = some (v, fp) → ∀ k, fp k → k < w.heap.size → ∃ r2 o2 R2 v2 fp2, A r2 ∧ g r2 = some o2 ∧ o2.dat = some R2 ∧ m.d r2 = some (v2, fp2) ∧ fp2 k

theorem Step.refl {A Tc : Nat → Prop} {m : Map} {g : Heap} {w : World} (h : Rel W0 A m g w) : Step W0 A Tc m g w m g w :=
  ⟨Map.Le.refl m, h, fun _ _ _ => rfl, fun _ _ => rfl, fun _ _ => rfl, rfl, rfl, rfl, Nat.le_refl _, fun _ _ _ => rfl, fun r o v n b _ ho hv hb _ => ⟨o, v, n, b, ho, hv, hb, rfl⟩, fun r o R v fp ha _ ho hd hm k hk _ => ⟨r, o, R, v, fp, ha, ho, hd, hm, hk⟩⟩

theorem Rel.lt {A : Nat → Prop} {m : Map} {g : Heap} {w : World} (h : Rel W0 A m g w) {r : Nat} {o : ARoot} {v n : Nat} {b : Nat × Nat} (ha : A r) (ho : g r = some o) (hv : (v, n) ∈ o.vers) (hb : m r v = some b) : b.1 < w.heap.size := by
  obtain ⟨b', hb', c, fz, hc, _⟩ := h.blk r o ha ho v n hv
  rw [hb] at hb'
  cases hb'
  exact (Array.getElem?_eq_some_iff.1 hc).1

theorem Step.trans {A T1 T2 : Nat → Prop} {m m1 m2 : Map} {g g1 g2 : Heap} {w w1 w2 : World} (h : Step W0 A T1 m g w m1 g1 w1) (k : Step W0 A T2 m1 g1 w1 m2 g2 w2) :
    Step W0 A (fun r => T1 r ∨ T2 r) m g w m2 g2 w2 where
  ext := h.ext.trans k.ext
  rel := k.rel
  mkeep := fun r hr v => (k.mkeep r (fun x => hr (.inr x)) v).trans (h.mkeep r (fun x => hr (.inl x)) v)
  dkeep := fun r hr => (k.dkeep r (fun x => hr (.inr x))).trans (h.dkeep r (fun x => hr (.inl x)))
  dfp := by
    intro r o' R v fp ha ht ho hd hm q hq hlt
    by_cases h2t : T2 r
    · obtain ⟨r2, o2, R2, v2, fp2, ha2, ho2, hd2, hm2, hq2⟩ := k.dfp r o' R v fp ha h2t ho hd hm q hq (Nat.lt_of_lt_of_le hlt h.size)
      by_cases h1t : T1 r2
      · exact h.dfp r2 o2 R2 v2 fp2 ha2 h1t ho2 hd2 hm2 q hq2 hlt
      · rw [h.gk r2 h1t] at ho2
        rw [h.dkeep r2 h1t] at hm2
        exact ⟨r2, o2, R2, v2, fp2, ha2, ho2, hd2, hm2, hq2⟩
    · rw [k.gk r h2t] at ho
      rw [k.dkeep r h2t] at hm
      exact h.dfp r o' R v fp ha (ht.resolve_right h2t) ho hd hm q hq hlt
  gk := fun r hr => (k.gk r (fun x => hr (.inr x))).trans (h.gk r (fun x => hr (.inl x)))
  os := k.os.trans h.os
  tape := k.tape.trans h.tape
  output := k.output.trans h.output
  size := Nat.le_trans h.size k.size
  keep := by
    intro i hi hno
    have h1 := h.keep i hi (fun r o v n b ht => hno r o v n b (.inl ht))
    rw [← h1]
    refine k.keep i (Nat.lt_of_lt_of_le hi h.size) ?_
    intro r o v n b ht ho hv hb he
    by_cases h1t : T1 r
    · obtain ⟨o0, v0, n0, b0, ho0, hv0, hb0, he0⟩ := h.own r o v n b h1t ho hv hb (he ▸ hi)
      exact hno r o0 v0 n0 b0 (.inl h1t) ho0 hv0 hb0 (he0.trans he)
    · rw [h.gk r h1t] at ho
      rw [h.mkeep r h1t] at hb
      exact hno r o v n b (.inr ht) ho hv hb he
  own := by
    intro r o' v n b ht ho hv hb hlt
    by_cases h2t : T2 r
    · obtain ⟨o1, v1, n1, b1, ho1, hv1, hb1, he1⟩ := k.own r o' v n b h2t ho hv hb (Nat.lt_of_lt_of_le hlt h.size)
      by_cases h1t : T1 r
      · obtain ⟨o0, v0, n0, b0, ho0, hv0, hb0, he0⟩ := h.own r o1 v1 n1 b1 h1t ho1 hv1 hb1 (he1 ▸ hlt)
        exact ⟨o0, v0, n0, b0, ho0, hv0, hb0, he0.trans he1⟩
      · rw [h.gk r h1t] at ho1
        rw [h.mkeep r h1t] at hb1
        exact ⟨o1, v1, n1, b1, ho1, hv1, hb1, he1⟩
    · have h1t : T1 r := ht.resolve_right h2t
      rw [k.gk r h2t] at ho
      rw [k.mkeep r h2t] at hb
      exact h.own r o' v n b h1t ho hv hb hlt

theorem Step.more {A T1 T2 : Nat → Prop} {m m1 : Map} {g g1 : Heap} {w w1 : World} (h : Step W0 A T1 m g w m1 g1 w1) (hA : ∀ r, T1 r → T2 r) : Step W0 A T2 m g w m1 g1 w1 where
  ext := h.ext
  rel := h.rel
  mkeep := fun r hr => h.mkeep r (fun x => hr (hA r x))
  dkeep := fun r hr => h.dkeep r (fun x => hr (hA r x))
  dfp := by
    intro r o' R v fp ha ht ho hd hm q hq hlt
    by_cases h1 : T1 r
    · exact h.dfp r o' R v fp ha h1 ho hd hm q hq hlt
    · rw [h.gk r h1] at ho
      rw [h.dkeep r h1] at hm
      exact ⟨r, o', R, v, fp, ha, ho, hd, hm, hq⟩
  gk := fun r hr => h.gk r (fun x => hr (hA r x))
  os := h.os
  tape := h.tape
  output := h.output
  size := h.size
  keep := fun k hk hno => h.keep k hk (fun r o v n b ht => hno r o v n b (hA r ht))
  own := by
    intro r o' v n b ht ho hv hb hlt
    by_cases h1 : T1 r
    · exact h.own r o' v n b h1 ho hv hb hlt
    · rw [h.gk r h1] at ho
      rw [h.mkeep r h1] at hb
      exact ⟨o', v, n, b, ho, hv, hb, rfl⟩

theorem Blk.mono {m m' : Map} {w w' : World} {o : ARoot} {b : Nat × Nat} {n : Nat} (h : Blk m w o b n) (hm : m.Le m') (hw : w'.heap[b.1]? = w.heap[b.1]?) : Blk m' w' o b n := by
  obtain ⟨c, fz, h1, h2, h3, h4, h5, h6⟩ := h
  refine ⟨c, fz, hw.trans h1, h2, h3, h4, fun i x hi hx => ?_, h6⟩
  obtain ⟨v, hv, hc⟩ := h5 i x hi hx
  exact ⟨v, AV.den_mono hm x hv, hc⟩

def Heap.upd (g : Heap) (r : Nat) (o : ARoot) : Heap := fun k => if k = r then some o else g k

/-- One root is put anew. -/
theorem Step.put {A : Nat → Prop} {m m' : Map} {g : Heap} {w w' : World} {r : Nat} {o' : ARoot} (h : Rel W0 A m g w) (ha : A r)
    (hm : m.Le m') (hmk : ∀ k, k ≠ r → ∀ v, m' k v = m k v) (hmd : m'.d = m.d) (hms : m'.s = m.s) (hro : ∀ o v n b, g r = some o → (v, n) ∈ o.vers → m r v = some b → o.ro = false) (hdat : o'.dat = none) (hrow : ∀ e v n b, o'.sym = some e → (v, n) ∈ o'.vers → m' r v = some b → RowAt W0 w' o' b e) (hlent : ∀ o v n b, g r = some o → (v, n) ∈ o.vers → m r v = some b → o'.lent = o.lent) (hlnew : o'.lent = true → ∀ v n b, (v, n) ∈ o'.vers → m' r v = some b → b.1 < w.heap.size) (hos : w'.os = w.os) (htape : w'.tape = w.tape) (hout : w'.output = w.output) (hsize : w.heap.size ≤ w'.heap.size)
    (hkeep : ∀ k, k < w.heap.size → (∀ o v n b, g r = some o → (v, n) ∈ o.vers → m r v = some b → b.1 ≠ k) → w'.heap[k]? = w.heap[k]?)
    (hblk : ∀ v n, (v, n) ∈ o'.vers → ∃ b, m' r v = some b ∧ Blk m' w' o' b n)
    (htop : ∀ v n rest, o'.vers = (v, n) :: rest → ∀ v', v < v' → m' r v' = none)
    (hown : ∀ v n b, (v, n) ∈ o'.vers → m' r v = some b → b.1 < w.heap.size → ∃ o v0 n0 b0, g r = some o ∧ (v0, n0) ∈ o.vers ∧ m r v0 = some b0 ∧ b0.1 = b.1) :
    Step W0 A (fun k => k = r) m g w m' (g.upd r o') w' := by
  have hne : ∀ k o v n b, A k → k ≠ r → g k = some o → (v, n) ∈ o.vers → m k v = some b → ∀ v' n' b', (v', n') ∈ o'.vers → m' r v' = some b' → b.1 ≠ b'.1 := by
    intro k o v n b hk hkr ho hv hb v' n' b' hv' hb' he
    obtain ⟨o0, v0, n0, b0, ho0, hv0, hb0, he0⟩ := hown v' n' b' hv' hb' (he ▸ h.lt hk ho hv hb)
    exact hkr (h.inj k r o o0 v n v0 n0 b b0 hk ha ho ho0 hv hv0 hb hb0 (he.trans he0.symm))
  have hndat : ∀ k o R, (g.upd r o') k = some o → o.dat = some R → k ≠ r ∧ g k = some o := by
    intro k o R ho hd
    by_cases hkr : k = r
    · subst hkr
      simp [Heap.upd] at ho
      subst ho
      rw [hdat] at hd; cases hd
    · simp [Heap.upd, hkr] at ho
      exact ⟨hkr, ho⟩
  refine ⟨hm, ⟨?_, ?_, ?_, Nat.le_trans h.size0 hsize, ?_, ?_, ?_, ?_, fun e => by rw [hms]; exact h.sv e, ⟨hos.trans h.same.1, htape.trans h.same.2.1, hout.trans h.same.2.2⟩, fun k o R v fp hk ho hd hmv => by
    obtain ⟨hkr, ho⟩ := hndat k o R ho hd
    rw [hmd] at hmv
    exact h.fpb k o R v fp hk ho hd hmv, ?_⟩, fun k hk => hmk k hk, fun k hk => by rw [hmd], fun k hk => by simp [Heap.upd, hk], hos, htape, hout, hsize, ?_, ?_, fun k o R v fp ha' hk ho hd => absurd hk (hndat k o R ho hd).1⟩
  · intro k o hk ho v n hv
    by_cases hkr : k = r
    · subst hkr
      simp [Heap.upd] at ho
      subst ho
      exact hblk v n hv
    · simp [Heap.upd, hkr] at ho
      obtain ⟨b, hb, hB⟩ := h.blk k o hk ho v n hv
      refine ⟨b, (hmk k hkr v).trans hb, hB.mono hm (hkeep b.1 (h.lt hk ho hv hb) ?_)⟩
      intro o1 v1 n1 b1 ho1 hv1 hb1 he
      exact hkr (h.inj k r o o1 v n v1 n1 b b1 hk ha ho ho1 hv hv1 hb hb1 he.symm)
  · intro k k' o1 o2 v n v' n' b b' hk hk' ho ho' hv hv' hb hb' he
    by_cases hkr : k = r
    · by_cases hkr' : k' = r
      · rw [hkr, hkr']
      · exfalso
        subst hkr
        simp [Heap.upd] at ho
        simp [Heap.upd, hkr'] at ho'
        subst ho
        rw [hmk k' hkr'] at hb'
        exact hne k' o2 v' n' b' hk' hkr' ho' hv' hb' v n b hv hb he.symm
    · by_cases hkr' : k' = r
      · exfalso
        subst hkr'
        simp [Heap.upd] at ho'
        simp [Heap.upd, hkr] at ho
        subst ho'
        rw [hmk k hkr] at hb
        exact hne k o1 v n b hk hkr ho hv hb v' n' b' hv' hb' he
      · simp [Heap.upd, hkr] at ho
        simp [Heap.upd, hkr'] at ho'
        rw [hmk k hkr] at hb
        rw [hmk k' hkr'] at hb'
        exact h.inj k k' o1 o2 v n v' n' b b' hk hk' ho ho' hv hv' hb hb' he
  · intro k o v n rest hk ho hv v' hlt
    by_cases hkr : k = r
    · subst hkr
      simp [Heap.upd] at ho
      subst ho
      exact htop v n rest hv v' hlt
    · simp [Heap.upd, hkr] at ho
      rw [hmk k hkr]
      exact h.top k o v n rest hk ho hv v' hlt
  · intro k hk hnm
    rw [hkeep k (Nat.lt_of_lt_of_le hk h.size0) (fun o v n b ho hv hb he => by
      obtain ⟨h1, h2⟩ := h.abv r o v n b ha ho hv hb
      cases hl : o.lent with
      | false => have := h1 hl; omega
      | true => rw [he] at h2; exact hnm (h2 hl))]
    exact h.amb k hk hnm
  · intro k o v n b hk ho hv hb
    by_cases hkr : k = r
    · subst hkr
      simp [Heap.upd] at ho
      subst ho
      rcases Nat.lt_or_ge b.1 w.heap.size with hlt | hge
      · obtain ⟨o0, v0, n0, b0, ho0, hv0, hb0, he0⟩ := hown v n b hv hb hlt
        rw [← he0, hlent o0 v0 n0 b0 ho0 hv0 hb0]
        exact h.abv k o0 v0 n0 b0 ha ho0 hv0 hb0
      · exact ⟨fun _ => Nat.le_trans h.size0 hge, fun hl => by have := hlnew hl v n b hv hb; omega⟩
    · simp [Heap.upd, hkr] at ho
      rw [hmk k hkr] at hb
      exact h.abv k o v n b hk ho hv hb
  · intro k o R hk ho hd
    obtain ⟨hkr, ho⟩ := hndat k o R ho hd
    obtain ⟨v, fp, hmv, h1, hfp, hR2⟩ := h.dat k o R hk ho hd
    refine ⟨v, fp, by rw [hmd]; exact hmv, h1, fun q hq => Nat.lt_of_lt_of_le (hfp q hq) hsize, fun w2 hw2 => hR2 w2 (fun q hq => (hw2 q hq).trans (hkeep q (hfp q hq) (fun o1 v1 n1 b1 ho1 hv1 hb1 he => ?_)))⟩
    exact h.disj k o R v fp r o1 v1 n1 b1 hk ha ho hd hmv ho1 hv1 hb1 (he ▸ hq)
  · intro k o R v fp k' o1 u n b hk hk' ho hd hmv ho1 hu hb hfpb
    obtain ⟨hkr, hog⟩ := hndat k o R ho hd
    rw [hmd] at hmv
    obtain ⟨v', fp', hmv', h1, hfp, hR2⟩ := h.dat k o R hk hog hd
    rw [hmv] at hmv'
    cases hmv'
    by_cases hkr' : k' = r
    · subst hkr'
      simp [Heap.upd] at ho1
      subst ho1
      obtain ⟨o0, v0, n0, b0, ho0, hv0, hb0, he0⟩ := hown u n b hu hb (hfp _ hfpb)
      exact h.disj k o R v fp k' o0 v0 n0 b0 hk ha hog hd hmv ho0 hv0 hb0 (he0 ▸ hfpb)
    · simp [Heap.upd, hkr'] at ho1
      rw [hmk k' hkr'] at hb
      exact h.disj k o R v fp k' o1 u n b hk hk' hog hd hmv ho1 hu hb hfpb
  · intro k o e v n b hk ho hs hv hb
    by_cases hkr : k = r
    · subst hkr
      simp [Heap.upd] at ho
      subst ho
      exact hrow e v n b hs hv hb
    · simp [Heap.upd, hkr] at ho
      rw [hmk k hkr] at hb
      refine (h.row k o e v n b hk ho hs hv hb).mono (hkeep b.1 (h.lt hk ho hv hb) ?_)
      intro o1 v1 n1 b1 ho1 hv1 hb1 he
      exact hkr (h.inj k r o o1 v n v1 n1 b b1 hk ha ho ho1 hv hv1 hb hb1 he.symm)
  · intro k hk hno
    exact hkeep k hk (fun o v n b => hno r o v n b rfl)
  · intro k o v n b hk ho hv hb hlt
    subst hk
    simp [Heap.upd] at ho
    subst ho
    exact hown v n b hv hb hlt

theorem Rel.sub {A A' : Nat → Prop} {m : Map} {g : Heap} {w : World} (h : Rel W0 A m g w) (hA : ∀ r, A' r → A r) : Rel W0 A' m g w :=
  ⟨fun r o ha => h.blk r o (hA r ha), fun r r' o o' v n v' n' b b' ha ha' => h.inj r r' o o' v n v' n' b b' (hA r ha) (hA r' ha'), fun r o v n rest ha => h.top r o v n rest (hA r ha), h.size0, h.amb, fun r o v n b ha => h.abv r o v n b (hA r ha), fun r o R ha => h.dat r o R (hA r ha), fun r o R v fp r' o' u n b ha ha' => h.disj r o R v fp r' o' u n b (hA r ha) (hA r' ha'), h.sv, h.same, fun r o R v fp ha => h.fpb r o R v fp (hA r ha), fun r o e v n b ha => h.row r o e v n b (hA r ha)⟩

end Go.Proofs.Ytfcdbknmajfkaaa.eng
