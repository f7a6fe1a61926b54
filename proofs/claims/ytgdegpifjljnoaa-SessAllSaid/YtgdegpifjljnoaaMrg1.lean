/- Texts joined: Eng1, Eng2, Eng3, Eng4, Eng5, Eng6, Eng7, Eng8, Eng8a, Eng8b. -/
import Derived.WalkKit
import Derived.ProofKit
import Derived.Calls
import Derived.Defers
import Derived.Recover
import Derived.Laws.Cells
import Derived.Laws.IdiomCopy
import Derived.Laws.Append
import Derived.Laws.Sem
import Derived.Test.YtgdegpifjljnoaaChecked
import Derived.Test.YtgdegpifjljnoaaAfter
import Derived.Laws.IdiomStrings
import Derived.Laws.CopyRow
import Derived.Deep.AppendSrc
import Derived.Deep.Upon
import Derived.Lib.AppendZerosOnto
import Derived.Great.BuildSlice
import Derived.Laws.MakeOwn
import Derived.Laws.Small
import Derived.Laws.StructEq
import Derived.ChangeKeysEq
set_option linter.unusedVariables false
set_option linter.unusedSimpArgs false
section
/- An engine: values and memory by names instead of addresses; what a memory by names says of a world. -/
namespace Go.Proofs.Ytgdegpifjljnoaa.eng
open Go

inductive PV where
 | v (x : Value)
 | row (n : Nat) (cs : List PV)
 deriving Inhabited
mutual
def Reads (w : World) : PV -> Value -> Prop
 | .v x, u => u = x /\ x.oneCell' = true
 | .row n cs, u => ∃ a cap, u = .slice a n cap /\ n <= cap /\ cap <= maxLen /\ (cs = [] \/ ∃ b off, a = some ⟨b, off, none⟩ /\ Za8 w b cs off)
def Za8 (w : World) (b : Nat) : List PV -> Nat -> Prop
 | [], _ => True
 | c :: cs, off => (∃ u, w.cell? ⟨b, off, none⟩ = some u /\ Reads w c u) /\ Za8 w b cs (off + 1)
end
theorem Reads.one {w : World} {p : PV} {u : Value} (h : Reads w p u) : u.oneCell' = true := by
 cases p with
 | v x => simp only [Reads] at h; rw [h.1]; exact h.2
 | row n cs => simp only [Reads] at h; obtain ⟨a, cap, rfl, _⟩ := h; rfl
theorem Za8.at {w : World} {b : Nat} : ∀ {cs : List PV} {off i : Nat} {p : PV}, Za8 w b cs off -> cs[i]? = some p -> ∃ u, w.cell? ⟨b, off + i, none⟩ = some u /\ Reads w p u
 | [], off, i, p, _, hi => by simp at hi
 | c :: cs, off, i, p, h, hi => by
  simp only [Za8] at h
  cases i with
  | zero => simp at hi; subst hi; simpa using h.1
  | succ i =>
   have := Za8.at h.2 (by simpa using hi)
   rwa [show off + 1 + i = off + (i + 1) by omega] at this
theorem Za8.of {w : World} {b : Nat} : ∀ {cs : List PV} {off : Nat}, (∀ (i : Nat) (p : PV), cs[i]? = some p -> ∃ u, w.cell? ⟨b, off + i, none⟩ = some u /\ Reads w p u) -> Za8 w b cs off
 | [], off, _ => by simp [Za8]
 | c :: cs, off, h => by
  simp only [Za8]
  exact ⟨by simpa using h 0 c rfl, Za8.of fun i p hi => by
   have := h (i + 1) p (by simpa using hi)
   rwa [show off + (i + 1) = off + 1 + i by omega] at this⟩

inductive ROp where
 | rep (z : List Value)
 | cat
 | upd (sz sub : Nat)
 | ofStr
 | toStr
 | copy (sz : Nat)
 | min2
 | max2
 | eqB
 | neB
 | mget (z : Value)
 | mhas
 | mput
 | mdel
 | part (j : Nat)
 | pack
 | iteB
 | notB
 | allB
 | eqI
 | eqS
 deriving Inhabited
inductive SX where
 | var (i : Nat)
 | con (v : Value)
 | op (o : Op) (ty : TypeId) (ts : List Nat) (es : List SX)
 | bin (o : BinOp) (x y : SX)
 | conv (k : IntKind) (x : SX)
 | slen (x : SX)
 | sidx (x i : SX)
 | fn (k : Nat) (es : List SX) (j : Nat)
 | cell (e i : SX) (sz sub : Nat)
 | len (e : SX)
 | lit (n : Nat) (es : List SX)
 | agg (es : List SX)
 | sub (e lo hi : SX) (sz : Nat)
 | rop (o : ROp) (es : List SX)
 deriving Inhabited

def Zc6 (P : Program) : Sem Next -> Option (Value ⊕ Value)
 | .pure (.value v) => some (.inl v)
 | .program k => Zc6 P (k P)
 | .mark _ k => Zc6 P k
 | .halt (.panic v) => some (.inr v)
 | _ => none
def lookT : List Nat -> List Value -> Nat -> Value
 | t :: ts, v :: vs, k => cond (Nat.beq t k) v (lookT ts vs k)
 | _, _, _ => undef
def envR (ts : List Nat) (vs : List Value) : Operand -> Value
 | .tmp t => lookT ts vs t
 | .const v => v
 | .func f => .func (.func f) #[] #[]
 | .global _ => undef
def Op.isSelect : Op -> Bool | .select .. => true | _ => false
def opVal (P : Program) (o : Op) (ty : TypeId) (ts : List Nat) (vs : List Value) : Option Value :=
 cond (Op.isSelect o) none (match Zc6 P (execOp (envR ts vs) { dst := none, op := o, type := ty, pos := "", after := #[], guard := none }) with
  | some (.inl v) => some v
  | _ => none)
def PV.plain : PV -> Option Value | .v x => some x | _ => none
def Zbz : List PV -> Option (List Value)
 | [] => some []
 | p :: ps => p.plain.bind fun x => (Zbz ps).map (x :: ·)
def PV.int : PV -> Option Int | .v (.int _ z) => some z | _ => none
def Zbm (p q : PV) (sz sub : Nat) : Option PV := match p, q with
 | .row n cs, .v (.int _ z) => cond (decide (0 <= z) && decide (z < (n : Int))) (cs[z.toNat * sz + sub]?) none
 | _, _ => none
def lenPV : PV -> Option PV | .row n _ => some (.v (.int .i64 n)) | _ => none
def subPV (p q r : PV) (sz : Nat) : Option PV := match p, q, r with
 | .row n cs, .v (.int _ a), .v (.int _ b) => cond (decide (0 <= a) && decide (a <= b) && decide (b <= (n : Int))) (some (.row (b.toNat - a.toNat) ((cs.drop (a.toNat * sz)).take ((b.toNat - a.toNat) * sz)))) none
 | _, _, _ => none
def binPV (o : BinOp) : PV -> PV -> Option PV
 | .v (.int k a), .v (.int k' b) => cond (decide (k = k')) (match o with
  | .add => some (.v (.int k (k.wrap (a + b))))
  | .sub => some (.v (.int k (k.wrap (a - b))))
  | .mul => some (.v (.int k (k.wrap (a * b))))
  | .quo => cond (decide (b = 0)) none (some (.v (.int k (k.wrap (a.tdiv b)))))
  | .rem => cond (decide (b = 0)) none (some (.v (.int k (a.tmod b))))
  | .eql => some (.v (.bool (a == b)))
  | .neq => some (.v (.bool (a != b)))
  | .lss => some (.v (.bool (a < b)))
  | .leq => some (.v (.bool (a <= b)))
  | .gtr => some (.v (.bool (a > b)))
  | .geq => some (.v (.bool (a ≥ b)))
  | _ => none) none
 | .v (.string a), .v (.string b) => match o with
  | .add => cond (decide (((a.size + b.size : Nat) : Int) > IntKind.i64.max)) none (some (.v (.string (a ++ b))))
  | .eql => some (.v (.bool (a.toList == b.toList)))
  | .neq => some (.v (.bool (!(a.toList == b.toList))))
  | _ => none
 | _, _ => none
def Zaj (k : IntKind) : PV -> Option PV | .v (.int _ n) => some (.v (.int k (k.wrap n))) | _ => none
def Zlf : PV -> Option PV | .v (.string s) => some (.v (.int .i64 s.size)) | _ => none
def Zoh : PV -> PV -> Option PV
 | .v (.string s), .v (.int _ z) => (if 0 <= z then s[z.toNat]? else none).map fun b => .v (.int .u8 b.toNat)
 | _, _ => none
def bytePV : PV -> Option UInt8 | .v (.int .u8 z) => cond (decide (0 <= z) && decide (z < 256)) (some (UInt8.ofNat z.toNat)) none | _ => none
def Zjt : List PV -> Option (List UInt8)
 | [] => some []
 | p :: ps => (bytePV p).bind fun b => (Zjt ps).map (b :: ·)
def putPV (cs : List PV) (off : Nat) (ps : List PV) : List PV := cs.take off ++ ps ++ cs.drop (off + ps.length)
def mFind : List PV -> ByteArray -> Nat -> Option (Nat × PV)
 | .v (.string s) :: p :: rest, k, i => if s = k then some (i, p) else mFind rest k (i + 1)
 | _, _, _ => none
def Zms : List PV -> Int -> Nat -> Option (Nat × PV)
 | .v (.int .i64 s) :: p :: rest, k, i => if s = k then some (i, p) else Zms rest k (i + 1)
 | _, _, _ => none
def allPV : List PV -> Option Bool
 | [] => some true
 | .v (.bool b) :: ps => (allPV ps).map (b && ·)
 | _ => none
def ropPV (o : ROp) (ps : List PV) : Option PV := match o, ps with
 | .rep z, [.v (.int _ n)] => cond (decide (0 <= n)) (some (.row n.toNat (List.replicate n.toNat (z.map PV.v)).flatten)) none
 | .cat, [.row k cs, .row n ds] => some (.row (k + n) (cs ++ ds))
 | .upd sz sub, .row k cs :: .v (.int _ i) :: ps => cond (decide (0 <= i) && decide (i < (k : Int)) && decide (sub + ps.length <= sz)) (some (.row k (putPV cs (i.toNat * sz + sub) ps))) none
 | .ofStr, [.v (.string s)] => some (.row s.size (s.data.toList.map fun b => .v (.int .u8 b.toNat)))
 | .toStr, [.row n cs] => cond (Nat.beq cs.length n) ((Zjt cs).map fun l => .v (.string ⟨l.toArray⟩)) none
 | .copy sz, [.row k cs, .v (.int _ lo), .v (.int _ len), .row n ds] => cond (decide (0 <= lo) && decide (0 <= len) && decide (lo + len <= (k : Int)) && Nat.beq ds.length (n * sz)) (some (.row k (putPV cs (lo.toNat * sz) (ds.take (Nat.min n len.toNat * sz))))) none
 | .min2, [.v (.int k a), .v (.int _ b)] => some (.v (.int k (min a b)))
 | .max2, [.v (.int k a), .v (.int _ b)] => some (.v (.int k (max a b)))
 | .eqB, [.v (.bool a), .v (.bool b)] => some (.v (.bool (a == b)))
 | .neB, [.v (.bool a), .v (.bool b)] => some (.v (.bool (a != b)))
 | .mget z, [.row _ cs, .v (.string k)] => some (match mFind cs k 0 with | some (_, p) => p | none => .v z)
 | .mhas, [.row _ cs, .v (.string k)] => some (.v (.bool (mFind cs k 0).isSome))
 | .mput, [.row n cs, .v (.string k), .v x] => some (match mFind cs k 0 with | some (i, _) => .row n (cs.set (2 * i + 1) (.v x)) | none => .row (n + 1) (cs ++ [.v (.string k), .v x]))
 | .mdel, [.row n cs, .v (.string k)] => some (match mFind cs k 0 with | some (i, _) => .row (n - 1) ((cs.eraseIdx (2 * i)).eraseIdx (2 * i)) | none => .row n cs)
 | .mget z, [.row _ cs, .v (.int .i64 k)] => some (match Zms cs k 0 with | some (_, p) => p | none => .v z)
 | .mhas, [.row _ cs, .v (.int .i64 k)] => some (.v (.bool (Zms cs k 0).isSome))
 | .mput, [.row n cs, .v (.int .i64 k), .v x] => some (match Zms cs k 0 with | some (i, _) => .row n (cs.set (2 * i + 1) (.v x)) | none => .row (n + 1) (cs ++ [.v (.int .i64 k), .v x]))
 | .mdel, [.row n cs, .v (.int .i64 k)] => some (match Zms cs k 0 with | some (i, _) => .row (n - 1) ((cs.eraseIdx (2 * i)).eraseIdx (2 * i)) | none => .row n cs)
 | .part j, [.v (.agg cs)] => (cs[j]?).map PV.v
 | .pack, [.v a, .v b] => some (.v (.agg #[a, b]))
 | .iteB, [.v (.bool c), .v (.bool a), .v (.bool b)] => some (.v (.bool (cond c a b)))
 | .notB, [.v (.bool a)] => some (.v (.bool (!a)))
 | .allB, ps => (allPV ps).map fun b => .v (.bool b)
 | .eqI, [.v (.int k a), .v (.int k' b)] => cond (decide (k = k')) (some (.v (.bool (a == b)))) none
 | .eqS, [.v (.string a), .v (.string b)] => some (.v (.bool (a.toList == b.toList)))
 | _, _ => none
abbrev Fns := Nat -> List PV -> Option (List PV)
mutual
noncomputable def SX.ev (s : Nat -> Option PV) (F : Fns) : SX -> Option PV
 | .var i => s i
 | .con v => some (.v v)
 | .op o ty ts es => (evs s F es).bind fun ps => (Zbz ps).bind fun vs => (opVal Try.prog o ty ts vs).map .v
 | .bin o x y => (x.ev s F).bind fun p => (y.ev s F).bind fun q => binPV o p q
 | .conv k x => (x.ev s F).bind (Zaj k)
 | .slen x => (x.ev s F).bind Zlf
 | .sidx x i => (x.ev s F).bind fun p => (i.ev s F).bind fun q => Zoh p q
 | .fn k es j => (evs s F es).bind fun ps => (F k ps).bind fun qs => qs[j]?
 | .cell e i sz o => (e.ev s F).bind fun p => (i.ev s F).bind fun q => Zbm p q sz o
 | .len e => (e.ev s F).bind lenPV
 | .lit n es => (evs s F es).map (.row n)
 | .agg es => (evs s F es).bind fun ps => (Zbz ps).map fun vs => .v (.agg vs.toArray)
 | .sub e lo hi sz => (e.ev s F).bind fun p => (lo.ev s F).bind fun q => (hi.ev s F).bind fun r => subPV p q r sz
 | .rop o es => (evs s F es).bind (ropPV o)
noncomputable def evs (s : Nat -> Option PV) (F : Fns) : List SX -> Option (List PV)
 | [] => some []
 | e :: es => (e.ev s F).bind fun p => (evs s F es).map (p :: ·)
end

structure Base where
 w : World
 s : Nat -> Option PV
 F : Fns
 fp : Nat -> Prop
 mine : Nat -> Prop
def Base.heap (B : Base) := B.w.heap
noncomputable def Base.ev (B : Base) (e : SX) : Option PV := e.ev B.s B.F
noncomputable def Base.sv (B : Base) (e : SX) : Option Value := (B.ev e).bind PV.plain
def Base.know (B : Base) (e : SX) (w : World) (v : Value) : Prop := ∃ p, B.ev e = some p /\ Reads w p v

abbrev Sh := List (Option Nat)
def shLen : Sh -> Nat
 | [] => 0
 | none :: s => shLen s + 1
 | some n :: s => n + shLen s
def Zak : Sh -> List Value -> List Value
 | none :: s, u :: us => u :: Zak s us
 | some n :: s, us => .agg (us.take n).toArray :: Zak s (us.drop n)
 | _, _ => []
def Zec (s : Sh) (us : List Value) : Value := match Zak s us with | [v] => v | vs => .tuple vs.toArray
inductive CK where
 | num
 | truth
 | row
 | own (el : TypeId) (sz : Nat) (may : Bool)
 deriving Inhabited
def OwnAt (w w' : World) (el : TypeId) (sz b : Nat) (q : PV) (u : Value) : Prop :=
 w.heap.size <= b /\ b < w'.heap.size /\ ∃ (n cap : Nat) (cs : List PV) (c : Array Value) (fz : Nat × Nat), q = .row n cs /\ u = .slice (some ⟨b, 0, none⟩) n cap /\ w'.heap[b]? = some (.cells c el fz) /\ (∀ i, i < c.size -> ¬ (fz.1 <= i /\ i < fz.2)) /\ 0 < sz /\ cs.length = n * sz /\ n <= cap /\ c.size = cap * sz /\ cap <= maxLen ∧
  ∀ (i : Nat) (p : PV), cs[i]? = some p -> ∃ v : Value, p = PV.v v /\ v.oneCell' = true /\ c[i]? = some v
structure Owns (w w' : World) (ks : List CK) (qs : List PV) (us : List Value) (ow : Nat -> Option Nat) : Prop where
 at' : ∀ i b, ow i = some b -> ∃ el sz may q u, ks[i]? = some (.own el sz may) /\ qs[i]? = some q /\ us[i]? = some u /\ OwnAt w w' el sz b q u /\ (may = true -> ∃ n cs, q = .row (n + 1) cs)
 no : ∀ i el sz may, ks[i]? = some (.own el sz may) -> ow i = none -> may = true /\ us[i]? = some (.slice none 0 0) /\ qs[i]? = some (.row 0 [])
 inj : ∀ i j b, ow i = some b -> ow j = some b -> i = j
def CK.plain : CK -> Bool | .own .. => false | _ => true
theorem Zd8 {w w' : World} {ks : List CK} {qs : List PV} {us : List Value} (h : ks.all CK.plain = true) : Owns w w' ks qs us (fun _ => none) :=
 ⟨fun _ _ h => (by cases h), fun i el sz may hk => (by have := List.all_eq_true.1 h _ (List.mem_of_getElem? hk); simp [CK.plain] at this), fun _ _ _ h => (by cases h)⟩
structure FnE where
 k : Nat
 ins : Sh
 leaks : List Bool
 outs : Sh
 kinds : List CK
 deriving Inhabited
def ToldF (f : FuncId) (E : FnE) (spec : List PV -> Option (List PV)) : Prop :=
 ∀ (w : World) (FP : Nat -> Prop) (us : List Value) (ps qs : List PV), spec ps = some qs -> us.length = ps.length -> ps.length = shLen E.ins -> (∀ k, FP k -> k < w.heap.size) →
  (∀ (i : Nat) (p : PV) (u : Value), ps[i]? = some p -> us[i]? = some u -> Reads w p u /\ (E.leaks.getD i false = true -> ∀ w2 : World, (∀ k, FP k -> w2.heap[k]? = w.heap[k]?) -> Reads w2 p u)) →
  Calls Try.prog f (Zak E.ins us).toArray w fun e w' => ∃ (us' : List Value) (ow : Nat -> Option Nat), us'.length = qs.length /\ qs.length = shLen E.outs /\ Owns w w' E.kinds qs us' ow ∧
   (∀ (i : Nat) (q : PV) (u : Value), qs[i]? = some q -> us'[i]? = some u -> ∀ w2 : World, (∀ k, FP k \/ (w.heap.size <= k /\ k < w'.heap.size) -> (∀ j, j ≠ i -> ow j ≠ some k) -> w2.heap[k]? = w'.heap[k]?) -> Reads w2 q u) ∧
   e = .returned (Zec E.outs us') /\ Ex w w'

def anyV : Value := .tuple #[]
def isAny : Value -> Bool | .tuple _ => true | _ => false
def pick (v u : Value) : Value := cond (isAny v) u v
theorem pick_self (v : Value) : pick v v = v := by unfold pick; cases isAny v <;> rfl
theorem Zg3 (u : Value) : pick anyV u = u := rfl
theorem Zjl {v : Value} (h : isAny v = false) (u : Value) : pick v u = v := by unfold pick; rw [h]; rfl
def RetD (E : FnE) (FP : Nat -> Prop) (w : World) (qs : List PV) (e : Ending) (w' : World) : Prop := ∃ (us' : List Value) (ow : Nat -> Option Nat), us'.length = qs.length /\ qs.length = shLen E.outs /\ Owns w w' E.kinds qs us' ow ∧
      (∀ (i : Nat) (q : PV) (u : Value), qs[i]? = some q -> us'[i]? = some u -> ∀ w2 : World, (∀ k, FP k \/ (w.heap.size <= k /\ k < w'.heap.size) -> (∀ j, j ≠ i -> ow j ≠ some k) -> w2.heap[k]? = w'.heap[k]?) -> Reads w2 q u) ∧
      e = .returned (Zec E.outs us') /\ Ex w w'
def ToldX (f : FuncId) (E : FnE) (pans : List Value) (spec : List PV -> Option (List PV)) : Prop :=
 ∀ (w : World) (FP : Nat -> Prop) (us : List Value) (ps qs : List PV), spec ps = some qs -> us.length = ps.length -> ps.length = shLen E.ins -> (∀ k, FP k -> k < w.heap.size) →
  (∀ (i : Nat) (p : PV) (u : Value), ps[i]? = some p -> us[i]? = some u -> Reads w p u /\ (E.leaks.getD i false = true -> ∀ w2 : World, (∀ k, FP k -> w2.heap[k]? = w.heap[k]?) -> Reads w2 p u)) →
  Calls Try.prog f (Zak E.ins us).toArray w fun e w' => (∃ qs', qs = .v (.int .i64 0) :: qs' /\ RetD E FP w qs' e w') \/ (∃ (j : Nat) (v u : Value), qs = [.v (.int .i64 ((j + 1 : Nat) : Int))] /\ pans[j]? = some v /\ e = .panicked [{ v := pick v u, recovered := false }] /\ Ex w w')

structure PtrE where
 k : Nat
 elem : TypeId
 cells : Nat
 ins : Sh
 outs : Sh
 kinds : List CK
 deriving Inhabited
def ToldP (f : FuncId) (E : PtrE) (spec : List PV -> Option (List PV)) : Prop :=
 ∀ (w : World) (FP : Nat -> Prop) (b : Nat) (c : Array Value) (fz : Nat × Nat) (us : List Value) (ps qs : List PV), spec ps = some qs -> us.length = shLen E.ins -> ps.length = shLen E.ins + E.cells -> c.size = E.cells →
  w.heap[b]? = some (.cells c E.elem fz) -> (∀ i, i < c.size -> ¬ (fz.1 <= i /\ i < fz.2)) -> (∀ k, FP k -> k < w.heap.size /\ k ≠ b) →
  (∀ (i : Nat) (p : PV) (u : Value), ps[i]? = some p -> (us ++ c.toList)[i]? = some u -> ∀ w2 : World, (∀ k, FP k -> w2.heap[k]? = w.heap[k]?) -> Reads w2 p u) →
  Calls Try.prog f (.pointer (some ⟨b, 0, none⟩) :: Zak E.ins us).toArray w fun e w' => ∃ (us' : List Value) (c' : Array Value) (fz' : Nat × Nat) (ow : Nat -> Option Nat), us'.length = shLen E.outs /\ c'.size = E.cells /\ qs.length = shLen E.outs + E.cells ∧
   w'.heap[b]? = some (.cells c' E.elem fz') /\ (∀ i, i < c'.size -> ¬ (fz'.1 <= i /\ i < fz'.2)) /\ Owns w w' E.kinds qs (us' ++ c'.toList) ow ∧
   (∀ (i : Nat) (q : PV) (u : Value), qs[i]? = some q -> (us' ++ c'.toList)[i]? = some u -> ∀ w2 : World, (∀ k, FP k \/ (w.heap.size <= k /\ k < w'.heap.size) -> (∀ j, j ≠ i -> ow j ≠ some k) -> w2.heap[k]? = w'.heap[k]?) -> Reads w2 q u) ∧
   e = .returned (Zec E.outs us') /\ w'.os = w.os /\ w'.tape = w.tape /\ w'.output = w.output /\ w.heap.size <= w'.heap.size /\ ∀ k, k < w.heap.size -> k ≠ b -> w'.heap[k]? = w.heap[k]?

def TurnP (E : PtrE) (outs : Sh) (kinds : List CK) (en : List Value -> Ending) (FP : Nat -> Prop) (b : Nat) (w : World) (qs : List PV) (e : Ending) (w' : World) : Prop :=
 ∃ (us' : List Value) (c' : Array Value) (fz' : Nat × Nat) (ow : Nat -> Option Nat), us'.length = shLen outs /\ c'.size = E.cells /\ qs.length = shLen outs + E.cells ∧
   w'.heap[b]? = some (.cells c' E.elem fz') /\ (∀ i, i < c'.size -> ¬ (fz'.1 <= i /\ i < fz'.2)) /\ Owns w w' kinds qs (us' ++ c'.toList) ow ∧
   (∀ (i : Nat) (q : PV) (u : Value), qs[i]? = some q -> (us' ++ c'.toList)[i]? = some u -> ∀ w2 : World, (∀ k, FP k \/ (w.heap.size <= k /\ k < w'.heap.size) -> (∀ j, j ≠ i -> ow j ≠ some k) -> w2.heap[k]? = w'.heap[k]?) -> Reads w2 q u) ∧
   e = en us' /\ w'.os = w.os /\ w'.tape = w.tape /\ w'.output = w.output /\ w.heap.size <= w'.heap.size /\ ∀ k, k < w.heap.size -> k ≠ b -> w'.heap[k]? = w.heap[k]?
def ToldQ (f : FuncId) (E : PtrE) (pans : List Value) (spec : List PV -> Option (List PV)) : Prop :=
 ∀ (w : World) (FP : Nat -> Prop) (b : Nat) (c : Array Value) (fz : Nat × Nat) (us : List Value) (ps qs : List PV), spec ps = some qs -> us.length = shLen E.ins -> ps.length = shLen E.ins + E.cells -> c.size = E.cells →
  w.heap[b]? = some (.cells c E.elem fz) -> (∀ i, i < c.size -> ¬ (fz.1 <= i /\ i < fz.2)) -> (∀ k, FP k -> k < w.heap.size /\ k ≠ b) →
  (∀ (i : Nat) (p : PV) (u : Value), ps[i]? = some p -> (us ++ c.toList)[i]? = some u -> ∀ w2 : World, (∀ k, FP k -> w2.heap[k]? = w.heap[k]?) -> Reads w2 p u) →
  Calls Try.prog f (.pointer (some ⟨b, 0, none⟩) :: Zak E.ins us).toArray w fun e w' =>
   (∃ qs', qs = .v (.int .i64 0) :: qs' /\ TurnP E E.outs E.kinds (fun us' => .returned (Zec E.outs us')) FP b w qs' e w') ∨
   (∃ (j : Nat) (v u : Value) (qs' : List PV), qs = .v (.int .i64 ((j + 1 : Nat) : Int)) :: qs' /\ pans[j]? = some v /\ TurnP E [] (E.kinds.drop (shLen E.outs)) (fun _ => .panicked [{ v := pick v u, recovered := false }]) FP b w qs' e w')

inductive GA where
 | one
 | agg (n : Nat)
 | row (n : Nat)
 | fn (g : FuncId) (caps : List Nat)
 deriving Inhabited
def BoxG (w : World) : List Nat -> List Value -> List Value -> Prop
 | [], ads, cs => ads = [] /\ cs = []
 | n :: caps, ads, cs => ∃ (b : Nat) (c ads' cs' : List Value), c.length = n /\ (∀ i u, c[i]? = some u -> w.cell? ⟨b, i, none⟩ = some u) /\ ads = .pointer (some ⟨b, 0, none⟩) :: ads' /\ cs = c ++ cs' /\ BoxG w caps ads' cs'
def Zm3 (w : World) : List GA -> List Value -> List Value -> Prop
 | [], vs, us => vs = [] /\ us = []
 | .one :: G, vs, us => ∃ v vs' us', vs = v :: vs' /\ us = v :: us' /\ Zm3 w G vs' us'
 | .agg n :: G, vs, us => ∃ (cs vs' us' : List Value), cs.length = n /\ vs = .agg cs.toArray :: vs' /\ us = cs ++ us' /\ Zm3 w G vs' us'
 | .row n :: G, vs, us => ∃ (b off cap : Nat) (cs vs' us' : List Value), cs.length = n /\ n <= cap /\ cap <= maxLen /\ (∀ i u, cs[i]? = some u -> w.cell? ⟨b, off + i, none⟩ = some u) /\ vs = .slice (some ⟨b, off, none⟩) n cap :: vs' /\ us = cs ++ us' /\ Zm3 w G vs' us'
 | .fn g caps :: G, vs, us => ∃ (ads cs vs' us' : List Value), BoxG w caps ads cs /\ vs = .func (.func g) #[] ads.toArray :: vs' /\ us = cs ++ us' /\ Zm3 w G vs' us'
def ToldG (f : FuncId) (G : List GA) (E : FnE) (spec : List PV -> Option (List PV)) : Prop :=
 ∀ (w : World) (FP : Nat -> Prop) (vs us : List Value) (ps qs : List PV), spec ps = some qs -> Zm3 w G vs us -> us.length = ps.length -> (∀ k, FP k -> k < w.heap.size) →
  (∀ (i : Nat) (p : PV) (u : Value), ps[i]? = some p -> us[i]? = some u -> Reads w p u /\ (E.leaks.getD i false = true -> ∀ w2 : World, (∀ k, FP k -> w2.heap[k]? = w.heap[k]?) -> Reads w2 p u)) →
  Calls Try.prog f vs.toArray w (RetD E FP w qs)

inductive Fact where
 | ok (e : SX)
 | is (e : SX) (v : Value)
 | at (e : SX) (n : Nat)
 | idx (e i : SX) (sz sub : Nat)
 | sub (e lo hi : SX) (sz : Nat)
 | rng (i n : SX)
 | upto (n : SX) (K : Nat)
 | le3 (lo hi n : SX)
 | same (x y : SX)
 | cut (lo len n : SX)
 | cells (e : SX) (sz : Nat)
 | fn (f : FuncId) (E : FnE) (es : List SX)
 | fp (f : FuncId) (E : PtrE) (es : List SX)
 | fx (f : FuncId) (E : FnE) (pans : List Value) (es : List SX)
 | fq (f : FuncId) (E : PtrE) (pans : List Value) (es : List SX)
 | fg (f : FuncId) (G : List GA) (E : FnE) (es : List SX)
 deriving Inhabited
def Fact.holds (B : Base) : Fact -> Prop
 | .ok e => ∃ x, B.ev e = some (.v x) /\ x.oneCell' = true
 | .is e v => B.ev e = some (.v v)
 | .at e n => ∃ k, B.ev e = some (.v (.int k (n : Int)))
 | .idx e i sz q => ∃ n cs k z, B.ev e = some (.row n cs) /\ B.ev i = some (.v (.int k z)) /\ 0 <= z /\ z < (n : Int) /\ z.toNat * sz + q <= cs.length
 | .sub e lo hi sz => ∃ p, B.ev (.sub e lo hi sz) = some p
 | .rng i n => ∃ k z m, B.ev i = some (.v (.int k z)) /\ B.ev n = some (.v (.int .i64 m)) /\ 0 <= z /\ z < m
 | .upto n K => ∃ z : Nat, B.ev n = some (.v (.int .i64 (z : Int))) /\ z <= K
 | .le3 lo hi n => ∃ a b c : Nat, B.ev lo = some (.v (.int .i64 (a : Int))) /\ B.ev hi = some (.v (.int .i64 (b : Int))) /\ B.ev n = some (.v (.int .i64 (c : Int))) /\ a <= b /\ b <= c
 | .cut lo len n => ∃ a b c : Nat, B.ev lo = some (.v (.int .i64 (a : Int))) /\ B.ev len = some (.v (.int .i64 (b : Int))) /\ B.ev n = some (.v (.int .i64 (c : Int))) /\ a + b <= c
 | .same x y => ∃ z : Nat, B.ev x = some (.v (.int .i64 (z : Int))) /\ B.ev y = some (.v (.int .i64 (z : Int)))
 | .cells e sz => ∃ (n : Nat) (vs : List Value), B.ev e = some (.row n (vs.map PV.v)) /\ vs.length = n * sz /\ n <= maxLen /\ ∀ v ∈ vs, v.oneCell' = true
 | .fp f E es => ToldP f E (B.F E.k) /\ ∃ ps qs, evs B.s B.F es = some ps /\ B.F E.k ps = some qs
 | .fx f E pans es => ToldX f E pans (B.F E.k) /\ ∃ ps qs, evs B.s B.F es = some ps /\ B.F E.k ps = some qs
 | .fq f E pans es => ToldQ f E pans (B.F E.k) /\ ∃ ps qs, evs B.s B.F es = some ps /\ B.F E.k ps = some qs
 | .fg f G E es => ToldG f G E (B.F E.k) /\ ∃ ps qs, evs B.s B.F es = some ps /\ B.F E.k ps = some qs
 | .fn f E es => ToldF f E (B.F E.k) /\ ∃ ps qs, evs B.s B.F es = some ps /\ B.F E.k ps = some qs

variable {W0 : Base}

inductive AV where
 | val (v : Value)
 | ptr (r v idx sz sub : Nat)
 | slice (r v lo sz len cap : Nat) (opn : Bool)
 | dat (r : Nat)
 | ptrD (r : Nat) (e : SX) (sz sub : Nat)
 | sliceS (r v : Nat) (lo len : SX) (sz : Nat)
 | ptrS (r v : Nat) (e : SX) (sz sub : Nat)
 | mapV (r : Nat)
 | sym (e : SX)
 | agg (cs : List AV)
 | tuple (cs : List AV)
 | func (fn : Fn) (first captured : List AV)
 | iface (t : TypeId) (x : AV)
 deriving Inhabited

structure Map where
 f : Nat -> Nat -> Option (Nat × Nat)
 d : Nat -> Option (Value × (Nat -> Prop))
 s : SX -> Option Value
instance : CoeFun Map fun _ => Nat -> Nat -> Option (Nat × Nat) := ⟨Map.f⟩
def Map.Le (m m' : Map) : Prop := (∀ r v b, m r v = some b -> m' r v = some b) /\ (∀ r x, m.d r = some x -> m'.d r = some x) /\ ∀ e x, m.s e = some x -> m'.s e = some x
def Zha (n : Nat) : Value -> Option Value
 | .slice (some ⟨b, off, none⟩) _ _ => some (.pointer (some ⟨b, off + n, none⟩))
 | _ => none

def natOf : Value -> Option Nat | .int _ z => some z.toNat | _ => none
def natI : Value -> Option Nat | .int .i64 (.ofNat n) => some n | _ => none
theorem natI_ok {v : Value} {n : Nat} (h : natI v = some n) : v = .int .i64 (n : Int) := by
 unfold natI at h
 split at h
 ·cases h; rfl
 ·cases h

mutual
def AV.den (m : Map) : AV -> Option Value
 | .val v => some v
 | .ptr r v idx sz sub => (m r v).map fun b => .pointer (some ⟨b.1, idx * sz + sub, none⟩)
 | .slice r v lo sz len cap opn => (m r v).map fun b => .slice (some ⟨b.1, lo * sz, none⟩) len (cond opn (b.2 - cap) cap)
 | .dat r => (m.d r).bind fun x => cond x.1.oneCell' (some x.1) none
 | .ptrD r e sz sub => (m.d r).bind fun x => (m.s e).bind fun i => (natOf i).bind fun n => Zha (n * sz + sub) x.1
 | .sliceS r v lo len sz => (m r v).bind fun b => (m.s lo).bind fun l => (m.s len).bind fun n => (natI l).bind fun l => (natI n).map fun n => .slice (some ⟨b.1, l * sz, none⟩) n (b.2 - l)
 | .ptrS r v e sz sub => (m r v).bind fun b => (m.s e).bind fun i => (natOf i).map fun n => .pointer (some ⟨b.1, n * sz + sub, none⟩)
 | .mapV r => (m r 0).map fun b => .map (some b.1)
 | .sym e => (m.s e).bind fun x => cond x.oneCell' (some x) none
 | .agg cs => (denL m cs).map fun l => .agg l.toArray
 | .tuple cs => (denL m cs).map fun l => .tuple l.toArray
 | .func fn f c => (denL m f).bind fun f => (denL m c).map fun c => .func fn f.toArray c.toArray
 | .iface t x => (x.den m).map (.iface t)
def denL (m : Map) : List AV -> Option (List Value)
 | [] => some []
 | c :: cs => (c.den m).bind fun v => (denL m cs).map (v :: ·)
end

mutual
theorem AV.den_mono {m m' : Map} (h : m.Le m') : ∀ (x : AV) {v : Value}, x.den m = some v -> x.den m' = some v
 | .val v, u, hu => hu
 | .ptr r v idx sz sub, u, hu => by
  simp only [AV.den, Option.map_eq_some_iff] at hu ⊢
  obtain ⟨b, hb, rfl⟩ := hu
  exact ⟨b, h.1 _ _ _ hb, rfl⟩
 | .slice r v lo sz len cap opn, u, hu => by
  simp only [AV.den, Option.map_eq_some_iff] at hu ⊢
  obtain ⟨b, hb, rfl⟩ := hu
  exact ⟨b, h.1 _ _ _ hb, rfl⟩
 | .dat r, u, hu => by
  simp only [AV.den, Option.bind_eq_some_iff] at hu ⊢
  obtain ⟨b, hb, he⟩ := hu
  exact ⟨b, h.2.1 _ _ hb, he⟩
 | .ptrD r e sz sub, u, hu => by
  simp only [AV.den, Option.bind_eq_some_iff] at hu ⊢
  obtain ⟨b, hb, i, hi, n, hn, he⟩ := hu
  exact ⟨b, h.2.1 _ _ hb, i, h.2.2 _ _ hi, n, hn, he⟩
 | .sliceS r v lo len sz, u, hu => by
  simp only [AV.den, Option.bind_eq_some_iff] at hu ⊢
  obtain ⟨b, hb, l, hl, n, hn, he⟩ := hu
  exact ⟨b, h.1 _ _ _ hb, l, h.2.2 _ _ hl, n, h.2.2 _ _ hn, he⟩
 | .ptrS r v e sz sub, u, hu => by
  simp only [AV.den, Option.bind_eq_some_iff] at hu ⊢
  obtain ⟨b, hb, i, hi, he⟩ := hu
  exact ⟨b, h.1 _ _ _ hb, i, h.2.2 _ _ hi, he⟩
 | .mapV r, u, hu => by
  simp only [AV.den, Option.map_eq_some_iff] at hu ⊢
  obtain ⟨b, hb, rfl⟩ := hu
  exact ⟨b, h.1 _ _ _ hb, rfl⟩
 | .sym e, u, hu => by
  simp only [AV.den, Option.bind_eq_some_iff] at hu ⊢
  obtain ⟨b, hb, he⟩ := hu
  exact ⟨b, h.2.2 _ _ hb, he⟩
 | .agg cs, u, hu => by
  simp only [AV.den, Option.map_eq_some_iff] at hu ⊢
  obtain ⟨b, hb, rfl⟩ := hu
  exact ⟨b, Zcd h cs hb, rfl⟩
 | .tuple cs, u, hu => by
  simp only [AV.den, Option.map_eq_some_iff] at hu ⊢
  obtain ⟨b, hb, rfl⟩ := hu
  exact ⟨b, Zcd h cs hb, rfl⟩
 | .func fn f c, u, hu => by
  simp only [AV.den, Option.bind_eq_some_iff, Option.map_eq_some_iff] at hu ⊢
  obtain ⟨a, ha, b, hb, rfl⟩ := hu
  exact ⟨a, Zcd h f ha, b, Zcd h c hb, rfl⟩
 | .iface t x, u, hu => by
  simp only [AV.den, Option.map_eq_some_iff] at hu ⊢
  obtain ⟨b, hb, rfl⟩ := hu
  exact ⟨b, AV.den_mono h x hb, rfl⟩
theorem Zcd {m m' : Map} (h : m.Le m') : ∀ (l : List AV) {vs : List Value}, denL m l = some vs -> denL m' l = some vs
 | [], u, hu => hu
 | c :: cs, u, hu => by
  simp only [denL, Option.bind_eq_some_iff, Option.map_eq_some_iff] at hu ⊢
  obtain ⟨a, ha, b, hb, rfl⟩ := hu
  exact ⟨a, AV.den_mono h c ha, b, Zcd h cs hb, rfl⟩
end
theorem Map.Le.refl (m : Map) : m.Le m := ⟨fun _ _ _ h => h, fun _ _ h => h, fun _ _ h => h⟩
theorem Map.Le.trans {a b c : Map} (h : a.Le b) (k : b.Le c) : a.Le c := ⟨fun r v x hx => k.1 _ _ _ (h.1 _ _ _ hx), fun r x hx => k.2.1 _ _ (h.2.1 _ _ hx), fun r x hx => k.2.2 _ _ (h.2.2 _ _ hx)⟩

def Map.empty : Map := ⟨fun _ _ => none, fun _ => none, fun _ => none⟩
theorem Map.empty_le (m : Map) : Map.empty.Le m := ⟨fun _ _ _ h => (by simp [Map.empty] at h), fun _ _ h => (by simp [Map.empty] at h), fun _ _ h => (by simp [Map.empty] at h)⟩

theorem Zae {m : Map} : ∀ {l : List AV} {vs : List Value}, denL m l = some vs -> vs.length = l.length
 | [], vs, h => by simp [denL] at h; subst h; rfl
 | c :: cs, vs, h => by
  simp only [denL, Option.bind_eq_some_iff, Option.map_eq_some_iff] at h
  obtain ⟨a, ha, b, hb, rfl⟩ := h
  simp [Zae hb]
theorem Za7 {m : Map} : ∀ {l : List AV} {vs : List Value} {i : Nat} {x : AV}, denL m l = some vs -> l[i]? = some x -> ∃ v, AV.den m x = some v /\ vs[i]? = some v
 | [], vs, i, x, h, hx => by simp at hx
 | c :: cs, vs, i, x, h, hx => by
  simp only [denL, Option.bind_eq_some_iff, Option.map_eq_some_iff] at h
  obtain ⟨a, ha, b, hb, rfl⟩ := h
  cases i with
  | zero => simp at hx; subst hx; exact ⟨a, ha, rfl⟩
  | succ i => simp at hx; obtain ⟨v, hv, hg⟩ := Za7 hb hx; exact ⟨v, hv, by simpa using hg⟩
theorem Zag {m : Map} : ∀ {l l' : List AV} {vs vs' : List Value}, denL m l = some vs -> denL m l' = some vs' -> denL m (l ++ l') = some (vs ++ vs')
 | [], l', vs, vs', h, h' => by simp [denL] at h; subst h; simpa using h'
 | c :: cs, l', vs, vs', h, h' => by
  simp only [denL, Option.bind_eq_some_iff, Option.map_eq_some_iff] at h
  obtain ⟨a, ha, b, hb, rfl⟩ := h
  simp [denL, ha, Zag hb h']
theorem denL_of_get {m : Map} : ∀ {l : List AV} {vs : List Value}, vs.length = l.length -> (∀ (i : Nat) (x : AV), l[i]? = some x -> ∃ v, AV.den m x = some v /\ vs[i]? = some v) -> denL m l = some vs
 | [], vs, h, _ => by simp at h; subst h; rfl
 | c :: cs, [], h, _ => by simp at h
 | c :: cs, v :: vs, h, hg => by
  obtain ⟨u, hu, hv⟩ := hg 0 c rfl
  simp at hv
  subst hv
  have := denL_of_get (m := m) (l := cs) (vs := vs) (by simpa using h) (fun i x hx => by
   obtain ⟨u, hu, hv⟩ := hg (i + 1) x (by simpa using hx)
   exact ⟨u, hu, by simpa using hv⟩)
  simp [denL, hu, this]

inductive T (α : Type) where
 | nil
 | node (v : Option α) (l r : T α)
 deriving Inhabited
namespace T
variable {α : Type}
def v : T α -> Option α | .nil => none | .node v _ _ => v
def l : T α -> T α | .nil => .nil | .node _ l _ => l
def r : T α -> T α | .nil => .nil | .node _ _ r => r
def get : T α -> Nat -> Option α
 | .nil, _ => none
 | .node v l r, n => cond (Nat.beq n 0) v (cond (Nat.beq (n % 2) 1) (l.get (n / 2)) (r.get (n / 2 - 1)))
def set : Nat -> T α -> Nat -> Option α -> T α
 | 0, t, _, _ => t
 | f + 1, t, n, x => cond (Nat.beq n 0) (.node x t.l t.r) (cond (Nat.beq (n % 2) 1) (.node t.v (set f t.l (n / 2) x) t.r) (.node t.v t.l (set f t.r (n / 2 - 1) x)))
theorem Zli (t : T α) (n : Nat) : t.get n = if n = 0 then t.v else if n % 2 = 1 then t.l.get (n / 2) else t.r.get (n / 2 - 1) := by
 cases t with
 | nil => simp [get, v, l, r]
 | node x a b =>
  simp only [get, v, l, r, cond_eq_ite, Nat.beq_eq]
theorem get_set : ∀ (f : Nat) (t : T α) (n : Nat) (x : Option α) (k : Nat), n + 1 < 2 ^ f -> (set f t n x).get k = if k = n then x else t.get k := by
 intro f
 induction f with
 | zero => intro t n x k h; simp at h
 | succ f ih =>
  intro t n x k h
  rw [Nat.pow_succ] at h
  simp only [set, cond_eq_ite, Nat.beq_eq]
  by_cases h0 : n = 0
  ·subst h0
   simp only [if_true]
   rw [Zli, Zli t]
   simp only [v, l, r]
   by_cases hk : k = 0 <;> simp [hk]
  ·rw [if_neg h0]
   by_cases h1 : n % 2 = 1
   ·rw [if_pos h1, Zli, Zli t]
    simp only [v, l, r]
    rw [ih _ _ _ _ (by omega)]
    by_cases hk : k = 0
    ·have : ¬ k = n := by omega
     simp [hk, Ne.symm h0]
    ·by_cases hk1 : k % 2 = 1
     ·by_cases he : k = n
      ·subst he; simp [hk, hk1]
      ·have : ¬ k / 2 = n / 2 := by omega
       simp [hk, hk1, he, this]
     ·have : ¬ k = n := by intro e; subst e; omega
      simp [hk, hk1, this]
   ·rw [if_neg h1, Zli, Zli t]
    simp only [v, l, r]
    rw [ih _ _ _ _ (by omega)]
    by_cases hk : k = 0
    ·have : ¬ k = n := by omega
     simp [hk, Ne.symm h0]
    ·by_cases hk1 : k % 2 = 1
     ·have : ¬ k = n := by intro e; subst e; omega
      simp [hk, hk1, this]
     ·by_cases he : k = n
      ·subst he; simp [hk, hk1]
      ·have : ¬ k / 2 - 1 = n / 2 - 1 := by omega
       simp [hk, hk1, he, this]
end T

structure ARoot where
 cells : List AV
 elem : TypeId
 esz : Nat
 ro : Bool
 opn : Bool
 vers : List (Nat × Nat)
 dat : Option SX := none
 sym : Option SX := none
 lent : Bool := false
 mp : Bool := false
 deriving Inhabited

def entPV (x : MapEntry) : List PV := [.v x.key, .v x.val]
def MapC (es : Array MapEntry) (cs : List PV) : Prop := cs = es.toList.flatMap entPV /\ ∀ x ∈ es.toList, (∃ s, x.key = .string s) /\ x.val.oneCell' = true
def MapAt (W0 : Base) (w : World) (b : Nat × Nat) (e : SX) : Prop := ∃ (cs : List PV) (es : Array MapEntry) (ck : Nat), W0.ev e = some (.row es.size cs) /\ w.heap[b.1]? = some (.map es ck) /\ MapC es cs
def PairV (v : Value) : Prop := ∃ a b : Value, v = .agg #[a, b] /\ a.oneCell' = true /\ b.oneCell' = true
def MapCI (es : Array MapEntry) (cs : List PV) : Prop := cs = es.toList.flatMap entPV /\ ∀ x ∈ es.toList, (∃ s : Int, x.key = .int .i64 s) /\ PairV x.val
def Zlo (W0 : Base) (w : World) (b : Nat × Nat) (e : SX) : Prop := ∃ (cs : List PV) (es : Array MapEntry) (ck : Nat), W0.ev e = some (.row es.size cs) /\ w.heap[b.1]? = some (.map es ck) /\ MapCI es cs
def RowC (W0 : Base) (w : World) (o : ARoot) (b : Nat × Nat) (e : SX) : Prop :=
 ∃ (n : Nat) (cs : List PV) (c : Array Value) (fz : Nat × Nat), W0.ev e = some (.row n cs) /\ w.heap[b.1]? = some (.cells c o.elem fz) /\ (∀ i, i < c.size -> ¬ (fz.1 <= i /\ i < fz.2)) /\ 0 < o.esz /\ cs.length = n * o.esz /\ n <= b.2 /\ c.size = b.2 * o.esz /\ b.2 <= maxLen ∧
  ∀ (i : Nat) (p : PV), cs[i]? = some p -> ∃ v : Value, p = PV.v v /\ v.oneCell' = true /\ c[i]? = some v
theorem RowC.mono {W0 : Base} {w w' : World} {o : ARoot} {b : Nat × Nat} {e : SX} (h : RowC W0 w o b e) (hw : w'.heap[b.1]? = w.heap[b.1]?) : RowC W0 w' o b e := by
 obtain ⟨n, cs, c, fz, h1, h2, h3⟩ := h
 exact ⟨n, cs, c, fz, h1, hw.trans h2, h3⟩
theorem MapAt.mono {W0 : Base} {w w' : World} {b : Nat × Nat} {e : SX} (h : MapAt W0 w b e) (hw : w'.heap[b.1]? = w.heap[b.1]?) : MapAt W0 w' b e := by
 obtain ⟨cs, es, ck, h1, h2, h3⟩ := h
 exact ⟨cs, es, ck, h1, hw.trans h2, h3⟩
theorem Zlo.mono {W0 : Base} {w w' : World} {b : Nat × Nat} {e : SX} (h : Zlo W0 w b e) (hw : w'.heap[b.1]? = w.heap[b.1]?) : Zlo W0 w' b e := by
 obtain ⟨cs, es, ck, h1, h2, h3⟩ := h
 exact ⟨cs, es, ck, h1, hw.trans h2, h3⟩
def RowAt (W0 : Base) (w : World) (o : ARoot) (b : Nat × Nat) (e : SX) : Prop := cond o.mp (cond o.opn (Zlo W0 w b e) (MapAt W0 w b e)) (RowC W0 w o b e)
theorem RowAt.mono {W0 : Base} {w w' : World} {o : ARoot} {b : Nat × Nat} {e : SX} (h : RowAt W0 w o b e) (hw : w'.heap[b.1]? = w.heap[b.1]?) : RowAt W0 w' o b e := by
 unfold RowAt at h ⊢
 cases hm : o.mp with
 | true =>
  rw [hm] at h
  cases ho : o.opn with
  | true => rw [ho] at h; exact Zlo.mono h hw
  | false => rw [ho] at h; exact MapAt.mono h hw
 | false => rw [hm] at h; exact RowC.mono h hw
theorem RowAt.c {W0 : Base} {w : World} {o : ARoot} {b : Nat × Nat} {e : SX} (h : RowAt W0 w o b e) (hm : o.mp = false) : RowC W0 w o b e := by
 unfold RowAt at h
 rw [hm] at h
 exact h
theorem RowAt.m {W0 : Base} {w : World} {o : ARoot} {b : Nat × Nat} {e : SX} (h : RowAt W0 w o b e) (hm : o.mp = true) (ho : o.opn = false) : MapAt W0 w b e := by
 unfold RowAt at h
 rw [hm, ho] at h
 exact h
theorem RowAt.mi {W0 : Base} {w : World} {o : ARoot} {b : Nat × Nat} {e : SX} (h : RowAt W0 w o b e) (hm : o.mp = true) (ho : o.opn = true) : Zlo W0 w b e := by
 unfold RowAt at h
 rw [hm, ho] at h
 exact h

def BlkC (m : Map) (w : World) (o : ARoot) (b : Nat × Nat) (n : Nat) : Prop :=
 ∃ c fz, w.heap[b.1]? = some (.cells c o.elem fz) /\ (∀ i, i < c.size -> ¬ (fz.1 <= i /\ i < fz.2)) /\ n <= o.cells.length /\ n <= c.size ∧
  (∀ i x, i < n -> o.cells[i]? = some x -> ∃ v, x.den m = some v /\ c[i]? = some v) /\ (cond o.opn (c.size = b.2 * o.esz /\ b.2 <= 9223372036854775807) (c.size = n))

def Blk (m : Map) (w : World) (o : ARoot) (b : Nat × Nat) (n : Nat) : Prop := cond o.mp (n = 0 /\ ∃ es ck, w.heap[b.1]? = some (.map es ck)) (BlkC m w o b n)
theorem Blk.c {m : Map} {w : World} {o : ARoot} {b : Nat × Nat} {n : Nat} (h : Blk m w o b n) (hm : o.mp = false) : BlkC m w o b n := by
 unfold Blk at h
 rw [hm] at h
 exact h
theorem BlkC.b {m : Map} {w : World} {o : ARoot} {b : Nat × Nat} {n : Nat} (h : BlkC m w o b n) (hm : o.mp = false) : Blk m w o b n := by
 unfold Blk
 rw [hm]
 exact h
theorem Blk.lt {m : Map} {w : World} {o : ARoot} {b : Nat × Nat} {n : Nat} (h : Blk m w o b n) : b.1 < w.heap.size := by
 unfold Blk at h
 cases hm : o.mp with
 | true =>
  rw [hm] at h
  obtain ⟨_, es, ck, h⟩ := h
  exact (Array.getElem?_eq_some_iff.1 h).1
 | false =>
  rw [hm] at h
  obtain ⟨c, fz, hc, _⟩ := h
  exact (Array.getElem?_eq_some_iff.1 hc).1

abbrev Heap := Nat -> Option ARoot

structure Rel (W0 : Base) (A : Nat -> Prop) (m : Map) (g : Heap) (w : World) : Prop where
 blk : ∀ r o, A r -> g r = some o -> ∀ v n, (v, n) ∈ o.vers -> ∃ b, m r v = some b /\ Blk m w o b n
 inj : ∀ r r' o o' v n v' n' b b', A r -> A r' -> g r = some o -> g r' = some o' -> (v, n) ∈ o.vers -> (v', n') ∈ o'.vers -> m r v = some b -> m r' v' = some b' -> b.1 = b'.1 -> r = r'
 top : ∀ r o v n rest, A r -> g r = some o -> o.vers = (v, n) :: rest -> ∀ v', v < v' -> m r v' = none
 size0 : W0.heap.size <= w.heap.size
 amb : ∀ k, k < W0.heap.size -> ¬ W0.mine k -> w.heap[k]? = W0.heap[k]?
 abv : ∀ r o v n b, A r -> g r = some o -> (v, n) ∈ o.vers -> m r v = some b -> (o.lent = false -> W0.heap.size <= b.1) /\ (o.lent = true -> W0.mine b.1)
 dat : ∀ r o e, A r -> g r = some o -> o.dat = some e -> ∃ v fp, m.d r = some (v, fp) /\ v.oneCell' = true /\ (∀ k, fp k -> k < w.heap.size) /\ ∀ w2 : World, (∀ k, fp k -> w2.heap[k]? = w.heap[k]?) -> W0.know e w2 v
 disj : ∀ r o e v fp r' o' u n b, A r -> A r' -> g r = some o -> o.dat = some e -> m.d r = some (v, fp) -> g r' = some o' -> (u, n) ∈ o'.vers -> m r' u = some b -> ¬ fp b.1
 sv : ∀ e, m.s e = W0.sv e
 same : w.os = W0.w.os /\ w.tape = W0.w.tape /\ w.output = W0.w.output
 fpb : ∀ r o e v fp, A r -> g r = some o -> o.dat = some e -> m.d r = some (v, fp) -> o.ro = true -> ∀ k, fp k -> W0.fp k \/ W0.heap.size <= k
 row : ∀ r o e v n b, A r -> g r = some o -> o.sym = some e -> (v, n) ∈ o.vers -> m r v = some b -> RowAt W0 w o b e

def Fresh (A : Nat -> Prop) (m : Map) (next : Nat) : Prop := ∀ r, A r -> next <= r -> (∀ v, m r v = none) /\ m.d r = none

structure Step (W0 : Base) (A Tc : Nat -> Prop) (m : Map) (g : Heap) (w : World) (m' : Map) (g' : Heap) (w' : World) : Prop where
 ext : m.Le m'
 rel : Rel W0 A m' g' w'
 mkeep : ∀ r, ¬ Tc r -> ∀ v, m' r v = m r v
 dkeep : ∀ r, ¬ Tc r -> m'.d r = m.d r
 gk : ∀ r, ¬ Tc r -> g' r = g r
 os : w'.os = w.os
 tape : w'.tape = w.tape
 output : w'.output = w.output
 size : w.heap.size <= w'.heap.size
 keep : ∀ k, k < w.heap.size -> (∀ r o v n b, Tc r -> g r = some o -> (v, n) ∈ o.vers -> m r v = some b -> b.1 ≠ k) -> w'.heap[k]? = w.heap[k]?
 own : ∀ r o' v n b, Tc r -> g' r = some o' -> (v, n) ∈ o'.vers -> m' r v = some b -> b.1 < w.heap.size -> ∃ o v0 n0 b0, g r = some o /\ (v0, n0) ∈ o.vers /\ m r v0 = some b0 /\ b0.1 = b.1
 dfp : ∀ r o' R v fp, A r -> Tc r -> g' r = some o' -> o'.dat = some R -> m'.d r = some (v, fp) -> ∀ k, fp k -> k < w.heap.size -> ∃ r2 o2 R2 v2 fp2, A r2 /\ g r2 = some o2 /\ o2.dat = some R2 /\ m.d r2 = some (v2, fp2) /\ fp2 k

theorem Step.refl {A Tc : Nat -> Prop} {m : Map} {g : Heap} {w : World} (h : Rel W0 A m g w) : Step W0 A Tc m g w m g w :=
 ⟨Map.Le.refl m, h, fun _ _ _ => rfl, fun _ _ => rfl, fun _ _ => rfl, rfl, rfl, rfl, Nat.le_refl _, fun _ _ _ => rfl, fun r o v n b _ ho hv hb _ => ⟨o, v, n, b, ho, hv, hb, rfl⟩, fun r o R v fp ha _ ho hd hm k hk _ => ⟨r, o, R, v, fp, ha, ho, hd, hm, hk⟩⟩

theorem Rel.lt {A : Nat -> Prop} {m : Map} {g : Heap} {w : World} (h : Rel W0 A m g w) {r : Nat} {o : ARoot} {v n : Nat} {b : Nat × Nat} (ha : A r) (ho : g r = some o) (hv : (v, n) ∈ o.vers) (hb : m r v = some b) : b.1 < w.heap.size := by
 obtain ⟨b', hb', hB⟩ := h.blk r o ha ho v n hv
 rw [hb] at hb'
 cases hb'
 exact hB.lt

theorem Step.trans {A T1 T2 : Nat -> Prop} {m m1 m2 : Map} {g g1 g2 : Heap} {w w1 w2 : World} (h : Step W0 A T1 m g w m1 g1 w1) (k : Step W0 A T2 m1 g1 w1 m2 g2 w2) :
  Step W0 A (fun r => T1 r \/ T2 r) m g w m2 g2 w2 where
 ext := h.ext.trans k.ext
 rel := k.rel
 mkeep := fun r hr v => (k.mkeep r (fun x => hr (.inr x)) v).trans (h.mkeep r (fun x => hr (.inl x)) v)
 dkeep := fun r hr => (k.dkeep r (fun x => hr (.inr x))).trans (h.dkeep r (fun x => hr (.inl x)))
 dfp := by
  intro r o' R v fp ha ht ho hd hm q hq hlt
  by_cases h2t : T2 r
  ·obtain ⟨r2, o2, R2, v2, fp2, ha2, ho2, hd2, hm2, hq2⟩ := k.dfp r o' R v fp ha h2t ho hd hm q hq (Nat.lt_of_lt_of_le hlt h.size)
   by_cases h1t : T1 r2
   ·exact h.dfp r2 o2 R2 v2 fp2 ha2 h1t ho2 hd2 hm2 q hq2 hlt
   ·rw [h.gk r2 h1t] at ho2
    rw [h.dkeep r2 h1t] at hm2
    exact ⟨r2, o2, R2, v2, fp2, ha2, ho2, hd2, hm2, hq2⟩
  ·rw [k.gk r h2t] at ho
   rw [k.dkeep r h2t] at hm
   exact h.dfp r o' R v fp ha (ht.resolve_right h2t) ho hd hm q hq hlt
 gk := fun r hr => (k.gk r (fun x => hr (.inr x))).trans (h.gk r (fun x => hr (.inl x)))
 os := k.os.trans h.os
 tape := k.tape.trans h.tape
 output := k.output.trans h.output
 size := Nat.le_trans h.size k.size
 keep := by
  intro i hi hno
  have h1 := h.keep i hi (fun r o v n b ht => hno r o v n b (.inl ht))
  rw [<- h1]
  refine k.keep i (Nat.lt_of_lt_of_le hi h.size) ?_
  intro r o v n b ht ho hv hb he
  by_cases h1t : T1 r
  ·obtain ⟨o0, v0, n0, b0, ho0, hv0, hb0, he0⟩ := h.own r o v n b h1t ho hv hb (he ▸ hi)
   exact hno r o0 v0 n0 b0 (.inl h1t) ho0 hv0 hb0 (he0.trans he)
  ·rw [h.gk r h1t] at ho
   rw [h.mkeep r h1t] at hb
   exact hno r o v n b (.inr ht) ho hv hb he
 own := by
  intro r o' v n b ht ho hv hb hlt
  by_cases h2t : T2 r
  ·obtain ⟨o1, v1, n1, b1, ho1, hv1, hb1, he1⟩ := k.own r o' v n b h2t ho hv hb (Nat.lt_of_lt_of_le hlt h.size)
   by_cases h1t : T1 r
   ·obtain ⟨o0, v0, n0, b0, ho0, hv0, hb0, he0⟩ := h.own r o1 v1 n1 b1 h1t ho1 hv1 hb1 (he1 ▸ hlt)
    exact ⟨o0, v0, n0, b0, ho0, hv0, hb0, he0.trans he1⟩
   ·rw [h.gk r h1t] at ho1
    rw [h.mkeep r h1t] at hb1
    exact ⟨o1, v1, n1, b1, ho1, hv1, hb1, he1⟩
  ·have h1t : T1 r := ht.resolve_right h2t
   rw [k.gk r h2t] at ho
   rw [k.mkeep r h2t] at hb
   exact h.own r o' v n b h1t ho hv hb hlt

theorem Step.more {A T1 T2 : Nat -> Prop} {m m1 : Map} {g g1 : Heap} {w w1 : World} (h : Step W0 A T1 m g w m1 g1 w1) (hA : ∀ r, T1 r -> T2 r) : Step W0 A T2 m g w m1 g1 w1 where
 ext := h.ext
 rel := h.rel
 mkeep := fun r hr => h.mkeep r (fun x => hr (hA r x))
 dkeep := fun r hr => h.dkeep r (fun x => hr (hA r x))
 dfp := by
  intro r o' R v fp ha ht ho hd hm q hq hlt
  by_cases h1 : T1 r
  ·exact h.dfp r o' R v fp ha h1 ho hd hm q hq hlt
  ·rw [h.gk r h1] at ho
   rw [h.dkeep r h1] at hm
   exact ⟨r, o', R, v, fp, ha, ho, hd, hm, hq⟩
 gk := fun r hr => h.gk r (fun x => hr (hA r x))
 os := h.os
 tape := h.tape
 output := h.output
 size := h.size
 keep := fun k hk hno => h.keep k hk (fun r o v n b ht => hno r o v n b (hA r ht))
 own := by
  intro r o' v n b ht ho hv hb hlt
  by_cases h1 : T1 r
  ·exact h.own r o' v n b h1 ho hv hb hlt
  ·rw [h.gk r h1] at ho
   rw [h.mkeep r h1] at hb
   exact ⟨o', v, n, b, ho, hv, hb, rfl⟩

theorem BlkC.mono {m m' : Map} {w w' : World} {o : ARoot} {b : Nat × Nat} {n : Nat} (h : BlkC m w o b n) (hm : m.Le m') (hw : w'.heap[b.1]? = w.heap[b.1]?) : BlkC m' w' o b n := by
 obtain ⟨c, fz, h1, h2, h3, h4, h5, h6⟩ := h
 refine ⟨c, fz, hw.trans h1, h2, h3, h4, fun i x hi hx => ?_, h6⟩
 obtain ⟨v, hv, hc⟩ := h5 i x hi hx
 exact ⟨v, AV.den_mono hm x hv, hc⟩
theorem Blk.mono {m m' : Map} {w w' : World} {o : ARoot} {b : Nat × Nat} {n : Nat} (h : Blk m w o b n) (hm : m.Le m') (hw : w'.heap[b.1]? = w.heap[b.1]?) : Blk m' w' o b n := by
 cases hp : o.mp with
 | false => exact ((h.c hp).mono hm hw).b hp
 | true =>
  unfold Blk at h ⊢
  rw [hp] at h ⊢
  obtain ⟨h0, es, ck, h⟩ := h
  exact ⟨h0, es, ck, hw.trans h⟩

def Heap.upd (g : Heap) (r : Nat) (o : ARoot) : Heap := fun k => if k = r then some o else g k

theorem Step.put {A : Nat -> Prop} {m m' : Map} {g : Heap} {w w' : World} {r : Nat} {o' : ARoot} (h : Rel W0 A m g w) (ha : A r)
  (hm : m.Le m') (hmk : ∀ k, k ≠ r -> ∀ v, m' k v = m k v) (hmd : m'.d = m.d) (hms : m'.s = m.s) (hro : ∀ o v n b, g r = some o -> (v, n) ∈ o.vers -> m r v = some b -> o.ro = false) (hdat : o'.dat = none) (hrow : ∀ e v n b, o'.sym = some e -> (v, n) ∈ o'.vers -> m' r v = some b -> RowAt W0 w' o' b e) (hlent : ∀ o v n b, g r = some o -> (v, n) ∈ o.vers -> m r v = some b -> o'.lent = o.lent) (hlnew : o'.lent = true -> ∀ v n b, (v, n) ∈ o'.vers -> m' r v = some b -> b.1 < w.heap.size) (hos : w'.os = w.os) (htape : w'.tape = w.tape) (hout : w'.output = w.output) (hsize : w.heap.size <= w'.heap.size)
  (hkeep : ∀ k, k < w.heap.size -> (∀ o v n b, g r = some o -> (v, n) ∈ o.vers -> m r v = some b -> b.1 ≠ k) -> w'.heap[k]? = w.heap[k]?)
  (hblk : ∀ v n, (v, n) ∈ o'.vers -> ∃ b, m' r v = some b /\ Blk m' w' o' b n)
  (htop : ∀ v n rest, o'.vers = (v, n) :: rest -> ∀ v', v < v' -> m' r v' = none)
  (hown : ∀ v n b, (v, n) ∈ o'.vers -> m' r v = some b -> b.1 < w.heap.size -> ∃ o v0 n0 b0, g r = some o /\ (v0, n0) ∈ o.vers /\ m r v0 = some b0 /\ b0.1 = b.1) :
  Step W0 A (fun k => k = r) m g w m' (g.upd r o') w' := by
 have hne : ∀ k o v n b, A k -> k ≠ r -> g k = some o -> (v, n) ∈ o.vers -> m k v = some b -> ∀ v' n' b', (v', n') ∈ o'.vers -> m' r v' = some b' -> b.1 ≠ b'.1 := by
  intro k o v n b hk hkr ho hv hb v' n' b' hv' hb' he
  obtain ⟨o0, v0, n0, b0, ho0, hv0, hb0, he0⟩ := hown v' n' b' hv' hb' (he ▸ h.lt hk ho hv hb)
  exact hkr (h.inj k r o o0 v n v0 n0 b b0 hk ha ho ho0 hv hv0 hb hb0 (he.trans he0.symm))
 have hndat : ∀ k o R, (g.upd r o') k = some o -> o.dat = some R -> k ≠ r /\ g k = some o := by
  intro k o R ho hd
  by_cases hkr : k = r
  ·subst hkr
   simp [Heap.upd] at ho
   subst ho
   rw [hdat] at hd; cases hd
  ·simp [Heap.upd, hkr] at ho
   exact ⟨hkr, ho⟩
 refine ⟨hm, ⟨?_, ?_, ?_, Nat.le_trans h.size0 hsize, ?_, ?_, ?_, ?_, fun e => by rw [hms]; exact h.sv e, ⟨hos.trans h.same.1, htape.trans h.same.2.1, hout.trans h.same.2.2⟩, fun k o R v fp hk ho hd hmv => by
  obtain ⟨hkr, ho⟩ := hndat k o R ho hd
  rw [hmd] at hmv
  exact h.fpb k o R v fp hk ho hd hmv, ?_⟩, fun k hk => hmk k hk, fun k hk => by rw [hmd], fun k hk => by simp [Heap.upd, hk], hos, htape, hout, hsize, ?_, ?_, fun k o R v fp ha' hk ho hd => absurd hk (hndat k o R ho hd).1⟩
 ·intro k o hk ho v n hv
  by_cases hkr : k = r
  ·subst hkr
   simp [Heap.upd] at ho
   subst ho
   exact hblk v n hv
  ·simp [Heap.upd, hkr] at ho
   obtain ⟨b, hb, hB⟩ := h.blk k o hk ho v n hv
   refine ⟨b, (hmk k hkr v).trans hb, hB.mono hm (hkeep b.1 (h.lt hk ho hv hb) ?_)⟩
   intro o1 v1 n1 b1 ho1 hv1 hb1 he
   exact hkr (h.inj k r o o1 v n v1 n1 b b1 hk ha ho ho1 hv hv1 hb hb1 he.symm)
 ·intro k k' o1 o2 v n v' n' b b' hk hk' ho ho' hv hv' hb hb' he
  by_cases hkr : k = r
  ·by_cases hkr' : k' = r
   ·rw [hkr, hkr']
   ·exfalso
    subst hkr
    simp [Heap.upd] at ho
    simp [Heap.upd, hkr'] at ho'
    subst ho
    rw [hmk k' hkr'] at hb'
    exact hne k' o2 v' n' b' hk' hkr' ho' hv' hb' v n b hv hb he.symm
  ·by_cases hkr' : k' = r
   ·exfalso
    subst hkr'
    simp [Heap.upd] at ho'
    simp [Heap.upd, hkr] at ho
    subst ho'
    rw [hmk k hkr] at hb
    exact hne k o1 v n b hk hkr ho hv hb v' n' b' hv' hb' he
   ·simp [Heap.upd, hkr] at ho
    simp [Heap.upd, hkr'] at ho'
    rw [hmk k hkr] at hb
    rw [hmk k' hkr'] at hb'
    exact h.inj k k' o1 o2 v n v' n' b b' hk hk' ho ho' hv hv' hb hb' he
 ·intro k o v n rest hk ho hv v' hlt
  by_cases hkr : k = r
  ·subst hkr
   simp [Heap.upd] at ho
   subst ho
   exact htop v n rest hv v' hlt
  ·simp [Heap.upd, hkr] at ho
   rw [hmk k hkr]
   exact h.top k o v n rest hk ho hv v' hlt
 ·intro k hk hnm
  rw [hkeep k (Nat.lt_of_lt_of_le hk h.size0) (fun o v n b ho hv hb he => by
   obtain ⟨h1, h2⟩ := h.abv r o v n b ha ho hv hb
   cases hl : o.lent with
   | false => have := h1 hl; omega
   | true => rw [he] at h2; exact hnm (h2 hl))]
  exact h.amb k hk hnm
 ·intro k o v n b hk ho hv hb
  by_cases hkr : k = r
  ·subst hkr
   simp [Heap.upd] at ho
   subst ho
   rcases Nat.lt_or_ge b.1 w.heap.size with hlt | hge
   ·obtain ⟨o0, v0, n0, b0, ho0, hv0, hb0, he0⟩ := hown v n b hv hb hlt
    rw [<- he0, hlent o0 v0 n0 b0 ho0 hv0 hb0]
    exact h.abv k o0 v0 n0 b0 ha ho0 hv0 hb0
   ·exact ⟨fun _ => Nat.le_trans h.size0 hge, fun hl => by have := hlnew hl v n b hv hb; omega⟩
  ·simp [Heap.upd, hkr] at ho
   rw [hmk k hkr] at hb
   exact h.abv k o v n b hk ho hv hb
 ·intro k o R hk ho hd
  obtain ⟨hkr, ho⟩ := hndat k o R ho hd
  obtain ⟨v, fp, hmv, h1, hfp, hR2⟩ := h.dat k o R hk ho hd
  refine ⟨v, fp, by rw [hmd]; exact hmv, h1, fun q hq => Nat.lt_of_lt_of_le (hfp q hq) hsize, fun w2 hw2 => hR2 w2 (fun q hq => (hw2 q hq).trans (hkeep q (hfp q hq) (fun o1 v1 n1 b1 ho1 hv1 hb1 he => ?_)))⟩
  exact h.disj k o R v fp r o1 v1 n1 b1 hk ha ho hd hmv ho1 hv1 hb1 (he ▸ hq)
 ·intro k o R v fp k' o1 u n b hk hk' ho hd hmv ho1 hu hb hfpb
  obtain ⟨hkr, hog⟩ := hndat k o R ho hd
  rw [hmd] at hmv
  obtain ⟨v', fp', hmv', h1, hfp, hR2⟩ := h.dat k o R hk hog hd
  rw [hmv] at hmv'
  cases hmv'
  by_cases hkr' : k' = r
  ·subst hkr'
   simp [Heap.upd] at ho1
   subst ho1
   obtain ⟨o0, v0, n0, b0, ho0, hv0, hb0, he0⟩ := hown u n b hu hb (hfp _ hfpb)
   exact h.disj k o R v fp k' o0 v0 n0 b0 hk ha hog hd hmv ho0 hv0 hb0 (he0 ▸ hfpb)
  ·simp [Heap.upd, hkr'] at ho1
   rw [hmk k' hkr'] at hb
   exact h.disj k o R v fp k' o1 u n b hk hk' hog hd hmv ho1 hu hb hfpb
 ·intro k o e v n b hk ho hs hv hb
  by_cases hkr : k = r
  ·subst hkr
   simp [Heap.upd] at ho
   subst ho
   exact hrow e v n b hs hv hb
  ·simp [Heap.upd, hkr] at ho
   rw [hmk k hkr] at hb
   refine (h.row k o e v n b hk ho hs hv hb).mono (hkeep b.1 (h.lt hk ho hv hb) ?_)
   intro o1 v1 n1 b1 ho1 hv1 hb1 he
   exact hkr (h.inj k r o o1 v n v1 n1 b b1 hk ha ho ho1 hv hv1 hb hb1 he.symm)
 ·intro k hk hno
  exact hkeep k hk (fun o v n b => hno r o v n b rfl)
 ·intro k o v n b hk ho hv hb hlt
  subst hk
  simp [Heap.upd] at ho
  subst ho
  exact hown v n b hv hb hlt

theorem Rel.sub {A A' : Nat -> Prop} {m : Map} {g : Heap} {w : World} (h : Rel W0 A m g w) (hA : ∀ r, A' r -> A r) : Rel W0 A' m g w :=
 ⟨fun r o ha => h.blk r o (hA r ha), fun r r' o o' v n v' n' b b' ha ha' => h.inj r r' o o' v n v' n' b b' (hA r ha) (hA r' ha'), fun r o v n rest ha => h.top r o v n rest (hA r ha), h.size0, h.amb, fun r o v n b ha => h.abv r o v n b (hA r ha), fun r o R ha => h.dat r o R (hA r ha), fun r o R v fp r' o' u n b ha ha' => h.disj r o R v fp r' o' u n b (hA r ha) (hA r' ha'), h.sv, h.same, fun r o R v fp ha => h.fpb r o R v fp (hA r ha), fun r o e v n b ha => h.row r o e v n b (hA r ha)⟩

theorem fmC {α : Type _} {p : α -> Prop} {a : α} {l : List α} : (∀ x ∈ a :: l, p x) ↔ p a /\ ∀ x ∈ l, p x := List.forall_mem_cons
theorem fmN {α : Type _} {p : α -> Prop} : (∀ x ∈ ([] : List α), p x) ↔ True := by simp
end Go.Proofs.Ytgdegpifjljnoaa.eng
end

section
/- The engine's operations that only reckon: what they come to by names, and that the world's come to the same. -/
namespace Go.Proofs.Ytgdegpifjljnoaa.eng
open Go
variable {W0 : Base}

structure St where
 heap:T ARoot
 next:Nat
 path:List Nat:=[]
 deriving Inhabited
structure Log where
 A:Nat
 T:Nat
 V:List Fact
def Log.or (a b:Log):Log:=⟨a.A ||| b.A,a.T ||| b.T,a.V++b.V⟩
def Log.no:Log:=⟨0,0,[]⟩
def Log.sees (r:Nat):Log:=⟨1 <<< r,0,[]⟩
def Log.turns (r:Nat):Log:=⟨1 <<< r,1 <<< r,[]⟩
def Log.says (p:Fact):Log:=⟨0,0,[p]⟩
def bit (n:Nat) (r:Nat):Prop:=n.testBit r=true
theorem Zpo (a b r:Nat):bit (a ||| b) r ↔ bit a r \/ bit b r:=by simp [bit]
theorem Zah (n r:Nat):bit (1 <<< n) r ↔ r=n:=by
 simp only [bit,Nat.shiftLeft_eq,Nat.one_mul,Nat.testBit_two_pow]
 simp [eq_comm]
theorem Zat {a b r:Nat} (h:bit a r):bit (a ||| b) r:=(Zpo a b r).2 (.inl h)
theorem Za2 {a b r:Nat} (h:bit b r):bit (a ||| b) r:=(Zpo a b r).2 (.inr h)
def Log.Fits (lg:Log) (W0:Base) (A:Nat->Prop):Prop:=(∀ r,bit lg.A r->A r)/\∀ p ∈ lg.V,p.holds W0
theorem or_A {l1 l2:Log} {A:Nat->Prop} (h:(l1.or l2).Fits W0 A):l1.Fits W0 A/\l2.Fits W0 A :=
 ⟨⟨fun r hr=>h.1 r (Zat hr),fun p hp=>h.2 p (List.mem_append_left _ hp)⟩,⟨fun r hr=>h.1 r (Za2 hr),fun p hp=>h.2 p (List.mem_append_right _ hp)⟩⟩

structure Ok (W0:Base) (A:Nat->Prop) (m:Map) (st:St) (w:World) (m':Map) (st':St) (lg:Log) (w':World):Prop where
 step:Step W0 A (bit lg.T) m st.heap.get w m' st'.heap.get w'
 fresh:Fresh A m' st'.next

theorem Ok.refl {A:Nat->Prop} {m:Map} {st:St} {w:World} {lg:Log} (h:Rel W0 A m st.heap.get w) (hf:Fresh A m st.next):Ok W0 A m st w m st lg w:=⟨Step.refl h,hf⟩
theorem Ok.trans {A:Nat->Prop} {m m1 m2:Map} {st st1 st2:St} {w w1 w2:World} {l1 l2:Log} (h:Ok W0 A m st w m1 st1 l1 w1) (k:Ok W0 A m1 st1 w1 m2 st2 l2 w2):Ok W0 A m st w m2 st2 (l1.or l2) w2 :=
 ⟨(h.step.trans k.step).more (fun r hr=>by simpa [Log.or,Zpo] using hr),k.fresh⟩
theorem Ok.more {A:Nat->Prop} {m m1:Map} {st st1:St} {w w1:World} {l1 l2:Log} (h:Ok W0 A m st w m1 st1 l1 w1) (hl:∀ r,bit l1.T r->bit l2.T r):Ok W0 A m st w m1 st1 l2 w1 :=
 ⟨h.step.more hl,h.fresh⟩

structure ADef where
 fn:Fn
 cap:List AV
 args:List AV
 deriving Inhabited
structure AAct where
 tm:T AV
 n:Nat
 defers:List ADef
 f:FuncId:=0
 deriving Inhabited

def ADef.den (m:Map) (d:ADef):Option Deferred:=(denL m d.cap).bind fun c=>(denL m d.args).map fun a=>{ target:=.fn d.fn c.toArray,args:=a.toArray }
def denD (m:Map):List ADef->Option (List Deferred)
 | []=>some []
 | d :: ds=>(d.den m).bind fun x=>(denD m ds).map (x :: ·)
theorem ADef.den_mono {m m':Map} (h:m.Le m') {d:ADef} {x:Deferred} (hd:d.den m=some x):d.den m'=some x:=by
 simp only [ADef.den,Option.bind_eq_some_iff,Option.map_eq_some_iff] at hd ⊢
 obtain ⟨a,ha,b,hb,rfl⟩:=hd
 exact ⟨a,Zcd h _ ha,b,Zcd h _ hb,rfl⟩
theorem Zea {m m':Map} (h:m.Le m'):∀ {l:List ADef} {x:List Deferred},denD m l=some x->denD m' l=some x
 | [],x,hx=>hx
 | d :: ds,x,hx=>by
  simp only [denD,Option.bind_eq_some_iff,Option.map_eq_some_iff] at hx ⊢
  obtain ⟨a,ha,b,hb,rfl⟩:=hx
  exact ⟨a,ADef.den_mono h ha,b,Zea h hb,rfl⟩

structure TRel (m:Map) (x:AAct) (a:Act):Prop where
 size:a.tmps.size=x.n
 get:∀ t y,x.tm.get t=some y->∃ v,y.den m=some v/\a.tmps[t]?=some v
 defers:denD m x.defers=some a.defers
theorem TRel.mono {m m':Map} {x:AAct} {a:Act} (h:TRel m x a) (hm:m.Le m'):TRel m' x a :=
 ⟨h.size,fun t y hy=>let ⟨v,hv,ht⟩:=h.get t y hy;⟨v,AV.den_mono hm _ hv,ht⟩,Zea hm h.defers⟩

def ev (x:AAct):Operand->Option AV
 | .tmp t=>x.tm.get t
 | .const v=>some (.val v)
 | .global _=>none
 | .func f=>some (.val (.func (.func f) #[] #[]))
theorem ev_ok {m:Map} {x:AAct} {a:Act} (h:TRel m x a) {o:Operand} {y:AV} (hy:ev x o=some y):y.den m=some (a.eval o):=by
 cases o with
 | tmp t =>
  obtain ⟨v,hv,ht⟩:=h.get t y hy
  rw [hv]
  simp [Act.eval,ht]
 | const v=>simp [ev] at hy;subst hy;rfl
 | global g=>simp [ev] at hy
 | func f=>simp [ev] at hy;subst hy;rfl
def evL (x:AAct):List Operand->Option (List AV)
 | []=>some []
 | o :: os=>(ev x o).bind fun y=>(evL x os).map (y :: ·)
theorem Zmv {m:Map} {x:AAct} {a:Act} (h:TRel m x a):∀ {os:List Operand} {ys:List AV},evL x os=some ys->denL m ys=some (os.map a.eval)
 | [],ys,hy=>by simp [evL] at hy;subst hy;rfl
 | o :: os,ys,hy=>by
  simp only [evL,Option.bind_eq_some_iff,Option.map_eq_some_iff] at hy
  obtain ⟨y,hy,z,hz,rfl⟩:=hy
  simp [denL,ev_ok h hy,Zmv h hz]

def outOf (r:Value ⊕ Value) (w:World):Result Next:=match r with | .inl v=>.ok (.value v) w | .inr v=>.halt (.panic v) w
theorem pureNext_ok {P:Program}:∀ (s:Sem Next) {r:Value ⊕ Value},Zc6 P s=some r->∀ w,s.run P w=outOf r w:=by
 intro s
 induction s with
 | pure n =>
  intro r h w
  cases n <;> simp [Zc6] at h
  subst h;rfl
 | program k ih=>intro r h w;exact ih P h w
 | mark mk k ih=>intro r h w;exact ih h w
 | halt h =>
  intro r h' w
  cases h <;> simp [Zc6] at h'
  subst h';rfl
 | _=>intro r h w;simp [Zc6] at h

def plain (x:AAct) (o:Operand):Option Value:=(ev x o).bind (·.den Map.empty)
def plainD (x:AAct) (o:Operand):Value:=(plain x o).getD undef
def Zlt (x:AAct) (l:List Operand):Bool:=l.all fun o=>(plain x o).isSome
theorem plain_ok {m:Map} {x:AAct} {a:Act} (h:TRel m x a) {o:Operand} {v:Value} (hv:plain x o=some v):a.eval o=v:=by
 simp only [plain,Option.bind_eq_some_iff] at hv
 obtain ⟨y,hy,hv⟩:=hv
 have:=ev_ok h hy
 rw [AV.den_mono (Map.empty_le m) y hv] at this
 exact (Option.some.inj this).symm
def Zpr (P:Program) (o:Oper) (x:AAct):Option (Value ⊕ Value) :=
 cond (Op.isSelect o.op) none (cond (Zlt x o.op.operands.toList) (Zc6 P (execOp (plainD x) o)) none)
theorem aPlain_ok {P:Program} {o:Oper} {m:Map} {x:AAct} {a:Act} {r:Value ⊕ Value} (h:TRel m x a) (hr:Zpr P o x=some r) (w:World) :
  (execOp a.eval o).run P w=outOf r w:=by
 unfold Zpr at hr
 cases hs:Op.isSelect o.op with
 | true=>simp [hs] at hr
 | false =>
  cases hp:Zlt x o.op.operands.toList with
  | false=>simp [hs,hp] at hr
  | true =>
   simp [hs,hp] at hr
   rw [<- pureNext_ok _ hr w]
   congr 1
   refine execOp_congr o (fun cs b he=>by rw [he] at hs;simp [Op.isSelect] at hs) (fun y hy=>?_)
   simp only [Zlt,List.all_eq_true] at hp
   obtain ⟨v,hv⟩:=Option.isSome_iff_exists.1 (hp y (by simpa using hy))
   rw [plain_ok h hv,plainD,hv]
   rfl

def tyAgg (P:Program) (t:TypeId):Option Bool:=(P.underlying t).map fun | .struct _=>true | .array _ _=>true | _=>false
def Zbn (P:Program) (t:TypeId):Option Nat:=(P.info? t).map (·.size)
theorem Zby {P:Program} {t:TypeId} {b:Bool} (h:tyAgg P t=some b) (w:World):(isAgg t).run P w=.ok b w:=by
 simp only [tyAgg,Option.map_eq_some_iff] at h
 obtain ⟨d,hd,rfl⟩:=h
 simp only [isAgg,Sem.run_bind,run_underlying hd,Result.andThen_ok]
 cases d <;> rfl
theorem Zad {P:Program} {t:TypeId} {n:Nat} (h:Zbn P t=some n) (w:World):(sizeOf t).run P w=.ok n w:=by
 simp only [Zbn,Option.map_eq_some_iff] at h
 obtain ⟨i,hi,rfl⟩:=h
 simp [sizeOf,typeInfo,hi]

def AV.cellsOf:AV->List AV
 | .val (.agg cs)=>cs.toList.map .val
 | .agg cs=>cs
 | x=>[x]
def AV.aggs:AV->Option (List AV)
 | .val (.agg cs)=>some (cs.toList.map .val)
 | .agg cs=>some cs
 | _=>none
theorem Zbl (m:Map):∀ l:List Value,denL m (l.map .val)=some l
 | []=>rfl
 | v :: l=>by simp [denL,AV.den,Zbl m l]
theorem Zfp {m:Map} {x:AV} {v:Value} (h:x.den m=some v):denL m x.cellsOf=some v.cells.toList:=by
 cases x with
 | val u =>
  simp only [AV.den,Option.some.injEq] at h
  subst h
  cases u <;> simp [AV.cellsOf,Value.cells,denL,AV.den,Zbl]
 | agg cs =>
  simp only [AV.den,Option.map_eq_some_iff] at h
  obtain ⟨l,hl,rfl⟩:=h
  simpa [AV.cellsOf,Value.cells] using hl
 | ptr r v idx sz sub=>simp only [AV.den,Option.map_eq_some_iff] at h;obtain ⟨b,hb,rfl⟩:=h;simp [AV.cellsOf,denL,AV.den,hb,Value.cells]
 | mapV r=>simp only [AV.den,Option.map_eq_some_iff] at h;obtain ⟨b,hb,rfl⟩:=h;simp [AV.cellsOf,denL,AV.den,hb,Value.cells]
 | slice r v lo sz len cap opn=>simp only [AV.den,Option.map_eq_some_iff] at h;obtain ⟨b,hb,rfl⟩:=h;simp [AV.cellsOf,denL,AV.den,hb,Value.cells]
 | dat r =>
  have h':=h
  simp only [AV.den,Option.bind_eq_some_iff] at h
  obtain ⟨b,hb,he⟩:=h
  cases hone:b.1.oneCell' with
  | false=>simp [hone] at he
  | true =>
   simp only [hone,cond_true,Option.some.injEq] at he
   subst he
   have:(b.1.cells).toList=[b.1]:=by revert hone;cases b.1 <;> simp [Value.oneCell',Value.cells]
   simp only [AV.cellsOf,denL,h',this,Option.bind_some,Option.map_some]
 | ptrD r e sz sub =>
  have h':=h
  simp only [AV.den,Option.bind_eq_some_iff] at h
  obtain ⟨b,hb,i,hi,n,hn,he⟩:=h
  unfold Zha at he
  split at he
  ·cases he;simp only [AV.cellsOf,denL,h',Value.cells];rfl
  ·cases he
 | sliceS r v lo len sz =>
  have h':=h
  simp only [AV.den,Option.bind_eq_some_iff,Option.map_eq_some_iff] at h
  obtain ⟨b,hb,l,hl,n,hn,l',hl',n',hn',rfl⟩:=h
  simp only [AV.cellsOf,denL,h',Value.cells];rfl
 | ptrS r v e sz sub =>
  have h':=h
  simp only [AV.den,Option.bind_eq_some_iff,Option.map_eq_some_iff] at h
  obtain ⟨b,hb,i,hi,n,hn,rfl⟩:=h
  simp only [AV.cellsOf,denL,h',Value.cells];rfl
 | sym e =>
  have h':=h
  simp only [AV.den,Option.bind_eq_some_iff] at h
  obtain ⟨b,hb,he⟩:=h
  cases hone:b.oneCell' with
  | false=>simp [hone] at he
  | true =>
   simp only [hone,cond_true,Option.some.injEq] at he
   subst he
   have:(b.cells).toList=[b]:=by revert hone;cases b <;> simp [Value.oneCell',Value.cells]
   simp only [AV.cellsOf,denL,h',this,Option.bind_some,Option.map_some]
 | tuple cs=>have h':=h;simp only [AV.den,Option.map_eq_some_iff] at h;obtain ⟨b,hb,rfl⟩:=h;simp [AV.cellsOf,denL,h',Value.cells]
 | func fn f c=>have h':=h;simp only [AV.den,Option.bind_eq_some_iff,Option.map_eq_some_iff] at h;obtain ⟨a,ha,b,hb,rfl⟩:=h;simp [AV.cellsOf,denL,h',Value.cells]
 | iface t y=>have h':=h;simp only [AV.den,Option.map_eq_some_iff] at h;obtain ⟨b,hb,rfl⟩:=h;simp [AV.cellsOf,denL,h',Value.cells]
theorem Zl3 {m:Map} {x:AV} {cs:List AV} {v:Value} (h:x.aggs=some cs) (hv:x.den m=some v):∃ l,v=.agg l.toArray/\denL m cs=some l:=by
 cases x <;> simp [AV.aggs] at h
 ·rename_i u
  cases u <;> simp at h
  rename_i a
  subst h
  simp only [AV.den,Option.some.injEq] at hv
  subst hv
  exact ⟨a.toList,by simp,Zbl m _⟩
 ·subst h
  simp only [AV.den,Option.map_eq_some_iff] at hv
  obtain ⟨l,hl,rfl⟩:=hv
  exact ⟨l,rfl,hl⟩
theorem Zb0 {m:Map}:∀ {l:List AV} {vs:List Value} (n:Nat),denL m l=some vs->denL m (l.take n)=some (vs.take n)
 | [],vs,n,h=>by simp [denL] at h;subst h;simp [denL]
 | c :: cs,vs,n,h=>by
  simp only [denL,Option.bind_eq_some_iff,Option.map_eq_some_iff] at h
  obtain ⟨a,ha,b,hb,rfl⟩:=h
  cases n with
  | zero=>simp [denL]
  | succ n=>simp [denL,ha,Zb0 n hb]
theorem Zb1 {m:Map}:∀ {l:List AV} {vs:List Value} (n:Nat),denL m l=some vs->denL m (l.drop n)=some (vs.drop n)
 | [],vs,n,h=>by simp [denL] at h;subst h;simp [denL]
 | c :: cs,vs,n,h=>by
  have h':=h
  simp only [denL,Option.bind_eq_some_iff,Option.map_eq_some_iff] at h
  obtain ⟨a,ha,b,hb,rfl⟩:=h
  cases n with
  | zero=>simpa using h'
  | succ n=>simpa using Zb1 n hb

def aPart (P:Program) (t:TypeId) (cs:List AV) (off:Nat):Option AV :=
 (tyAgg P t).bind fun ag=>cond ag ((Zbn P t).map fun n=>.agg ((cs.drop off).take n)) cs[off]?
theorem aPart_ok {P:Program} {t:TypeId} {cs:List AV} {off:Nat} {y:AV} {m:Map} {l:List Value} (h:aPart P t cs off=some y) (hl:denL m cs=some l) (w:World) :
  ∃ v,y.den m=some v/\(part t l.toArray off).run P w=.ok v w:=by
 simp only [aPart,Option.bind_eq_some_iff] at h
 obtain ⟨ag,hag,h⟩:=h
 unfold part
 simp only [Sem.run_bind,Zby hag,Result.andThen_ok]
 cases ag with
 | true =>
  simp only [cond_true,Option.map_eq_some_iff] at h
  obtain ⟨n,hn,rfl⟩:=h
  refine ⟨.agg ((l.drop off).take n).toArray,?_,?_⟩
  ·simp [AV.den,Zb0 n (Zb1 off hl)]
  ·simp [Zad hn,List.extract_eq_take_drop]
 | false =>
  simp only [cond_false] at h
  obtain ⟨v,hv,hg⟩:=Za7 hl h
  refine ⟨v,hv,?_⟩
  simp [hg]

def Zpx (P:Program) (t:TypeId) (x:AV) (f:Nat):Option AV :=
 x.aggs.bind fun cs=>match P.underlying t with
  | some (.struct fs)=>(fs[f]?).bind fun fl=>aPart P fl.type cs fl.offset
  | _=>none
theorem aField_ok {P:Program} {t:TypeId} {x y:AV} {f:Nat} {m:Map} {u:Value} (h:Zpx P t x f=some y) (hx:x.den m=some u) (w:World) :
  ∃ v,y.den m=some v/\(Instr.field t u f).run P w=.ok v w:=by
 simp only [Zpx,Option.bind_eq_some_iff] at h
 obtain ⟨cs,hcs,h⟩:=h
 obtain ⟨l,rfl,hl⟩:=Zl3 hcs hx
 split at h
 ·rename_i fs hu
  simp only [Option.bind_eq_some_iff] at h
  obtain ⟨fl,hf,h⟩:=h
  obtain ⟨v,hv,hr⟩:=aPart_ok h hl w
  exact ⟨v,hv,by simp [Instr.field,run_underlying hu,hf,asAgg,hr]⟩
 ·simp at h

def Zl8 (x:AV) (i:Nat):Option AV:=match x with
 | .tuple cs=>cs[i]?
 | .val (.tuple vs)=>(vs[i]?).map .val
 | _=>none
theorem aExtract_ok {P:Program} {x y:AV} {i:Nat} {m:Map} {u:Value} (h:Zl8 x i=some y) (hx:x.den m=some u) (w:World) :
  ∃ v,y.den m=some v/\(Instr.extract u i).run P w=.ok v w:=by
 cases x <;> simp [Zl8] at h
 ·rename_i a
  cases a <;> simp at h
  rename_i vs
  simp only [AV.den,Option.some.injEq] at hx
  subst hx
  obtain ⟨v,hv,rfl⟩:=h
  exact ⟨v,rfl,by simp [Instr.extract,hv]⟩
 ·rename_i cs
  simp only [AV.den,Option.map_eq_some_iff] at hx
  obtain ⟨l,hl,rfl⟩:=hx
  obtain ⟨v,hv,hg⟩:=Za7 hl h
  exact ⟨v,hv,by simp [Instr.extract,hg]⟩

def Zhw (P:Program) (s:TypeId) (x:AV) (f:Nat):Option AV:=match x with
 | .ptr r v idx sz sub=>match P.underlying s with
  | some (.struct fs)=>(fs[f]?).bind fun fl=>match Zbn P fl.type with
   | some (_+1)=>some (.ptr r v idx sz (sub+fl.offset))
   | _=>none
  | _=>none
 | .ptrD r e sz sub=>match P.underlying s with
  | some (.struct fs)=>(fs[f]?).bind fun fl=>match Zbn P fl.type with
   | some (_+1)=>some (.ptrD r e sz (sub+fl.offset))
   | _=>none
  | _=>none
 | .ptrS r v e sz sub=>match P.underlying s with
  | some (.struct fs)=>(fs[f]?).bind fun fl=>match Zbn P fl.type with
   | some (_+1)=>some (.ptrS r v e sz (sub+fl.offset))
   | _=>none
  | _=>none
 | _=>none
theorem elemAt_add {n k:Nat} {v u:Value} (h:Zha n v=some u):∃ b off,u=.pointer (some ⟨b,off,none⟩)/\Zha (n+k) v=some (.pointer (some ⟨b,off+k,none⟩)):=by
 unfold Zha at h
 split at h
 ·rename_i b off _ _
  cases h
  exact ⟨b,off+n,rfl,by simp [Zha,Nat.add_assoc]⟩
 ·cases h
theorem Zam (b o n:Nat):(⟨b,o,none⟩:Addr).add n=⟨b,o+n,none⟩:=by unfold Addr.add;split <;> simp_all
theorem aFieldAddr_ok {P:Program} {s:TypeId} {x y:AV} {f:Nat} {m:Map} {u:Value} (h:Zhw P s x f=some y) (hx:x.den m=some u) (w:World) :
  ∃ v,y.den m=some v/\(Instr.fieldAt s u f).run P w=.ok v w:=by
 unfold Zhw at h
 split at h
 ·rename_i r v idx sz sub
  split at h
  ·rename_i fs hu
   simp only [Option.bind_eq_some_iff] at h
   obtain ⟨fl,hf,h⟩:=h
   split at h
   ·rename_i k hk
    simp only [Option.some.injEq] at h
    subst h
    simp only [AV.den,Option.map_eq_some_iff] at hx
    obtain ⟨b,hb,rfl⟩:=hx
    refine ⟨.pointer (some ⟨b.1,idx * sz+(sub+fl.offset),none⟩),by simp [AV.den,hb],?_⟩
    simp [Instr.fieldAt,run_underlying hu,hf,Instr.sureAddr,fieldPlace,Zad hk,Zam,Nat.add_assoc]
   ·simp at h
  ·simp at h
 ·rename_i r e sz sub
  split at h
  ·rename_i fs hu
   simp only [Option.bind_eq_some_iff] at h
   obtain ⟨fl,hf,h⟩:=h
   split at h
   ·rename_i k hk
    simp only [Option.some.injEq] at h
    subst h
    simp only [AV.den,Option.bind_eq_some_iff] at hx
    obtain ⟨b,hb,i,hi,n,hn,he⟩:=hx
    obtain ⟨bb,off,rfl,h2⟩:=elemAt_add (k:=fl.offset) he
    refine ⟨.pointer (some ⟨bb,off+fl.offset,none⟩),by simp [AV.den,hb,hi,hn,<- Nat.add_assoc,h2],?_⟩
    simp [Instr.fieldAt,run_underlying hu,hf,Instr.sureAddr,fieldPlace,Zad hk,Zam]
   ·simp at h
  ·simp at h
 ·rename_i r v e sz sub
  split at h
  ·rename_i fs hu
   simp only [Option.bind_eq_some_iff] at h
   obtain ⟨fl,hf,h⟩:=h
   split at h
   ·rename_i k hk
    simp only [Option.some.injEq] at h
    subst h
    simp only [AV.den,Option.bind_eq_some_iff,Option.map_eq_some_iff] at hx
    obtain ⟨b,hb,i,hi,n,hn,rfl⟩:=hx
    refine ⟨.pointer (some ⟨b.1,n * sz+(sub+fl.offset),none⟩),by simp [AV.den,hb,hi,hn],?_⟩
    simp [Instr.fieldAt,run_underlying hu,hf,Instr.sureAddr,fieldPlace,Zad hk,Zam,Nat.add_assoc]
   ·simp at h
  ·simp at h
 ·simp at h

def AV.int?:AV->Option (IntKind × Int) | .val (.int k n)=>some (k,n) | _=>none
theorem int?_ok {m:Map} {x:AV} {k:IntKind} {n:Int} (h:x.int?=some (k,n)):x.den m=some (.int k n):=by
 cases x <;> simp [AV.int?] at h
 rename_i v
 cases v <;> simp at h
 obtain ⟨rfl,rfl⟩:=h
 rfl

def Zda (P:Program) (t:TypeId) (x ix:AV):Option AV :=
 ix.int?.bind fun (k,i)=>match P.underlying t with
  | some (.slice e)=>match x with
   | .slice r v lo sz len cap opn=>cond (decide (0<=i) && decide (i < (len:Int)) && (Zbn P e == some sz)) (some (.ptr r v (lo+i.toNat) sz 0)) none
   | _=>none
  | some (.array n e)=>match x with
   | .ptr r v idx sz sub=>cond (decide (0<=i) && decide (i < (n:Int))) ((Zbn P e).map fun k=>.ptr r v idx sz (sub+i.toNat * k)) none
   | .ptrD r q sz sub=>cond (decide (0<=i) && decide (i < (n:Int))) ((Zbn P e).map fun k=>.ptrD r q sz (sub+i.toNat * k)) none
   | _=>none
  | _=>none
theorem aIndexAddr_ok {P:Program} {t:TypeId} {x ix y:AV} {m:Map} {u iu:Value} (h:Zda P t x ix=some y) (hx:x.den m=some u) (hi:ix.den m=some iu) (w:World) :
  ∃ v,y.den m=some v/\(Instr.indexAt t u iu).run P w=.ok v w:=by
 simp only [Zda,Option.bind_eq_some_iff] at h
 obtain ⟨⟨k,i⟩,hk,h⟩:=h
 rw [int?_ok hk] at hi
 cases hi
 simp only at h
 split at h
 ·rename_i e hu
  split at h
  ·rename_i r v lo sz len cap opn
   simp only [cond_eq_ite,Bool.and_eq_true,decide_eq_true_eq,beq_iff_eq] at h
   split at h
   ·rename_i hc
    obtain ⟨⟨h0,h1⟩,hs⟩:=hc
    simp only [Option.some.injEq] at h
    subst h
    simp only [AV.den,Option.map_eq_some_iff] at hx
    obtain ⟨b,hb,rfl⟩:=hx
    refine ⟨.pointer (some ⟨b.1,(lo+i.toNat) * sz+0,none⟩),by simp [AV.den,hb],?_⟩
    simp [Instr.indexAt,asIntOf,run_underlying hu,h0,h1,Zad hs,Zam,Nat.add_mul]
   ·simp at h
  ·simp at h
 ·rename_i n e hu
  split at h
  ·rename_i r v idx sz sub
   simp only [cond_eq_ite,Bool.and_eq_true,decide_eq_true_eq] at h
   split at h
   ·rename_i hc
    obtain ⟨h0,h1⟩:=hc
    simp only [Option.map_eq_some_iff] at h
    obtain ⟨s,hs,rfl⟩:=h
    simp only [AV.den,Option.map_eq_some_iff] at hx
    obtain ⟨b,hb,rfl⟩:=hx
    refine ⟨.pointer (some ⟨b.1,idx * sz+(sub+i.toNat * s),none⟩),by simp [AV.den,hb],?_⟩
    simp [Instr.indexAt,asIntOf,run_underlying hu,h0,h1,Zad hs,Zam,Nat.add_assoc,Instr.sureAddr]
   ·simp at h
  ·rename_i r q sz sub
   simp only [cond_eq_ite,Bool.and_eq_true,decide_eq_true_eq] at h
   split at h
   ·rename_i hc
    obtain ⟨h0,h1⟩:=hc
    simp only [Option.map_eq_some_iff] at h
    obtain ⟨s,hs,rfl⟩:=h
    simp only [AV.den,Option.bind_eq_some_iff] at hx
    obtain ⟨b,hb,i',hi',n',hn',he⟩:=hx
    obtain ⟨bb,off,rfl,h2⟩:=elemAt_add (k:=i.toNat * s) he
    refine ⟨.pointer (some ⟨bb,off+i.toNat * s,none⟩),by simp [AV.den,hb,hi',hn',<- Nat.add_assoc,h2],?_⟩
    simp [Instr.indexAt,asIntOf,run_underlying hu,h0,h1,Zad hs,Zam,Instr.sureAddr]
   ·simp at h
  ·simp at h
 ·simp at h

end Go.Proofs.Ytgdegpifjljnoaa.eng
end

section
/- The engine's operations on memory: loads, stores, new rows. -/
namespace Go.Proofs.Ytgdegpifjljnoaa.eng
open Go
variable {W0 : Base}

def Zog:List (Nat × Nat)->Nat->Option Nat
 | [],_=>none
 | (a,n) :: l,v=>cond (Nat.beq a v) (some n) (Zog l v)
theorem verLen_mem:∀ {l:List (Nat × Nat)} {v n:Nat},Zog l v=some n->(v,n) ∈ l
 | (a,k) :: l,v,n,h=>by
  simp only [Zog,cond_eq_ite,Nat.beq_eq] at h
  split at h
  ·rename_i e;subst e;simp at h;subst h;simp
  ·exact List.mem_cons_of_mem _ (verLen_mem h)

def getC (st:St) (r:Nat):Option ARoot:=(st.heap.get r).bind fun o=>cond o.mp none (some o)
theorem Zjp {st:St} {r:Nat} {o:ARoot} (h:getC st r=some o):st.heap.get r=some o/\o.mp=false:=by
 simp only [getC,Option.bind_eq_some_iff] at h
 obtain ⟨o',ho,h⟩:=h
 cases hm:o'.mp with
 | true=>simp [hm] at h
 | false =>
  simp only [hm,cond_false,Option.some.injEq] at h
  subst h
  exact ⟨ho,hm⟩
def look (st:St) (r v:Nat):Option (ARoot × Nat):=(st.heap.get r).bind fun o=>(cond o.mp none (Zog o.vers v)).map fun n=>(o,n)
theorem Ze6 {st:St} {r v n:Nat} {o:ARoot} (h:look st r v=some (o,n)):st.heap.get r=some o/\(v,n) ∈ o.vers:=by
 simp only [look,Option.bind_eq_some_iff,Option.map_eq_some_iff] at h
 obtain ⟨o',ho,n',hn,he⟩:=h
 cases he
 cases hm:o.mp with
 | true=>simp [hm] at hn
 | false =>
  rw [hm] at hn
  exact ⟨ho,verLen_mem hn⟩
theorem Zei {st:St} {r v n:Nat} {o:ARoot} (h:look st r v=some (o,n)):o.mp=false:=by
 simp only [look,Option.bind_eq_some_iff,Option.map_eq_some_iff] at h
 obtain ⟨o',ho,n',hn,he⟩:=h
 cases he
 cases hm:o.mp with
 | true=>simp [hm] at hn
 | false=>rfl
theorem Rel.blkC {A:Nat->Prop} {m:Map} {g:Heap} {w:World} (h:Rel W0 A m g w) (r:Nat) (o:ARoot) (ha:A r) (ho:g r=some o) (hm:o.mp=false) (v n:Nat) (hv:(v,n) ∈ o.vers):∃ b,m r v=some b/\BlkC m w o b n:=by
 obtain ⟨b,hb,hB⟩:=h.blk r o ha ho v n hv
 exact ⟨b,hb,hB.c hm⟩

def Zaw (o:ARoot) (off k:Nat):List AV:=(o.cells.drop off).take k

theorem BlkC.cells {P:Program} {m:Map} {w:World} {o:ARoot} {b:Nat × Nat} {n:Nat} (h:BlkC m w o b n) {off k:Nat} (hk:off+k<=n) :
  ∃ l:List Value,denL m (Zaw o off k)=some l/\l.length=k/\(loadCells ⟨b.1,off,none⟩ k).run P w=.ok l.toArray w/\(∀ j v,l[j]?=some v->w.cell? ⟨b.1,off+j,none⟩=some v):=by
 obtain ⟨c,fz,hc,_,hn,hs,hm,_⟩:=h
 have hlen:((c.toList.drop off).take k).length=k:=by simp;omega
 have hcell:∀ j v,((c.toList.drop off).take k)[j]?=some v->w.cell? ⟨b.1,off+j,none⟩=some v:=by
  intro j v hj
  have hj':j < k:=by
   have:=(List.getElem?_eq_some_iff.1 hj).1
   omega
  rw [List.getElem?_take,if_pos hj',List.getElem?_drop] at hj
  simpa [World.cell?,hc] using hj
 refine ⟨(c.toList.drop off).take k,?_,hlen,?_,hcell⟩
 ·refine denL_of_get (by simp [Zaw];omega) ?_
  intro i x hx
  have hi:i < k:=by
   have:=(List.getElem?_eq_some_iff.1 hx).1
   simp [Zaw] at this
   all_goals omega
  rw [Zaw,List.getElem?_take,if_pos hi,List.getElem?_drop] at hx
  obtain ⟨v,hv,hg⟩:=hm (off+i) x (by omega) hx
  exact ⟨v,hv,by rw [List.getElem?_take,if_pos hi,List.getElem?_drop];simpa using hg⟩
 ·have:=run_loadCells_list (P:=P) w ⟨b.1,off,none⟩ ((c.toList.drop off).take k) (fun j v hj=>by rw [Zam];exact hcell j v hj)
  rwa [hlen] at this
theorem BlkC.cell {m:Map} {w:World} {o:ARoot} {b:Nat × Nat} {n:Nat} (h:BlkC m w o b n) {off:Nat} {y:AV} (hk:off+1<=n) (hy:o.cells[off]?=some y) :
  ∃ v,y.den m=some v/\w.cell? ⟨b.1,off,none⟩=some v:=by
 obtain ⟨c,fz,hc,_,hn,hs,hm,_⟩:=h
 obtain ⟨v,hv,hg⟩:=hm off y (by omega) hy
 exact ⟨v,hv,by simp [World.cell?,hc,hg]⟩

def aLoad (P:Program) (st:St) (t:TypeId):AV->Option (AV × Log)
 | .ptr r v idx sz sub=>(look st r v).bind fun (o,n)=>(tyAgg P t).bind fun ag =>
  cond ag ((Zbn P t).bind fun k=>cond (Nat.ble (idx * sz+sub+k) n) (some (.agg (Zaw o (idx * sz+sub) k),Log.sees r)) none)
   (cond (Nat.ble (idx * sz+sub+1) n) ((o.cells[idx * sz+sub]?).map fun y=>(y,Log.sees r)) none)
 | _=>none
theorem aLoad_ok {P:Program} {st:St} {t:TypeId} {x y:AV} {lg:Log} {A:Nat->Prop} {m:Map} {w:World} {u:Value} (h:aLoad P st t x=some (y,lg)) (hA:lg.Fits W0 A)
  (hR:Rel W0 A m st.heap.get w) (hx:x.den m=some u):∃ v,y.den m=some v/\(Instr.loadAt t u).run P w=.ok v w:=by
 unfold aLoad at h
 split at h
 ·rename_i r v idx sz sub
  simp only [Option.bind_eq_some_iff] at h
  obtain ⟨⟨o,n⟩,hl,ag,hag,h⟩:=h
  obtain ⟨ho,hv⟩:=Ze6 hl
  simp only [AV.den,Option.map_eq_some_iff] at hx
  obtain ⟨b,hb,rfl⟩:=hx
  have hblk:A r->BlkC m w o b n:=fun ha=>by
   obtain ⟨b',hb',hB⟩:=hR.blkC r o ha ho (Zei hl) v n hv
   rw [hb] at hb';cases hb';exact hB
  have hload:(Instr.loadAt t (.pointer (some ⟨b.1,idx * sz+sub,none⟩))).run P w=(loadVar t ⟨b.1,idx * sz+sub,none⟩).run P w:=by simp [Instr.loadAt,Instr.sureAddr]
  rw [hload]
  unfold loadVar
  simp only [Sem.run_bind,Zby hag,Result.andThen_ok]
  cases ag with
  | true =>
   simp only [cond_true,Option.bind_eq_some_iff] at h
   obtain ⟨k,hk,h⟩:=h
   cases hle:Nat.ble (idx * sz+sub+k) n with
   | false=>simp [hle] at h
   | true =>
    simp only [hle,cond_true,Option.some.injEq,Prod.mk.injEq] at h
    obtain ⟨rfl,rfl⟩:=h
    have ha:A r:=hA.1 r (by simp [Log.sees,Zah])
    obtain ⟨l,hd,_,hrun,_⟩:=(hblk ha).cells (P:=P) (off:=idx * sz+sub) (k:=k) (Nat.le_of_ble_eq_true hle)
    exact ⟨.agg l.toArray,by simp [AV.den,hd],by simp [Zad hk,hrun]⟩
  | false =>
   simp only [cond_false] at h
   cases hle:Nat.ble (idx * sz+sub+1) n with
   | false=>simp [hle] at h
   | true =>
    simp only [hle,cond_true,Option.map_eq_some_iff,Prod.mk.injEq] at h
    obtain ⟨z,hz,rfl,rfl⟩:=h
    have ha:A r:=hA.1 r (by simp [Log.sees,Zah])
    obtain ⟨q,hq,hc⟩:=(hblk ha).cell (Nat.le_of_ble_eq_true hle) hz
    exact ⟨q,hq,by simp [hc]⟩
 ·cases h

theorem Zbd (P:Program) (g o:Nat) (t:TypeId) (fz:Nat × Nat):∀ (vs:List Value) (i:Nat) (cur:Array Value) (w:World),w.heap[g]?=some (.cells cur t fz)->(∀ j,j < cur.size->¬ (fz.1<=j/\j < fz.2))->o+i+vs.length<=cur.size->(∀ v ∈ vs,v.oneCell'=true) →
  (storeCells ⟨g,o,none⟩ vs i).run P w=.ok () (w.setRow g (cur.toList.take (o+i)++vs++cur.toList.drop (o+i+vs.length)).toArray)
 | [],i,cur,w,hg,_,_,_=>by
  simp only [storeCells,List.append_nil,List.length_nil,Nat.add_zero,List.take_append_drop,Array.toArray_toList]
  rw [setRow_self w g cur t fz hg]
  rfl
 | v :: rest,i,cur,w,hg,hfz,hl,h1=>by
  have hi:o+i < cur.size:=by simp at hl;omega
  have hadd:(⟨g,o,none⟩:Addr).add i=⟨g,o+i,none⟩:=Zam _ _ _
  have hcell:w.cell? ⟨g,o+i,none⟩=some cur[o+i]:=by simp [World.cell?,hg,hi]
  have hfro:w.frozen? ⟨g,o+i,none⟩=false:=by
   obtain ⟨lo,hi'⟩:=fz
   have:=hfz (o+i) hi
   simp only [World.frozen?,hg,Bool.and_eq_false_iff,decide_eq_false_iff_not]
   simp only at this
   omega
  have hst:(store ((⟨g,o,none⟩:Addr).add i) v).run P w=.ok () (w.setRow g (cur.setIfInBounds (o+i) v)):=by
   rw [hadd,run_store P w _ v _ (h1 v (by simp)),hcell]
   simp [hfro,setCell_eq_setRow w g (o+i) cur t fz v hg]
  have ih:=Zbd P g o t fz rest (i+1) (cur.setIfInBounds (o+i) v) (w.setRow g (cur.setIfInBounds (o+i) v)) (setRow_heap w g cur _ t _ hg) (by simpa using hfz) (by simp at hl ⊢;omega) (fun x hx=>h1 x (by simp [hx]))
  simp only [storeCells,Sem.run_bind,hst,Result.andThen_ok,ih,setRow_setRow]
  congr 3
  have e:=list_seg_step cur.toList (o+i) v rest (by simp at hl ⊢;omega)
  simpa [Array.toList_setIfInBounds,Nat.add_assoc] using e

def AV.one:AV->Bool
 | .val (.agg _) | .val (.tuple _) | .agg _ | .tuple _=>false
 | _=>true
theorem Zpg {m:Map} {x:AV} {v:Value} (h:x.one=true) (hx:x.den m=some v):v.oneCell'=true:=by
 cases x with
 | val u=>simp only [AV.den,Option.some.injEq] at hx;subst hx;cases u <;> simp_all [AV.one,Value.oneCell']
 | agg cs=>simp [AV.one] at h
 | tuple cs=>simp [AV.one] at h
 | ptr r v idx sz sub=>simp only [AV.den,Option.map_eq_some_iff] at hx;obtain ⟨b,hb,rfl⟩:=hx;rfl
 | slice r v lo sz len cap opn=>simp only [AV.den,Option.map_eq_some_iff] at hx;obtain ⟨b,hb,rfl⟩:=hx;rfl
 | dat r =>
  simp only [AV.den,Option.bind_eq_some_iff] at hx
  obtain ⟨b,hb,he⟩:=hx
  cases hone:b.1.oneCell' with
  | false=>simp [hone] at he
  | true=>simp only [hone,cond_true,Option.some.injEq] at he;subst he;exact hone
 | ptrD r e sz sub =>
  simp only [AV.den,Option.bind_eq_some_iff] at hx
  obtain ⟨b,hb,i,hi,n,hn,he⟩:=hx
  unfold Zha at he
  split at he
  ·cases he;rfl
  ·cases he
 | sliceS r v lo len sz =>
  simp only [AV.den,Option.bind_eq_some_iff,Option.map_eq_some_iff] at hx
  obtain ⟨b,hb,l,hl,n,hn,l',hl',n',hn',rfl⟩:=hx
  rfl
 | ptrS r v e sz sub =>
  simp only [AV.den,Option.bind_eq_some_iff,Option.map_eq_some_iff] at hx
  obtain ⟨b,hb,i,hi,n,hn,rfl⟩:=hx
  rfl
 | mapV r=>simp only [AV.den,Option.map_eq_some_iff] at hx;obtain ⟨b,hb,rfl⟩:=hx;rfl
 | sym e =>
  simp only [AV.den,Option.bind_eq_some_iff] at hx
  obtain ⟨b,hb,he⟩:=hx
  cases hone:b.oneCell' with
  | false=>simp [hone] at he
  | true=>simp only [hone,cond_true,Option.some.injEq] at he;subst he;exact hone
 | func fn f c=>simp only [AV.den,Option.bind_eq_some_iff,Option.map_eq_some_iff] at hx;obtain ⟨a,ha,b,hb,rfl⟩:=hx;rfl
 | iface t y=>simp only [AV.den,Option.map_eq_some_iff] at hx;obtain ⟨b,hb,rfl⟩:=hx;rfl

def St.put (st:St) (r:Nat) (o:ARoot):Option St:=cond (Nat.blt (r+1) 16777216) (some { st with heap:=st.heap.set 24 r (some o) }) none
theorem put_ok {st st' : St} {r : Nat} {o : ARoot} (h : st.put r o = some st') : st'.heap.get = Heap.upd st.heap.get r o /\ st'.next = st.next := by
  simp only [St.put, cond_eq_ite] at h
  split at h
  · rename_i hb
    cases h
    refine ⟨funext fun k => ?_, rfl⟩
    rw [T.get_set _ _ _ _ _ (by have h1 : r + 1 < 16777216 := by simpa using hb
                                exact h1)]
    rfl
  · cases h

def Zcf (st:St) (r v off:Nat) (ys:List AV):Option (St × Log) :=
 (getC st r).bind fun o=>match o.vers with
  | (v',n) :: _=>cond (Nat.beq v v' && !o.ro && Nat.ble (off+ys.length) n && ys.all AV.one)
    ((st.put r { o with cells:=o.cells.take off++ys++o.cells.drop (off+ys.length),vers:=[(v,n)],dat:=none,sym:=none }).map fun st'=>(st',Log.turns r)) none
  | []=>none
theorem Zd2 {P:Program} {st st':St} {r v off:Nat} {ys:List AV} {lg:Log} {A:Nat->Prop} {m:Map} {w:World} {b:Nat × Nat} {vs:List Value} (h:Zcf st r v off ys=some (st',lg)) (hA:lg.Fits W0 A)
  (hR:Rel W0 A m st.heap.get w) (hF:Fresh A m st.next) (hb:m r v=some b) (hy:denL m ys=some vs) :
  ∃ w',(storeCells ⟨b.1,off,none⟩ vs).run P w=.ok () w'/\Ok W0 A m st w m st' lg w':=by
 simp only [Zcf,Option.bind_eq_some_iff] at h
 obtain ⟨o,ho,h⟩:=h
 obtain ⟨ho,hmp⟩:=Zjp ho
 split at h
 ·rename_i v' n rest hvers
  simp only [cond_eq_ite,Bool.and_eq_true,Nat.beq_eq,Nat.ble_eq,List.all_eq_true] at h
  split at h
  ·rename_i hc
   obtain ⟨⟨⟨rfl,hro⟩,hle⟩,hone⟩:=hc
   simp only [Option.map_eq_some_iff] at h
   obtain ⟨s1,hp,he⟩:=h
   cases he
   have ha:A r:=hA.1 r (by simp [Log.turns,Zah])
   obtain ⟨hput,hnext⟩:=put_ok hp
   obtain ⟨b',hb',hB⟩:=hR.blkC r o ha ho hmp v n (by rw [hvers];simp)
   rw [hb] at hb';cases hb'
   have hB':=hB
   obtain ⟨c,fz,hc,hfz,hn,hs,hm,hsz⟩:=hB
   have hvl:vs.length=ys.length:=Zae hy
   have hrun:=Zbd P b.1 off o.elem fz vs 0 c w hc hfz (by omega) (fun x hx=>by
    obtain ⟨i,hi,rfl⟩:=List.getElem_of_mem hx
    have hi':i < ys.length:=by omega
    obtain ⟨v,hv,hg⟩:=Za7 hy (List.getElem?_eq_getElem hi')
    have:vs[i]=v:=by rw [List.getElem?_eq_getElem hi] at hg;exact Option.some.inj hg
    rw [this]
    exact Zpg (hone _ (List.getElem_mem hi')) hv)
   simp only [Nat.add_zero] at hrun
   refine ⟨_,hrun,⟨?_,?_⟩⟩
   ·rw [hput]
    have hlen:(List.take off c.toList++vs++List.drop (off+vs.length) c.toList).length=c.size:=by simp;omega
    refine Step.more (T1:=fun k=>k=r) (Step.put hR ha (Map.Le.refl m) (fun _ _ _=>rfl) rfl rfl (fun o2 _ _ _ ho2 _ _=>by rw [ho] at ho2;cases ho2;simpa using hro) rfl (fun _ _ _ _ he _ _=>by simp at he) (fun o2 _ _ _ ho2 _ _=>by rw [ho] at ho2;cases ho2;rfl) (fun _ v1 n1 b1 hv1 hb1=>by
     simp only [List.mem_singleton,Prod.mk.injEq] at hv1
     obtain ⟨rfl,rfl⟩:=hv1
     exact hR.lt ha ho (show (v1,n1) ∈ o.vers by rw [hvers];simp) hb1) rfl rfl rfl (by simp) ?_ ?_ ?_ ?_) (fun k hk=>by simp only [Log.turns];rw [Zah];exact hk)
    ·intro k _ hno
     exact setRow_other w b.1 k _ (fun e=>hno o v n b ho (by rw [hvers];simp) hb e.symm)
    ·intro v1 n1 hv1
     simp only [List.mem_singleton,Prod.mk.injEq] at hv1
     obtain ⟨rfl,rfl⟩:=hv1
     refine ⟨b,hb,BlkC.b ⟨_,fz,setRow_heap w b.1 c _ o.elem fz hc,?_,?_,?_,?_,?_⟩ hmp⟩
     ·intro i hi
      exact hfz i (by simp at hi;omega)
     ·simp;omega
     ·simp;omega
     ·intro i x hi hx
      simp only [List.getElem?_append,List.getElem?_take,List.getElem?_drop,List.length_append,List.length_take] at hx
      simp only [List.getElem?_toArray,List.getElem?_append,List.getElem?_take,List.getElem?_drop,List.length_append,List.length_take,Array.length_toList]
      rw [show min off o.cells.length=off by omega] at hx
      rw [show min off c.size=off by omega,hvl]
      by_cases h1:i < off
      ·rw [if_pos (by omega),if_pos h1,if_pos h1] at hx
       rw [if_pos (by omega),if_pos h1,if_pos h1]
       simpa using hm i x hi hx
      ·by_cases h2:i < off+ys.length
       ·rw [if_pos h2,if_neg h1] at hx
        rw [if_pos h2,if_neg h1]
        exact Za7 hy hx
       ·rw [if_neg h2] at hx
        rw [if_neg h2]
        rw [show off+ys.length+(i - (off+ys.length))=i by omega] at hx ⊢
        simpa using hm i x hi hx
     ·cases hop:o.opn with
      | true=>simp [hop] at hsz ⊢;omega
      | false=>simp [hop] at hsz ⊢;omega
    ·intro v1 n1 rest1 he v2 hlt
     simp only [List.cons.injEq,Prod.mk.injEq] at he
     obtain ⟨⟨rfl,rfl⟩,_⟩:=he
     exact hR.top r o v n rest ha ho hvers v2 hlt
    ·intro v1 n1 b1 hv1 hb1 _
     simp only [List.mem_singleton,Prod.mk.injEq] at hv1
     obtain ⟨rfl,rfl⟩:=hv1
     rw [hb] at hb1;cases hb1
     exact ⟨o,v1,n1,b,ho,by rw [hvers];simp,hb,rfl⟩
   ·rw [hnext];exact hF
  ·cases h
 ·cases h

def Zmz (P:Program) (st:St) (t:TypeId) (x y:AV):Option (St × Log):=match x with
 | .ptr r v idx sz sub=>cond (Zbn P t == some y.cellsOf.length) (Zcf st r v (idx * sz+sub) y.cellsOf) none
 | _=>none
theorem aStore_ok {P:Program} {st st':St} {t:TypeId} {x y:AV} {lg:Log} {A:Nat->Prop} {m:Map} {w:World} {u q:Value} (h:Zmz P st t x y=some (st',lg)) (hA:lg.Fits W0 A)
  (hR:Rel W0 A m st.heap.get w) (hF:Fresh A m st.next) (hx:x.den m=some u) (hy:y.den m=some q):∃ w',(Instr.storeAt t u q).run P w=.ok () w'/\Ok W0 A m st w m st' lg w':=by
 unfold Zmz at h
 split at h
 ·rename_i r v idx sz sub
  simp only [cond_eq_ite,beq_iff_eq] at h
  split at h
  ·rename_i hs
   simp only [AV.den,Option.map_eq_some_iff] at hx
   obtain ⟨b,hb,rfl⟩:=hx
   have hc:=Zfp hy
   obtain ⟨w',hrun,hok⟩:=Zd2 (P:=P) h hA hR hF hb hc
   refine ⟨w',?_,hok⟩
   have hl:q.cells.size=y.cellsOf.length:=by simpa using Zae hc
   simp [Instr.storeAt,Instr.sureAddr,storeVar,Zad hs,hl,hrun]
  ·cases h
 ·cases h

def Map.new (m:Map) (r:Nat) (b:Nat × Nat):Map:=⟨fun k v=>if k=r/\v=0 then some b else m k v,m.d,m.s⟩
def St.alloc (st:St) (cells:List AV) (elem:TypeId) (esz:Nat) (opn:Bool):Option (St × Log) :=
 (St.put { st with next:=st.next+1 } st.next { cells,elem,esz,ro:=false,opn,vers:=[(0,cells.length)] }).map fun st'=>(st',Log.turns st.next)
theorem Zio {st st':St} {cells:List AV} {elem:TypeId} {esz:Nat} {opn:Bool} {lg:Log} {A:Nat->Prop} {m:Map} {w w':World} {tot:Nat} {c:Array Value} {fz:Nat × Nat} (h:st.alloc cells elem esz opn=some (st',lg)) (hA:lg.Fits W0 A)
  (hR:Rel W0 A m st.heap.get w) (hF:Fresh A m st.next) (hos:w'.os=w.os) (htape:w'.tape=w.tape) (hout:w'.output=w.output) (hsize:w.heap.size<=w'.heap.size) (hkeep:∀ k,k < w.heap.size->w'.heap[k]?=w.heap[k]?)
  (hnew:w'.heap[w.heap.size]?=some (.cells c elem fz)) (hfz:∀ i,i < c.size->¬ (fz.1<=i/\i < fz.2)) (hcs:∀ (i:Nat) (x:AV),cells[i]?=some x->∃ v,x.den m=some v/\c[i]?=some v) (hsz:cond opn (c.size=tot * esz/\tot<=9223372036854775807) (c.size=cells.length)) :
  Ok W0 A m st w (m.new st.next (w.heap.size,tot)) st' lg w':=by
 simp only [St.alloc,Option.map_eq_some_iff] at h
 obtain ⟨s1,hp,he⟩:=h
 cases he
 obtain ⟨hput,hnext⟩:=put_ok hp
 have ha:A st.next:=hA.1 _ (by simp [Log.turns,Zah])
 have hle:m.Le (m.new st.next (w.heap.size,tot)):=⟨fun r v b hb=>by
  show (if r=st.next/\v=0 then some (w.heap.size,tot) else m r v)=some b
  split
  ·rename_i e
   rw [e.1,(hF st.next ha (Nat.le_refl _)).1 v] at hb
   cases hb
  ·exact hb,fun _ _ h=>h,fun _ _ h=>h⟩
 have hcn:cells.length<=c.size:=by
  rcases Nat.lt_or_ge c.size cells.length with hlt | hge
  ·obtain ⟨v,_,hv⟩:=hcs c.size _ (List.getElem?_eq_getElem hlt)
   simp at hv
  ·exact hge
 refine ⟨?_,?_⟩
 ·rw [hput]
  refine Step.more (T1:=fun k=>k=st.next) (Step.put (r:=st.next) hR ha hle (fun k hk v=>by simp [Map.new,hk]) rfl rfl (fun _ v _ _ _ _ hb=>by rw [(hF st.next ha (Nat.le_refl _)).1 v] at hb;cases hb) rfl (fun _ _ _ _ he _ _=>by simp at he) (fun _ v _ _ _ _ hb=>by rw [(hF st.next ha (Nat.le_refl _)).1 v] at hb;cases hb) (fun hl=>by cases hl) hos htape hout hsize (fun k hk _=>hkeep k hk) ?_ ?_ ?_) (fun k hk=>by simp only [Log.turns];rw [Zah];exact hk)
  ·intro v n hv
   simp only [List.mem_singleton,Prod.mk.injEq] at hv
   obtain ⟨rfl,rfl⟩:=hv
   refine ⟨(w.heap.size,tot),by simp [Map.new],c,fz,hnew,hfz,Nat.le_refl _,hcn,fun i x _ hx=>?_,hsz⟩
   obtain ⟨v,hv,hg⟩:=hcs i x hx
   exact ⟨v,AV.den_mono hle x hv,hg⟩
  ·intro v n rest he v' hlt
   simp only [List.cons.injEq,Prod.mk.injEq] at he
   obtain ⟨⟨rfl,_⟩,_⟩:=he
   have:¬ v'=0:=by omega
   simp [Map.new,this,(hF st.next ha (Nat.le_refl _)).1]
  ·intro v n b hv hb hlt
   simp only [List.mem_singleton,Prod.mk.injEq] at hv
   obtain ⟨rfl,rfl⟩:=hv
   simp [Map.new] at hb
   subst hb
   simp at hlt
 ·intro r hra hr
  rw [hnext] at hr
  have:¬ r=st.next:=by simp at hr;omega
  have h:=hF r hra (by simp at hr;omega)
  refine ⟨fun v=>?_,h.2⟩
  simp only [Map.new,this,false_and,if_false]
  exact h.1 v

def aNew (st:St) (elem:TypeId) (y:AV):Option (AV × St × Log) :=
 (st.alloc y.cellsOf elem 0 false).map fun (st',lg)=>(.ptr st.next 0 0 0 0,st',lg)
theorem run_newVar (P:Program) (t:TypeId) (v:Value) (w:World):(newVar t v).run P w=.ok ⟨w.heap.size,0,none⟩ { w with heap:=w.heap.push (.cells v.cells t) }:=rfl
theorem aNew_ok {P:Program} {st st':St} {elem:TypeId} {y z:AV} {lg:Log} {A:Nat->Prop} {m:Map} {w:World} {q:Value} (h:aNew st elem y=some (z,st',lg)) (hA:lg.Fits W0 A)
  (hR:Rel W0 A m st.heap.get w) (hF:Fresh A m st.next) (hy:y.den m=some q):∃ m' w' v,z.den m'=some (.pointer (some v))/\(newVar elem q).run P w=.ok v w'/\Ok W0 A m st w m' st' lg w':=by
 simp only [aNew,Option.map_eq_some_iff] at h
 obtain ⟨⟨s1,l1⟩,hal,he⟩:=h
 cases he
 have hc:=Zfp hy
 refine ⟨m.new st.next (w.heap.size,0),{ w with heap:=w.heap.push (.cells q.cells elem) },⟨w.heap.size,0,none⟩,by simp [AV.den,Map.new],run_newVar P elem q w,
  Zio (c:=q.cells) (fz:=(0,0)) hal hA hR hF rfl rfl rfl (by simp) (fun k hk=>by simp [Array.getElem?_push,Nat.ne_of_lt hk]) (by simp) (fun i _=>by omega) (fun i x hx=>?_) ?_⟩
 ·obtain ⟨v,hv,hg⟩:=Za7 hc hx
  exact ⟨v,hv,by simpa using hg⟩
 ·simpa using Zae hc

end Go.Proofs.Ytgdegpifjljnoaa.eng
end

section
/- The engine: slices of slices, conversions, append, copy, literals. -/
namespace Go.Proofs.Ytgdegpifjljnoaa.eng
open Go
variable {W0 : Base}

def Zds (y d:Nat):Option AV->Option Nat
 | none=>some d
 | some a=>a.int?.bind fun (_,i)=>cond (decide (0<=i) && decide (i<=(y:Int))) (some i.toNat) none
def denO (m:Map):Option AV->Option (Option Value)
 | none=>some none
 | some a=>(a.den m).map some
theorem Zfr {P:Program} {m:Map} {a:AV} {y d n:Nat} {v:Value} (h:Zds y d (some a)=some n) (hv:a.den m=some v) (code:BoundsCode) (w:World) (z:Nat) (hz:y<=z):(Instr.sliceBound v z code).run P w=.ok n w/\n<=y:=by
 simp only [Zds,Option.bind_eq_some_iff] at h
 obtain ⟨⟨k,i⟩,hi,h⟩:=h
 rw [int?_ok hi] at hv
 cases hv
 simp only [cond_eq_ite,Bool.and_eq_true,decide_eq_true_eq] at h
 split at h
 ·rename_i hc
  cases h
  refine ⟨?_,by omega⟩
  have:0<=i/\i<=(z:Int):=⟨hc.1,by omega⟩
  simp [Instr.sliceBound,asIntOf,this]
 ·cases h
theorem bounds_ok {P:Program} {m:Map} {len cap zcap h l n:Nat} {lo hi mx:Option AV} {vlo vhi vmx:Option Value} (hlo:denO m lo=some vlo) (hhi:denO m hi=some vhi) (hmx:denO m mx=some vmx) (hcap:cap<=zcap)
  (h1:Zds cap zcap mx=some n) (h2:Zds (if mx.isSome then n else cap) len hi=some h) (h3:Zds h 0 lo=some l) (hne:mx.isSome=true->hi.isSome=true) (hl:hi=none->len<=zcap) (w:World) :
  (Instr.sliceBounds true len zcap vlo vhi vmx).run P w=.ok (l,h,n) w:=by
 unfold Instr.sliceBounds
 have L:∀ code,(match vlo with | some v=>Instr.sliceBound v h code | none=>pure 0:Sem Nat).run P w=.ok l w:=by
  intro code
  cases lo with
  | none=>simp only [denO,Option.some.injEq] at hlo;subst hlo;simp [Zds] at h3;subst h3;rfl
  | some a =>
   simp only [denO,Option.map_eq_some_iff] at hlo
   obtain ⟨v,hv,rfl⟩:=hlo
   exact (Zfr h3 hv code w h (Nat.le_refl _)).1
 cases mx with
 | none =>
  simp only [denO,Option.some.injEq] at hmx
  subst hmx
  simp only [Zds,Option.some.injEq] at h1
  subst h1
  cases hi with
  | none =>
   simp only [denO,Option.some.injEq] at hhi
   subst hhi
   simp only [Zds,Option.some.injEq] at h2
   subst h2
   have:=L .sliceB
   clear L
   cases vlo <;> simp_all
  | some a =>
   simp only [denO,Option.map_eq_some_iff] at hhi
   obtain ⟨v,hv,rfl⟩:=hhi
   have H:=Zfr (P:=P) h2 hv .sliceAcap w zcap (by simpa using hcap)
   have:=L .sliceB
   clear L
   cases vlo <;> simp_all
 | some b =>
  simp only [denO,Option.map_eq_some_iff] at hmx
  obtain ⟨vb,hvb,rfl⟩:=hmx
  have M:=Zfr (P:=P) h1 hvb .slice3Acap w zcap hcap
  cases hi with
  | none=>simp at hne
  | some a =>
   simp only [denO,Option.map_eq_some_iff] at hhi
   obtain ⟨v,hv,rfl⟩:=hhi
   have H:=Zfr (P:=P) h2 hv .slice3B w n (by simp)
   have:=L .slice3C
   clear L
   cases vlo <;> simp_all

def Zpq (P:Program) (st:St) (t:TypeId) (x:AV) (lo hi mx:Option AV):Option (AV × Log) :=
 match P.underlying t with
 | some (.slice e)=>match x with
  | .slice r v l0 sz len cap opn=>cond (Zbn P e == some sz) (cond opn
    ((look st r v).bind fun (o,n)=>cond (o.opn && Nat.beq o.esz sz && Nat.blt 0 sz && Nat.ble ((l0+len) * sz) n && Nat.ble cap l0 && mx.isNone)
     ((Zds len len hi).bind fun h=>(Zds h 0 lo).bind fun l=>cond (Nat.beq l 0 || Nat.blt l len) (some (.slice r v (l0+l) sz (h - l) (cap+l) true,Log.sees r)) none) none)
    ((Zds cap cap mx).bind fun n=>cond (mx.isNone || hi.isSome) (cond (hi.isSome || Nat.ble len cap) ((Zds (if mx.isSome then n else cap) len hi).bind fun h=>(Zds h 0 lo).bind fun l =>
     some (.slice r v (cond (Nat.beq n l) l0 (l0+l)) sz (h - l) (n - l) false,Log.no)) none) none)) none
  | _=>none
 | some (.array n e)=>match x,lo,hi,mx with
  | .ptr r v idx sz sub,none,none,none=>(Zbn P e).bind fun k=>cond (Nat.beq ((idx * sz+sub) / k * k) (idx * sz+sub)) (some (.slice r v ((idx * sz+sub) / k) k n n false,Log.no)) none
  | _,_,_,_=>none
 | _=>none
theorem aSlice_ok {P:Program} {st:St} {t:TypeId} {x y:AV} {lo hi mx:Option AV} {lg:Log} {A:Nat->Prop} {m:Map} {w:World} {u:Value} {vlo vhi vmx:Option Value} (h:Zpq P st t x lo hi mx=some (y,lg)) (hA:lg.Fits W0 A)
  (hR:Rel W0 A m st.heap.get w) (hx:x.den m=some u) (hlo:denO m lo=some vlo) (hhi:denO m hi=some vhi) (hmx:denO m mx=some vmx):∃ v,y.den m=some v/\(Instr.sliceAt t u vlo vhi vmx).run P w=.ok v w:=by
 unfold Zpq at h
 split at h
 ·rename_i e hu
  split at h
  ·rename_i r v l0 sz len cap opn
   simp only [AV.den,Option.map_eq_some_iff] at hx
   obtain ⟨b,hb,rfl⟩:=hx
   cases hs:Zbn P e == some sz with
   | false=>simp [hs] at h
   | true =>
    simp only [beq_iff_eq] at hs
    simp only [hs,beq_self_eq_true,cond_true] at h
    cases opn with
    | true =>
     simp only [cond_true,Option.bind_eq_some_iff] at h
     obtain ⟨⟨o,n⟩,hl,h⟩:=h
     obtain ⟨ho,hv⟩:=Ze6 hl
     simp only [cond_eq_ite,Bool.and_eq_true,Nat.beq_eq,Nat.ble_eq,Nat.blt_eq,Bool.or_eq_true,Option.isNone_iff_eq_none] at h
     split at h
     ·rename_i hc
      obtain ⟨⟨⟨⟨⟨hop,hez⟩,hsz⟩,hle⟩,hcap⟩,rfl⟩:=hc
      simp only [Option.bind_eq_some_iff] at h
      obtain ⟨hh,h2,l,h3,h⟩:=h
      split at h
      ·rename_i hl0
       cases h
       have ha:A r:=hA.1 r (by simp [Log.sees,Zah])
       obtain ⟨b',hb',c,fz,hc,_,hn,hs',_,hsize⟩:=hR.blkC r o ha ho (Zei hl) v n hv
       rw [hb] at hb';cases hb'
       simp only [hop,cond_true,hez] at hsize
       have hbl:l0+len<=b.2:=by
        have:(l0+len) * sz<=b.2 * sz:=by omega
        exact Nat.le_of_mul_le_mul_right this hsz
       have hzc:len<=b.2 - cap:=by omega
       have hh':hh<=len:=by
        cases hi with
        | none=>simp [Zds] at h2;omega
        | some a =>
         simp only [denO,Option.map_eq_some_iff] at hhi
         obtain ⟨va,hva,rfl⟩:=hhi
         exact (Zfr (P:=P) h2 hva .sliceB w len (Nat.le_refl _)).2
       have hbo:=bounds_ok (P:=P) (len:=len) (cap:=len) (zcap:=b.2 - cap) (n:=b.2 - cap) hlo hhi hmx hzc rfl (by simpa using h2) h3 (by simp) (fun _=>hzc) w
       have hll:l<=hh:=by
        cases lo with
        | none=>simp [Zds] at h3;omega
        | some a =>
         simp only [denO,Option.map_eq_some_iff] at hlo
         obtain ⟨va,hva,rfl⟩:=hlo
         exact (Zfr (P:=P) h3 hva .sliceB w hh (Nat.le_refl _)).2
       refine ⟨.slice (some ⟨b.1,(l0+l) * sz,none⟩) (hh - l) (b.2 - (cap+l)),by simp [AV.den,hb],?_⟩
       have e1:b.2 - cap - l=b.2 - (cap+l):=by omega
       by_cases hml:b.2 - cap=l
       ·have:l=0:=by omega
        subst this
        rw [hml] at hbo
        simp [Instr.sliceAt,Instr.slice,run_underlying hu,hbo,Zad hs,hml,Zam]
       ·simp [Instr.sliceAt,Instr.slice,run_underlying hu,hbo,Zad hs,hml,Zam,Nat.add_mul,e1]
      ·cases h
     ·cases h
    | false =>
     simp only [cond_false,Option.bind_eq_some_iff] at h
     obtain ⟨n,h1,h⟩:=h
     cases hq:(mx.isNone || hi.isSome) with
     | false=>simp [hq] at h
     | true =>
      cases hq2:(hi.isSome || Nat.ble len cap) with
      | false=>simp [hq,hq2] at h
      | true =>
       simp only [hq,hq2,cond_true,Option.bind_eq_some_iff] at h
       obtain ⟨hh,h2,l,h3,h⟩:=h
       cases h
       have hbo:=bounds_ok (P:=P) (len:=len) (cap:=cap) (zcap:=cap) (n:=n) hlo hhi hmx (Nat.le_refl _) h1 h2 h3 (by intro hm;cases mx <;> simp_all) (by intro hm;subst hm;simpa using hq2) w
       refine ⟨.slice (some ⟨b.1,(cond (Nat.beq n l) l0 (l0+l)) * sz,none⟩) (hh - l) (n - l),by simp [AV.den,hb],?_⟩
       by_cases hnl:n=l
       ·subst hnl
        simp [Instr.sliceAt,Instr.slice,run_underlying hu,hbo,Zad hs]
       ·have:Nat.beq n l=false:=by
         cases hq:Nat.beq n l with
         | false=>rfl
         | true=>exact absurd (Nat.eq_of_beq_eq_true hq) hnl
        simp [Instr.sliceAt,Instr.slice,run_underlying hu,hbo,Zad hs,hnl,this,Zam,Nat.add_mul]
  ·cases h
 ·rename_i n e hu
  split at h
  ·rename_i r v idx sz sub
   simp only [Option.bind_eq_some_iff] at h
   obtain ⟨k,hk,h⟩:=h
   cases hc:Nat.beq ((idx * sz+sub) / k * k) (idx * sz+sub) with
   | false=>simp [hc] at h
   | true =>
    simp only [hc,cond_true,Option.some.injEq,Prod.mk.injEq] at h
    obtain ⟨rfl,rfl⟩:=h
    simp only [AV.den,Option.map_eq_some_iff] at hx
    obtain ⟨b,hb,rfl⟩:=hx
    simp only [denO,Option.some.injEq] at hlo hhi hmx
    subst hlo hhi hmx
    have hoff:=Nat.eq_of_beq_eq_true hc
    refine ⟨.slice (some ⟨b.1,idx * sz+sub,none⟩) n n,by simp [AV.den,hb,hoff],?_⟩
    simp [Instr.sliceAt,Instr.sliceBounds,Instr.sureAddr,run_underlying hu,Zad hk,Zam]
  ·cases h
 ·cases h

def Zju:List AV->Option (List UInt8)
 | []=>some []
 | .val (.int .u8 (.ofNat n)) :: l=>cond (Nat.blt n 256) ((Zju l).map (UInt8.ofNat n :: ·)) none
 | _=>none
theorem bytesOf_ok {m:Map}:∀ {l:List AV} {bs:List UInt8},Zju l=some bs->denL m l=some (bs.map fun b=>.int .u8 (b.toNat:Int))
 | [],bs,h=>by simp [Zju] at h;subst h;rfl
 | x :: l,bs,h=>by
  unfold Zju at h
  split at h
  ·rename_i heq;cases heq
  ·rename_i n l' heq
   cases heq
   simp only [cond_eq_ite] at h
   split at h
   ·rename_i hn
    simp only [Option.map_eq_some_iff] at h
    obtain ⟨r,hr,rfl⟩:=h
    have hn':n < 256:=by simpa using hn
    simp [denL,AV.den,bytesOf_ok hr,Nat.mod_eq_of_lt hn']
   ·cases h
  ·cases h
def Zj1 (P:Program) (st:St) (src dst:TypeId) (x:AV):Option (AV × Log) :=
 match P.underlying src,P.underlying dst with
 | some (.slice e),some .string=>match P.underlying e,x with
  | some (.int .u8),.slice r v lo sz len cap opn=>cond (Nat.beq sz 1) ((look st r v).bind fun (o,n)=>cond (Nat.ble (lo * sz+len) n) ((Zju (Zaw o (lo * sz) len)).map fun bs=>(.val (.string ⟨bs.toArray⟩),Log.sees r)) none) none
  | _,_=>none
 | _,_=>none
theorem aToString_ok {P:Program} {st:St} {src dst:TypeId} {x y:AV} {lg:Log} {A:Nat->Prop} {m:Map} {w:World} {u:Value} (h:Zj1 P st src dst x=some (y,lg)) (hA:lg.Fits W0 A)
  (hR:Rel W0 A m st.heap.get w) (hx:x.den m=some u):∃ v,y.den m=some v/\(convert src dst u).run P w=.ok v w:=by
 unfold Zj1 at h
 split at h
 ·rename_i e hs hd
  split at h
  ·rename_i r v lo sz len cap opn he
   simp only [AV.den,Option.map_eq_some_iff] at hx
   obtain ⟨b,hb,rfl⟩:=hx
   simp only [cond_eq_ite,Nat.beq_eq] at h
   split at h
   ·rename_i hsz
    subst hsz
    simp only [Option.bind_eq_some_iff] at h
    obtain ⟨⟨o,n⟩,hl,h⟩:=h
    obtain ⟨ho,hv⟩:=Ze6 hl
    simp only [Nat.ble_eq] at h
    split at h
    ·rename_i hle
     simp only [Option.map_eq_some_iff,Prod.mk.injEq] at h
     obtain ⟨bs,hbs,rfl,rfl⟩:=h
     have ha:A r:=hA.1 r (by simp [Log.sees,Zah])
     obtain ⟨b',hb',hB⟩:=hR.blkC r o ha ho (Zei hl) v n hv
     rw [hb] at hb';cases hb'
     obtain ⟨l,hd',hlen,_,hcell⟩:=hB.cells (P:=P) hle
     rw [bytesOf_ok hbs] at hd'
     cases hd'
     simp only [List.length_map] at hlen
     subst hlen
     refine ⟨_,rfl,run_convert_bytes_back w src dst e _ _ bs hs he hd (fun j hj=>?_)⟩
     rw [Zam]
     exact hcell j _ (by simp [hj])
    ·cases h
   ·cases h
  ·cases h
 ·cases h

theorem Zb6 (w:World) (o:Obj):(w.drew.alloc o).os=w.os/\(w.drew.alloc o).tape=w.tape/\(w.drew.alloc o).output=w.output/\w.heap.size<=(w.drew.alloc o).heap.size/\(∀ k,k < w.heap.size->(w.drew.alloc o).heap[k]?=w.heap[k]?)/\(w.drew.alloc o).heap[w.heap.size]?=some o:=by
 refine ⟨rfl,rfl,rfl,?_,fun k hk=>?_,?_⟩
 ·show w.heap.size<=(w.heap.push o).size;simp
 ·show (w.heap.push o)[k]?=_;rw [Array.getElem?_push,if_neg (by omega)]
 ·show (w.heap.push o)[w.heap.size]?=_;simp

def Zhe (P:Program) (st:St) (src dst:TypeId) (x:AV):Option (AV × St × Log) :=
 match P.underlying src,P.underlying dst,x with
 | some .string,some (.slice e),.val (.string s)=>match P.underlying e with
  | some (.int .u8)=>cond (Nat.ble s.size 9223372036854775807) ((st.alloc (s.data.toList.map fun b=>.val (.int .u8 b.toNat)) e 1 true).map fun (st',lg)=>(.slice st.next 0 0 1 s.size 0 true,st',lg)) none
  | _=>none
 | _,_,_=>none
theorem aToBytes_ok {P:Program} {st st':St} {src dst:TypeId} {x y:AV} {lg:Log} {A:Nat->Prop} {m:Map} {w:World} {u:Value} (h:Zhe P st src dst x=some (y,st',lg)) (hA:lg.Fits W0 A)
  (hR:Rel W0 A m st.heap.get w) (hF:Fresh A m st.next) (hx:x.den m=some u):∃ m' w' v,y.den m'=some v/\(convert src dst u).run P w=.ok v w'/\Ok W0 A m st w m' st' lg w':=by
 unfold Zhe at h
 split at h
 ·rename_i e s hs hd
  split at h
  ·rename_i he
   cases hsl:Nat.ble s.size 9223372036854775807 with
   | false=>simp [hsl] at h
   | true =>
   simp only [hsl,cond_true,Option.map_eq_some_iff] at h
   obtain ⟨⟨s1,l1⟩,hal,h⟩:=h
   cases h
   have hgm:grownCap w s.size 0 e<=9223372036854775807:=grownCap_le_maxLen w s.size 0 e (Nat.le_of_ble_eq_true hsl)
   simp only [AV.den,Option.some.injEq] at hx
   subst hx
   have hg:s.size<=grownCap w s.size 0 e:=by
    unfold grownCap;simp [Question.cut]
   obtain ⟨h1,h2,h3,h4,h5,h6⟩:=Zb6 w (.cells (bytesRow s (grownCap w s.size 0 e)) e ((bytesRow s (grownCap w s.size 0 e)).size,(bytesRow s (grownCap w s.size 0 e)).size+1))
   refine ⟨m.new st.next (w.heap.size,grownCap w s.size 0 e),_,_,?_,run_bytes_of_string w src dst e s hs hd he,Zio hal hA hR hF h1 h2 h3 h4 h5 h6 (fun i hi=>by simp;omega) ?_ ?_⟩
   ·simp [AV.den,Map.new]
   ·intro i z hz
    simp only [List.getElem?_map,Option.map_eq_some_iff] at hz
    obtain ⟨q,hq,rfl⟩:=hz
    refine ⟨_,rfl,?_⟩
    have:i < s.data.size:=by
     have:=(List.getElem?_eq_some_iff.1 hq).1
     simpa using this
    rw [bytesRow,Array.getElem?_append_left (by simpa using this)]
    simp at hq
    simp [hq]
   ·have:s.data.size=s.size:=rfl
    simp only [cond_true,bytesRow,Array.size_append,Array.size_map,Array.size_replicate,Nat.mul_one]
    refine ⟨?_,hgm⟩
    omega
  ·cases h
 ·cases h

end Go.Proofs.Ytgdegpifjljnoaa.eng
end

section
/- The engine: append, copy. -/
namespace Go.Proofs.Ytgdegpifjljnoaa.eng
open Go
variable {W0 : Base}

def Zid (P:Program) (t:TypeId):Bool:=match P.underlying t with | some (.slice _)=>true | some .string=>true | _=>false
theorem kindOk_ok {P:Program} {t:TypeId} (h:Zid P t=true):(∃ e',P.underlying t=some (.slice e')) \/ P.underlying t=some .string:=by
 unfold Zid at h
 split at h
 ·rename_i e he;exact .inl ⟨e,he⟩
 ·rename_i he;exact .inr he
 ·cases h

theorem run_append_room_eng (P:Program) (t tx ty e:TypeId) (i:TypeInfo) (ht:P.underlying t=some (.slice e)) (hi:P.info? e=some i) (a:Addr) (len cap n:Nat) (x:Value) (news:List Value) (w w':World) (hs:Src P i.size tx x n news w)
  (hroom:len+n<=cap) (hst:(storeCells (a.add (len * i.size)) news).run P w=.ok () w') :
  (Builtin.append_ #[t,tx] ty #[.slice (some a) len cap,x]).run P w=.ok (.slice (some a) (len+n) cap) w':=by
 rcases hs.kind with ⟨e',hk⟩ | hk <;> simp [Builtin.append_,run_underlying ht,run_underlying hk,sizeOf,typeInfo,hi,hs.len,hroom,hs.cells,hst]

def aSrc (st:St) (esz:Nat):AV->Option (Nat × List AV × Log)
 | .val (.slice none n c)=>cond (Nat.beq n 0) (some (0,[],Log.no)) none
 | .val (.string s)=>cond (Nat.beq esz 1) (some (s.size,s.data.toList.map fun b=>.val (.int .u8 b.toNat),Log.no)) none
 | .slice r v lo sz len cap opn=>cond (Nat.beq sz esz) ((look st r v).bind fun (o,n)=>cond (Nat.ble (lo * sz+len * sz) n && (Zaw o (lo * sz) (len * sz)).all AV.one) (some (len,Zaw o (lo * sz) (len * sz),Log.sees r)) none) none
 | _=>none
theorem Src.mk' {P:Program} {size:Nat} {tx:TypeId} {x:Value} {n:Nat} {news:List Value} {w:World} (hk:Zid P tx=true) (hl:∀ w',(Builtin.lenOf x).run P w'=.ok n w') (hc:(Builtin.firstCells size n x).run P w=.ok news.toArray w) (hcD:(Builtin.firstCells size n x).run P w.drew=.ok news.toArray w.drew)
  (hn:news.length=n * size) (h1:∀ u ∈ news,u.oneCell'=true):Src P size tx x n news w:=⟨kindOk_ok hk,hl,hc,hcD,hn,h1⟩
theorem aSrc_ok {P:Program} {st:St} {esz n:Nat} {x:AV} {ys:List AV} {lg:Log} {A:Nat->Prop} {m:Map} {w:World} {u:Value} {tx:TypeId} (h:aSrc st esz x=some (n,ys,lg)) (hk:Zid P tx=true) (hA:lg.Fits W0 A)
  (hR:Rel W0 A m st.heap.get w) (hx:x.den m=some u):∃ vs,denL m ys=some vs/\Src P esz tx u n vs w:=by
 unfold aSrc at h
 split at h
 ·rename_i n' c
  simp only [cond_eq_ite,Nat.beq_eq] at h
  split at h
  ·rename_i h0
   subst h0
   simp only [Option.some.injEq,Prod.mk.injEq] at h
   obtain ⟨rfl,rfl,rfl⟩:=h
   simp only [AV.den,Option.some.injEq] at hx
   subst hx
   exact ⟨[],rfl,Src.mk' hk (fun _=>rfl) (run_firstCells_none w esz 0 0 c) (run_firstCells_none w.drew esz 0 0 c) (by simp) (fun _ h=>by cases h)⟩
  ·cases h
 ·rename_i s
  simp only [cond_eq_ite,Nat.beq_eq] at h
  split at h
  ·rename_i h0
   subst h0
   simp only [Option.some.injEq,Prod.mk.injEq] at h
   obtain ⟨rfl,rfl,rfl⟩:=h
   simp only [AV.den,Option.some.injEq] at hx
   subst hx
   refine ⟨byteCells s,?_,Src.mk' hk (fun _=>rfl) (firstCells_string s w) (firstCells_string s w.drew) (by rw [byteCells_length,Nat.mul_one]) (fun u hu=>by obtain ⟨_,_,rfl⟩:=List.mem_map.1 hu;rfl)⟩
   have:=Zbl m (byteCells s)
   simpa [byteCells,List.map_map,Function.comp_def] using this
  ·cases h
 ·rename_i r v lo sz len cap opn
  simp only [cond_eq_ite,Nat.beq_eq] at h
  split at h
  ·rename_i h0
   subst h0
   simp only [Option.bind_eq_some_iff] at h
   obtain ⟨⟨o,nv⟩,hl,h⟩:=h
   obtain ⟨ho,hv⟩:=Ze6 hl
   simp only [Bool.and_eq_true,Nat.ble_eq,List.all_eq_true] at h
   split at h
   ·rename_i hle
    simp only [Option.some.injEq,Prod.mk.injEq] at h
    obtain ⟨rfl,rfl,rfl⟩:=h
    have ha:A r:=hA.1 r (by simp [Log.sees,Zah])
    simp only [AV.den,Option.map_eq_some_iff] at hx
    obtain ⟨b,hb,rfl⟩:=hx
    obtain ⟨b',hb',hB⟩:=hR.blkC r o ha ho (Zei hl) v nv hv
    rw [hb] at hb';cases hb'
    obtain ⟨l,hd,hlen,hrun,hcell⟩:=hB.cells (P:=P) hle.1
    obtain ⟨l2,hd2,hlen2,hrun2,_⟩:=BlkC.cells (P:=P) (w:=w.drew) (show BlkC m w.drew o b nv from hB) hle.1
    rw [hd] at hd2;cases hd2
    refine ⟨l,hd,Src.mk' hk (fun _=>rfl) ?_ ?_ (by simpa using hlen) ?_⟩
    ·simpa [Builtin.firstCells] using hrun
    ·simpa [Builtin.firstCells] using hrun2
    ·intro q hq
     obtain ⟨j,hj,rfl⟩:=List.getElem_of_mem hq
     have hj':j < (Zaw o (lo * sz) (len * sz)).length:=by rw [<- Zae hd];exact hj
     obtain ⟨y,hy,hg⟩:=Za7 hd (List.getElem?_eq_getElem hj')
     rw [List.getElem?_eq_getElem hj] at hg
     rw [Option.some.inj hg]
     exact Zpg (hle.2 _ (List.getElem_mem hj')) hy
   ·cases h
  ·cases h
 ·cases h

structure SrcZ (P:Program) (i:TypeInfo) (tx:TypeId) (x:Value) (n:Nat) (news:List Value):Prop where
 kind:∃ kn,P.underlying tx=some (.int kn)
 val:∃ kq,x=.int kq n
 pos:0 < i.size
 fits:n * i.bytes<=281474976710656
 small:n < 4611686018427387904
 zero:∃ z,i.zero=some z/\z.cells.size=i.size/\(∀ u ∈ z.cells.toList,u.oneCell'=true)/\news=(Builtin.zeroCells z.cells n).toList
def SrcA (P:Program) (i:TypeInfo) (tx:TypeId) (x:Value) (n:Nat) (news:List Value) (w:World):Prop:=Src P i.size tx x n news w \/ SrcZ P i tx x n news
theorem SrcA.newsLen {P:Program} {i:TypeInfo} {tx:TypeId} {x:Value} {n:Nat} {news:List Value} {w:World} (h:SrcA P i tx x n news w):news.length=n * i.size:=by
 rcases h with h | h
 ·exact h.newsLen
 ·obtain ⟨z,_,hz,_,rfl⟩:=h.zero
  simp [Builtin.zeroCells,hz]
theorem SrcA.one {P:Program} {i:TypeInfo} {tx:TypeId} {x:Value} {n:Nat} {news:List Value} {w:World} (h:SrcA P i tx x n news w):∀ u ∈ news,u.oneCell'=true:=by
 rcases h with h | h
 ·exact h.one
 ·obtain ⟨z,_,hz,h1,rfl⟩:=h.zero
  intro u hu
  have hp:=h.pos
  simp only [Builtin.zeroCells,Array.toList_map,List.mem_map] at hu
  obtain ⟨k,hk,rfl⟩:=hu
  have hlt:k % z.cells.size < z.cells.size:=Nat.mod_lt _ (by omega)
  rw [getElem!_pos z.cells _ hlt]
  exact h1 _ (Array.getElem_mem_toList hlt)
theorem Zc5 {P:Program} {w:World} (t tx ty e:TypeId) (i:TypeInfo) (ht:P.underlying t=some (.slice e)) (hi:P.info? e=some i) (base:Option Addr) (sLen sCap:Nat) (hc:sLen<=sCap) (x:Value) (hs:SrcA P i tx x 0 [] w) :
  (Builtin.append_ #[t,tx] ty #[.slice base sLen sCap,x]).run P w=.ok (.slice base sLen sCap) w:=by
 rcases hs with hs | hs
 ·exact run_append_nothing w t tx ty e i ht hi base sLen sCap hc x hs
 ·obtain ⟨kn,hk⟩:=hs.kind
  obtain ⟨kq,rfl⟩:=hs.val
  cases base <;> simp [Builtin.append_,run_underlying ht,run_underlying hk,sizeOf,typeInfo,hi,asInt,asIntOf,hc,IntKind.wrap_i64,storeCells]
theorem Zc8 (P:Program) (t tx ty e:TypeId) (i:TypeInfo) (ht:P.underlying t=some (.slice e)) (hi:P.info? e=some i) (a:Addr) (len cap n:Nat) (x:Value) (news:List Value) (w w':World) (hs:SrcA P i tx x n news w)
  (hroom:len+n<=cap) (hst:(storeCells (a.add (len * i.size)) news).run P w=.ok () w') :
  (Builtin.append_ #[t,tx] ty #[.slice (some a) len cap,x]).run P w=.ok (.slice (some a) (len+n) cap) w':=by
 rcases hs with hs | hs
 ·exact run_append_room_eng P t tx ty e i ht hi a len cap n x news w w' hs hroom hst
 ·obtain ⟨kn,hk⟩:=hs.kind
  obtain ⟨kq,rfl⟩:=hs.val
  obtain ⟨z,hz,hz1,_,rfl⟩:=hs.zero
  have hsm:=hs.small
  have hw:IntKind.i64.wrap (n:Int)=n:=by rw [IntKind.wrap_i64];omega
  have h48i:¬ (281474976710656 < (n:Int) * (i.bytes:Int)):=by
   have:=hs.fits
   rw [<- Int.natCast_mul]
   omega
  have hneg:¬ ((n:Int) < 0):=by omega
  by_cases h0:n=0
  ·subst h0
   have e0:(Builtin.zeroCells z.cells 0).toList=[]:=by simp [Builtin.zeroCells]
   rw [e0] at hst
   have hst':=hst
   simp [Builtin.append_,run_underlying ht,run_underlying hk,sizeOf,typeInfo,hi,asInt,asIntOf,IntKind.wrap_i64,show len<=cap by omega,hst']
  ·have hns:¬ (n * i.size=0):=Nat.mul_ne_zero h0 (by have:=hs.pos;omega)
   simp [Builtin.append_,run_underlying ht,run_underlying hk,sizeOf,typeInfo,zeroValue,hi,hz,asInt,asIntOf,hw,hneg,h48i,hns,hroom,hst]
theorem Zce {P:Program} (w:World) (t tx ty e:TypeId) (i:TypeInfo) (z:Value) (ht:P.underlying t=some (.slice e)) (hi:P.info? e=some i) (hz:i.zero=some z) (base:Option Addr) (sLen sCap:Nat) (olds:List Value)
  (hold:(Builtin.firstCells i.size sLen (.slice base sLen sCap)).run P w.drew=.ok olds.toArray w.drew) (x:Value) (n:Nat) (news:List Value) (hs:SrcA P i tx x n news w)
  (hg:sCap < sLen+n) (h63:((sLen+n:Nat):Int)<=9223372036854775807) (hfit:Builtin.nextslicecap (sLen+n) sCap * i.bytes<=281474976710656) :
  (Builtin.append_ #[t,tx] ty #[.slice base sLen sCap,x]).run P w =
   .ok (.slice (some ⟨w.heap.size,0,none⟩) (sLen+n) (grownCap w (sLen+n) sCap e))
    (w.drew.alloc (.cells ((olds++news).toArray++Builtin.zeroCells z.cells (grownCap w (sLen+n) sCap e - (sLen+n))) e)):=by
 rcases hs with hs | hs
 ·exact run_append_grow_src w t tx ty e i z ht hi hz base sLen sCap olds hold x n news hs hg h63 hfit
 ·obtain ⟨kn,hk⟩:=hs.kind
  obtain ⟨kq,rfl⟩:=hs.val
  obtain ⟨z',hz',hz1,_,rfl⟩:=hs.zero
  rw [hz] at hz';cases hz'
  by_cases h0:n=0
  ·subst h0
   have hn:¬ (sLen<=sCap):=by omega
   have h63':¬ (9223372036854775807 < (sLen:Int)):=by omega
   have h48':¬ (281474976710656 < Builtin.nextslicecap sLen sCap * i.bytes):=by simp only [Nat.add_zero] at hfit;omega
   simp [Builtin.append_,run_underlying ht,run_underlying hk,sizeOf,typeInfo,zeroValue,hi,hz,asInt,asIntOf,IntKind.wrap_i64,hn,h63',h48',Question.forced,hold,newRow,grownCap,Builtin.zeroCells]
  have:=Lib.run_append_grow_zeros (P:=P) w t tx ty e i z kq kn ht hk hi hz base sLen sCap olds hold n (by omega) hs.pos hg h63 hs.fits hfit
  rw [this]
  congr 3
  congr 1
  apply Array.ext'
  simp

def Map.new2 (m:Map) (r v:Nat) (b:Nat × Nat):Map:=⟨fun k v'=>if k=r/\v'=v then some b else m k v',m.d,m.s⟩
theorem Map.new2_le {m:Map} {r v:Nat} {b:Nat × Nat} (h:m r v=none):m.Le (m.new2 r v b):=⟨fun k v' x hx=>by
 show (if k=r/\v'=v then some b else m k v')=some x
 split
 ·rename_i e
  rw [e.1,e.2,h] at hx
  cases hx
 ·exact hx,fun _ _ h=>h,fun _ _ h=>h⟩
theorem BlkC.more {m:Map} {w:World} {o:ARoot} {b:Nat × Nat} {n:Nat} (h:BlkC m w o b n) (ys:List AV) {vs:List (Nat × Nat)}:BlkC m w { o with cells:=o.cells++ys,vers:=vs,dat:=none,sym:=none } b n:=by
 obtain ⟨c,fz,h1,h2,h3,h4,h5,h6⟩:=h
 refine ⟨c,fz,h1,h2,by simp;omega,h4,fun i x hi hx=>h5 i x hi ?_,h6⟩
 simp only at hx
 rwa [List.getElem?_append_left (by omega)] at hx

theorem Zdl (need old:Nat) (h:old < need):Builtin.nextslicecap need old<=2 * need+768:=by
 have key:∀ r c,c<=2 * need+768->Builtin.growBy need r c<=2 * need+768:=by
  intro r
  induction r with
  | zero=>intro c hc;exact hc
  | succ r ih =>
   intro c hc
   unfold Builtin.growBy
   split
   ·exact hc
   ·exact ih _ (by omega)
 unfold Builtin.nextslicecap
 split
 ·omega
 ·split
  ·omega
  ·exact key _ _ (by omega)

theorem Zcl (z:Array Value) (n:Nat):(Builtin.zeroCells z n).size=n * z.size:=by simp [Builtin.zeroCells]

theorem Zb9 (w:World) (n c:Nat) (e:TypeId):n<=grownCap w n c e:=by unfold grownCap;simp [Question.cut]

def Zck (i:TypeInfo):Bool:=match i.zero with | some z=>Nat.beq z.cells.size i.size | none=>false
theorem Zef {i:TypeInfo} (h:Zck i=true):∃ z,i.zero=some z/\z.cells.size=i.size:=by
 unfold Zck at h
 split at h
 ·rename_i z hz;exact ⟨z,hz,by simpa using h⟩
 ·cases h
def Zom (i:TypeInfo) (len cap n a:Nat):Bool :=
 Nat.blt cap (len+n) && Nat.blt (len+n) 4611686018427387904 && Nat.ble (Builtin.nextslicecap (len+n) cap * i.bytes) 281474976710656 && Zck i && Nat.beq a ((len+n) * i.size)
theorem growOk_ok {i:TypeInfo} {len cap n a:Nat} (h:Zom i len cap n a=true):cap < len+n/\len+n < 4611686018427387904/\Builtin.nextslicecap (len+n) cap * i.bytes<=281474976710656/\Zck i=true/\a=(len+n) * i.size:=by
 simp only [Zom,Bool.and_eq_true,Nat.blt_eq,Nat.ble_eq,Nat.beq_eq] at h
 obtain ⟨⟨⟨⟨h1,h2⟩,h3⟩,h4⟩,h5⟩:=h
 exact ⟨h1,h2,h3,h4,h5⟩
def aGrow (st:St) (e:TypeId) (i:TypeInfo) (len cap n:Nat) (olds news:List AV):Option (AV × St × Log) :=
 cond (Zom i len cap n (olds.length+news.length)) ((st.alloc (olds++news) e i.size true).map fun (st',lg)=>(.slice st.next 0 0 i.size (len+n) 0 true,st',lg)) none
theorem aGrow_ok {st st':St} {e:TypeId} {i:TypeInfo} {len cap n:Nat} {olds news:List AV} {y:AV} {lg:Log} {A:Nat->Prop} {m:Map} {w:World} {vo vn:List Value} (h:aGrow st e i len cap n olds news=some (y,st',lg)) (hA:lg.Fits W0 A)
  (hR:Rel W0 A m st.heap.get w) (hF:Fresh A m st.next) (ho:denL m olds=some vo) (hn:denL m news=some vn):∃ z,i.zero=some z/\cap < len+n/\((len+n:Nat):Int)<=9223372036854775807/\Builtin.nextslicecap (len+n) cap * i.bytes<=281474976710656 ∧
   ∃ m',y.den m'=some (.slice (some ⟨w.heap.size,0,none⟩) (len+n) (grownCap w (len+n) cap e))/\Ok W0 A m st w m' st' lg (w.drew.alloc (.cells ((vo++vn).toArray++Builtin.zeroCells z.cells (grownCap w (len+n) cap e - (len+n))) e)):=by
 unfold aGrow at h
 cases hc:Zom i len cap n (olds.length+news.length) with
 | false=>simp [hc] at h
 | true =>
  obtain ⟨h1,h2,h3,h4,h5⟩:=growOk_ok hc
  obtain ⟨z,hz,hzs⟩:=Zef h4
  simp only [hc,cond_true,Option.map_eq_some_iff] at h
  obtain ⟨⟨s1,l1⟩,hal,he⟩:=h
  cases he
  obtain ⟨g1,g2,g3,g4,g5,g6⟩:=Zb6 w (.cells ((vo++vn).toArray++Builtin.zeroCells z.cells (grownCap w (len+n) cap e - (len+n))) e)
  refine ⟨z,hz,h1,by omega,h3,m.new st.next (w.heap.size,grownCap w (len+n) cap e),by simp [AV.den,Map.new],Zio hal hA hR hF g1 g2 g3 g4 g5 g6 (fun i _=>by omega) ?_ ?_⟩
  ·intro k x hx
   obtain ⟨v,hv,hg⟩:=Za7 (Zag ho hn) hx
   refine ⟨v,hv,?_⟩
   have:k < (vo++vn).length:=(List.getElem?_eq_some_iff.1 hg).1
   rw [Array.getElem?_append_left (by simpa using this)]
   simpa using hg
  ·have e1:(vo++vn).length=(len+n) * i.size:=by rw [List.length_append,Zae ho,Zae hn];exact h5
   have e2:=Zb9 w (len+n) cap e
   have e3:grownCap w (len+n) cap e<=9223372036854775807:=grownCap_le_maxLen w (len+n) cap e (by unfold maxLen;omega)
   simp only [cond_true,Array.size_append,List.size_toArray,e1,Zcl,hzs,<- Nat.add_mul]
   refine ⟨?_,e3⟩
   congr 1
   omega

def verOk (o:ARoot) (v nv len n:Nat) (i:TypeInfo):Bool :=
 o.opn && !o.ro && !o.lent && !o.mp && Nat.beq o.esz i.size && Nat.blt 0 i.size && Nat.beq (len * i.size) nv && Nat.beq nv o.cells.length && (match o.vers with | (v',_) :: _=>Nat.beq v v' | []=>false) &&
  Nat.ble ((2 * (len+n)+768) * i.bytes) 281474976710656 && Nat.blt (len+n) 4611686018427387904 && Zck i
theorem verOk_ok {o:ARoot} {v nv len n:Nat} {i:TypeInfo} (h:verOk o v nv len n i=true):o.opn=true/\o.ro=false/\o.lent=false/\o.esz=i.size/\0 < i.size/\len * i.size=nv/\nv=o.cells.length/\(∃ k rest,o.vers=(v,k) :: rest) ∧
  (2 * (len+n)+768) * i.bytes<=281474976710656/\len+n < 4611686018427387904/\Zck i=true:=by
 simp only [verOk,Bool.and_eq_true,Nat.beq_eq,Nat.ble_eq,Nat.blt_eq,Bool.not_eq_true'] at h
 obtain ⟨⟨⟨⟨⟨⟨⟨⟨⟨⟨⟨h1,h2⟩,h2'⟩,_⟩,h3⟩,h4⟩,h5⟩,h6⟩,h7⟩,h8⟩,h9⟩,h10⟩:=h
 refine ⟨h1,h2,h2',h3,h4,h5,h6,?_,h8,h9,h10⟩
 split at h7
 ·rename_i v' k rest hv
  simp only [Nat.beq_eq] at h7
  subst h7
  exact ⟨k,rest,hv⟩
 ·cases h7
theorem verOk_mp {o:ARoot} {v nv len n:Nat} {i:TypeInfo} (h:verOk o v nv len n i=true):o.mp=false:=by
 simp only [verOk,Bool.and_eq_true,Bool.not_eq_true'] at h
 exact h.1.1.1.1.1.1.1.1.2
def aVer (st:St) (o:ARoot) (r v len n:Nat) (i:TypeInfo) (ys:List AV):Option (AV × St × Log) :=
 (st.put r { o with cells:=o.cells++ys,vers:=(v+1,o.cells.length+ys.length) :: o.vers,dat:=none,sym:=none }).map fun st'=>(.slice r (v+1) 0 i.size (len+n) 0 true,st',Log.turns r)
theorem aVer_ok {P:Program} {st st':St} {o:ARoot} {r v nv len n:Nat} {i:TypeInfo} {e t tx ty:TypeId} {ys:List AV} {y:AV} {lg:Log} {A:Nat->Prop} {m:Map} {w:World} {vn:List Value} {b:Nat × Nat} {u:Value}
  (h:aVer st o r v len n i ys=some (y,st',lg)) (hv:verOk o v nv len n i=true) (ho:st.heap.get r=some o) (hm:(v,nv) ∈ o.vers) (hb:m r v=some b) (hel:o.elem=e)
  (ht:P.underlying t=some (.slice e)) (hi:P.info? e=some i) (h0:0 < n)
  (hA:lg.Fits W0 A) (hR:Rel W0 A m st.heap.get w) (hF:Fresh A m st.next) (hn:denL m ys=some vn) (hs:SrcA P i tx u n vn w) :
  ∃ m' w' x,y.den m'=some x/\(Builtin.append_ #[t,tx] ty #[.slice (some ⟨b.1,0,none⟩) len (b.2 - 0),u]).run P w=.ok x w'/\Ok W0 A m st w m' st' lg w':=by
 subst hel
 obtain ⟨hop,hro,hlt0,hez,hsz,hlen,hnc,⟨k,rest,hvers⟩,hfit,h63,hzf⟩:=verOk_ok hv
 obtain ⟨z,hz,hzs⟩:=Zef hzf
 simp only [aVer,Option.map_eq_some_iff] at h
 obtain ⟨s1,hp,he⟩:=h
 cases he
 obtain ⟨hput,hnext⟩:=put_ok hp
 have ha:A r:=hA.1 r (by simp [Log.turns,Zah])
 have hmp:=verOk_mp hv
 have hB:=hR.blkC r o ha ho hmp v nv hm
 obtain ⟨b',hb',hB⟩:=hB
 rw [hb] at hb';cases hb'
 have hBc:=hB
 obtain ⟨c,fz,hc,hfz,hnl,hnc',hcell,hsize⟩:=hB
 simp only [hop,cond_true,hez] at hsize
 have hvl:vn.length=n * i.size:=hs.newsLen
 have hyl:ys.length=n * i.size:=by rw [<- Zae hn];exact hvl
 obtain ⟨l,hd,hll,hrun,hcl⟩:=hBc.cells (P:=P) (off:=0) (k:=nv) (by omega)
 have hdall:denL m o.cells=some l:=by
  have:Zaw o 0 nv=o.cells:=by simp [Zaw,hnc]
  rwa [this] at hd
 have htopv:∀ v',v < v'->m r v'=none:=fun v' hlt=>hR.top r o v k rest ha ho hvers v' hlt
 have hlenb:len<=b.2:=by
  have:len * i.size<=b.2 * i.size:=by omega
  exact Nat.le_of_mul_le_mul_right this hsz
 by_cases hroom:len+n<=b.2
 ·-- room
  have hcap:(len+n) * i.size<=c.size:=by rw [hsize.1];exact Nat.mul_le_mul_right _ hroom
  rw [Nat.add_mul] at hcap
  have hst:=Zbd P b.1 (len * i.size) o.elem fz vn 0 c w hc hfz (by omega) hs.one
  simp only [Nat.add_zero] at hst
  refine ⟨m.new2 r (v+1) b,_,.slice (some ⟨b.1,0,none⟩) (len+n) (b.2 - 0),by simp [AV.den,Map.new2],Zc8 P t tx ty o.elem i ht hi ⟨b.1,0,none⟩ len (b.2 - 0) n u vn w _ hs (by omega) (by rw [Zam];simpa using hst),⟨?_,?_⟩⟩
  ·rw [hput]
   have hle:m.Le (m.new2 r (v+1) b):=Map.new2_le (htopv _ (Nat.lt_succ_self v))
   have hsize':(List.take (len * i.size) c.toList++vn++List.drop (len * i.size+vn.length) c.toList).length=c.size:=by simp;omega
   have hget:∀ (j:Nat) (q:AV),j < o.cells.length+ys.length->(o.cells++ys)[j]?=some q->∃ x,q.den m=some x/\(List.take (len * i.size) c.toList++vn++List.drop (len * i.size+vn.length) c.toList)[j]?=some x:=by
    intro j q hj hq
    obtain ⟨x,hx,hg⟩:=Za7 (Zag hdall hn) hq
    refine ⟨x,hx,?_⟩
    rw [List.getElem?_append_left (by simp;omega)]
    rw [show List.take (len * i.size) c.toList=l from ?_]
    ·exact hg
    ·apply List.ext_getElem?
     intro a
     by_cases ha':a < nv
     ·rw [List.getElem?_take,if_pos (by omega)]
      have hal:a < l.length:=by omega
      have:=hcl a _ (List.getElem?_eq_getElem hal)
      simp only [Nat.zero_add,World.cell?,hc] at this
      rw [List.getElem?_eq_getElem hal]
      simpa using this
     ·rw [List.getElem?_eq_none (by simp;omega),List.getElem?_eq_none (by omega)]
   refine Step.more (T1:=fun k=>k=r) (Step.put hR ha hle (fun k hk v'=>by simp [Map.new2,hk]) rfl rfl (fun o2 _ _ _ ho2 _ _=>by rw [ho] at ho2;cases ho2;exact hro) rfl (fun _ _ _ _ he _ _=>by simp at he) (fun o2 _ _ _ ho2 _ _=>by rw [ho] at ho2;cases ho2;rfl) (fun hl=>by simp only [hlt0] at hl;cases hl) rfl rfl rfl (by simp) ?_ ?_ ?_ ?_) (fun k hk=>by simp only [Log.turns];rw [Zah];exact hk)
   ·intro k' _ hno
    exact setRow_other w b.1 k' _ (fun e=>hno o v nv b ho hm hb e.symm)
   ·intro v1 n1 hv1
    simp only [List.mem_cons,Prod.mk.injEq] at hv1
    rcases hv1 with ⟨rfl,rfl⟩ | hv1
    ·refine ⟨b,by simp [Map.new2],BlkC.b ⟨_,fz,setRow_heap w b.1 c _ o.elem fz hc,fun i hi=>hfz i (by simp at hi;omega),by simp,by simp;omega,?_,?_⟩ hmp⟩
     ·intro j q hj hq
      obtain ⟨x,hx,hg⟩:=hget j q hj hq
      exact ⟨x,AV.den_mono hle q hx,by simpa using hg⟩
     ·simp only [hop,cond_true,hez]
      simp;omega
    ·obtain ⟨b1,hb1,hB1⟩:=hR.blkC r o ha ho hmp v1 n1 hv1
     refine ⟨b1,hle.1 _ _ _ hb1,?_⟩
     by_cases hbb:b1.1=b.1
     ·obtain ⟨c1,fz1,hc1,hfz1,hnl1,hnc1,hcell1,hsize1⟩:=hB1
      rw [hbb,hc] at hc1
      simp only [Option.some.injEq,Obj.cells.injEq] at hc1
      obtain ⟨rfl,_,rfl⟩:=hc1
      simp only [hop,cond_true,hez] at hsize1
      refine BlkC.b ⟨_,fz,by rw [hbb];exact setRow_heap w b.1 c _ o.elem fz hc,fun i hi=>hfz i (by simp at hi;omega),by simp;omega,by simp;omega,?_,?_⟩ hmp
      ·intro j q hj hq
       obtain ⟨x,hx,hg⟩:=hget j q (by omega) hq
       exact ⟨x,AV.den_mono hle q hx,by simpa using hg⟩
      ·simp only [hop,cond_true,hez]
       simp;omega
     ·have hB2:=hB1.mono (w':=w.setRow b.1 (List.take (len * i.size) c.toList++vn++List.drop (len * i.size+vn.length) c.toList).toArray) hle (setRow_other w b.1 b1.1 _ hbb)
      rw [List.append_assoc] at hB2
      exact (BlkC.more hB2 ys).b hmp
   ·intro v1 n1 rest1 he v2 hlt
    simp only [List.cons.injEq,Prod.mk.injEq] at he
    obtain ⟨⟨rfl,rfl⟩,_⟩:=he
    have:¬ v2=v+1:=by omega
    simp [Map.new2,this,htopv v2 (by omega)]
   ·intro v1 n1 b1 hv1 hb1 _
    simp only [List.mem_cons,Prod.mk.injEq] at hv1
    by_cases hvv:v1=v+1
    ·subst hvv
     simp [Map.new2] at hb1
     subst hb1
     exact ⟨o,v,nv,b,ho,hm,hb,rfl⟩
    ·simp [Map.new2,hvv] at hb1
     rcases hv1 with ⟨rfl,_⟩ | hv1
     ·exact absurd rfl hvv
     ·exact ⟨o,v1,n1,b1,ho,hv1,hb1,rfl⟩
  ·intro r' hra hr'
   rw [hnext] at hr'
   have hne:r' ≠ r:=by
    intro e
    subst e
    rw [(hF r' hra hr').1 v] at hb
    cases hb
   exact ⟨fun v'=>by simp [Map.new2,hne,(hF r' hra hr').1 v'],(hF r' hra hr').2⟩
 ·-- none
  have hlt:b.2 - 0 < len+n:=by omega
  have hfit':Builtin.nextslicecap (len+n) (b.2 - 0) * i.bytes<=281474976710656 :=
   Nat.le_trans (Nat.mul_le_mul_right _ (Zdl _ _ hlt)) hfit
  obtain ⟨l2,hd2,hll2,hrun2,_⟩:=BlkC.cells (P:=P) (w:=w.drew) (off:=0) (k:=nv) (show BlkC m w.drew o b nv from hBc) (by omega)
  rw [hd] at hd2;cases hd2
  have hrunD:=Zce (P:=P) w t tx ty o.elem i z ht hi hz (some ⟨b.1,0,none⟩) len (b.2 - 0) l (by simpa [Builtin.firstCells,hlen] using hrun2) u n vn hs hlt (by omega) hfit'
  obtain ⟨g1,g2,g3,g4,g5,g6⟩:=Zb6 w (.cells ((l++vn).toArray++Builtin.zeroCells z.cells (grownCap w (len+n) (b.2 - 0) o.elem - (len+n))) o.elem)
  refine ⟨m.new2 r (v+1) (w.heap.size,grownCap w (len+n) (b.2 - 0) o.elem),_,_,by simp [AV.den,Map.new2],hrunD,⟨?_,?_⟩⟩
  ·rw [hput]
   have hle:m.Le (m.new2 r (v+1) (w.heap.size,grownCap w (len+n) (b.2 - 0) o.elem)):=Map.new2_le (htopv _ (Nat.lt_succ_self v))
   refine Step.more (T1:=fun k=>k=r) (Step.put hR ha hle (fun k hk v'=>by simp [Map.new2,hk]) rfl rfl (fun o2 _ _ _ ho2 _ _=>by rw [ho] at ho2;cases ho2;exact hro) rfl (fun _ _ _ _ he _ _=>by simp at he) (fun o2 _ _ _ ho2 _ _=>by rw [ho] at ho2;cases ho2;rfl) (fun hl=>by simp only [hlt0] at hl;cases hl) g1 g2 g3 g4 (fun k hk _=>g5 k hk) ?_ ?_ ?_) (fun k hk=>by simp only [Log.turns];rw [Zah];exact hk)
   ·intro v1 n1 hv1
    simp only [List.mem_cons,Prod.mk.injEq] at hv1
    rcases hv1 with ⟨rfl,rfl⟩ | hv1
    ·have e2:=Zb9 w (len+n) (b.2 - 0) o.elem
     have elen:(l++vn).length=(len+n) * i.size:=by rw [List.length_append,hll,hvl,<- hlen,Nat.add_mul]
     refine ⟨(w.heap.size,grownCap w (len+n) (b.2 - 0) o.elem),by simp [Map.new2],BlkC.b ⟨_,(0,0),g6,fun i _=>by omega,by simp,?_,?_,?_⟩ hmp⟩
     ·simp only [Array.size_append,List.size_toArray,elen]
      rw [hyl,<- hnc,<- hlen,Nat.add_mul]
      omega
     ·intro j q hj hq
      obtain ⟨x,hx,hg⟩:=Za7 (Zag hdall hn) hq
      refine ⟨x,AV.den_mono hle q hx,?_⟩
      have:j < (l++vn).length:=(List.getElem?_eq_some_iff.1 hg).1
      rw [Array.getElem?_append_left (by simpa using this)]
      simpa using hg
     ·have e3:grownCap w (len+n) (b.2 - 0) o.elem<=9223372036854775807:=grownCap_le_maxLen w (len+n) (b.2 - 0) o.elem (by unfold maxLen;omega)
      simp only [hop,cond_true,hez,Array.size_append,List.size_toArray,elen,Zcl,hzs,<- Nat.add_mul]
      refine ⟨?_,e3⟩
      congr 1
      omega
    ·obtain ⟨b1,hb1,hB1⟩:=hR.blkC r o ha ho hmp v1 n1 hv1
     refine ⟨b1,hle.1 _ _ _ hb1,?_⟩
     have hB2:=hB1.mono hle (g5 b1.1 (hR.lt ha ho hv1 hb1))
     exact (BlkC.more hB2 ys).b hmp
   ·intro v1 n1 rest1 he v2 hlt2
    simp only [List.cons.injEq,Prod.mk.injEq] at he
    obtain ⟨⟨rfl,rfl⟩,_⟩:=he
    have:¬ v2=v+1:=by omega
    simp [Map.new2,this,htopv v2 (by omega)]
   ·intro v1 n1 b1 hv1 hb1 hlt1
    simp only [List.mem_cons,Prod.mk.injEq] at hv1
    by_cases hvv:v1=v+1
    ·subst hvv
     simp [Map.new2] at hb1
     subst hb1
     simp at hlt1
    ·simp [Map.new2,hvv] at hb1
     rcases hv1 with ⟨rfl,_⟩ | hv1
     ·exact absurd rfl hvv
     ·exact ⟨o,v1,n1,b1,ho,hv1,hb1,rfl⟩
  ·intro r' hra hr'
   rw [hnext] at hr'
   have hne:r' ≠ r:=by
    intro e
    subst e
    rw [(hF r' hra hr').1 v] at hb
    cases hb
   exact ⟨fun v'=>by simp [Map.new2,hne,(hF r' hra hr').1 v'],(hF r' hra hr').2⟩

end Go.Proofs.Ytgdegpifjljnoaa.eng
end

section
/- The engine: append and copy whole; literals. -/
namespace Go.Proofs.Ytgdegpifjljnoaa.eng
open Go
variable {W0 : Base}


def aOnto (st:St) (e:TypeId) (i:TypeInfo) (n:Nat) (ys:List AV):AV->Option (AV × St × Log)
 | .val (.slice none 0 0)=>cond (Nat.beq n 0) (some (.val (.slice none 0 0),st,Log.no)) (aGrow st e i 0 0 n [] ys)
 | .slice r v lo sz len cap opn=>cond (Nat.beq sz i.size) ((look st r v).bind fun (o,nv)=>cond opn
   (cond (o.opn && Nat.beq o.esz sz && Nat.blt 0 sz && Nat.ble ((lo+len+n) * sz) nv && Nat.ble cap lo)
    (cond (Nat.beq n 0) (some (.slice r v lo sz len cap true,st,Log.sees r)) ((Zcf st r v ((lo+len) * sz) ys).map fun (st',lg)=>(.slice r v lo sz (len+n) cap true,st',lg)))
    (cond (Nat.beq lo 0 && Nat.beq cap 0 && Nat.beq o.elem e && Nat.blt 0 n && verOk o v nv len n i) (aVer st o r v len n i ys) none))
   (cond (Nat.ble (len+n) cap)
    (cond (Nat.beq n 0) (some (.slice r v lo sz len cap false,st,Log.sees r)) ((Zcf st r v ((lo+len) * sz) ys).map fun (st',lg)=>(.slice r v lo sz (len+n) cap false,st',lg)))
    (cond (Nat.ble (lo * sz+len * sz) nv) ((aGrow st e i len cap n (Zaw o (lo * sz) (len * sz)) ys).map fun (y,st',lg)=>(y,st',Log.or (Log.sees r) lg)) none))) none
 | _=>none
theorem Zl6 {P:Program} {st st':St} {e t tx ty:TypeId} {i:TypeInfo} {n:Nat} {ys:List AV} {x y:AV} {lg:Log} {A:Nat->Prop} {m:Map} {w:World} {q u:Value} {vn:List Value} (h:aOnto st e i n ys x=some (y,st',lg))
  (hA:lg.Fits W0 A) (hR:Rel W0 A m st.heap.get w) (hF:Fresh A m st.next) (ht:P.underlying t=some (.slice e)) (hi:P.info? e=some i) (hx:x.den m=some q) (hn:denL m ys=some vn) (hs:SrcA P i tx u n vn w) :
  ∃ m' w' z,y.den m'=some z/\(Builtin.append_ #[t,tx] ty #[q,u]).run P w=.ok z w'/\Ok W0 A m st w m' st' lg w':=by
 unfold aOnto at h
 split at h
 ·simp only [AV.den,Option.some.injEq] at hx
  subst hx
  cases hn0:Nat.beq n 0 with
  | true =>
   simp only [hn0,cond_true,Option.some.injEq,Prod.mk.injEq] at h
   obtain ⟨rfl,rfl,rfl⟩:=h
   have:n=0:=Nat.eq_of_beq_eq_true hn0
   subst this
   have hv:vn=[]:=by have:=hs.newsLen;simp at this;exact this
   subst hv
   exact ⟨m,w,_,rfl,Zc5 t tx ty e i ht hi none 0 0 (Nat.le_refl _) u hs,Ok.refl hR hF⟩
  | false =>
   simp only [hn0,cond_false] at h
   obtain ⟨z,hz,h1,h2,h3,m',hy,hok⟩:=aGrow_ok (vo:=[]) h hA hR hF rfl hn
   exact ⟨m',_,_,hy,Zce w t tx ty e i z ht hi hz none 0 0 [] (run_firstCells_none _ _ _ _ _) u n vn hs h1 h2 h3,hok⟩
 ·rename_i r v lo sz len cap opn
  simp only [AV.den,Option.map_eq_some_iff] at hx
  obtain ⟨b,hb,rfl⟩:=hx
  cases hsz:Nat.beq sz i.size with
  | false=>simp [hsz] at h
  | true =>
   have hsz:=Nat.eq_of_beq_eq_true hsz
   subst hsz
   simp only [Nat.beq_refl,cond_true,Option.bind_eq_some_iff] at h
   obtain ⟨⟨o,nv⟩,hl,h⟩:=h
   obtain ⟨ho,hv⟩:=Ze6 hl
   have hsame:n=0->∀ cc,len<=cc->(Builtin.append_ #[t,tx] ty #[.slice (some ⟨b.1,lo * i.size,none⟩) len cc,u]).run P w=.ok (.slice (some ⟨b.1,lo * i.size,none⟩) len cc) w:=by
    intro h0 cc hcc
    subst h0
    have hv:vn=[]:=by have:=hs.newsLen;simp at this;exact this
    subst hv
    exact Zc5 t tx ty e i ht hi _ len cc hcc u hs
   cases opn with
   | true =>
    simp only [cond_true] at h
    cases hc:(o.opn && Nat.beq o.esz i.size && Nat.blt 0 i.size && Nat.ble ((lo+len+n) * i.size) nv && Nat.ble cap lo) with
    | true =>
     simp only [hc,cond_true] at h
     simp only [Bool.and_eq_true,Nat.beq_eq,Nat.ble_eq,Nat.blt_eq] at hc
     obtain ⟨⟨⟨⟨hop,hez⟩,hs0⟩,hle⟩,hcap⟩:=hc
     have hroom:A r->len+n<=b.2 - cap:=by
      intro ha
      obtain ⟨b',hb',c,fz,hc,_,hnl,hnc,_,hsize⟩:=hR.blkC r o ha ho (Zei hl) v nv hv
      rw [hb] at hb';cases hb'
      simp only [hop,cond_true,hez] at hsize
      have:(lo+len+n) * i.size<=b.2 * i.size:=by omega
      have:=Nat.le_of_mul_le_mul_right this hs0
      omega
     cases hn0:Nat.beq n 0 with
     | true =>
      simp only [hn0,cond_true,Option.some.injEq,Prod.mk.injEq] at h
      obtain ⟨rfl,rfl,rfl⟩:=h
      have hn0:=Nat.eq_of_beq_eq_true hn0
      have ha:A r:=hA.1 r (by simp [Log.sees,Zah])
      exact ⟨m,w,_,by simp [AV.den,hb],hsame hn0 _ (by have:=hroom ha;simp;omega),Ok.refl hR hF⟩
     | false =>
      simp only [hn0,cond_false,Option.map_eq_some_iff] at h
      obtain ⟨⟨s1,l1⟩,hp,he⟩:=h
      cases he
      obtain ⟨w',hrun,hok⟩:=Zd2 (P:=P) hp hA hR hF hb hn
      have ha:A r:=by
       simp only [Zcf,Option.bind_eq_some_iff] at hp
       obtain ⟨o',ho',hp⟩:=hp
       split at hp
       ·simp only [cond_eq_ite] at hp
        split at hp
        ·simp only [Option.map_eq_some_iff,Prod.mk.injEq] at hp
         obtain ⟨_,_,_,rfl⟩:=hp
         exact hA.1 r (by simp [Log.turns,Zah])
        ·cases hp
       ·cases hp
      refine ⟨m,w',_,by simp [AV.den,hb],Zc8 P t tx ty e i ht hi _ len _ n u vn w w' hs (by have:=hroom ha;simp;omega) ?_,hok⟩
      rw [Zam,<- Nat.add_mul]
      exact hrun
    | false =>
     simp only [hc,cond_false] at h
     clear hc
     cases hc:(Nat.beq lo 0 && Nat.beq cap 0 && Nat.beq o.elem e && Nat.blt 0 n && verOk o v nv len n i) with
     | false=>simp [hc] at h
     | true =>
      simp only [hc,cond_true] at h
      simp only [Bool.and_eq_true,Nat.beq_eq,Nat.blt_eq] at hc
      obtain ⟨⟨⟨⟨rfl,rfl⟩,he⟩,h0⟩,hver⟩:=hc
      obtain ⟨m',w',z,hz,hrun,hok⟩:=aVer_ok (ty:=ty) h hver ho hv hb he ht hi h0 hA hR hF hn hs
      exact ⟨m',w',z,hz,by simpa using hrun,hok⟩
   | false =>
    simp only [cond_false] at h
    cases hc:Nat.ble (len+n) cap with
    | true =>
     simp only [hc,cond_true] at h
     have hle:len+n<=cap:=Nat.le_of_ble_eq_true hc
     cases hn0:Nat.beq n 0 with
     | true =>
      simp only [hn0,cond_true,Option.some.injEq,Prod.mk.injEq] at h
      obtain ⟨rfl,rfl,rfl⟩:=h
      have hn0:=Nat.eq_of_beq_eq_true hn0
      exact ⟨m,w,_,by simp [AV.den,hb],hsame hn0 _ (by simp;omega),Ok.refl hR hF⟩
     | false =>
      simp only [hn0,cond_false,Option.map_eq_some_iff] at h
      obtain ⟨⟨s1,l1⟩,hp,he⟩:=h
      cases he
      obtain ⟨w',hrun,hok⟩:=Zd2 (P:=P) hp hA hR hF hb hn
      refine ⟨m,w',_,by simp [AV.den,hb],Zc8 P t tx ty e i ht hi _ len _ n u vn w w' hs (by simp;omega) ?_,hok⟩
      rw [Zam,<- Nat.add_mul]
      exact hrun
    | false =>
     simp only [hc,cond_false] at h
     cases hle:Nat.ble (lo * i.size+len * i.size) nv with
     | false=>simp [hle] at h
     | true =>
      simp only [hle,cond_true,Option.map_eq_some_iff] at h
      obtain ⟨⟨y1,s1,l1⟩,hg,he⟩:=h
      cases he
      have ha:A r:=(or_A hA).1.1 r (by simp [Log.sees,Zah])
      obtain ⟨b',hb',hB⟩:=hR.blkC r o ha ho (Zei hl) v nv hv
      rw [hb] at hb';cases hb'
      obtain ⟨l,hd,hll,_,_⟩:=hB.cells (P:=P) (Nat.le_of_ble_eq_true hle)
      obtain ⟨l2,hd2,_,hrun2,_⟩:=BlkC.cells (P:=P) (w:=w.drew) (show BlkC m w.drew o b nv from hB) (Nat.le_of_ble_eq_true hle)
      rw [hd] at hd2;cases hd2
      obtain ⟨z,hz,h1,h2,h3,m',hy,hok⟩:=aGrow_ok (vo:=l) hg (or_A hA).2 hR hF hd hn
      exact ⟨m',_,_,hy,Zce w t tx ty e i z ht hi hz _ len cap l (by simpa [Builtin.firstCells] using hrun2) u n vn hs h1 h2 h3,hok.more (fun r hr=>by simp only [Log.or];exact Za2 hr)⟩
 ·cases h

end Go.Proofs.Ytgdegpifjljnoaa.eng
end

section
/- The engine: append whole, copy, literals, made slices. -/
namespace Go.Proofs.Ytgdegpifjljnoaa.eng
open Go
variable {W0 : Base}

def oneV:Value->Bool | .agg _ | .tuple _=>false | _=>true
theorem oneV_ok {v:Value} (h:oneV v=true):v.oneCell'=true:=by cases v <;> simp_all [oneV,Value.oneCell']
def zOk (i:TypeInfo) (z:Value) (k:Nat):Bool:=Nat.blt 0 i.size && Nat.ble (k * i.bytes) 281474976710656 && Nat.blt k 4611686018427387904 && Nat.beq z.cells.size i.size && z.cells.toList.all oneV
theorem zOk_ok {P:Program} {i:TypeInfo} {z:Value} {k:Nat} {tx:TypeId} {kn kq:IntKind} {w:World} (h:zOk i z k=true) (hz:i.zero=some z) (htx:P.underlying tx=some (.int kn)):SrcA P i tx (.int kq k) k (Builtin.zeroCells z.cells k).toList w:=by
 simp only [zOk,Bool.and_eq_true,Nat.blt_eq,Nat.ble_eq,Nat.beq_eq,List.all_eq_true] at h
 obtain ⟨⟨⟨⟨h1,h2⟩,h3⟩,h4⟩,h5⟩:=h
 exact .inr ⟨⟨kn,htx⟩,⟨kq,rfl⟩,h1,h2,h3,z,hz,h4,fun u hu=>oneV_ok (h5 u hu),rfl⟩

def Zj5 (P:Program) (st:St) (t tx:TypeId) (s x:AV):Option (AV × St × Log) :=
 match P.underlying t with
 | some (.slice e)=>(P.info? e).bind fun i=>cond (Zid P tx)
   ((aSrc st i.size x).bind fun (n,ys,l1)=>(aOnto st e i n ys s).map fun (y,st',l2)=>(y,st',l1.or l2))
   (match P.underlying tx,x,i.zero with
    | some (.int kn),.val (.int kq (.ofNat k)),some z=>cond (zOk i z k) (aOnto st e i k ((Builtin.zeroCells z.cells k).toList.map .val) s) none
    | _,_,_=>none)
 | _=>none
theorem aAppend_ok {P:Program} {st st':St} {t tx ty:TypeId} {s x y:AV} {lg:Log} {A:Nat->Prop} {m:Map} {w:World} {q u:Value} (h:Zj5 P st t tx s x=some (y,st',lg))
  (hA:lg.Fits W0 A) (hR:Rel W0 A m st.heap.get w) (hF:Fresh A m st.next) (hs:s.den m=some q) (hx:x.den m=some u) :
  ∃ m' w' z,y.den m'=some z/\(Builtin.append_ #[t,tx] ty #[q,u]).run P w=.ok z w'/\Ok W0 A m st w m' st' lg w':=by
 unfold Zj5 at h
 split at h
 ·rename_i e ht
  simp only [Option.bind_eq_some_iff] at h
  obtain ⟨i,hi,h⟩:=h
  cases hk:Zid P tx with
  | true =>
   simp only [hk,cond_true,Option.bind_eq_some_iff,Option.map_eq_some_iff] at h
   obtain ⟨⟨n,ys,l1⟩,h1,⟨y1,s1,l2⟩,h2,he⟩:=h
   cases he
   obtain ⟨vs,hd,hsrc⟩:=aSrc_ok (P:=P) h1 hk (or_A hA).1 hR hx
   obtain ⟨m',w',z,hz,hrun,hok⟩:=Zl6 (ty:=ty) h2 (or_A hA).2 hR hF ht hi hs hd (.inl hsrc)
   exact ⟨m',w',z,hz,hrun,hok.more (fun r hr=>by simp only [Log.or];exact Za2 hr)⟩
  | false =>
   simp only [hk,cond_false] at h
   split at h
   ·rename_i kn kq k z htx hz
    simp only [AV.den,Option.some.injEq] at hx
    subst hx
    cases hc:zOk i z k with
    | false=>simp [hc] at h
    | true =>
     simp only [hc,cond_true] at h
     exact Zl6 (ty:=ty) h hA hR hF ht hi hs (Zbl m _) (zOk_ok hc hz htx)
   ·cases h
 ·cases h

theorem Ze3 (P:Program) (t tx ty e:TypeId) (ie:TypeInfo) (ht:P.underlying t=some (.slice e)) (hi:P.info? e=some ie) (base:Option Addr) (dlen cap n:Nat) (x:Value) (vs:List Value) (w w':World)
  (hl:(Builtin.lenOf x).run P w=.ok n w) (hc:(Builtin.firstCells ie.size (Nat.min n dlen) x).run P w=.ok vs.toArray w) (hst:∀ a,base=some a->(storeCells a vs).run P w=.ok () w') (hn:base=none->w'=w) :
  (Builtin.copy_ #[t,tx] ty #[.slice base dlen cap,x]).run P w=.ok (.int .i64 (Nat.min n dlen:Nat)) w':=by
 cases base with
 | none=>have:=hn rfl;subst this;simp [Builtin.copy_,run_underlying ht,hl,sizeOf,typeInfo,hi,hc,goInt]
 | some a=>have:=hst a rfl;simp [Builtin.copy_,run_underlying ht,hl,sizeOf,typeInfo,hi,hc,goInt,this]
def Ziq (st:St) (esz dlen:Nat):AV->Option (Nat × List AV × Log)
 | .val (.slice none n c)=>cond (Nat.beq n 0) (some (0,[],Log.no)) none
 | .val (.string s)=>cond (Nat.beq esz 1) (some (s.size,((s.extract 0 (Nat.min s.size dlen)).data.map fun b=>Value.int .u8 b.toNat).toList.map .val,Log.no)) none
 | .slice r v lo sz len cap opn=>cond (Nat.beq sz esz) ((look st r v).bind fun (o,n)=>cond (Nat.ble (lo * sz+Nat.min len dlen * sz) n) (some (len,Zaw o (lo * sz) (Nat.min len dlen * sz),Log.sees r)) none) none
 | _=>none
theorem aCopySrc_ok {P:Program} {st:St} {esz dlen n:Nat} {x:AV} {ys:List AV} {lg:Log} {A:Nat->Prop} {m:Map} {w:World} {u:Value} (h:Ziq st esz dlen x=some (n,ys,lg)) (hA:lg.Fits W0 A)
  (hR:Rel W0 A m st.heap.get w) (hx:x.den m=some u):∃ vs,denL m ys=some vs/\(Builtin.lenOf u).run P w=.ok n w/\(Builtin.firstCells esz (Nat.min n dlen) u).run P w=.ok vs.toArray w:=by
 unfold Ziq at h
 split at h
 ·rename_i n' c
  cases hc:Nat.beq n' 0 with
  | false=>simp [hc] at h
  | true =>
   have h0:=Nat.eq_of_beq_eq_true hc
   subst h0
   simp only [Nat.beq_refl,cond_true,Option.some.injEq,Prod.mk.injEq] at h
   obtain ⟨rfl,rfl,rfl⟩:=h
   simp only [AV.den,Option.some.injEq] at hx
   subst hx
   exact ⟨[],rfl,rfl,run_firstCells_none w esz _ 0 c⟩
 ·rename_i s
  cases hc:Nat.beq esz 1 with
  | false=>simp [hc] at h
  | true =>
   have h0:=Nat.eq_of_beq_eq_true hc
   subst h0
   simp only [Nat.beq_refl,cond_true,Option.some.injEq,Prod.mk.injEq] at h
   obtain ⟨rfl,rfl,rfl⟩:=h
   simp only [AV.den,Option.some.injEq] at hx
   subst hx
   refine ⟨_,Zbl m _,rfl,?_⟩
   simp only [Builtin.firstCells,Sem.run_pure,Array.toArray_toList]
 ·rename_i r v lo sz len cap opn
  cases hc:Nat.beq sz esz with
  | false=>simp [hc] at h
  | true =>
   have h0:=Nat.eq_of_beq_eq_true hc
   subst h0
   simp only [Nat.beq_refl,cond_true,Option.bind_eq_some_iff] at h
   obtain ⟨⟨o,nv⟩,hl,h⟩:=h
   obtain ⟨ho,hv⟩:=Ze6 hl
   cases hle:Nat.ble (lo * sz+Nat.min len dlen * sz) nv with
   | false=>simp [hle] at h
   | true =>
    simp only [hle,cond_true,Option.some.injEq,Prod.mk.injEq] at h
    obtain ⟨rfl,rfl,rfl⟩:=h
    have ha:A r:=hA.1 r (by simp [Log.sees,Zah])
    simp only [AV.den,Option.map_eq_some_iff] at hx
    obtain ⟨b,hb,rfl⟩:=hx
    obtain ⟨b',hb',hB⟩:=hR.blkC r o ha ho (Zei hl) v nv hv
    rw [hb] at hb';cases hb'
    obtain ⟨l,hd,hlen,hrun,hcell⟩:=hB.cells (P:=P) (Nat.le_of_ble_eq_true hle)
    exact ⟨l,hd,rfl,by simpa [Builtin.firstCells] using hrun⟩
 ·cases h
def aCopy (P:Program) (st:St) (t:TypeId) (d x:AV):Option (AV × St × Log) :=
 match P.underlying t with
 | some (.slice e)=>(P.info? e).bind fun i=>match d with
  | .val (.slice none 0 c)=>(Ziq st i.size 0 x).map fun (n,ys,l1)=>(.val (.int .i64 (Nat.min n 0:Nat)),st,l1)
  | .slice r v lo sz len cap opn=>cond (Nat.beq sz i.size) ((Ziq st i.size len x).bind fun (n,ys,l1)=>cond (Nat.beq (Nat.min n len) 0) none
    ((Zcf st r v (lo * sz) ys).map fun (st',l2)=>(.val (.int .i64 (Nat.min n len:Nat)),st',l1.or l2))) none
  | _=>none
 | _=>none
theorem aCopy_ok {P:Program} {st st':St} {t tx ty:TypeId} {d x y:AV} {lg:Log} {A:Nat->Prop} {m:Map} {w:World} {q u:Value} (h:aCopy P st t d x=some (y,st',lg))
  (hA:lg.Fits W0 A) (hR:Rel W0 A m st.heap.get w) (hF:Fresh A m st.next) (hs:d.den m=some q) (hx:x.den m=some u) :
  ∃ m' w' z,y.den m'=some z/\(Builtin.copy_ #[t,tx] ty #[q,u]).run P w=.ok z w'/\Ok W0 A m st w m' st' lg w':=by
 unfold aCopy at h
 split at h
 ·rename_i e ht
  simp only [Option.bind_eq_some_iff] at h
  obtain ⟨i,hi,h⟩:=h
  split at h
  ·rename_i c
   simp only [Option.map_eq_some_iff] at h
   obtain ⟨⟨n,ys,l1⟩,h1,he⟩:=h
   cases he
   simp only [AV.den,Option.some.injEq] at hs
   subst hs
   obtain ⟨vs,hd,hlen,hc⟩:=aCopySrc_ok (P:=P) h1 hA hR hx
   exact ⟨m,w,_,rfl,Ze3 P t tx ty e i ht hi none 0 c n u vs w w hlen hc (fun a ha=>by cases ha) (fun _=>rfl),Ok.refl hR hF⟩
  ·rename_i r v lo sz len cap opn
   cases hsz:Nat.beq sz i.size with
   | false=>simp [hsz] at h
   | true =>
    have hsz:=Nat.eq_of_beq_eq_true hsz
    subst hsz
    simp only [Nat.beq_refl,cond_true,Option.bind_eq_some_iff] at h
    obtain ⟨⟨n,ys,l1⟩,h1,h⟩:=h
    cases h0:Nat.beq (Nat.min n len) 0 with
    | true=>simp [h0] at h
    | false =>
     simp only [h0,cond_false,Option.map_eq_some_iff] at h
     obtain ⟨⟨s1,l2⟩,hp,he⟩:=h
     cases he
     simp only [AV.den,Option.map_eq_some_iff] at hs
     obtain ⟨b,hb,rfl⟩:=hs
     obtain ⟨vs,hd,hlen,hc⟩:=aCopySrc_ok (P:=P) h1 (or_A hA).1 hR hx
     obtain ⟨w',hrun,hok⟩:=Zd2 (P:=P) hp (or_A hA).2 hR hF hb hd
     exact ⟨m,w',_,rfl,Ze3 P t tx ty e i ht hi _ len _ n u vs w w' hlen hc (fun a ha=>by cases ha;exact hrun) (fun hn=>by cases hn),hok.more (fun r hr=>by simp only [Log.or];exact Za2 hr)⟩
  ·cases h
 ·cases h

def aFill (place:Nat->Option (Nat × Nat)) (cells:List AV):List (Nat × AV)->Option (List AV)
 | []=>some cells
 | (i,y) :: rest=>(place i).bind fun (off,size)=>cond (Nat.beq y.cellsOf.length size && Nat.ble (off+size) cells.length) (aFill place (cells.take off++y.cellsOf++cells.drop (off+size)) rest) none
theorem foldl_put (vs:List Value):∀ (off j:Nat) (cs:Array Value),off+j+vs.length<=cs.size->((vs.zipIdx j).foldl (fun cs p=>cs.setIfInBounds (off+p.2) p.1) cs).toList=cs.toList.take (off+j)++vs++cs.toList.drop (off+j+vs.length):=by
 induction vs with
 | nil=>intro off j cs h;simp
 | cons v vs ih =>
  intro off j cs h
  simp only [List.zipIdx_cons,List.foldl_cons]
  rw [ih off (j+1) _ (by simp at h ⊢;omega)]
  have e:=list_seg_step cs.toList (off+j) v vs (by simp at h ⊢;omega)
  simpa [Array.toList_setIfInBounds,Nat.add_assoc] using e
def denP (m:Map):List (Nat × AV)->Option (List (Nat × Value))
 | []=>some []
 | (i,y) :: l=>(y.den m).bind fun v=>(denP m l).map ((i,v) :: ·)
theorem Zng {m:Map} {place:Nat->Option (Nat × Nat)}:∀ {ps:List (Nat × AV)} {vps:List (Nat × Value)} {cells res:List AV} {cs:Array Value},denP m ps=some vps->denL m cells=some cs.toList->aFill place cells ps=some res->∃ cs',Instr.fill place cs vps=some cs'/\denL m res=some cs'.toList
 | [],vps,cells,res,cs,hp,hc,h=>by
  simp [denP] at hp;subst hp
  simp [aFill] at h;subst h
  exact ⟨cs,rfl,hc⟩
 | (i,y) :: rest,vps,cells,res,cs,hp,hc,h=>by
  simp only [denP,Option.bind_eq_some_iff,Option.map_eq_some_iff] at hp
  obtain ⟨v,hv,vr,hvr,rfl⟩:=hp
  simp only [aFill,Option.bind_eq_some_iff] at h
  obtain ⟨⟨off,size⟩,hpl,h⟩:=h
  cases hb:(Nat.beq y.cellsOf.length size && Nat.ble (off+size) cells.length) with
  | false=>simp [hb] at h
  | true =>
   simp only [hb,cond_true] at h
   simp only [Bool.and_eq_true,Nat.beq_eq,Nat.ble_eq] at hb
   have hcv:=Zfp hv
   have hvl:v.cells.size=size:=by have:=Zae hcv;simp at this;omega
   have hcl:cs.size=cells.length:=by simpa using Zae hc
   have hput:=foldl_put v.cells.toList off 0 cs (by simp;omega)
   have hfold:(v.cells.zipIdx.foldl (fun cs (x:Value × Nat)=>match x with | (c,j)=>cs.setIfInBounds (off+j) c) cs)=((v.cells.toList.zipIdx 0).foldl (fun cs p=>cs.setIfInBounds (off+p.2) p.1) cs):=by
    rw [<- Array.foldl_toList,Array.toList_zipIdx]
   simp only [Nat.add_zero,Array.length_toList,hvl] at hput
   obtain ⟨cs',h1,h2⟩:=Zng (place:=place) (cs:=(v.cells.toList.zipIdx 0).foldl (fun cs p=>cs.setIfInBounds (off+p.2) p.1) cs) hvr (by
    rw [hput]
    exact Zag (Zag (Zb0 off hc) hcv) (Zb1 (off+size) hc)) h
   refine ⟨cs',?_,h2⟩
   simp only [Instr.fill,hpl]
   rw [if_neg (by rw [hvl,hcl];simp;exact hb.2)]
   exact (congrArg (fun q=>Instr.fill place q vr) hfold).trans h1

def evP (x:AAct):List (Nat × Operand)->Option (List (Nat × AV))
 | []=>some []
 | (i,o) :: l=>(ev x o).bind fun y=>(evP x l).map ((i,y) :: ·)
theorem Zpm {m:Map} {x:AAct} {a:Act} (h:TRel m x a):∀ {l:List (Nat × Operand)} {ys:List (Nat × AV)},evP x l=some ys->denP m ys=some (l.map fun (i,o)=>(i,a.eval o))
 | [],ys,hy=>by simp [evP] at hy;subst hy;rfl
 | (i,o) :: l,ys,hy=>by
  simp only [evP,Option.bind_eq_some_iff,Option.map_eq_some_iff] at hy
  obtain ⟨y,hy,z,hz,rfl⟩:=hy
  simp [denP,ev_ok h hy,Zpm h hz]
def Zpy (P:Program) (t:TypeId) (ps:List (Nat × AV)):Option AV :=
 match P.info? t,P.underlying t with
 | some it,some (.array _ e)=>match it.zero,P.info? e with
  | some z,some ie=>(aFill (fun i=>some (i * ie.size,ie.size)) (z.cells.toList.map .val) ps).map .agg
  | _,_=>none
 | some it,some (.struct fields)=>match it.zero,fields.toList.mapM (fun f=>(P.info? f.type).map fun i=>(f.offset,i.size)) with
  | some z,some places=>(aFill (places.toArray[·]?) (z.cells.toList.map .val) ps).map .agg
  | _,_=>none
 | _,_=>none
theorem aBuild_ok {P:Program} {t:TypeId} {ps:List (Nat × AV)} {y:AV} {m:Map} {vps:Array (Nat × Value)} (h:Zpy P t ps=some y) (hp:denP m ps=some vps.toList) (w:World):∃ v,y.den m=some v/\(Instr.build t vps).run P w=.ok v w:=by
 have key:∀ place (z:Value) res,aFill place (z.cells.toList.map .val) ps=some res->(∀ cs,Instr.fill place z.cells vps.toList=some cs->P.built t vps.toList=some cs)->∃ v,(AV.agg res).den m=some v/\(Instr.build t vps).run P w=.ok v w:=by
  intro place z res hf hb
  obtain ⟨cs',h1,h2⟩:=Zng hp (Zbl m z.cells.toList) hf
  exact ⟨.agg cs',by simp [AV.den,h2],run_build w t vps cs' (hb cs' h1)⟩
 unfold Zpy at h
 split at h
 ·rename_i it n e hit hu
  split at h
  ·rename_i z ie hz hie
   simp only [Option.map_eq_some_iff] at h
   obtain ⟨res,hf,rfl⟩:=h
   exact key _ z res hf (fun cs hc=>by unfold Program.built;rw [hit,hu];simp only [hz,hie];exact hc)
  ·cases h
 ·rename_i it fields hit hu
  split at h
  ·rename_i z places hz hpl
   simp only [Option.map_eq_some_iff] at h
   obtain ⟨res,hf,rfl⟩:=h
   exact key _ z res hf (fun cs hc=>by unfold Program.built;rw [hit,hu];simp only [hz,hpl];exact hc)
  ·cases h
 ·cases h

theorem alloc_world' (w:World) (o:Obj):(w.alloc o).os=w.os/\(w.alloc o).tape=w.tape/\(w.alloc o).output=w.output/\w.heap.size<=(w.alloc o).heap.size/\(∀ k,k < w.heap.size->(w.alloc o).heap[k]?=w.heap[k]?)/\(w.alloc o).heap[w.heap.size]?=some o:=by
 refine ⟨rfl,rfl,rfl,?_,fun k hk=>?_,?_⟩
 ·show w.heap.size<=(w.heap.push o).size;simp
 ·show (w.heap.push o)[k]?=_;rw [Array.getElem?_push,if_neg (by omega)]
 ·show (w.heap.push o)[w.heap.size]?=_;simp
theorem Zpf {st st':St} {cells:List AV} {elem:TypeId} {esz:Nat} {lg:Log} {A:Nat->Prop} {m:Map} {w:World} {c:Array Value} (h:st.alloc cells elem esz false=some (st',lg)) (hA:lg.Fits W0 A)
  (hR:Rel W0 A m st.heap.get w) (hF:Fresh A m st.next) (hc:denL m cells=some c.toList):Ok W0 A m st w (m.new st.next (w.heap.size,0)) st' lg (w.alloc (.cells c elem)):=by
 obtain ⟨g1,g2,g3,g4,g5,g6⟩:=alloc_world' w (.cells c elem)
 refine Zio h hA hR hF g1 g2 g3 g4 g5 g6 (fun i _=>by omega) (fun i x hx=>?_) ?_
 ·obtain ⟨v,hv,hg⟩:=Za7 hc hx
  exact ⟨v,hv,by simpa using hg⟩
 ·simpa using Zae hc

def Zdr (P:Program) (st:St) (t:TypeId) (len:Nat) (ps:List (Nat × AV)):Option (AV × St × Log) :=
 match P.underlying t with
 | some (.slice e)=>(P.info? e).bind fun ie=>match ie.zero with
  | some z=>cond (Nat.ble (len * ie.size) 16777216 && Nat.blt 0 (len * ie.size))
    ((aFill (fun i=>some (i * ie.size,ie.size)) (((Array.range (len * ie.size)).map (z.cells[· % z.cells.size]!)).toList.map .val) ps).bind fun cells=>(st.alloc cells e ie.size false).map fun (st',lg)=>(.slice st.next 0 0 ie.size len len false,st',lg))
    (cond (Nat.beq len 0 && ps.isEmpty) ((st.alloc [] e ie.size false).map fun (st',lg)=>(.slice st.next 0 0 ie.size 0 0 false,st',lg)) none)
  | none=>none
 | _=>none
theorem aBuildSlice_ok {P:Program} {st st':St} {t:TypeId} {len:Nat} {ps:List (Nat × AV)} {y:AV} {lg:Log} {A:Nat->Prop} {m:Map} {w:World} {vps:Array (Nat × Value)} (h:Zdr P st t len ps=some (y,st',lg)) (hA:lg.Fits W0 A)
  (hR:Rel W0 A m st.heap.get w) (hF:Fresh A m st.next) (hp:denP m ps=some vps.toList):∃ m' w' v,y.den m'=some v/\(Instr.buildSlice t len vps).run P w=.ok v w'/\Ok W0 A m st w m' st' lg w':=by
 unfold Zdr at h
 split at h
 ·rename_i e hu
  simp only [Option.bind_eq_some_iff] at h
  obtain ⟨ie,hie,h⟩:=h
  split at h
  ·rename_i z hz
   cases hc:(Nat.ble (len * ie.size) 16777216 && Nat.blt 0 (len * ie.size)) with
   | true =>
    simp only [hc,cond_true,Option.bind_eq_some_iff,Option.map_eq_some_iff] at h
    simp only [Bool.and_eq_true,Nat.ble_eq,Nat.blt_eq] at hc
    obtain ⟨cells,hf,⟨s1,l1⟩,hal,he⟩:=h
    cases he
    obtain ⟨cs',h1,h2⟩:=Zng hp (Zbl m _) hf
    exact ⟨_,_,_,by simp [AV.den,Map.new],run_buildSlice w t e len vps cs' ie z hu hie hz (by omega) (by omega) h1,Zpf hal hA hR hF h2⟩
   | false =>
    simp only [hc,cond_false] at h
    cases hc2:(Nat.beq len 0 && ps.isEmpty) with
    | false=>simp [hc2] at h
    | true =>
     simp only [hc2,cond_true,Option.map_eq_some_iff] at h
     simp only [Bool.and_eq_true,Nat.beq_eq,List.isEmpty_iff] at hc2
     obtain ⟨rfl,rfl⟩:=hc2
     obtain ⟨⟨s1,l1⟩,hal,he⟩:=h
     cases he
     have hv:vps=#[]:=by
      simp [denP] at hp
      apply Array.ext'
      simpa using hp.symm
     subst hv
     refine ⟨_,w.alloc (.cells #[] e),_,by simp [AV.den,Map.new];rfl,?_,Zpf hal hA hR hF rfl⟩
     simp [Instr.buildSlice,run_underlying hu,sizeOf,typeInfo,hie,Instr.fill,newRow]
     congr 2
     apply Array.ext'
     simp
  ·cases h
 ·cases h

def Zed (P:Program) (st:St) (t:TypeId) (l c:AV):Option (AV × St × Log) :=
 match P.underlying t,l.int?,c.int? with
 | some (.slice e),some (kl,.ofNat len),some (kc,.ofNat cap)=>(P.info? e).bind fun i=>match i.zero with
  | some z=>cond (Nat.ble len cap && Nat.ble (i.bytes * cap) 281474976710656 && Nat.ble cap 9223372036854775807) ((st.alloc ((madeCells z.cells (cap * i.size)).toList.map .val) e i.size false).map fun (st',lg)=>(.slice st.next 0 0 i.size len cap false,st',lg)) none
  | none=>none
 | _,_,_=>none
theorem aMakeSlice_ok {P:Program} {st st':St} {t:TypeId} {l c y:AV} {lg:Log} {A:Nat->Prop} {m:Map} {w:World} {vl vc:Value} (h:Zed P st t l c=some (y,st',lg)) (hA:lg.Fits W0 A)
  (hR:Rel W0 A m st.heap.get w) (hF:Fresh A m st.next) (hl:l.den m=some vl) (hc:c.den m=some vc):∃ m' w' v,y.den m'=some v/\(Instr.makeSlice t vl vc).run P w=.ok v w'/\Ok W0 A m st w m' st' lg w':=by
 unfold Zed at h
 split at h
 ·rename_i e kl len kc cap hu h1 h2
  rw [int?_ok h1] at hl
  rw [int?_ok h2] at hc
  cases hl;cases hc
  simp only [Option.bind_eq_some_iff] at h
  obtain ⟨i,hi,h⟩:=h
  split at h
  ·rename_i z hz
   cases hq:(Nat.ble len cap && Nat.ble (i.bytes * cap) 281474976710656 && Nat.ble cap 9223372036854775807) with
   | false=>simp [hq] at h
   | true =>
    simp only [hq,cond_true,Option.map_eq_some_iff] at h
    simp only [Bool.and_eq_true,Nat.ble_eq] at hq
    obtain ⟨⟨s1,l1⟩,hal,he⟩:=h
    cases he
    have hr:=run_make (P:=P) w t e i z hu hi hz kl kc (.ofNat len) (.ofNat cap) (by simp) (by simp;exact hq.1.1) (by have:=hq.1.2;simp;rw [<- Int.natCast_mul];omega) (by simp;omega)
    exact ⟨_,_,_,by simp [AV.den,Map.new],hr,Zpf hal hA hR hF (Zbl m _)⟩
  ·cases h
 ·cases h

end Go.Proofs.Ytgdegpifjljnoaa.eng
end

section
/- The engine: one operation. -/
namespace Go.Proofs.Ytgdegpifjljnoaa.eng
open Go
variable {W0 : Base}

inductive AN where
 | value (x:AV)
 | panic (v:Value)
 | enter (f:FuncId) (args:List AV)
 | defer (d:ADef)

def Znd (P : Program) : Bool := P.funcs.all fun fn => !(fn.name == "runtime.NumGoroutine")
def GoodP (P:Program):Prop:=Znd P=true/\P=Try.prog
theorem namesOk_ok {P : Program} (h : Znd P = true) {f : FuncId} {fn : Func} (hf : P.funcs[f]? = some fn) : (fn.name == "runtime.NumGoroutine") = false := by
 simp only [Znd,Array.all_eq_true_iff_forall_mem] at h
 simpa using h fn (Array.mem_of_getElem? hf)

def Meets (P:Program) (m':Map) (s:Sem Next) (w w':World):AN->Prop
 | .value y=>∃ v,y.den m'=some v/\(s.run P w=.ok (.value v) w' \/ (v=undef/\s.run P w=.ok .skip w'))
 | .panic v=>∃ u,s.run P w=.halt (.panic (pick v u)) w'
 | .enter f args=>∃ vs,denL m' args=some vs/\s.run P w=.ok (.enter f vs.toArray) w'
 | .defer d=>∃ d',d.den m'=some d'/\s.run P w=.ok (.defer d') w'

def vno (st:St) (y:AV):AN × St × Log:=(.value y,st,Log.no)
def aPl (P:Program) (o:Oper) (x:AAct) (st:St):Option (AN × St × Log):=(Zpr P o x).map fun r=>(match r with | .inl v=>.value (.val v) | .inr v=>.panic v,st,Log.no)

def aFn:AV->Option (Fn × List AV × List AV)
 | .val (.func fn first cap)=>some (fn,first.toList.map .val,cap.toList.map .val)
 | .func fn first cap=>some (fn,first,cap)
 | _=>none
theorem aFn_ok {m:Map} {x:AV} {fn:Fn} {a b:List AV} {u:Value} (h:aFn x=some (fn,a,b)) (hx:x.den m=some u):∃ va vb,u=.func fn va vb/\denL m a=some va.toList/\denL m b=some vb.toList:=by
 cases x <;> simp [aFn] at h
 ·rename_i v
  cases v <;> simp at h
  rename_i f p q
  obtain ⟨rfl,rfl,rfl⟩:=h
  simp only [AV.den,Option.some.injEq] at hx
  subst hx
  exact ⟨p,q,rfl,Zbl m _,Zbl m _⟩
 ·obtain ⟨rfl,rfl,rfl⟩:=h
  simp only [AV.den,Option.bind_eq_some_iff,Option.map_eq_some_iff] at hx
  obtain ⟨p,hp,q,hq,rfl⟩:=hx
  exact ⟨p.toArray,q.toArray,rfl,by simpa using hp,by simpa using hq⟩

def evO (x:AAct):Option Operand->Option (Option AV)
 | none=>some none
 | some o=>(ev x o).map some
theorem Zeu {m:Map} {x:AAct} {a:Act} (h:TRel m x a) {o:Option Operand} {y:Option AV} (hy:evO x o=some y):denO m y=some (o.map a.eval):=by
 cases o with
 | none=>simp [evO] at hy;subst hy;rfl
 | some o =>
  simp only [evO,Option.map_eq_some_iff] at hy
  obtain ⟨z,hz,rfl⟩:=hy
  simp [denO,ev_ok h hz]

def Znf (P:Program) (t:TypeId):Bool:=match P.underlying t with | some (.interface _)=>true | some _=>false | none=>true

def aOut (P:Program) (t:TypeId) (x ix:AV):Bool:=match ix.int? with
 | some (_,i)=>match P.underlying t,x with
  | some (.slice _),.slice _ _ _ _ len _ _=>decide (i < 0) || decide ((len:Int)<=i)
  | some (.slice _),.val (.slice none _ _)=>true
  | _,_=>false
 | none=>false
theorem run_bounds (P:Program) (k:IntKind) (x y:Int) (w:World):∃ v n,(boundsPanic (α:=Value) k x y .index).run P w=.halt (.panic v) { w with drawn:=n }:=by
 unfold boundsPanic
 split
 ·refine ⟨.iface P.rt.boundsError (.agg #[.int .i64 (IntKind.i64.wrap x), .int .i64 y, .bool (w.tape w.drawn (.extern "runtime.boundsError.signed" 2) % 2 == 1), .int .u8 0]), w.drawn + 1, ?_⟩
  simp [Question.forced,Question.cut,runtimePanic,goPanic]
  rfl
 ·refine ⟨.iface P.rt.boundsError (.agg #[.int .i64 (IntKind.i64.wrap x),.int .i64 y,.bool (k != .u64),.int .u8 0]),w.drawn,?_⟩
  simp [runtimePanic,goPanic]
  rfl
theorem Znb {P:Program} {t e:TypeId} (hu:P.underlying t=some (.slice e)) (a:Option Addr) (n c:Nat) (k:IntKind) (i:Int) (h:a=none \/ i < 0 \/ (n:Int)<=i) (w:World):∃ v d,(Instr.indexAt t (.slice a n c) (.int k i)).run P w=.halt (.panic v) { w with drawn:=d }:=by
 cases a with
 | none =>
  obtain ⟨v,d,hr⟩:=run_bounds P k i 0 w
  exact ⟨v,d,by rw [<- hr];simp [Instr.indexAt,run_underlying hu,asIntOf]⟩
 | some a =>
  obtain ⟨v,d,hr⟩:=run_bounds P k i (n:Int) w
  have hn:¬ (0<=i/\i < (n:Int)):=by
   rcases h with h | h
   ·cases h
   ·omega
  exact ⟨v,d,by rw [<- hr];simp [Instr.indexAt,run_underlying hu,asIntOf,hn]⟩
theorem aOut_ok {P:Program} {t:TypeId} {x ix:AV} {m:Map} {u iu:Value} (h:aOut P t x ix=true) (hx:x.den m=some u) (hi:ix.den m=some iu) (w:World):∃ v d,(Instr.indexAt t u iu).run P w=.halt (.panic v) { w with drawn:=d }:=by
 unfold aOut at h
 split at h
 ·rename_i k i hk
  rw [int?_ok hk] at hi
  cases hi
  split at h
  ·rename_i e r v lo sz len cap opn hu
   simp only [AV.den,Option.map_eq_some_iff] at hx
   obtain ⟨b,hb,rfl⟩:=hx
   exact Znb hu _ _ _ _ _ (.inr (by simpa using h)) w
  ·rename_i e n c hu
   simp only [AV.den,Option.some.injEq] at hx
   subst hx
   exact Znb hu _ _ _ _ _ (.inl rfl) w
  ·cases h
 ·cases h
def Zip (P:Program) (t:TypeId) (l c:AV):Bool:=match P.underlying t,l.int?,c.int? with
 | some (.slice e),some (_,n),some (_,k)=>(P.info? e).isSome && decide (n < 0) && decide (IntKind.i64.wrap n < 0) && decide (IntKind.i64.wrap k < 0)
 | _,_,_=>false
theorem run_make_out {P:Program} {t e:TypeId} (hu:P.underlying t=some (.slice e)) (hi:(P.info? e).isSome=true) {kl kc:IntKind} {n k:Int} (h1:n < 0) (h2:IntKind.i64.wrap n < 0) (h3:IntKind.i64.wrap k < 0) (w:World):∃ v,(Instr.makeSlice t (.int kl n) (.int kc k)).run P w=.halt (.panic v) w:=by
 obtain ⟨i,hi⟩:=Option.isSome_iff_exists.1 hi
 refine ⟨.iface P.rt.errorString (strVal "makeslice: len out of range"), ?_⟩
 have ht:(typeInfo e).run P w=.ok i w:=by simp [typeInfo,hi]
 simp [Instr.makeSlice,run_underlying hu,asInt,asIntOf,ht,h1,h2,h3,runtimePanic,goPanic]
 intro h0
 omega
theorem aMakeOut_ok {P:Program} {t:TypeId} {l c:AV} {m:Map} {vl vc:Value} (h:Zip P t l c=true) (hl:l.den m=some vl) (hc:c.den m=some vc) (w:World):∃ v,(Instr.makeSlice t vl vc).run P w=.halt (.panic v) w:=by
 unfold Zip at h
 split at h
 ·rename_i e kl n kc k hu h1 h2
  rw [int?_ok h1] at hl
  rw [int?_ok h2] at hc
  cases hl
  cases hc
  simp only [Bool.and_eq_true,decide_eq_true_eq] at h
  exact run_make_out hu h.1.1.1 h.1.1.2 h.1.2 h.2 w
 ·cases h
theorem Ze1 {A Tc:Nat->Prop} {m:Map} {g:Heap} {w:World} (n:Nat) (h:Rel W0 A m g w):Step W0 A Tc m g w m g { w with drawn:=n } :=
 ⟨Map.Le.refl m,⟨fun r o ha ho v k hv=>h.blk r o ha ho v k hv,h.inj,h.top,h.size0,h.amb,h.abv,fun r o R ha ho hd=>h.dat r o R ha ho hd,h.disj,h.sv,h.same,h.fpb,fun r o e v n b ha ho hs hv hb=>h.row r o e v n b ha ho hs hv hb⟩,fun _ _ _=>rfl,fun _ _=>rfl,fun _ _=>rfl,rfl,rfl,rfl,Nat.le_refl _,fun _ _ _=>rfl,fun r o v n b _ ho hv hb _=>⟨o,v,n,b,ho,hv,hb,rfl⟩,fun r o R v fp ha _ ho hd hm k hk _=>⟨r,o,R,v,fp,ha,ho,hd,hm,hk⟩⟩

def aCall (P:Program) (o:Oper) (c:Call) (x:AAct) (st:St):Option (AN × St × Log) :=
 match c.callee with
 | .builtin .append=>match c.argTypes.toList,c.args.toList with
  | [t,tx],[s,y]=>(ev x s).bind fun a=>(ev x y).bind fun b=>(Zj5 P st t tx a b).map fun (z,st',lg)=>(.value z,st',lg)
  | _,_=>none
 | .builtin .copy=>match c.argTypes.toList,c.args.toList with
  | [t,tx],[s,y]=>(ev x s).bind fun a=>(ev x y).bind fun b=>(aCopy P st t a b).map fun (z,st',lg)=>(.value z,st',lg)
  | _,_=>none
 | .builtin .len=>match c.argTypes.toList,c.args.toList with
  | [t],[s]=>(ev x s).bind fun a=>match P.underlying t,a with
   | some (.slice _),.slice r v lo sz len cap opn=>some (vno st (.val (.int .i64 len)))
   | _,_=>aPl P o x st
  | _,_=>none
 | .builtin .cap=>match c.argTypes.toList,c.args.toList with
  | [t],[s]=>(ev x s).bind fun a=>match P.underlying t,a with
   | some (.slice _),.slice r v lo sz len cap false=>some (vno st (.val (.int .i64 cap)))
   | _,_=>aPl P o x st
  | _,_=>none
 | .builtin _=>aPl P o x st
 | .invoke _ _=>none
 | .value f=>(ev x f).bind fun fv=>(evL x c.args.toList).bind fun args=>(aFn fv).bind fun (fn,a,b)=>match fn with
  | .func g=>(P.funcs[g]?).bind fun d=>cond d.body.isSome (some (.enter g (a++args++b),st,Log.no)) (aPl P o x st)
  | _=>none

def aop (P:Program) (o:Oper) (x:AAct) (st:St):Option (AN × St × Log) :=
 match o.op with
 | .move a=>(ev x a).map (vno st)
 | .assign a=>(ev x a).map (vno st)
 | .pick c a b=>(ev x c).bind fun cv=>match cv with
  | .val (.bool true)=>(ev x a).map (vno st)
  | .val (.bool false)=>(ev x b).map (vno st)
  | _=>none
 | .alloc t=>(P.info? t).bind fun i=>i.zero.bind fun z=>(aNew st t (.val z)).map fun (y,st',lg)=>(.value y,st',lg)
 | .box t a=>(ev x a).bind fun q=>(aNew st t q).map fun (y,st',lg)=>(.value y,st',lg)
 | .build t ps=>(evP x ps.toList).bind fun qs=>(Zpy P t qs).map (vno st)
 | .buildSlice t n ps=>(evP x ps.toList).bind fun qs=>(Zdr P st t n qs).map fun (y,st',lg)=>(.value y,st',lg)
 | .load t a=>(ev x a).bind fun q=>(aLoad P st t q).map fun (y,lg)=>(.value y,st,lg)
 | .store t a b=>(ev x a).bind fun p=>(ev x b).bind fun q=>(Zmz P st t p q).map fun (st',lg)=>(.value (.val undef),st',lg)
 | .fieldAddr t a f=>(ev x a).bind fun q=>(Zhw P t q f).map (vno st)
 | .field t a f=>(ev x a).bind fun q=>(Zpx P t q f).map (vno st)
 | .indexAddr t a i=>(ev x a).bind fun q=>(ev x i).bind fun j=>match Zda P t q j with
  | some y=>some (vno st y)
  | none=>cond (aOut P t q j) (some (.panic anyV,st,Log.no)) (aPl P o x st)
 | .extract a i=>(ev x a).bind fun q=>(Zl8 q i).map (vno st)
 | .slice t a lo hi mx=>(ev x a).bind fun q=>(evO x lo).bind fun l=>(evO x hi).bind fun h=>(evO x mx).bind fun n=>match Zpq P st t q l h n with
  | some (y,lg)=>some (.value y,st,lg)
  | none=>aPl P o x st
 | .makeFunc fn first cap=>(evL x first.toList).bind fun a=>(evL x cap.toList).map fun b=>vno st (.func fn a b)
 | .makeSlice t l c=>(ev x l).bind fun a=>(ev x c).bind fun b=>cond (Zip P t a b) (some (.panic anyV,st,Log.no)) ((Zed P st t a b).map fun (y,st',lg)=>(.value y,st',lg))
 | .makeInterface t a=>(ev x a).bind fun q=>cond (Znf P t) none (some (vno st (.iface t q)))
 | .convert s d a=>(ev x a).bind fun q=>match Zj1 P st s d q with
  | some (y,lg)=>some (.value y,st,lg)
  | none=>match Zhe P st s d q with
   | some (y,st',lg)=>some (.value y,st',lg)
   | none=>aPl P o x st
 | .nilCheck a=>(ev x a).bind fun q=>match q with
  | .ptr r v idx sz sub=>some (vno st (.ptr r v idx sz sub))
  | .func (.func f) p c=>some (vno st (.func (.func f) p c))
  | _=>aPl P o x st
 | .call c=>aCall P o c x st
 | .defer c=>match c.callee with
  | .value f=>(ev x f).bind fun fv=>(evL x c.args.toList).bind fun args=>(aFn fv).map fun (fn,a,b)=>(.defer { fn,cap:=b,args:=a++args },st,Log.no)
  | _=>none
 | _=>aPl P o x st

theorem Zhf {P:Program} {o:Oper} {x:AAct} {a:Act} {st st':St} {n:AN} {lg:Log} {A:Nat->Prop} {m:Map} {w:World} (h:aPl P o x st=some (n,st',lg)) (hT:TRel m x a) (hR:Rel W0 A m st.heap.get w) (hF:Fresh A m st.next) :
  ∃ m' w',Ok W0 A m st w m' st' lg w'/\Meets P m' (execOp a.eval o) w w' n:=by
 simp only [aPl,Option.map_eq_some_iff] at h
 obtain ⟨r,hr,he⟩:=h
 have:=aPlain_ok hT hr w
 cases r with
 | inl v=>cases he;exact ⟨m,w,Ok.refl hR hF,v,rfl,.inl this⟩
 | inr v=>cases he;exact ⟨m,w,Ok.refl hR hF,v,by rw [pick_self];exact this⟩

theorem run_callFunc_enter {P : Program} {g : FuncId} {d : Func} (hd : P.funcs[g]? = some d) (hn : (d.name == "runtime.NumGoroutine") = false) (hb : d.body.isNone = false) (args : Array Value) (w : World) : (callFunc g args).run P w = .ok (.enter g args) w := by
 simp only [callFunc,Sem.run_bind,run_program,Result.andThen_ok,hd]
 rw [if_neg (by rw [hn];simp),if_neg (by rw [hb];simp)]
 rfl
theorem run_v {P:Program} {s:Sem Value} {v:Value} {w w':World} (h:s.run P w=.ok v w'):(do pure (Next.value (← s)):Sem Next).run P w=.ok (.value v) w':=by simp [h]

theorem aCall_ok {P:Program} (hN:GoodP P) {o:Oper} {c:Call} (ho:o.op=.call c) {x:AAct} {a:Act} {st st':St} {n:AN} {lg:Log} {A:Nat->Prop} {m:Map} {w:World} (h:aCall P o c x st=some (n,st',lg)) (hA:lg.Fits W0 A) (hT:TRel m x a) (hR:Rel W0 A m st.heap.get w) (hF:Fresh A m st.next) :
  ∃ m' w',Ok W0 A m st w m' st' lg w'/\Meets P m' (execOp a.eval o) w w' n:=by
 have hex:execOp a.eval o=(do let d <- resolve a.eval c o.type;invoke d.target d.args):=by unfold execOp;rw [ho]
 have hbu:∀ b,c.callee=.builtin b->∃ cs,execOp a.eval o=builtin b c.argTypes o.type cs (c.args.map a.eval):=fun b hb=>by
  rw [hex];unfold resolve;rw [hb];exact ⟨_,rfl⟩
 unfold aCall at h
 split at h
 ·rename_i hc
  obtain ⟨cs,hcs⟩:=hbu _ hc
  split at h
  ·rename_i t tx s y hat har
   simp only [Option.bind_eq_some_iff,Option.map_eq_some_iff] at h
   obtain ⟨p,hp,q,hq,⟨z,s1,l1⟩,hap,he⟩:=h
   cases he
   have e1:c.argTypes=#[t,tx]:=by apply Array.ext';simpa using hat
   have e2:c.args=#[s,y]:=by apply Array.ext';simpa using har
   obtain ⟨m',w',v,hv,hrun,hok⟩:=aAppend_ok (ty:=o.type) hap hA hR hF (ev_ok hT hp) (ev_ok hT hq)
   refine ⟨m',w',hok,v,hv,.inl ?_⟩
   rw [hcs,e1,e2]
   simpa [builtin] using run_v hrun
  ·cases h
 ·rename_i hc
  obtain ⟨cs,hcs⟩:=hbu _ hc
  split at h
  ·rename_i t tx s y hat har
   simp only [Option.bind_eq_some_iff,Option.map_eq_some_iff] at h
   obtain ⟨p,hp,q,hq,⟨z,s1,l1⟩,hap,he⟩:=h
   cases he
   have e1:c.argTypes=#[t,tx]:=by apply Array.ext';simpa using hat
   have e2:c.args=#[s,y]:=by apply Array.ext';simpa using har
   obtain ⟨m',w',v,hv,hrun,hok⟩:=aCopy_ok (ty:=o.type) (tx:=tx) hap hA hR hF (ev_ok hT hp) (ev_ok hT hq)
   refine ⟨m',w',hok,v,hv,.inl ?_⟩
   rw [hcs,e1,e2]
   simpa [builtin] using run_v hrun
  ·cases h
 ·rename_i hc
  obtain ⟨cs,hcs⟩:=hbu _ hc
  split at h
  ·rename_i t s hat har
   simp only [Option.bind_eq_some_iff] at h
   obtain ⟨p,hp,h⟩:=h
   split at h
   ·rename_i e r v lo sz len cap opn hu
    simp only [vno,Option.some.injEq,Prod.mk.injEq] at h
    obtain ⟨rfl,rfl,rfl⟩:=h
    have e1:c.argTypes=#[t]:=by apply Array.ext';simpa using hat
    have e2:c.args=#[s]:=by apply Array.ext';simpa using har
    have hv:=ev_ok hT hp
    simp only [AV.den,Option.map_eq_some_iff] at hv
    obtain ⟨b,hb,hv⟩:=hv
    refine ⟨m,w,Ok.refl hR hF,_,rfl,.inl ?_⟩
    rw [hcs,e1,e2]
    simp [builtin,Builtin.len_,<- hv,run_underlying hu,goInt]
   ·exact Zhf h hT hR hF
  ·cases h
 ·rename_i hc
  obtain ⟨cs,hcs⟩:=hbu _ hc
  split at h
  ·rename_i t s hat har
   simp only [Option.bind_eq_some_iff] at h
   obtain ⟨p,hp,h⟩:=h
   split at h
   ·rename_i e r v lo sz len cap hu
    simp only [vno,Option.some.injEq,Prod.mk.injEq] at h
    obtain ⟨rfl,rfl,rfl⟩:=h
    have e1:c.argTypes=#[t]:=by apply Array.ext';simpa using hat
    have e2:c.args=#[s]:=by apply Array.ext';simpa using har
    have hv:=ev_ok hT hp
    simp only [AV.den,Option.map_eq_some_iff] at hv
    obtain ⟨b,hb,hv⟩:=hv
    refine ⟨m,w,Ok.refl hR hF,_,rfl,.inl ?_⟩
    rw [hcs,e1,e2]
    simp [builtin,Builtin.cap_,<- hv,run_underlying hu,goInt]
   ·exact Zhf h hT hR hF
  ·cases h
 ·exact Zhf h hT hR hF
 ·cases h
 ·rename_i f hc
  simp only [Option.bind_eq_some_iff] at h
  obtain ⟨fv,hfv,args,hargs,⟨fn,p,q⟩,hfn,h⟩:=h
  obtain ⟨va,vb,hu,hda,hdb⟩:=aFn_ok hfn (ev_ok hT hfv)
  have hda':=Zmv hT hargs
  dsimp only at h
  split at h
  ·rename_i g
   simp only [Option.bind_eq_some_iff] at h
   obtain ⟨d,hd,h⟩:=h
   cases hbody:d.body.isSome with
   | false=>simp only [hbody,cond_false] at h;exact Zhf h hT hR hF
   | true =>
    simp only [hbody,cond_true,Option.some.injEq,Prod.mk.injEq] at h
    obtain ⟨rfl,rfl,rfl⟩:=h
    refine ⟨m,w,Ok.refl hR hF,va.toList++c.args.toList.map a.eval++vb.toList,Zag (Zag hda hda') hdb,?_⟩
    rw [hex]
    have hn:=namesOk_ok hN.1 hd
    have hb':d.body.isNone=false:=by cases hq:d.body <;> simp_all
    simp only [resolve,hc,hu,Deferred.ofValue,invoke,Sem.run_bind,Sem.run_pure,Result.andThen_ok,run_callFunc_enter hd hn hb']
    congr 2
    apply Array.ext'
    simp
  ·cases h

theorem Zlk {P:Program} (hN:GoodP P) {o:Oper} {x:AAct} {a:Act} {st st':St} {n:AN} {lg:Log} {A:Nat->Prop} {m:Map} {w:World} (h:aop P o x st=some (n,st',lg)) (hA:lg.Fits W0 A) (hT:TRel m x a) (hR:Rel W0 A m st.heap.get w) (hF:Fresh A m st.next) :
  ∃ m' w',Ok W0 A m st w m' st' lg w'/\Meets P m' (execOp a.eval o) w w' n:=by
 unfold aop at h
 split at h
 ·rename_i y ho
  simp only [Option.map_eq_some_iff,vno] at h
  obtain ⟨z,hz,he⟩:=h
  cases he
  exact ⟨m,w,Ok.refl hR hF,_,ev_ok hT hz,.inl (by simp [execOp,ho])⟩
 ·rename_i y ho
  simp only [Option.map_eq_some_iff,vno] at h
  obtain ⟨z,hz,he⟩:=h
  cases he
  exact ⟨m,w,Ok.refl hR hF,_,ev_ok hT hz,.inl (by simp [execOp,ho])⟩
 ·rename_i c y z ho
  simp only [Option.bind_eq_some_iff] at h
  obtain ⟨cv,hcv,h⟩:=h
  have hc:=ev_ok hT hcv
  split at h
  ·simp only [Option.map_eq_some_iff,vno] at h
   obtain ⟨q,hq,he⟩:=h
   cases he
   simp only [AV.den,Option.some.injEq] at hc
   exact ⟨m,w,Ok.refl hR hF,_,ev_ok hT hq,.inl (by simp [execOp,ho,<- hc,asBool])⟩
  ·simp only [Option.map_eq_some_iff,vno] at h
   obtain ⟨q,hq,he⟩:=h
   cases he
   simp only [AV.den,Option.some.injEq] at hc
   exact ⟨m,w,Ok.refl hR hF,_,ev_ok hT hq,.inl (by simp [execOp,ho,<- hc,asBool])⟩
  ·cases h
 ·rename_i t ho
  simp only [Option.bind_eq_some_iff,Option.map_eq_some_iff] at h
  obtain ⟨i,hi,z,hz,⟨y,s1,l1⟩,hnew,he⟩:=h
  cases he
  obtain ⟨m',w',p,hp,hrun,hok⟩:=aNew_ok (P:=P) hnew hA hR hF rfl
  refine ⟨m',w',hok,_,hp,.inl ?_⟩
  simp [execOp,ho,Instr.alloc,zeroValue,typeInfo,hi,hz,hrun]
 ·rename_i t y ho
  simp only [Option.bind_eq_some_iff,Option.map_eq_some_iff] at h
  obtain ⟨q,hq,⟨y,s1,l1⟩,hnew,he⟩:=h
  cases he
  obtain ⟨m',w',p,hp,hrun,hok⟩:=aNew_ok (P:=P) hnew hA hR hF (ev_ok hT hq)
  refine ⟨m',w',hok,_,hp,.inl ?_⟩
  simp [execOp,ho,Instr.box,hrun]
 ·rename_i t ps ho
  simp only [Option.bind_eq_some_iff,Option.map_eq_some_iff,vno] at h
  obtain ⟨qs,hqs,y,hy,he⟩:=h
  cases he
  obtain ⟨v,hv,hrun⟩:=aBuild_ok (vps:=ps.map fun (i,o)=>(i,a.eval o)) hy (by have:=Zpm hT hqs;simpa using this) w
  exact ⟨m,w,Ok.refl hR hF,v,hv,.inl (by simp [execOp,ho,hrun])⟩
 ·rename_i t k ps ho
  simp only [Option.bind_eq_some_iff,Option.map_eq_some_iff] at h
  obtain ⟨qs,hqs,⟨y,s1,l1⟩,hy,he⟩:=h
  cases he
  obtain ⟨m',w',v,hv,hrun,hok⟩:=aBuildSlice_ok (vps:=ps.map fun (i,o)=>(i,a.eval o)) hy hA hR hF (by have:=Zpm hT hqs;simpa using this)
  exact ⟨m',w',hok,v,hv,.inl (by simp [execOp,ho,hrun])⟩
 ·rename_i t y ho
  simp only [Option.bind_eq_some_iff,Option.map_eq_some_iff] at h
  obtain ⟨q,hq,⟨z,l1⟩,hl,he⟩:=h
  cases he
  obtain ⟨v,hv,hrun⟩:=aLoad_ok hl hA hR (ev_ok hT hq)
  exact ⟨m,w,Ok.refl hR hF,v,hv,.inl (by simp [execOp,ho,hrun])⟩
 ·rename_i t y z ho
  simp only [Option.bind_eq_some_iff,Option.map_eq_some_iff] at h
  obtain ⟨p,hp,q,hq,⟨s1,l1⟩,hs,he⟩:=h
  cases he
  obtain ⟨w',hrun,hok⟩:=aStore_ok hs hA hR hF (ev_ok hT hp) (ev_ok hT hq)
  exact ⟨m,w',hok,undef,rfl,.inr ⟨rfl,by simp [execOp,ho,hrun]⟩⟩
 ·rename_i t y f ho
  simp only [Option.bind_eq_some_iff,Option.map_eq_some_iff,vno] at h
  obtain ⟨q,hq,z,hz,he⟩:=h
  cases he
  obtain ⟨v,hv,hrun⟩:=aFieldAddr_ok hz (ev_ok hT hq) w
  exact ⟨m,w,Ok.refl hR hF,v,hv,.inl (by simp [execOp,ho,hrun])⟩
 ·rename_i t y f ho
  simp only [Option.bind_eq_some_iff,Option.map_eq_some_iff,vno] at h
  obtain ⟨q,hq,z,hz,he⟩:=h
  cases he
  obtain ⟨v,hv,hrun⟩:=aField_ok hz (ev_ok hT hq) w
  exact ⟨m,w,Ok.refl hR hF,v,hv,.inl (by simp [execOp,ho,hrun])⟩
 ·rename_i t y i ho
  simp only [Option.bind_eq_some_iff] at h
  obtain ⟨q,hq,j,hj,h⟩:=h
  split at h
  ·rename_i z hz
   simp only [vno,Option.some.injEq,Prod.mk.injEq] at h
   obtain ⟨rfl,rfl,rfl⟩:=h
   obtain ⟨v,hv,hrun⟩:=aIndexAddr_ok hz (ev_ok hT hq) (ev_ok hT hj) w
   exact ⟨m,w,Ok.refl hR hF,v,hv,.inl (by simp [execOp,ho,hrun])⟩
  ·cases hout:aOut P t q j with
   | true =>
    simp only [hout,cond_true,Option.some.injEq,Prod.mk.injEq] at h
    obtain ⟨rfl,rfl,rfl⟩:=h
    obtain ⟨v,d,hrun⟩:=aOut_ok hout (ev_ok hT hq) (ev_ok hT hj) w
    exact ⟨m,{ w with drawn:=d },⟨Ze1 d hR,hF⟩,v,by simp [execOp,ho,hrun,Zg3]⟩
   | false =>
    simp only [hout,cond_false] at h
    exact Zhf h hT hR hF
 ·rename_i y i ho
  simp only [Option.bind_eq_some_iff,Option.map_eq_some_iff,vno] at h
  obtain ⟨q,hq,z,hz,he⟩:=h
  cases he
  obtain ⟨v,hv,hrun⟩:=aExtract_ok (P:=P) hz (ev_ok hT hq) w
  exact ⟨m,w,Ok.refl hR hF,v,hv,.inl (by simp [execOp,ho,hrun])⟩
 ·rename_i t y lo hi mx ho
  simp only [Option.bind_eq_some_iff] at h
  obtain ⟨q,hq,l,hl,hh,hhh,k,hk,h⟩:=h
  split at h
  ·rename_i z lg' hz
   simp only [Option.some.injEq,Prod.mk.injEq] at h
   obtain ⟨rfl,rfl,rfl⟩:=h
   obtain ⟨v,hv,hrun⟩:=aSlice_ok hz hA hR (ev_ok hT hq) (Zeu hT hl) (Zeu hT hhh) (Zeu hT hk)
   exact ⟨m,w,Ok.refl hR hF,v,hv,.inl (by simp [execOp,ho,hrun])⟩
  ·exact Zhf h hT hR hF
 ·rename_i fn first cap ho
  simp only [Option.bind_eq_some_iff,Option.map_eq_some_iff,vno] at h
  obtain ⟨p,hp,q,hq,he⟩:=h
  cases he
  refine ⟨m,w,Ok.refl hR hF,.func fn (first.map a.eval) (cap.map a.eval),?_,.inl (by simp [execOp,ho,Instr.makeFunc])⟩
  simp [AV.den,Zmv hT hp,Zmv hT hq]
  exact ⟨by apply Array.ext';simp,by apply Array.ext';simp⟩
 ·rename_i t l c ho
  simp only [Option.bind_eq_some_iff] at h
  obtain ⟨p,hp,q,hq,h⟩:=h
  cases hout:Zip P t p q with
  | true =>
   simp only [hout,cond_true,Option.some.injEq,Prod.mk.injEq] at h
   obtain ⟨rfl,rfl,rfl⟩:=h
   obtain ⟨v,hrun⟩:=aMakeOut_ok hout (ev_ok hT hp) (ev_ok hT hq) w
   exact ⟨m,w,Ok.refl hR hF,v,by simp [execOp,ho,hrun,Zg3]⟩
  | false =>
   simp only [hout,cond_false,Option.map_eq_some_iff] at h
   obtain ⟨⟨y,s1,l1⟩,hy,he⟩:=h
   cases he
   obtain ⟨m',w',v,hv,hrun,hok⟩:=aMakeSlice_ok hy hA hR hF (ev_ok hT hp) (ev_ok hT hq)
   exact ⟨m',w',hok,v,hv,.inl (by simp [execOp,ho,hrun])⟩
 ·rename_i t y ho
  simp only [Option.bind_eq_some_iff] at h
  obtain ⟨q,hq,h⟩:=h
  cases hi:Znf P t with
  | true=>simp [hi] at h
  | false =>
   simp only [hi,cond_false,vno,Option.some.injEq,Prod.mk.injEq] at h
   obtain ⟨rfl,rfl,rfl⟩:=h
   refine ⟨m,w,Ok.refl hR hF,.iface t (a.eval y),by simp [AV.den,ev_ok hT hq],.inl ?_⟩
   unfold Znf at hi
   split at hi
   ·cases hi
   ·rename_i d hd hne
    simp only [execOp,ho,Instr.makeInterface,Sem.run_bind,run_underlying hne,Result.andThen_ok]
    cases d <;> first | rfl | exact absurd hne (hd _)
   ·cases hi
 ·rename_i s d y ho
  simp only [Option.bind_eq_some_iff] at h
  obtain ⟨q,hq,h⟩:=h
  split at h
  ·rename_i z lg' hz
   simp only [Option.some.injEq,Prod.mk.injEq] at h
   obtain ⟨rfl,rfl,rfl⟩:=h
   obtain ⟨v,hv,hrun⟩:=aToString_ok hz hA hR (ev_ok hT hq)
   exact ⟨m,w,Ok.refl hR hF,v,hv,.inl (by simp [execOp,ho,hrun])⟩
  ·split at h
   ·rename_i z s1 lg' hz
    simp only [Option.some.injEq,Prod.mk.injEq] at h
    obtain ⟨rfl,rfl,rfl⟩:=h
    obtain ⟨m',w',v,hv,hrun,hok⟩:=aToBytes_ok hz hA hR hF (ev_ok hT hq)
    exact ⟨m',w',hok,v,hv,.inl (by simp [execOp,ho,hrun])⟩
   ·exact Zhf h hT hR hF
 ·rename_i y ho
  simp only [Option.bind_eq_some_iff] at h
  obtain ⟨q,hq,h⟩:=h
  have hv:=ev_ok hT hq
  split at h
  ·simp only [vno,Option.some.injEq,Prod.mk.injEq] at h
   obtain ⟨rfl,rfl,rfl⟩:=h
   refine ⟨m,w,Ok.refl hR hF,_,hv,.inl ?_⟩
   simp only [AV.den,Option.map_eq_some_iff] at hv
   obtain ⟨b,hb,hv⟩:=hv
   simp [execOp,ho,<- hv]
  ·simp only [vno,Option.some.injEq,Prod.mk.injEq] at h
   obtain ⟨rfl,rfl,rfl⟩:=h
   refine ⟨m,w,Ok.refl hR hF,_,hv,.inl ?_⟩
   simp only [AV.den,Option.bind_eq_some_iff,Option.map_eq_some_iff] at hv
   obtain ⟨p,hp,c,hc,hv⟩:=hv
   simp [execOp,ho,<- hv]
  ·exact Zhf h hT hR hF
 ·rename_i c ho
  exact aCall_ok hN ho h hA hT hR hF
 ·rename_i c ho
  split at h
  ·rename_i f hc
   simp only [Option.bind_eq_some_iff,Option.map_eq_some_iff] at h
   obtain ⟨fv,hfv,args,hargs,⟨fn,p,q⟩,hfn,he⟩:=h
   cases he
   obtain ⟨va,vb,hu,hda,hdb⟩:=aFn_ok hfn (ev_ok hT hfv)
   have hda':=Zmv hT hargs
   refine ⟨m,w,Ok.refl hR hF,{ target:=.fn fn vb,args:=va++c.args.map a.eval },?_,?_⟩
   ·simp [ADef.den,hdb,Zag hda hda']
   ·simp [execOp,ho,resolve,hc,hu,Deferred.ofValue]
  ·cases h
 ·exact Zhf h hT hR hF

end Go.Proofs.Ytgdegpifjljnoaa.eng
end

section
/- The engine: new things of which something is known. -/
namespace Go.Proofs.Ytgdegpifjljnoaa.eng
open Go Go.RowKit
variable {W0 : Base}

theorem Ok.rel {A:Nat->Prop} {m m':Map} {st st':St} {w w':World} {lg:Log} (h:Ok W0 A m st w m' st' lg w'):Rel W0 A m' st'.heap.get w':=h.step.rel
theorem Ok.ext {A:Nat->Prop} {m m':Map} {st st':St} {w w':World} {lg:Log} (h:Ok W0 A m st w m' st' lg w'):m.Le m':=h.step.ext

def Zcj (e:SX × Bool):ARoot:={ cells:=[],elem:=0,esz:=0,ro:=e.2,opn:=false,vers:=[],dat:=some e.1 }
def Zbg:List (SX × Bool)->Nat->T ARoot->T ARoot
 | [],_,h=>h
 | R :: Rs,n,h=>Zbg Rs (n+1) (T.set 24 h n (some (Zcj R)))
theorem Zbp:∀ (Rs:List (SX × Bool)) (n:Nat) (h:T ARoot) (r:Nat),n+Rs.length < 16777215->(Zbg Rs n h).get r=if n<=r/\r < n+Rs.length then (Rs[r - n]?).map Zcj else h.get r
 | [],n,h,r,_=>by
  have:¬ (n<=r/\r < n+0):=by omega
  simp only [Zbg,List.length_nil]
  rw [if_neg this]
 | R :: Rs,n,h,r,hb=>by
  simp only [List.length_cons] at hb ⊢
  rw [Zbg,Zbp Rs (n+1) _ r (by omega),T.get_set _ _ _ _ _ (show n+1 < 16777216 by omega)]
  by_cases h1:r=n
  ·subst h1
   have:¬ (r+1<=r/\r < r+1+Rs.length):=by omega
   rw [if_neg this,if_pos rfl,if_pos (by omega)]
   simp
  ·by_cases h2:n+1<=r/\r < n+1+Rs.length
   ·rw [if_pos h2,if_pos (by omega),show r - n=(r - (n+1))+1 by omega]
    simp
   ·rw [if_neg h2,if_neg h1,if_neg (by omega)]
def Za0 (n k:Nat):Nat:=((1 <<< k) - 1) <<< n
theorem Za9 (n k r:Nat):bit (Za0 n k) r ↔ n<=r/\r < n+k:=by
 simp only [bit,Za0,Nat.testBit_shiftLeft,Nat.one_shiftLeft,Nat.testBit_two_pow_sub_one,Bool.and_eq_true,decide_eq_true_eq]
 all_goals omega

def St.dats (st:St) (es:List (SX × Bool)):St:={ st with heap:=Zbg es st.next st.heap,next:=st.next+es.length }
def Hangs (A:Nat->Prop) (m:Map) (st:St) (k:Nat):Prop:=∃ r o e v fp,A r/\st.heap.get r=some o/\o.dat=some e/\m.d r=some (v,fp)/\fp k

theorem Zj0 {A:Nat->Prop} {m:Map} {st:St} {w w':World} (hR:Rel W0 A m st.heap.get w) (hF:Fresh A m st.next) (hex:Ex w w') (es:List (SX × Bool)) (us:List Value) (fps:Nat->Nat->Prop) {lg:Log} (hlT:lg.T=Za0 st.next es.length)
  (hul:us.length=es.length) (hlt:st.next+es.length < 16777215) (hAn:∀ r,st.next<=r->r < st.next+es.length->A r)
  (h:∀ (i:Nat) (e:SX × Bool) (u:Value),es[i]?=some e->us[i]?=some u->u.oneCell'=true/\(∀ k,fps i k->k < w'.heap.size/\(e.2=true->W0.fp k \/ W0.heap.size<=k)/\(k < w.heap.size->Hangs A m st k))/\∀ w2:World,(∀ k,fps i k->w2.heap[k]?=w'.heap[k]?)->W0.know e.1 w2 u) :
  ∃ m',Ok W0 A m st w m' (st.dats es) lg w'/\(∀ i u,us[i]?=some u->m'.d (st.next+i)=some (u,fps i))/\(∀ r,r < st.next->m'.d r=m.d r):=by
 let m':Map:=⟨m.f,fun r=>if st.next<=r/\r < st.next+es.length then some (us.getD (r - st.next) undef,fps (r - st.next)) else m.d r,m.s⟩
 have hin:∀ r,st.next<=r/\r < st.next+es.length->m'.d r=some (us.getD (r - st.next) undef,fps (r - st.next)):=fun r h1=>by
  show (if st.next<=r/\r < st.next+es.length then _ else _)=_
  rw [if_pos h1]
 have hout:∀ r,¬ (st.next<=r/\r < st.next+es.length)->m'.d r=m.d r:=fun r h1=>by
  show (if st.next<=r/\r < st.next+es.length then _ else _)=_
  rw [if_neg h1]
 have hT:∀ r,bit lg.T r ↔ (st.next<=r/\r < st.next+es.length):=fun r=>by rw [hlT];exact Za9 _ _ _
 have hg:=Zbp es st.next st.heap
 have hgin:∀ r o,st.next<=r/\r < st.next+es.length->(Zbg es st.next st.heap).get r=some o->∃ R,es[r - st.next]?=some R/\o=Zcj R:=fun r o hr ho=>by
  rw [hg r hlt,if_pos hr,Option.map_eq_some_iff] at ho
  obtain ⟨R,hR',rfl⟩:=ho
  exact ⟨R,hR',rfl⟩
 have hgout:∀ r,¬ (st.next<=r/\r < st.next+es.length)->(Zbg es st.next st.heap).get r=st.heap.get r:=fun r hr=>by rw [hg r hlt,if_neg hr]
 have hle:m.Le m':=⟨fun _ _ _ h=>h,fun r x hx=>by
  by_cases hr:st.next<=r/\r < st.next+es.length
  ·rw [(hF r (hAn r hr.1 hr.2) hr.1).2] at hx;cases hx
  ·rw [hout r hr];exact hx,fun _ _ h=>h⟩
 have hvers:∀ r o v n,(Zbg es st.next st.heap).get r=some o->(v,n) ∈ o.vers->¬ (st.next<=r/\r < st.next+es.length)/\st.heap.get r=some o:=fun r o v n ho hv=>by
  by_cases hr:st.next<=r/\r < st.next+es.length
  ·obtain ⟨R,_,rfl⟩:=hgin r o hr ho
   simp [Zcj] at hv
  ·rw [hgout r hr] at ho
   exact ⟨hr,ho⟩
 have hfact:∀ r,st.next<=r/\r < st.next+es.length->∃ e u,es[r - st.next]?=some e/\us[r - st.next]?=some u/\us.getD (r - st.next) undef=u:=fun r hr=>by
  have h1:r - st.next < es.length:=by omega
  have h2:r - st.next < us.length:=by omega
  exact ⟨_,_,List.getElem?_eq_getElem h1,List.getElem?_eq_getElem h2,by simp [List.getD,h2]⟩
 have hrel:Rel W0 A m' (Zbg es st.next st.heap).get w':=by
  refine ⟨?_,?_,?_,Nat.le_trans hR.size0 hex.size,fun k hk hm=>(hex.block k (Nat.lt_of_lt_of_le hk hR.size0)).trans (hR.amb k hk hm),?_,?_,?_,hR.sv,⟨hex.os.trans hR.same.1,hex.tape.trans hR.same.2.1,hex.output.trans hR.same.2.2⟩,?_,fun r o e v n b ha ho hs hv hb=>by
   obtain ⟨_,ho'⟩:=hvers r o v n ho hv
   exact (hR.row r o e v n b ha ho' hs hv hb).mono (hex.block b.1 (hR.lt ha ho' hv hb))⟩
  ·intro r o ha ho v' n hv'
   obtain ⟨_,ho'⟩:=hvers r o v' n ho hv'
   obtain ⟨b,hb,hB⟩:=hR.blk r o ha ho' v' n hv'
   exact ⟨b,hb,hB.mono hle (hex.block b.1 (hR.lt ha ho' hv' hb))⟩
  ·intro r r' o o' v1 n1 v2 n2 b b' ha ha' ho ho' hv1 hv2 hb hb' he
   obtain ⟨_,ho1⟩:=hvers r o v1 n1 ho hv1
   obtain ⟨_,ho2⟩:=hvers r' o' v2 n2 ho' hv2
   exact hR.inj r r' o o' v1 n1 v2 n2 b b' ha ha' ho1 ho2 hv1 hv2 hb hb' he
  ·intro r o v1 n1 rest ha ho hv1 v2 hlt2
   obtain ⟨_,ho1⟩:=hvers r o v1 n1 ho (by rw [hv1];simp)
   exact hR.top r o v1 n1 rest ha ho1 hv1 v2 hlt2
  ·intro r o v1 n1 b ha ho hv1 hb
   obtain ⟨_,ho1⟩:=hvers r o v1 n1 ho hv1
   exact hR.abv r o v1 n1 b ha ho1 hv1 hb
  ·intro r o R ha ho hd
   by_cases hr:st.next<=r/\r < st.next+es.length
   ·obtain ⟨R',hR',rfl⟩:=hgin r o hr ho
    simp only [Zcj,Option.some.injEq] at hd
    subst hd
    obtain ⟨e,u,he,hu,hgu⟩:=hfact r hr
    rw [hR'] at he
    cases he
    obtain ⟨g1,g2,g3⟩:=h _ _ _ hR' hu
    rw [hin r hr,hgu]
    exact ⟨u,_,rfl,g1,fun k hk=>(g2 k hk).1,g3⟩
   ·rw [hgout r hr] at ho
    obtain ⟨v1,fp,hm,h1,h2,h3⟩:=hR.dat r o R ha ho hd
    exact ⟨v1,fp,by rw [hout r hr];exact hm,h1,fun k hk=>Nat.lt_of_lt_of_le (h2 k hk) hex.size,fun w2 hw2=>h3 w2 (fun k hk=>(hw2 k hk).trans (hex.block k (h2 k hk)))⟩
  ·intro r o R v1 fp r' o' u n b ha ha' ho hd hm ho' hu hb hfp
   obtain ⟨_,ho2⟩:=hvers r' o' u n ho' hu
   by_cases hr:st.next<=r/\r < st.next+es.length
   ·obtain ⟨e,q,he,hq,hgu⟩:=hfact r hr
    rw [hin r hr] at hm
    cases hm
    obtain ⟨_,g2,_⟩:=h _ _ _ he hq
    obtain ⟨_,_,g4⟩:=g2 _ hfp
    obtain ⟨r3,o3,e3,v3,fp3,a3,h3,d3,m3,k3⟩:=g4 (hR.lt ha' ho2 hu hb)
    exact hR.disj r3 o3 e3 v3 fp3 r' o' u n b a3 ha' h3 d3 m3 ho2 hu hb k3
   ·rw [hgout r hr] at ho
    rw [hout r hr] at hm
    exact hR.disj r o R v1 fp r' o' u n b ha ha' ho hd hm ho2 hu hb hfp
  ·intro r o R v1 fp ha ho hd hm hro k hk
   by_cases hr:st.next<=r/\r < st.next+es.length
   ·obtain ⟨e,q,he,hq,hgu⟩:=hfact r hr
    obtain ⟨R',hR',rfl⟩:=hgin r o hr ho
    rw [he] at hR'
    cases hR'
    rw [hin r hr] at hm
    cases hm
    obtain ⟨_,g2,_⟩:=h _ _ _ he hq
    exact (g2 _ hk).2.1 hro
   ·rw [hgout r hr] at ho
    rw [hout r hr] at hm
    exact hR.fpb r o R v1 fp ha ho hd hm hro k hk
 refine ⟨m',⟨⟨hle,hrel,fun _ _ _=>rfl,fun r hr=>hout r (fun h=>hr ((hT r).2 h)),fun r hr=>hgout r (fun h=>hr ((hT r).2 h)),hex.os,hex.tape,hex.output,hex.size,fun k hk _=>hex.block k hk,?_,?_⟩,?_⟩,?_,?_⟩
 ·intro r o v1 n1 b ht ho hv1
  exact absurd ((hT r).1 ht) (hvers r o v1 n1 ho hv1).1
 ·intro r o R v1 fp ha ht ho hd hm k hk hklt
  have hr:=(hT r).1 ht
  obtain ⟨e,q,he,hq,hgu⟩:=hfact r hr
  rw [hin r hr] at hm
  cases hm
  obtain ⟨_,g2,_⟩:=h _ _ _ he hq
  exact (g2 _ hk).2.2 hklt
 ·intro r ha hr
  have hr':st.next+es.length<=r:=hr
  obtain ⟨f1,f2⟩:=hF r ha (by omega)
  exact ⟨f1,by rw [hout r (by omega)];exact f2⟩
 ·intro i u hu
  have hi:i < us.length:=(List.getElem?_eq_some_iff.1 hu).1
  rw [hin _ ⟨by omega,by omega⟩]
  simp only [Nat.add_sub_cancel_left]
  simp [List.getD,hu]
 ·intro r hr
  exact hout r (by omega)

theorem fp_has {fp:Nat->Prop} {w:World} {b off n cap:Nat} {p:PV} (h:∀ w2:World,(∀ k,fp k->w2.heap[k]?=w.heap[k]?)->Reads w2 p (.slice (some ⟨b,off,none⟩) n cap)) {cs:List PV} (hp:p=.row n cs) (hne:cs ≠ []):fp b:=by
 refine Classical.byContradiction fun hno=>?_
 let w2:World:={ w with heap:=w.heap.setIfInBounds b (.cells #[] 0) }
 have h2:=h w2 (fun k hk=>by
  have:b ≠ k:=fun e=>hno (e ▸ hk)
  show (w.heap.setIfInBounds b _)[k]?=_
  rw [Array.getElem?_setIfInBounds_ne this])
 rw [hp] at h2
 simp only [Reads] at h2
 obtain ⟨a,c,he,_,_,h3⟩:=h2
 rcases h3 with h3 | ⟨b',off',ha,h3⟩
 ·exact hne h3
 ·rw [ha] at he
  simp only [Value.slice.injEq,Option.some.injEq,Addr.mk.injEq] at he
  obtain ⟨⟨rfl,rfl,_⟩,_,_⟩:=he
  cases cs with
  | nil=>exact hne rfl
  | cons c cs =>
   simp only [Za8] at h3
   obtain ⟨⟨u,hu,_⟩,_⟩:=h3
   simp only [World.cell?,w2] at hu
   by_cases hb:b < w.heap.size
   ·simp [Array.getElem?_setIfInBounds,hb] at hu
   ·simp [Array.getElem?_setIfInBounds,hb] at hu
end Go.Proofs.Ytgdegpifjljnoaa.eng
end

section
/- The engine: operations on numbers that are not known, and on things of which something is known. -/
namespace Go.Proofs.Ytgdegpifjljnoaa.eng
open Go Go.RowKit
variable {W0 : Base}

inductive Hint where
 | stop
 | own
 | lazy
 | out
 | mp
 | parts
 | cut
 | still

theorem Zdw {p:PV} {x:Value} (h:p.plain=some x):p=.v x:=by
 cases p <;> simp [PV.plain] at h;subst h;rfl
theorem sv_ev {e:SX} {x:Value} (h:W0.sv e=some x):W0.ev e=some (.v x):=by
 simp only [Base.sv,Option.bind_eq_some_iff] at h
 obtain ⟨p,hp,hx⟩:=h
 rw [Zdw hx] at hp
 exact hp
theorem ev_sv {e:SX} {x:Value} (h:W0.ev e=some (.v x)):W0.sv e=some x:=by simp [Base.sv,h,PV.plain]
theorem Zib {m:Map} (hs:∀ e,m.s e=W0.sv e) {e:SX} {v:Value} (h:(AV.sym e).den m=some v):W0.ev e=some (.v v)/\v.oneCell'=true:=by
 simp only [AV.den,Option.bind_eq_some_iff] at h
 obtain ⟨x,hx,h⟩:=h
 cases ho:x.oneCell' with
 | false=>simp [ho] at h
 | true =>
  simp only [ho,cond_true,Option.some.injEq] at h
  subst h
  rw [hs] at hx
  exact ⟨sv_ev hx,ho⟩
theorem Zdp {m:Map} (hs:∀ e,m.s e=W0.sv e) {e:SX} {v:Value} (h:W0.ev e=some (.v v)) (ho:v.oneCell'=true):(AV.sym e).den m=some v:=by
 simp [AV.den,hs,ev_sv h,ho]

mutual
def AV.sx:AV->Option SX
 | .val v=>some (.con v)
 | .sym e=>some e
 | .agg cs=>(sxL cs).map .agg
 | _=>none
def sxL:List AV->Option (List SX)
 | []=>some []
 | c :: cs=>c.sx.bind fun e=>(sxL cs).map (e :: ·)
end
mutual
theorem sx_ok {m:Map} (hs:∀ e,m.s e=W0.sv e):∀ (x:AV) {e:SX} {v:Value},x.sx=some e->x.den m=some v->W0.ev e=some (.v v)
 | .val u,e,v,h,hv=>by
  simp only [AV.sx,Option.some.injEq] at h
  simp only [AV.den,Option.some.injEq] at hv
  subst h;subst hv
  simp [Base.ev,SX.ev]
 | .sym q,e,v,h,hv=>by
  simp only [AV.sx,Option.some.injEq] at h
  subst h
  exact (Zib hs hv).1
 | .agg cs,e,v,h,hv=>by
  simp only [AV.sx,Option.map_eq_some_iff] at h
  obtain ⟨es,hes,rfl⟩:=h
  simp only [AV.den,Option.map_eq_some_iff] at hv
  obtain ⟨vs,hvs,rfl⟩:=hv
  obtain ⟨ps,h1,h2⟩:=Zle hs cs hes hvs
  simp [Base.ev,SX.ev,h1,h2]
 | .ptr ..,e,v,h,hv=>by simp [AV.sx] at h
 | .slice ..,e,v,h,hv=>by simp [AV.sx] at h
 | .dat _,e,v,h,hv=>by simp [AV.sx] at h
 | .ptrD ..,e,v,h,hv=>by simp [AV.sx] at h
 | .sliceS ..,e,v,h,hv=>by simp [AV.sx] at h
 | .ptrS ..,e,v,h,hv=>by simp [AV.sx] at h
 | .tuple _,e,v,h,hv=>by simp [AV.sx] at h
 | .func ..,e,v,h,hv=>by simp [AV.sx] at h
 | .iface ..,e,v,h,hv=>by simp [AV.sx] at h
theorem Zle {m:Map} (hs:∀ e,m.s e=W0.sv e):∀ (l:List AV) {es:List SX} {vs:List Value},sxL l=some es->denL m l=some vs->∃ ps,evs W0.s W0.F es=some ps/\Zbz ps=some vs
 | [],es,vs,h,hv=>by
  simp only [sxL,Option.some.injEq] at h
  simp only [denL,Option.some.injEq] at hv
  subst h;subst hv
  exact ⟨[],rfl,rfl⟩
 | c :: cs,es,vs,h,hv=>by
  simp only [sxL,Option.bind_eq_some_iff,Option.map_eq_some_iff] at h
  obtain ⟨e,he,es',hes,rfl⟩:=h
  simp only [denL,Option.bind_eq_some_iff,Option.map_eq_some_iff] at hv
  obtain ⟨v,hv,vs',hvs,rfl⟩:=hv
  have h1:e.ev W0.s W0.F=some (.v v):=sx_ok hs c he hv
  obtain ⟨ps,h2,h3⟩:=Zle hs cs hes hvs
  exact ⟨.v v :: ps,by simp [evs,h1,h2],by simp [Zbz,PV.plain,h3]⟩
end

def Zld:List Operand->Option (List Nat)
 | []=>some []
 | .tmp t :: os=>(Zld os).map (t :: ·)
 | .global _ :: _=>none
 | _ :: os=>Zld os
def envA (x:AAct):List Nat->Option (List AV)
 | []=>some []
 | t :: ts=>(x.tm.get t).bind fun y=>(envA x ts).map (y :: ·)
theorem envA_ok {m:Map} {x:AAct} {a:Act} (h:TRel m x a):∀ {ts:List Nat} {ys:List AV},envA x ts=some ys->denL m ys=some (ts.map fun t=>a.eval (.tmp t))
 | [],ys,hy=>by simp [envA] at hy;subst hy;rfl
 | t :: ts,ys,hy=>by
  simp only [envA,Option.bind_eq_some_iff,Option.map_eq_some_iff] at hy
  obtain ⟨y,hy,zs,hz,rfl⟩:=hy
  obtain ⟨v,hv,hg⟩:=h.get t y hy
  have:a.eval (.tmp t)=v:=by simp [Act.eval,hg]
  simp [denL,hv,envA_ok h hz,this]
theorem lookT_ok (f:Nat->Value):∀ (ts:List Nat) (k:Nat),k ∈ ts->lookT ts (ts.map f) k=f k
 | [],k,h=>by simp at h
 | t :: ts,k,h=>by
  simp only [List.map_cons,lookT,cond_eq_ite,Nat.beq_eq]
  split
  ·rename_i e;rw [e]
  ·rename_i e
   rcases List.mem_cons.1 h with h | h
   ·exact absurd h.symm e
   ·exact lookT_ok f ts k h
theorem Zgw {a:Act}:∀ {os:List Operand} {ts:List Nat},Zld os=some ts->∀ o ∈ os,∀ us:List Nat,(∀ t ∈ ts,t ∈ us)->a.eval o=envR us (us.map fun t=>a.eval (.tmp t)) o
 | [],ts,h,o,ho,us,hu=>by simp at ho
 | p :: os,ts,h,o,ho,us,hu=>by
  cases p with
  | tmp t =>
   simp only [Zld,Option.map_eq_some_iff] at h
   obtain ⟨ts',ht,rfl⟩:=h
   rcases List.mem_cons.1 ho with rfl | ho
   ·rw [envR,lookT_ok (fun t=>a.eval (.tmp t)) us t (hu t (by simp))]
   ·exact Zgw ht o ho us (fun t h=>hu t (by simp [h]))
  | const v =>
   rcases List.mem_cons.1 ho with rfl | ho
   ·rfl
   ·exact Zgw (os:=os) h o ho us hu
  | func f =>
   rcases List.mem_cons.1 ho with rfl | ho
   ·rfl
   ·exact Zgw (os:=os) h o ho us hu
  | global g=>simp [Zld] at h
def symOp:Op->Bool
 | .binOp .. | .unOp .. | .convert .. | .index .. | .field .. | .slice ..=>true
 | .call { callee:=.builtin .len,.. } | .call { callee:=.builtin .min,.. } | .call { callee:=.builtin .max,.. }=>true
 | _=>false
def genX (o:Oper) (x:AAct):Option SX:=cond (symOp o.op) ((Zld o.op.operands.toList).bind fun ts=>(envA x ts).bind fun ys=>(sxL ys).map fun es=>.op o.op o.type ts es) none
def scalTy (P:Program) (t:TypeId):Bool:=match P.underlying t with | some (.int _)=>true | some .string=>true | _=>false
def binOk:BinOp->Bool | .shl | .shr | .or | .and | .xor | .andNot=>false | _=>true
def symX (P:Program) (o:Oper) (x:AAct):Option SX:=match o.op with
 | .binOp op t a b _=>cond (scalTy P t && binOk op) ((ev x a).bind fun qa=>(ev x b).bind fun qb=>qa.sx.bind fun ea=>qb.sx.map fun eb=>.bin op ea eb) (match P.underlying t,op with
   | some .bool,.eql=>(ev x a).bind fun qa=>(ev x b).bind fun qb=>qa.sx.bind fun ea=>qb.sx.map fun eb=>.rop .eqB [ea,eb]
   | some .bool,.neq=>(ev x a).bind fun qa=>(ev x b).bind fun qb=>qa.sx.bind fun ea=>qb.sx.map fun eb=>.rop .neB [ea,eb]
   | _,_=>genX o x)
 | .convert s d a=>match P.underlying s,P.underlying d with
  | some (.int _),some (.int k)=>(ev x a).bind fun q=>q.sx.map (.conv k)
  | _,_=>genX o x
 | .index t a i=>match P.underlying t with
  | some .string=>(ev x a).bind fun qa=>(ev x i).bind fun qi=>qa.sx.bind fun ea=>qi.sx.map fun ei=>.sidx ea ei
  | _=>genX o x
 | .call { callee:=.builtin .len,args,argTypes }=>match argTypes.toList,args.toList with
  | [t],[s]=>match P.underlying t with
   | some .string=>(ev x s).bind fun q=>q.sx.map .slen
   | _=>genX o x
  | _,_=>genX o x
 | _=>genX o x
def aSym (P:Program) (o:Oper) (x:AAct) (st:St):Option (AN × St × Log):=(symX P o x).map fun e=>(.value (.sym e),st,Log.says (.ok e))
theorem execOp_bare (ρ : Operand -> Value) (o : Oper) : execOp ρ o = execOp ρ { dst := none, op := o.op, type := o.type, pos := "", after := #[], guard := none } := by
 cases o;rfl
theorem opVal_ok {P : Program} {o : Op} {ty : TypeId} {ts : List Nat} {vs : List Value} {v : Value} (h : opVal P o ty ts vs = some v) : Op.isSelect o = false /\ Zc6 P (execOp (envR ts vs) { dst := none, op := o, type := ty, pos := "", after := #[], guard := none }) = some (.inl v) := by
 unfold opVal at h
 cases hs:Op.isSelect o with
 | true=>simp [hs] at h
 | false =>
  simp only [hs,cond_false] at h
  refine ⟨rfl,?_⟩
  split at h
  ·rename_i u hu
   simp only [Option.some.injEq] at h
   subst h
   exact hu
  ·cases h
theorem Zhn {P:Program} (hN:GoodP P) {o:Oper} {x:AAct} {a:Act} {e:SX} {v:Value} {A:Nat->Prop} {m:Map} {g:Heap} {w:World} (h:genX o x=some e) (hT:TRel m x a) (hR:Rel W0 A m g w) (hv:W0.ev e=some (.v v)):(execOp a.eval o).run P w=.ok (.value v) w:=by
 unfold genX at h
 cases hs:symOp o.op with
 | false=>simp [hs] at h
 | true =>
  simp only [hs,cond_true,Option.bind_eq_some_iff,Option.map_eq_some_iff] at h
  obtain ⟨ts,hts,ys,hys,es,hes,he⟩:=h
  cases he
  obtain ⟨ps,h1,h2⟩:=Zle hR.sv ys hes (envA_ok hT hys)
  simp only [Base.ev,SX.ev,h1,h2,Option.bind_some,Option.map_eq_some_iff] at hv
  obtain ⟨v',hv',he⟩:=hv
  cases he
  obtain ⟨hsel,hp⟩:=opVal_ok hv'
  have:=execOp_congr (ρ:=a.eval) (ρ':=envR ts (ts.map fun t=>a.eval (.tmp t))) o (fun cs b he=>by rw [he] at hsel;simp [Op.isSelect] at hsel) (fun y hy=>Zgw hts y (by simpa using hy) ts (fun _ h=>h))
  rw [this,execOp_bare,hN.2,pureNext_ok _ hp w]
  rfl
theorem binPV_ok {P:Program} {op:BinOp} (hb:binOk op=true) {t:TypeId} {x y:Operand} {va vb v:Value} (h:binPV op (.v va) (.v vb)=some (.v v)) (w:World):(do eqGuard op t x y va vb;binOp op t va vb:Sem Value).run P w=.ok v w:=by
 unfold binPV at h
 split at h
 ·rename_i k a k' b he1 he2
  cases he1;cases he2
  simp only [cond_eq_ite,decide_eq_true_eq] at h
  split at h
  ·rename_i hk
   subst hk
   cases op <;> simp_all [eqGuard,binOp,binOk,Op.intArith,Op.intDiv,Op.intCmp]
  ·cases h
 ·rename_i a b he1 he2
  cases he1;cases he2
  cases op <;> simp_all [eqGuard,binOp,binOk,Op.stringOp]
  simp only [cond_eq_ite,decide_eq_true_eq] at h
  split at h
  ·cases h
  ·rename_i hlt
   rw [if_neg hlt]
   cases h;rfl
 ·cases h
theorem boolOp_ok {P:Program} {t:TypeId} (ht:P.underlying t=some .bool) {x y:Operand} (a b:Bool) (w:World) :
  (do eqGuard .eql t x y (.bool a) (.bool b);binOp .eql t (.bool a) (.bool b):Sem Value).run P w=.ok (.bool (a == b)) w/\(do eqGuard .neq t x y (.bool a) (.bool b);binOp .neq t (.bool a) (.bool b):Sem Value).run P w=.ok (.bool (a != b)) w:=by
 have h:=run_equal_bool (P:=P) w t a b ht
 constructor
 ·simp [eqGuard,binOp,h]
 ·simp [eqGuard,binOp,h]
  cases a <;> cases b <;> rfl
theorem eqB_inv {va vb v:Value} (h:ropPV .eqB [.v va,.v vb]=some (.v v)):∃ a b,va=.bool a/\vb=.bool b/\v=.bool (a == b):=by
 cases va <;> cases vb <;> simp [ropPV] at h
 exact ⟨_,_,rfl,rfl,h.symm⟩
theorem neB_inv {va vb v:Value} (h:ropPV .neB [.v va,.v vb]=some (.v v)):∃ a b,va=.bool a/\vb=.bool b/\v=.bool (a != b):=by
 cases va <;> cases vb <;> simp [ropPV] at h
 exact ⟨_,_,rfl,rfl,h.symm⟩
theorem symX_ok {P:Program} (hN:GoodP P) {o:Oper} {x:AAct} {a:Act} {e:SX} {v:Value} {A:Nat->Prop} {m:Map} {g:Heap} {w:World} (h:symX P o x=some e) (hT:TRel m x a) (hR:Rel W0 A m g w) (hv:W0.ev e=some (.v v)):(execOp a.eval o).run P w=.ok (.value v) w:=by
 unfold symX at h
 split at h
 ·rename_i op t p q t' ho
  cases hb:(scalTy P t && binOk op) with
  | false =>
   simp only [hb,cond_false] at h
   split at h
   ·rename_i ht
    simp only [Option.bind_eq_some_iff,Option.map_eq_some_iff] at h
    obtain ⟨qa,hqa,qb,hqb,ea,hea,eb,heb,rfl⟩:=h
    have h1:=sx_ok hR.sv qa hea (ev_ok hT hqa)
    have h2:=sx_ok hR.sv qb heb (ev_ok hT hqb)
    simp only [Base.ev] at h1 h2
    simp only [Base.ev,SX.ev,evs,h1,h2,Option.bind_some,Option.map_some] at hv
    obtain ⟨u,v',he1,he2,rfl⟩:=eqB_inv hv
    have:=(boolOp_ok (P:=P) ht (x:=p) (y:=q) u v' w).1
    simp only [execOp,ho,he1,he2]
    simp only [Sem.run_bind] at this ⊢
    rw [this]
    simp
   ·rename_i ht
    simp only [Option.bind_eq_some_iff,Option.map_eq_some_iff] at h
    obtain ⟨qa,hqa,qb,hqb,ea,hea,eb,heb,rfl⟩:=h
    have h1:=sx_ok hR.sv qa hea (ev_ok hT hqa)
    have h2:=sx_ok hR.sv qb heb (ev_ok hT hqb)
    simp only [Base.ev] at h1 h2
    simp only [Base.ev,SX.ev,evs,h1,h2,Option.bind_some,Option.map_some] at hv
    obtain ⟨u,v',he1,he2,rfl⟩:=neB_inv hv
    have:=(boolOp_ok (P:=P) ht (x:=p) (y:=q) u v' w).2
    simp only [execOp,ho,he1,he2]
    simp only [Sem.run_bind] at this ⊢
    rw [this]
    simp
   ·exact Zhn hN h hT hR hv
  | true =>
   simp only [hb,cond_true,Option.bind_eq_some_iff,Option.map_eq_some_iff] at h
   obtain ⟨qa,hqa,qb,hqb,ea,hea,eb,heb,rfl⟩:=h
   have h1:=sx_ok hR.sv qa hea (ev_ok hT hqa)
   have h2:=sx_ok hR.sv qb heb (ev_ok hT hqb)
   simp only [Base.ev] at h1 h2
   simp only [Base.ev,SX.ev,h1,h2,Option.bind_some] at hv
   simp only [Bool.and_eq_true] at hb
   have:=binPV_ok (P:=P) hb.2 (t:=t) (x:=p) (y:=q) hv w
   simp only [execOp,ho]
   simp only [Sem.run_bind] at this ⊢
   rw [this]
   simp
 ·rename_i s d p ho
  split at h
  ·rename_i k1 k hs hd
   simp only [Option.bind_eq_some_iff,Option.map_eq_some_iff] at h
   obtain ⟨q,hq,e1,he1,rfl⟩:=h
   have h1:=sx_ok hR.sv q he1 (ev_ok hT hq)
   simp only [Base.ev] at h1
   simp only [Base.ev,SX.ev,h1,Option.bind_some] at hv
   simp only [execOp,ho]
   generalize a.eval p=u at hv
   cases u <;> simp [Zaj] at hv
   rename_i k2 n
   subst hv
   simp [convert,run_underlying hs,run_underlying hd,Conv.intToInt]
  ·exact Zhn hN h hT hR hv
 ·rename_i t p i ho
  split at h
  ·rename_i hu
   simp only [Option.bind_eq_some_iff,Option.map_eq_some_iff] at h
   obtain ⟨qa,hqa,qi,hqi,ea,hea,ei,hei,rfl⟩:=h
   have h1:=sx_ok hR.sv qa hea (ev_ok hT hqa)
   have h2:=sx_ok hR.sv qi hei (ev_ok hT hqi)
   simp only [Base.ev] at h1 h2
   simp only [Base.ev,SX.ev,h1,h2,Option.bind_some] at hv
   simp only [execOp,ho]
   generalize a.eval p=u at hv
   generalize a.eval i=v2 at hv
   cases u <;> cases v2 <;> simp only [Zoh] at hv <;> try (cases hv;done)
   rename_i ss kd z
   simp only [Option.map_eq_some_iff,PV.v.injEq] at hv
   obtain ⟨b,hb,rfl⟩:=hv
   simp [Instr.index,asIntOf,run_underlying hu,hb]
  ·exact Zhn hN h hT hR hv
 ·rename_i args argTypes ho
  split at h
  ·rename_i t s hat har
   split at h
   ·rename_i hu
    simp only [Option.bind_eq_some_iff,Option.map_eq_some_iff] at h
    obtain ⟨q,hq,e1,he1,rfl⟩:=h
    have h1:=sx_ok hR.sv q he1 (ev_ok hT hq)
    simp only [Base.ev] at h1
    simp only [Base.ev,SX.ev,h1,Option.bind_some] at hv
    unfold Zlf at hv
    split at hv
    ·rename_i ss he
     simp only [PV.v.injEq] at he
     simp only [Option.some.injEq,PV.v.injEq] at hv
     subst hv
     have e1:argTypes=#[t]:=by apply Array.ext';simpa using hat
     have e2:args=#[s]:=by apply Array.ext';simpa using har
     simp [execOp,ho,resolve,invoke,builtin,Builtin.len_,e1,e2,he,run_underlying hu,goInt]
    ·cases hv
   ·exact Zhn hN h hT hR hv
  ·exact Zhn hN h hT hR hv
 ·exact Zhn hN h hT hR hv
theorem aSym_ok {P:Program} (hN:GoodP P) {o:Oper} {x:AAct} {a:Act} {st st':St} {n:AN} {lg:Log} {A:Nat->Prop} {m:Map} {w:World} (h:aSym P o x st=some (n,st',lg)) (hA:lg.Fits W0 A) (hT:TRel m x a) (hR:Rel W0 A m st.heap.get w) (hF:Fresh A m st.next) :
  ∃ m' w',Ok W0 A m st w m' st' lg w'/\Meets P m' (execOp a.eval o) w w' n:=by
 simp only [aSym,Option.map_eq_some_iff] at h
 obtain ⟨e,he,h⟩:=h
 cases h
 obtain ⟨v,hv,hone⟩:=hA.2 _ (List.mem_singleton.2 rfl)
 exact ⟨m,w,Ok.refl hR hF,v,Zdp hR.sv hv hone,.inl (symX_ok hN he hT hR hv)⟩

def fldX (P:Program):List Field->Nat->List SX->List SX->Option (List SX)
 | [],_,[],[]=>some []
 | f :: fs, i, x :: xs, y :: ys => cond (Nat.beq f.offset i && !(f.name == "_")) ((match P.underlying f.type with
   | some (.int _)=>some (SX.rop .eqI [x,y])
   | some .string=>some (SX.rop .eqS [x,y])
   | some .bool=>some (SX.rop .eqB [x,y])
   | _=>none).bind fun e=>(fldX P fs (i+1) xs ys).map (e :: ·)) none
 | _,_,_,_=>none
def aggX:SX->Option (List SX)
 | .agg es=>some es
 | .con (.agg vs)=>some (vs.toList.map SX.con)
 | _=>none
def pairX:List SX->List SX->Option SX
 | [a,b],[c,d]=>some (.rop .allB [.rop .eqI [a,c],.rop .eqI [b,d]])
 | _,_=>none
def intT (P:Program) (e:TypeId):Bool:=match P.underlying e with | some (.int _)=>true | _=>false
def eqX (P:Program) (t:TypeId) (ea eb:SX):Option SX:=match P.underlying t with
 | some (.array n e)=>cond (Nat.beq n 2 && Nat.beq (P.cellsOf e) 1 && intT P e && !P.eqGuardType P.depth t) ((aggX ea).bind fun es=>(aggX eb).bind fun fs=>pairX es fs) none
 | some (.struct _)=>cond (!P.stoodInHeld t && !P.eqGuardType P.depth t) ((aggX ea).bind fun es=>(aggX eb).bind fun fs=>(fldX P (P.fieldsOf t).toList 0 es fs).map (SX.rop .allB)) none
 | _=>none
def lzX (P:Program) (o:Oper) (x:AAct):Option SX:=match o.op with
 | .binOp .eql t a b _=>(ev x a).bind fun qa=>(ev x b).bind fun qb=>qa.sx.bind fun ea=>qb.sx.bind fun eb=>eqX P t ea eb
 | .binOp .neq t a b _=>(ev x a).bind fun qa=>(ev x b).bind fun qb=>qa.sx.bind fun ea=>qb.sx.bind fun eb=>(eqX P t ea eb).map fun e=>.rop .notB [e]
 | .pick c a b=>(ev x c).bind fun qc=>(ev x a).bind fun qa=>(ev x b).bind fun qb=>qc.sx.bind fun ec=>qa.sx.bind fun ea=>qb.sx.map fun eb=>.rop .iteB [ec,ea,eb]
 | .unOp .not _ a=>(ev x a).bind fun qa=>qa.sx.map fun ea=>.rop .notB [ea]
 | _=>none
theorem cons_ev (l:List Value):evs W0.s W0.F (l.map SX.con)=some (l.map PV.v):=by
 induction l with
 | nil=>rfl
 | cons a l ih =>
  simp [evs,SX.ev,ih]
theorem plain_map (l:List Value):Zbz (l.map PV.v)=some l:=by
 induction l with
 | nil=>rfl
 | cons a l ih=>simp [Zbz,PV.plain,ih]
theorem Zl4 {e:SX} {es:List SX} {v:Value} (h:aggX e=some es) (hv:W0.ev e=some (.v v)):∃ ps vs,evs W0.s W0.F es=some ps/\Zbz ps=some vs/\v=.agg vs.toArray:=by
 unfold aggX at h
 split at h
 ·rename_i es'
  simp only [Option.some.injEq] at h
  subst h
  simp only [Base.ev,SX.ev,Option.bind_eq_some_iff,Option.map_eq_some_iff,PV.v.injEq] at hv
  obtain ⟨ps,h1,vs,h2,h3⟩:=hv
  exact ⟨ps,vs,h1,h2,h3.symm⟩
 ·rename_i vs
  simp only [Option.some.injEq] at h
  subst h
  simp only [Base.ev,SX.ev,Option.some.injEq,PV.v.injEq] at hv
  exact ⟨_,vs.toList,cons_ev _,plain_map _,by rw [<- hv]⟩
 ·cases h
theorem Zlr {P:Program} {t:TypeId} {cs:Array Value} {off:Nat} {v:Value} {w:World} (ht:(∃ k,P.underlying t=some (.int k)) \/ P.underlying t=some .string \/ P.underlying t=some .bool) (h:cs[off]?=some v):(part t cs off).run P w=.ok v w:=by
 rcases ht with ⟨k,ht⟩ | ht | ht <;> simp [part,isAgg,run_underlying ht,h]
theorem fld_ok {P:Program} {d:Nat} {w:World}:∀ {fs:List Field} {i:Nat} {es gs os:List SX} {ps qs rs:List PV} {vs us:List Value} {b:Bool} {xs ys:Array Value},fldX P fs i es gs=some os->evs W0.s W0.F es=some ps->Zbz ps=some vs->evs W0.s W0.F gs=some qs->Zbz qs=some us->evs W0.s W0.F os=some rs->allPV rs=some b →
  (∀ j (z:Value),vs[j]?=some z->xs[i+j]?=some z)->(∀ j (z:Value),us[j]?=some z->ys[i+j]?=some z)->(Op.eqFields (d+1) xs ys fs).run P w=.ok b w
 | [],i,[],[],os,ps,qs,rs,vs,us,b,xs,ys,h,_,_,_,_,h5,h6,_,_=>by
  simp only [fldX,Option.some.injEq] at h
  subst h
  simp only [evs,Option.some.injEq] at h5
  subst h5
  simp only [allPV,Option.some.injEq] at h6
  subst h6
  simp [Op.eqFields]
 | [],i,_ :: _,_,os,ps,qs,rs,vs,us,b,xs,ys,h,_,_,_,_,_,_,_,_=>by simp [fldX] at h
 | [],i,[],_ :: _,os,ps,qs,rs,vs,us,b,xs,ys,h,_,_,_,_,_,_,_,_=>by simp [fldX] at h
 | f :: fs,i,[],_,os,ps,qs,rs,vs,us,b,xs,ys,h,_,_,_,_,_,_,_,_=>by simp [fldX] at h
 | f :: fs,i,_ :: _,[],os,ps,qs,rs,vs,us,b,xs,ys,h,_,_,_,_,_,_,_,_=>by simp [fldX] at h
 | f :: fs,i,x :: es,y :: gs,os,ps,qs,rs,vs,us,b,xs,ys,h,h1,h2,h3,h4,h5,h6,hx,hy=>by
  unfold fldX at h
  cases hc : (Nat.beq f.offset i && !(f.name == "_")) with
  | false=>simp [hc] at h
  | true =>
   simp only [hc,cond_true,Option.bind_eq_some_iff,Option.map_eq_some_iff] at h
   obtain ⟨e,he,os',hos,rfl⟩:=h
   simp only [Bool.and_eq_true,Nat.beq_eq,Bool.not_eq_true',beq_eq_false_iff_ne] at hc
   obtain ⟨ho,hn⟩:=hc
   simp only [evs,Option.bind_eq_some_iff,Option.map_eq_some_iff] at h1 h3 h5
   obtain ⟨p,hp,ps',hps,rfl⟩:=h1
   obtain ⟨q,hq,qs',hqs,rfl⟩:=h3
   obtain ⟨r,hr,rs',hrs,rfl⟩:=h5
   simp only [Zbz,Option.bind_eq_some_iff,Option.map_eq_some_iff] at h2 h4
   obtain ⟨u,hu,vs',hvs,rfl⟩:=h2
   obtain ⟨v,hv,us',hus,rfl⟩:=h4
   rw [Zdw hu] at hp
   rw [Zdw hv] at hq
   have hxi:xs[f.offset]?=some u:=by rw [ho];exact hx 0 u rfl
   have hyi:ys[f.offset]?=some v:=by rw [ho];exact hy 0 v rfl
   unfold allPV at h6
   split at h6
   ·rename_i heq;cases heq
   ·rename_i b1 rs2 heq
    cases heq
    simp only [Option.map_eq_some_iff] at h6
    obtain ⟨b2,h6,rfl⟩:=h6
    have ih:(Op.eqFields (d+1) xs ys fs).run P w=.ok b2 w:=fld_ok hos hps hvs hqs hus hrs h6 (fun j z hz=>by
     have:=hx (j+1) z (by simpa using hz)
     rwa [show i+(j+1)=i+1+j by omega] at this) (fun j z hz=>by
     have:=hy (j+1) z (by simpa using hz)
     rwa [show i+(j+1)=i+1+j by omega] at this)
    have fin:((∃ k,P.underlying f.type=some (.int k)) \/ P.underlying f.type=some .string \/ P.underlying f.type=some .bool)->(Op.equalIn (d+1) f.type u v).run P w=.ok b1 w->(Op.eqFields (d+1) xs ys (f :: fs)).run P w=.ok (b1 && b2) w:=by
     intro ht heqr
     simp only [Op.eqFields,if_pos hn,Sem.run_bind,Zlr ht hxi,Zlr ht hyi,Result.andThen_ok,heqr,Sem.run_ite]
     cases b1
     ·simp
     ·simp [ih]
    split at he
    ·rename_i k ht
     simp only [Option.some.injEq] at he
     subst he
     simp only [SX.ev,evs,hp,hq,Option.bind_some,Option.map_some] at hr
     cases u <;> cases v <;> simp [ropPV] at hr
     rename_i k1 a k2 b'
     simp only [cond_eq_ite,decide_eq_true_eq] at hr
     split at hr
     ·rename_i hk
      subst hk
      simp only [Option.some.injEq,PV.v.injEq,Value.bool.injEq] at hr
      subst hr
      exact fin (.inl ⟨_,ht⟩) (run_equalIn_int w d f.type k1 _ a b' ht)
     ·cases hr
    ·rename_i ht
     simp only [Option.some.injEq] at he
     subst he
     simp only [SX.ev,evs,hp,hq,Option.bind_some,Option.map_some] at hr
     cases u <;> cases v <;> simp [ropPV] at hr
     subst hr
     exact fin (.inr (.inl ht)) (run_equalIn_string w d f.type _ _ ht)
    ·rename_i ht
     simp only [Option.some.injEq] at he
     subst he
     simp only [SX.ev,evs,hp,hq,Option.bind_some,Option.map_some] at hr
     obtain ⟨a,b',rfl,rfl,hb⟩:=eqB_inv hr
     simp only [Value.bool.injEq] at hb
     subst hb
     exact fin (.inr (.inr ht)) (run_equalIn_bool w d f.type _ _ ht)
    ·cases he
   ·cases h6
theorem eqI_inv {u w:Value} {r:PV} (h:ropPV .eqI [.v u,.v w]=some r):∃ k x y,u=.int k x/\w=.int k y/\r=.v (.bool (x == y)):=by
 cases u <;> cases w <;> simp [ropPV,cond_eq_ite] at h
 obtain ⟨rfl,rfl⟩:=h
 exact ⟨_,_,_,rfl,rfl,rfl⟩
theorem eqX_ok {P:Program} {t:TypeId} {ea eb e:SX} {va vb v:Value} {w:World} {x y:Operand} (h:eqX P t ea eb=some e) (ha:W0.ev ea=some (.v va)) (hb:W0.ev eb=some (.v vb)) (hv:W0.ev e=some (.v v)) :
  ∃ b,v=.bool b/\(∀ op,(eqGuard op t x y va vb).run P w=.ok () w)/\(binOp .eql t va vb).run P w=.ok (.bool b) w/\(binOp .neq t va vb).run P w=.ok (.bool (!b)) w:=by
 unfold eqX at h
 split at h
 ·rename_i n e' hu
  cases hc:(Nat.beq n 2 && Nat.beq (P.cellsOf e') 1 && intT P e' && !P.eqGuardType P.depth t) with
  | false=>simp [hc] at h
  | true =>
   simp only [hc,cond_true,Option.bind_eq_some_iff] at h
   obtain ⟨es,hes,gs,hgs,h⟩:=h
   simp only [Bool.and_eq_true,Nat.beq_eq,Bool.not_eq_true'] at hc
   obtain ⟨⟨⟨rfl,hce⟩,hie⟩,hgd⟩:=hc
   obtain ⟨ps,vs,h1,h2,rfl⟩:=Zl4 hes ha
   obtain ⟨qs,us,h3,h4,rfl⟩:=Zl4 hgs hb
   obtain ⟨k,hk⟩:∃ k,P.underlying e'=some (.int k):=by
    unfold intT at hie
    split at hie
    ·exact ⟨_,by assumption⟩
    ·cases hie
   obtain ⟨i,hi⟩:∃ i,P.info? e'=some i:=by
    cases hi:P.info? e' with
    | none=>simp [Program.underlying,hi] at hk
    | some i=>exact ⟨i,rfl⟩
   unfold pairX at h
   split at h
   ·rename_i a b c d
    cases h
    simp only [evs,Option.bind_eq_some_iff,Option.map_eq_some_iff,Option.some.injEq] at h1 h3
    obtain ⟨p0,e0,_,⟨p1,e1,_,rfl,rfl⟩,rfl⟩:=h1
    obtain ⟨q0,f0,_,⟨q1,f1,_,rfl,rfl⟩,rfl⟩:=h3
    simp only [Zbz,Option.bind_eq_some_iff,Option.map_eq_some_iff,Option.some.injEq] at h2 h4
    obtain ⟨u0,g0,_,⟨u1,g1,_,rfl,rfl⟩,rfl⟩:=h2
    obtain ⟨w0,m0,_,⟨w1,m1,_,rfl,rfl⟩,rfl⟩:=h4
    cases Zdw g0
    cases Zdw g1
    cases Zdw m0
    cases Zdw m1
    simp only [Base.ev,SX.ev,evs,e0,e1,f0,f1,Option.bind_some,Option.map_some] at hv
    simp only [Option.bind_eq_some_iff,Option.map_eq_some_iff,Option.some.injEq] at hv
    obtain ⟨_,⟨r0,hr0,_,⟨r1,hr1,_,rfl,rfl⟩,rfl⟩,hv⟩:=hv
    obtain ⟨k1,x0,y0,rfl,rfl,rfl⟩:=eqI_inv hr0
    obtain ⟨k3,x1,y1,rfl,rfl,rfl⟩:=eqI_inv hr1
    simp only [ropPV,allPV,Option.map_some,Option.some.injEq,PV.v.injEq,Bool.and_true] at hv
    subst hv
    have he:(Op.equalIn 10000 t (.agg [Value.int k1 x0,.int k3 x1].toArray) (.agg [Value.int k1 y0,.int k3 y1].toArray)).run P w=.ok (x0 == y0 && x1 == y1) w:=by
     rw [show (10000:Nat)=9999+1 from rfl,run_equalIn_array w 9999 _ _ hu hi,hce]
     have r0:(Op.equalIn 9999 e' (.int k1 x0) (.int k1 y0)).run P w=.ok (x0 == y0) w:=run_equalIn_int w 9998 e' k1 _ x0 y0 hk
     have r1:(Op.equalIn 9999 e' (.int k3 x1) (.int k3 y1)).run P w=.ok (x1 == y1) w:=run_equalIn_int w 9998 e' k3 _ x1 y1 hk
     have p0 (c:Array Value) (z:Value) (j:Nat) (hz:c[j]?=some z):(part e' c j).run P w=.ok z w:=Zlr (.inl ⟨_,hk⟩) hz
     simp only [show List.range 2=[0,1] from rfl,Op.eqItems,Nat.mul_one,Sem.run_bind,p0 [Value.int k1 x0,.int k3 x1].toArray (.int k1 x0) 0 rfl,p0 [Value.int k1 y0,.int k3 y1].toArray (.int k1 y0) 0 rfl,p0 [Value.int k1 x0,.int k3 x1].toArray (.int k3 x1) 1 rfl,p0 [Value.int k1 y0,.int k3 y1].toArray (.int k3 y1) 1 rfl,Result.andThen_ok,r0,Sem.run_ite]
     generalize (x1 == y1)=b1 at *
     generalize (x0 == y0)=b0 at *
     cases b0 <;> cases b1 <;> simp [r1]
    refine ⟨_,rfl,fun op=>run_eqGuard_agg w op t x y _ _ hgd,?_,?_⟩
    ·rw [run_eql_struct,he];rfl
    ·rw [run_neq_struct,he];rfl
   ·cases h
 ·rename_i fs hu
  cases hc:(!P.stoodInHeld t && !P.eqGuardType P.depth t) with
  | false=>simp [hc] at h
  | true =>
   simp only [hc,cond_true,Option.bind_eq_some_iff,Option.map_eq_some_iff] at h
   obtain ⟨es,hes,gs,hgs,os,hos,rfl⟩:=h
   simp only [Bool.and_eq_true,Bool.not_eq_true'] at hc
   obtain ⟨ps,vs,h1,h2,rfl⟩:=Zl4 hes ha
   obtain ⟨qs,us,h3,h4,rfl⟩:=Zl4 hgs hb
   simp only [Base.ev,SX.ev,Option.bind_eq_some_iff] at hv
   obtain ⟨rs,h5,h6⟩:=hv
   simp only [ropPV,Option.map_eq_some_iff,PV.v.injEq] at h6
   obtain ⟨b,h6,rfl⟩:=h6
   have ht:P.underlying t=some (.struct (P.fieldsOf t)):=by simp [Program.fieldsOf,hu]
   have hf:(Op.eqFields 9999 vs.toArray us.toArray (P.fieldsOf t).toList).run P w=.ok b w:=fld_ok (W0:=W0) (d:=9998) hos h1 h2 h3 h4 h5 h6 (fun j z hz=>by simpa using hz) (fun j z hz=>by simpa using hz)
   have he:(Op.equalIn 10000 t (.agg vs.toArray) (.agg us.toArray)).run P w=.ok b w:=by
    rw [show (10000:Nat)=9999+1 from rfl,run_equalIn_struct w 9999 t _ _ ht hc.1,hf]
   refine ⟨b,rfl,fun op=>run_eqGuard_agg w op t x y _ _ hc.2,?_,?_⟩
   ·rw [run_eql_struct,he];rfl
   ·rw [run_neq_struct,he];rfl
 ·cases h
theorem lzX_ok {P:Program} {o:Oper} {x:AAct} {a:Act} {e:SX} {v:Value} {A:Nat->Prop} {m:Map} {g:Heap} {w:World} (h:lzX P o x=some e) (hT:TRel m x a) (hR:Rel W0 A m g w) (hv:W0.ev e=some (.v v)):(execOp a.eval o).run P w=.ok (.value v) w:=by
 unfold lzX at h
 split at h
 ·rename_i t p q t' ho
  simp only [Option.bind_eq_some_iff] at h
  obtain ⟨qa,hqa,qb,hqb,ea,hea,eb,heb,h⟩:=h
  have h1:=sx_ok hR.sv qa hea (ev_ok hT hqa)
  have h2:=sx_ok hR.sv qb heb (ev_ok hT hqb)
  obtain ⟨b,rfl,hg,he,_⟩:=eqX_ok (P:=P) (w:=w) (x:=p) (y:=q) h h1 h2 hv
  simp only [execOp,ho,Sem.run_bind,hg,he,Result.andThen_ok]
  simp
 ·rename_i t p q t' ho
  simp only [Option.bind_eq_some_iff,Option.map_eq_some_iff] at h
  obtain ⟨qa,hqa,qb,hqb,ea,hea,eb,heb,e',h,rfl⟩:=h
  have h1:=sx_ok hR.sv qa hea (ev_ok hT hqa)
  have h2:=sx_ok hR.sv qb heb (ev_ok hT hqb)
  simp only [Base.ev,SX.ev,evs,Option.bind_eq_some_iff,Option.map_eq_some_iff,Option.some.injEq] at hv
  obtain ⟨rs,⟨r,hr,_,rfl,rfl⟩,hv⟩:=hv
  cases r with
  | row n cs=>simp [ropPV] at hv
  | v u =>
   obtain ⟨b,rfl,hg,_,he⟩:=eqX_ok (P:=P) (w:=w) (x:=p) (y:=q) h h1 h2 hr
   simp only [ropPV,Option.some.injEq,PV.v.injEq] at hv
   subst hv
   simp only [execOp,ho,Sem.run_bind,hg,he,Result.andThen_ok]
   simp
 ·rename_i c p q ho
  simp only [Option.bind_eq_some_iff,Option.map_eq_some_iff] at h
  obtain ⟨qc,hqc,qa,hqa,qb,hqb,ec,hec,ea,hea,eb,heb,rfl⟩:=h
  have h0:=sx_ok hR.sv qc hec (ev_ok hT hqc)
  have h1:=sx_ok hR.sv qa hea (ev_ok hT hqa)
  have h2:=sx_ok hR.sv qb heb (ev_ok hT hqb)
  simp only [Base.ev] at h0 h1 h2
  simp only [Base.ev,SX.ev,evs,h0,h1,h2,Option.bind_some,Option.map_some] at hv
  simp only [execOp,ho]
  generalize a.eval c=vc at hv
  generalize a.eval p=va at hv
  generalize a.eval q=vb at hv
  cases vc <;> cases va <;> cases vb <;> simp [ropPV] at hv
  rename_i b1 b2 b3
  subst hv
  cases b1 <;> simp [asBool]
 ·rename_i t p ho
  simp only [Option.bind_eq_some_iff,Option.map_eq_some_iff] at h
  obtain ⟨qa,hqa,ea,hea,rfl⟩:=h
  have h1:=sx_ok hR.sv qa hea (ev_ok hT hqa)
  simp only [Base.ev] at h1
  simp only [Base.ev,SX.ev,evs,h1,Option.bind_some,Option.map_some] at hv
  simp only [execOp,ho]
  generalize a.eval p=va at hv
  cases va <;> simp [ropPV] at hv
  subst hv
  simp [Op.unary]
 ·cases h
def aLz (P:Program) (o:Oper) (x:AAct) (st:St):Option (AN × St × Log):=(lzX P o x).map fun e=>(.value (.sym e),st,Log.says (.ok e))
theorem aLz_ok {P:Program} {o:Oper} {x:AAct} {a:Act} {st st':St} {n:AN} {lg:Log} {A:Nat->Prop} {m:Map} {w:World} (h:aLz P o x st=some (n,st',lg)) (hA:lg.Fits W0 A) (hT:TRel m x a) (hR:Rel W0 A m st.heap.get w) (hF:Fresh A m st.next) :
  ∃ m' w',Ok W0 A m st w m' st' lg w'/\Meets P m' (execOp a.eval o) w w' n:=by
 simp only [aLz,Option.map_eq_some_iff] at h
 obtain ⟨e,he,h⟩:=h
 cases h
 obtain ⟨v,hv,hone⟩:=hA.2 _ (List.mem_singleton.2 rfl)
 exact ⟨m,w,Ok.refl hR hF,v,Zdp hR.sv hv hone,.inl (lzX_ok he hT hR hv)⟩

def aLenD (P:Program) (o:Oper) (x:AAct) (st:St):Option (AN × St × Log):=match o.op with
 | .call { callee:=.builtin .len,args,argTypes }=>match argTypes.toList,args.toList with
  | [t],[s]=>(ev x s).bind fun q=>match P.underlying t,q with
   | some (.slice _),.dat r=>((st.heap.get r).bind (·.dat)).map fun e=>(.value (.sym (.len e)),st,(Log.sees r).or (Log.says (.ok (.len e))))
   | _,_=>none
  | _,_=>none
 | _=>none
theorem thing {A:Nat->Prop} {m:Map} {st:St} {w:World} (hR:Rel W0 A m st.heap.get w) {r:Nat} {e:SX} (hr:((st.heap.get r).bind (·.dat))=some e) (ha:A r):∃ o u fp p,st.heap.get r=some o/\o.dat=some e/\m.d r=some (u,fp)/\u.oneCell'=true/\(∀ k,fp k->k < w.heap.size)/\(o.ro=true->∀ k,fp k->W0.fp k \/ W0.heap.size<=k)/\W0.ev e=some p/\∀ w2:World,(∀ k,fp k->w2.heap[k]?=w.heap[k]?)->Reads w2 p u:=by
 obtain ⟨o,ho,hd⟩:=Option.bind_eq_some_iff.1 hr
 obtain ⟨v,fp,hm,hone,hlt,hk⟩:=hR.dat r o e ha ho hd
 obtain ⟨p,hp,_⟩:=hk w (fun _ _=>rfl)
 refine ⟨o,v,fp,p,ho,hd,hm,hone,hlt,hR.fpb r o e v fp ha ho hd hm,hp,fun w2 hw2=>?_⟩
 obtain ⟨p',hp',hr'⟩:=hk w2 hw2
 rw [hp] at hp'
 cases hp'
 exact hr'
theorem aLenD_ok {P:Program} {o:Oper} {x:AAct} {a:Act} {st st':St} {n:AN} {lg:Log} {A:Nat->Prop} {m:Map} {w:World} (h:aLenD P o x st=some (n,st',lg)) (hA:lg.Fits W0 A) (hT:TRel m x a) (hR:Rel W0 A m st.heap.get w) (hF:Fresh A m st.next) :
  ∃ m' w',Ok W0 A m st w m' st' lg w'/\Meets P m' (execOp a.eval o) w w' n:=by
 unfold aLenD at h
 split at h
 ·rename_i args argTypes ho
  split at h
  ·rename_i t s hat har
   simp only [Option.bind_eq_some_iff] at h
   obtain ⟨q,hq,h⟩:=h
   split at h
   ·rename_i el r hu
    simp only [Option.map_eq_some_iff] at h
    obtain ⟨e,hr,h⟩:=h
    cases h
    obtain ⟨v,hv,hone⟩:=(or_A hA).2.2 _ (List.mem_singleton.2 rfl)
    obtain ⟨oo,u,fp,p,_,_,hm,hou,_,_,hp,hrd⟩:=thing hR hr ((or_A hA).1.1 r (by simp [Log.sees,Zah]))
    have hx:=ev_ok hT hq
    simp only [AV.den,hm,Option.bind_some,hou,cond_true,Option.some.injEq] at hx
    have e1:argTypes=#[t]:=by apply Array.ext';simpa using hat
    have e2:args=#[s]:=by apply Array.ext';simpa using har
    have hv2:=hv
    simp only [Base.ev,SX.ev] at hv hp
    rw [hp] at hv
    simp only [Option.bind_some] at hv
    cases p with
    | v y=>simp [lenPV] at hv
    | row nn cs =>
     simp only [lenPV,Option.some.injEq,PV.v.injEq] at hv
     subst hv
     have:=hrd w (fun _ _=>rfl)
     simp only [Reads] at this
     obtain ⟨aa,cap,rfl,_⟩:=this
     refine ⟨m,w,Ok.refl hR hF,_,Zdp hR.sv hv2 hone,.inl ?_⟩
     simp [execOp,ho,resolve,invoke,builtin,Builtin.len_,e1,e2,<- hx,run_underlying hu,goInt]
   ·cases h
  ·cases h
 ·cases h

def aIdxD (P:Program) (o:Oper) (x:AAct) (st:St):Option (AN × St × Log):=match o.op with
 | .indexAddr t a i=>(ev x a).bind fun q=>(ev x i).bind fun j=>match q with
  | .dat r=>match P.underlying t with
   | some (.slice el)=>(Zbn P el).bind fun sz=>(j.sx).bind fun ie=>cond (Nat.blt 0 sz) (((st.heap.get r).bind (·.dat)).map fun e=>(.value (.ptrD r ie sz 0),st,(Log.sees r).or (Log.says (.idx e ie sz sz)))) none
   | _=>none
  | q=>match j with
   | .sym e=>match st.path with
    | n :: rest=>(Zda P t q (.val (.int .i64 (n:Int)))).map fun y=>(.value y,{ st with path:=rest },Log.says (.at e n))
    | []=>none
   | _=>none
 | _=>none
theorem aIdxD_ok {P:Program} {o:Oper} {x:AAct} {a:Act} {st st':St} {n:AN} {lg:Log} {A:Nat->Prop} {m:Map} {w:World} (h:aIdxD P o x st=some (n,st',lg)) (hA:lg.Fits W0 A) (hT:TRel m x a) (hR:Rel W0 A m st.heap.get w) (hF:Fresh A m st.next) :
  ∃ m' w',Ok W0 A m st w m' st' lg w'/\Meets P m' (execOp a.eval o) w w' n:=by
 unfold aIdxD at h
 split at h
 ·rename_i t q i ho
  simp only [Option.bind_eq_some_iff] at h
  obtain ⟨qv,hq,j,hj,h⟩:=h
  have hi:=ev_ok hT hj
  split at h
  ·rename_i r
   split at h
   ·rename_i el hu
    simp only [Option.bind_eq_some_iff] at h
    obtain ⟨sz,hs,ie,hie,h⟩:=h
    cases hsz:Nat.blt 0 sz with
    | false=>simp [hsz] at h
    | true =>
     simp only [hsz,cond_true,Option.map_eq_some_iff] at h
     obtain ⟨e,hr,he⟩:=h
     cases he
     have hsz':0 < sz:=by simpa using hsz
     obtain ⟨nn,cs,k,z,h1,h2,h3,h4,h5⟩:=(or_A hA).2.2 _ (List.mem_singleton.2 rfl)
     obtain ⟨oo,u,fp,p,_,_,hm,hou,_,_,hp,hrd⟩:=thing hR hr ((or_A hA).1.1 r (by simp [Log.sees,Zah]))
     rw [hp] at h1
     cases h1
     have hx:=ev_ok hT hq
     simp only [AV.den,hm,Option.bind_some,hou,cond_true,Option.some.injEq] at hx
     have hiv:=sx_ok hR.sv j hie hi
     rw [h2] at hiv
     simp only [Option.some.injEq,PV.v.injEq] at hiv
     have hrd':=hrd w (fun _ _=>rfl)
     simp only [Reads] at hrd'
     obtain ⟨aa,cap,hu2,_,_,h6⟩:=hrd'
     have hne:cs ≠ []:=by intro e;rw [e] at h5;simp at h5;omega
     rcases h6 with h6 | ⟨b,off,rfl,_⟩
     ·exact absurd h6 hne
     ·subst hu2
      refine ⟨m,w,Ok.refl hR hF,.pointer (some ⟨b,off+(z.toNat * sz+0),none⟩),?_,.inl ?_⟩
      ·simp [AV.den,hm,hR.sv,ev_sv h2,natOf,Zha]
      ·simp [execOp,ho,Instr.indexAt,asIntOf,<- hx,<- hiv,run_underlying hu,h3,h4,Zad hs,Zam]
   ·cases h
  ·split at h
   ·rename_i e
    split at h
    ·rename_i k rest hpath
     simp only [Option.map_eq_some_iff] at h
     obtain ⟨y,hy,he⟩:=h
     cases he
     obtain ⟨kd,hk⟩:=hA.2 _ (List.mem_singleton.2 rfl)
     have:=(Zib hR.sv hi).1
     rw [hk] at this
     simp only [Option.some.injEq,PV.v.injEq] at this
     have hy':Zda P t qv (.val (.int kd (k:Int)))=some y:=by
      rw [<- hy];simp [Zda,AV.int?]
     obtain ⟨v,hv,hrun⟩:=aIndexAddr_ok hy' (ev_ok hT hq) (iu:=.int kd (k:Int)) rfl w
     refine ⟨m,w,⟨Step.refl hR,hF⟩,v,hv,.inl ?_⟩
     rw [this] at hrun
     simp [execOp,ho,hrun]
    ·cases h
   ·cases h
 ·cases h

def Zjs (P:Program):Nat->TypeId->Option (List Bool)
 | 0,_=>none
 | n+1,t=>match P.underlying t with
  | some (.struct fs)=>fs.toList.foldr (fun f r=>(Zjs P n f.type).bind fun a=>r.map (a++·)) (some [])
  | some (.array k e)=>(Zjs P n e).map fun a=>(List.replicate k a).flatten
  | some (.slice _)=>some [true]
  | some .bool | some (.int _) | some (.float _) | some .string=>some [false]
  | _=>none
def esD (e i:SX) (sz:Nat):List Bool->Nat->List SX
 | [],_=>[]
 | true :: ks,j=>.cell e i sz j :: esD e i sz ks (j+1)
 | false :: ks,j=>esD e i sz ks (j+1)
def Zg7 (e i:SX) (sz:Nat):List Bool->Nat->List Fact
 | [],_=>[]
 | true :: ks,j=>Zg7 e i sz ks (j+1)
 | false :: ks,j=>.ok (.cell e i sz j) :: Zg7 e i sz ks (j+1)
def Zgd (e i:SX) (sz:Nat):List Bool->Nat->Nat->List AV
 | [],_,_=>[]
 | true :: ks,j,nx=>.dat nx :: Zgd e i sz ks (j+1) (nx+1)
 | false :: ks,j,nx=>.sym (.cell e i sz j) :: Zgd e i sz ks (j+1) nx
def usD (val:Nat->Value):List Bool->Nat->List Value
 | [],_=>[]
 | true :: ks,j=>val j :: usD val ks (j+1)
 | false :: ks,j=>usD val ks (j+1)
theorem Zm7 (val:Nat->Value) (e i:SX) (sz:Nat):∀ (ks:List Bool) (j:Nat),(usD val ks j).length=(esD e i sz ks j).length
 | [],j=>rfl
 | true :: ks,j=>by simp [usD,esD,Zm7 val e i sz ks]
 | false :: ks,j=>by simp [usD,esD,Zm7 val e i sz ks]
theorem Zm8 (val:Nat->Value) (e i:SX) (sz:Nat):∀ (ks:List Bool) (j q:Nat) (x:SX) (u:Value),(esD e i sz ks j)[q]?=some x->(usD val ks j)[q]?=some u->∃ k,j<=k/\k < j+ks.length/\x=.cell e i sz k/\u=val k
 | [],j,q,x,u,h,_=>by simp [esD] at h
 | true :: ks,j,q,x,u,h,hu=>by
  cases q with
  | zero=>simp [esD] at h;simp [usD] at hu;exact ⟨j,Nat.le_refl _,by simp,h.symm,hu.symm⟩
  | succ q =>
   simp only [esD,List.getElem?_cons_succ] at h
   simp only [usD,List.getElem?_cons_succ] at hu
   obtain ⟨k,h1,h2,h3,h4⟩:=Zm8 val e i sz ks (j+1) q x u h hu
   exact ⟨k,by omega,by simp;omega,h3,h4⟩
 | false :: ks,j,q,x,u,h,hu=>by
  simp only [esD] at h
  simp only [usD] at hu
  obtain ⟨k,h1,h2,h3,h4⟩:=Zm8 val e i sz ks (j+1) q x u h hu
  exact ⟨k,by omega,by simp;omega,h3,h4⟩
theorem Zho {m:Map} (hs:∀ e,m.s e=W0.sv e) {e i:SX} {sz:Nat} {val:Nat->Value} (hone:∀ k,(val k).oneCell'=true):∀ (ks:List Bool) (j nx:Nat),(∀ q u,(usD val ks j)[q]?=some u->∃ fp,m.d (nx+q)=some (u,fp)) →
  (∀ f ∈ Zg7 e i sz ks j,f.holds W0)->(∀ k x,j<=k->k < j+ks.length->W0.ev (.cell e i sz k)=some (.v x)->val k=x)->denL m (Zgd e i sz ks j nx)=some ((List.range' j ks.length).map val)
 | [],j,nx,_,_,_=>rfl
 | true :: ks,j,nx,h1,h2,h3=>by
  obtain ⟨fp,hfp⟩:=h1 0 (val j) (by simp [usD])
  have ih:=Zho hs hone ks (j+1) (nx+1) (fun q u hu=>by
   have:=h1 (q+1) u (by simpa [usD] using hu)
   rwa [show nx+(q+1)=nx+1+q by omega] at this) (fun f hf=>h2 f (by simpa [Zg7] using hf)) (fun k x hk1 hk2=>h3 k x (by omega) (by simp;omega))
  simp only [Zgd,denL,AV.den]
  rw [Nat.add_zero] at hfp
  simp [hfp,hone,ih,List.range'_succ]
 | false :: ks,j,nx,h1,h2,h3=>by
  obtain ⟨x,hx,ho⟩:=h2 (.ok (.cell e i sz j)) (by simp [Zg7])
  have ih:=Zho hs hone ks (j+1) nx (fun q u hu=>h1 q u (by simpa [usD] using hu)) (fun f hf=>h2 f (by simp [Zg7,hf])) (fun k x hk1 hk2=>h3 k x (by omega) (by simp;omega))
  have hv:=h3 j x (Nat.le_refl _) (by simp) hx
  simp only [Zgd,denL,Zdp hs hx ho,ih,Option.bind_some,Option.map_some,List.range'_succ,List.map_cons,List.length_cons,hv]
def Zm1 (P:Program) (t:TypeId) (st:St):AV->Option (AV × St × Log)
 | .ptrD r i sz q=>(st.heap.get r).bind fun oo=>oo.dat.bind fun e=>(tyAgg P t).bind fun ag=>(Zjs P 20 t).bind fun ks =>
  cond ((cond ag (Zbn P t == some ks.length) (Nat.beq ks.length 1)) && Nat.blt (st.next+ks.length) 16777215)
   (some (cond ag (.agg (Zgd e i sz ks q st.next)) ((Zgd e i sz ks q st.next).headD (.val undef)),st.dats ((esD e i sz ks q).map (·,oo.ro)),
    ⟨(1 <<< r) ||| Za0 st.next (esD e i sz ks q).length,Za0 st.next (esD e i sz ks q).length,.idx e i sz (q+ks.length) :: Zg7 e i sz ks q⟩)) none
 | _=>none
theorem Zoo (e i:SX) (sz:Nat):∀ (ks:List Bool) (j:Nat),(esD e i sz ks j).length<=ks.length
 | [],j=>Nat.le_refl _
 | true :: ks,j=>by simp [esD,Zoo e i sz ks]
 | false :: ks,j=>by have:=Zoo e i sz ks (j+1);simp [esD];omega
theorem aLoadD_shape {P:Program} {t:TypeId} {st st':St} {x y:AV} {lg:Log} (h:Zm1 P t st x=some (y,st',lg)):∃ es,st'=st.dats es/\st.next+es.length < 16777215/\lg.T=Za0 st.next es.length:=by
 unfold Zm1 at h
 split at h
 ·rename_i r i sz q
  simp only [Option.bind_eq_some_iff] at h
  obtain ⟨oo,hoo,e,hr,ag,hag,ks,hks,h⟩:=h
  cases hc:((cond ag (Zbn P t == some ks.length) (Nat.beq ks.length 1)) && Nat.blt (st.next+ks.length) 16777215) with
  | false=>simp [hc] at h
  | true =>
   simp only [hc,cond_true,Option.some.injEq,Prod.mk.injEq] at h
   obtain ⟨_,rfl,rfl⟩:=h
   simp only [Bool.and_eq_true,Nat.blt_eq] at hc
   have:=Zoo e i sz ks q
   exact ⟨_,rfl,by simp;omega,by simp⟩
 ·cases h
theorem aLoadD_ok {P:Program} {t:TypeId} {st st':St} {x y:AV} {lg:Log} {A:Nat->Prop} {m:Map} {w:World} {u:Value} (h:Zm1 P t st x=some (y,st',lg)) (hA:lg.Fits W0 A) (hR:Rel W0 A m st.heap.get w) (hF:Fresh A m st.next) (hx:x.den m=some u) :
  ∃ m',Ok W0 A m st w m' st' lg w/\∃ v,y.den m'=some v/\(Instr.loadAt t u).run P w=.ok v w:=by
 unfold Zm1 at h
 split at h
 ·rename_i r i sz q
  simp only [Option.bind_eq_some_iff] at h
  obtain ⟨oo,hoo,e,hr,ag,hag,ks,hks,h⟩:=h
  cases hc:((cond ag (Zbn P t == some ks.length) (Nat.beq ks.length 1)) && Nat.blt (st.next+ks.length) 16777215) with
  | false=>simp [hc] at h
  | true =>
   simp only [hc,cond_true,Option.some.injEq,Prod.mk.injEq] at h
   obtain ⟨hy,rfl,rfl⟩:=h
   simp only [Bool.and_eq_true,Nat.blt_eq] at hc
   have hel:=Zoo e i sz ks q
   have hAr:A r:=hA.1 r (Zat ((Zah _ _).2 rfl))
   have hAn:∀ k,st.next<=k->k < st.next+(esD e i sz ks q).length->A k:=fun k h1 h2=>hA.1 k (Za2 ((Za9 _ _ _).2 ⟨h1,h2⟩))
   obtain ⟨n,cs,kd,z,g1,g2,g3,g4,g5⟩:=hA.2 (.idx e i sz (q+ks.length)) (by simp)
   obtain ⟨oo',u0,fp,p,ho,hd,hm,hou,hlt,hfpb,hp,hrd⟩:=thing hR (Option.bind_eq_some_iff.2 ⟨oo,hoo,hr⟩) hAr
   rw [hoo] at ho
   cases ho
   rw [hp] at g1
   cases g1
   simp only [AV.den,hm,Option.bind_some,hR.sv,ev_sv g2,natOf] at hx
   unfold Zha at hx
   split at hx
   ·rename_i b off nn cap
    simp only [Option.some.injEq] at hx
    subst hx
    by_cases hne:cs=[]
    ·-- nothing is loaded
     subst hne
     simp only [List.length_nil,Nat.le_zero_eq] at g5
     have hk0:ks=[]:=List.eq_nil_of_length_eq_zero (by omega)
     subst hk0
     have hrow:Ex w w:=Ex.refl _
     obtain ⟨m',hok,_,_⟩:=Zj0 (lg:=⟨(1 <<< r) ||| Za0 st.next (esD e i sz [] q).length,Za0 st.next (esD e i sz [] q).length,.idx e i sz (q+([]:List Bool).length) :: Zg7 e i sz [] q⟩) hR hF hrow ((esD e i sz [] q).map (·,oo.ro)) [] (fun _=>fp) (by simp) rfl (by simp [esD] at hc ⊢;omega) (by intro k h1 h2;simp [esD] at h2;omega) (by intro i' e' u' h1;simp [esD] at h1)
     refine ⟨m',hok,?_⟩
     cases ag with
     | false=>simp at hc
     | true =>
      simp only [cond_true,beq_iff_eq] at hc
      subst hy
      refine ⟨.agg #[],by simp [Zgd,AV.den,denL],?_⟩
      have hl:=run_loadCells_list (P:=P) w ⟨b,off+(z.toNat * sz+q),none⟩ [] (by simp)
      simp only [List.length_nil] at hl
      simp [Instr.loadAt,Instr.sureAddr,loadVar,Zby hag,Zad hc.1,hl]
    ·have hfb:=fp_has hrd (by
      have:=hrd w (fun _ _=>rfl)
      simp only [Reads] at this
      obtain ⟨a',c',he',_⟩:=this
      cases he';rfl) hne
     have hcell:∀ (w2:World),(∀ k,fp k->w2.heap[k]?=w.heap[k]?)->∀ k c,cs[z.toNat * sz+k]?=some c->∃ v,w2.cell? ⟨b,off+(z.toNat * sz+k),none⟩=some v/\Reads w2 c v:=by
      intro w2 hw2 k c hk
      have:=hrd w2 hw2
      simp only [Reads] at this
      obtain ⟨a',c',he',_,_,h6⟩:=this
      rcases h6 with h6 | ⟨b',off',ha,h6⟩
      ·exact absurd h6 hne
      ·subst ha
       cases he'
       exact Za8.at h6 hk
     let val:Nat->Value:=fun k=>match w.cell? ⟨b,off+(z.toNat * sz+k),none⟩ with | some v=>cond v.oneCell' v .nilFunc | none=>.nilFunc
     have hval1:∀ k,(val k).oneCell'=true:=by
      intro k
      simp only [val]
      split
      ·rename_i v _
       cases hv:v.oneCell' with
       | false=>rfl
       | true=>simpa using hv
      ·rfl
     have hc0:∀ k,k < q+ks.length->∃ c,cs[z.toNat * sz+k]?=some c/\w.cell? ⟨b,off+(z.toNat * sz+k),none⟩=some (val k)/\W0.ev (.cell e i sz k)=some c/\∀ w2:World,(∀ k,fp k->w2.heap[k]?=w.heap[k]?)->Reads w2 c (val k):=by
      intro k hk
      have hlt2:z.toNat * sz+k < cs.length:=by omega
      refine ⟨cs[z.toNat * sz+k],List.getElem?_eq_getElem hlt2,?_⟩
      obtain ⟨v,hv,hrv⟩:=hcell w (fun _ _=>rfl) k _ (List.getElem?_eq_getElem hlt2)
      have hvk:val k=v:=by simp only [val,hv,hrv.one,cond_true]
      refine ⟨by rw [hv,hvk],?_,fun w2 hw2=>?_⟩
      ·have hp':e.ev W0.s W0.F=some (.row n cs):=hp
       have hg2:i.ev W0.s W0.F=some (.v (.int kd z)):=g2
       simp only [Base.ev,SX.ev,hp',hg2,Option.bind_some,Zbm,g3,g4,decide_true,Bool.and_self,cond_true]
       exact List.getElem?_eq_getElem hlt2
      ·obtain ⟨v2,hv2,hr2⟩:=hcell w2 hw2 k _ (List.getElem?_eq_getElem hlt2)
       have:w2.cell? ⟨b,off+(z.toNat * sz+k),none⟩=w.cell? ⟨b,off+(z.toNat * sz+k),none⟩:=by simp only [World.cell?,hw2 b hfb]
       rw [this,hv] at hv2
       cases hv2
       rw [hvk]
       exact hr2
     obtain ⟨m',hok,hd',_⟩:=Zj0 (lg:=⟨(1 <<< r) ||| Za0 st.next (esD e i sz ks q).length,Za0 st.next (esD e i sz ks q).length,.idx e i sz (q+ks.length) :: Zg7 e i sz ks q⟩) hR hF (Ex.refl w) ((esD e i sz ks q).map (·,oo.ro)) (usD val ks q) (fun _=>fp) (by simp) (by simp [Zm7 val e i sz ks q]) (by simp;omega) (fun k h1 h2=>hAn k h1 (by simpa using h2)) (by
      intro j e' u' h1 h2
      rw [List.getElem?_map,Option.map_eq_some_iff] at h1
      obtain ⟨e1,h1,rfl⟩:=h1
      obtain ⟨k,k1,k2,rfl,rfl⟩:=Zm8 val e i sz ks q j e1 u' h1 h2
      obtain ⟨c,c1,c2,c3,c4⟩:=hc0 k k2
      exact ⟨hval1 k,fun k hk=>⟨hlt k hk,fun hro=>hfpb hro k hk,fun _=>⟨r,oo,e,_,fp,hAr,hoo,hd,hm,hk⟩⟩,fun w2 hw2=>⟨c,c3,c4 w2 hw2⟩⟩)
     have hden:denL m' (Zgd e i sz ks q st.next)=some ((List.range' q ks.length).map val):=Zho hok.rel.sv hval1 ks q st.next (fun j v hj=>⟨_,hd' j v hj⟩) (fun f hf=>hA.2 f (by simp [hf])) (fun k x k1 k2 hx=>by
      obtain ⟨c,c1,c2,c3,c4⟩:=hc0 k k2
      rw [hx] at c3
      cases c3
      have:=c4 w (fun _ _=>rfl)
      simp only [Reads] at this
      exact this.1)
     refine ⟨m',hok,?_⟩
     cases ag with
     | false =>
      simp only [cond_false,Nat.beq_eq] at hc hy
      obtain ⟨bb,rfl⟩:∃ bb,ks=[bb]:=by
       match ks,hc.1 with
       | [bb],_=>exact ⟨bb,rfl⟩
      subst hy
      obtain ⟨c,c1,c2,c3,c4⟩:=hc0 q (by simp)
      refine ⟨val q,?_,?_⟩
      ·cases bb <;> simp only [Zgd,denL,Option.bind_eq_some_iff,List.headD_cons,List.length_singleton,List.range'_one,List.map_cons,List.map_nil,Option.map_some,Option.some.injEq,List.cons.injEq,and_true] at hden ⊢ <;> obtain ⟨v,hv,rfl⟩:=hden <;> exact hv
      ·simp [Instr.loadAt,Instr.sureAddr,loadVar,Zby hag,c2]
     | true =>
      simp only [cond_true,beq_iff_eq] at hc hy
      subst hy
      refine ⟨.agg ((List.range' q ks.length).map val).toArray,by simp [AV.den,hden],?_⟩
      have hl:=run_loadCells_list (P:=P) w ⟨b,off+(z.toNat * sz+q),none⟩ ((List.range' q ks.length).map val) (fun j v hj=>by
       rw [List.getElem?_map,Option.map_eq_some_iff] at hj
       obtain ⟨k,hk,rfl⟩:=hj
       obtain ⟨hj1,hj2⟩:=List.getElem?_eq_some_iff.1 hk
       simp only [List.length_range',List.getElem_range'] at hj1 hj2
       obtain ⟨c,c1,c2,c3,c4⟩:=hc0 k (by omega)
       rw [Zam,<- c2]
       congr 2
       omega)
      rw [List.length_map,List.length_range'] at hl
      simp [Instr.loadAt,Instr.sureAddr,loadVar,Zby hag,Zad hc.1,hl]
   ·cases hx
 ·cases h

def aopS (P:Program) (o:Oper) (x:AAct) (st:St):Option (AN × St × Log):=match aLenD P o x st with
 | some r=>some r
 | none=>match o.op with
  | .indexAddr ..=>aIdxD P o x st
  | .load t a=>(ev x a).bind fun q=>(Zm1 P t st q).map fun (y,st',lg)=>(.value y,st',lg)
  | _=>aSym P o x st
theorem Zhr {P:Program} (hN:GoodP P) {o:Oper} {x:AAct} {a:Act} {st st':St} {n:AN} {lg:Log} {A:Nat->Prop} {m:Map} {w:World} (h:aopS P o x st=some (n,st',lg)) (hA:lg.Fits W0 A) (hT:TRel m x a) (hR:Rel W0 A m st.heap.get w) (hF:Fresh A m st.next) :
  ∃ m' w',Ok W0 A m st w m' st' lg w'/\Meets P m' (execOp a.eval o) w w' n:=by
 unfold aopS at h
 split at h
 ·rename_i r hr
  cases h
  exact aLenD_ok hr hA hT hR hF
 ·split at h
  ·exact aIdxD_ok h hA hT hR hF
  ·rename_i t p ho
   simp only [Option.bind_eq_some_iff,Option.map_eq_some_iff] at h
   obtain ⟨q,hq,⟨y,s1,l1⟩,hl,he⟩:=h
   cases he
   obtain ⟨m',hok,v,hv,hrun⟩:=aLoadD_ok hl hA hR hF (ev_ok hT hq)
   exact ⟨m',w,hok,v,hv,.inl (by simp [execOp,ho,hrun])⟩
  ·exact aSym_ok hN h hA hT hR hF

mutual
def ev0:SX->Option PV
 | .con v=>some (.v v)
 | .bin o x y=>(ev0 x).bind fun p=>(ev0 y).bind fun q=>binPV o p q
 | .conv k x=>(ev0 x).bind (Zaj k)
 | .slen x=>(ev0 x).bind Zlf
 | .sidx x i=>(ev0 x).bind fun p=>(ev0 i).bind fun q=>Zoh p q
 | .cell e i sz o=>(ev0 e).bind fun p=>(ev0 i).bind fun q=>Zbm p q sz o
 | .len e=>(ev0 e).bind lenPV
 | .lit n es=>(evs0 es).map (.row n)
 | .agg es=>(evs0 es).bind fun ps=>(Zbz ps).map fun vs=>.v (.agg vs.toArray)
 | .sub e lo hi sz=>(ev0 e).bind fun p=>(ev0 lo).bind fun q=>(ev0 hi).bind fun r=>subPV p q r sz
 | .rop o es=>(evs0 es).bind (ropPV o)
 | .var _=>none
 | .op ..=>none
 | .fn ..=>none
def evs0:List SX->Option (List PV)
 | []=>some []
 | e :: es=>(ev0 e).bind fun p=>(evs0 es).map (p :: ·)
end
mutual
theorem Zaz {s:Nat->Option PV} {F:Fns}:∀ (e:SX) {p:PV},ev0 e=some p->e.ev s F=some p
 | .var i,p,h=>by simp [ev0] at h
 | .con v,p,h=>by simpa [ev0,SX.ev] using h
 | .op o ty ts es,p,h=>by simp [ev0] at h
 | .bin o x y,p,h=>by
  simp only [ev0,SX.ev,Option.bind_eq_some_iff] at h ⊢
  obtain ⟨a,h1,b,h2,h3⟩:=h
  exact ⟨a,Zaz x h1,b,Zaz y h2,h3⟩
 | .conv k x,p,h=>by
  simp only [ev0,SX.ev,Option.bind_eq_some_iff] at h ⊢
  obtain ⟨a,h1,h2⟩:=h
  exact ⟨a,Zaz x h1,h2⟩
 | .slen x,p,h=>by
  simp only [ev0,SX.ev,Option.bind_eq_some_iff] at h ⊢
  obtain ⟨a,h1,h2⟩:=h
  exact ⟨a,Zaz x h1,h2⟩
 | .sidx x i,p,h=>by
  simp only [ev0,SX.ev,Option.bind_eq_some_iff] at h ⊢
  obtain ⟨a,h1,b,h2,h3⟩:=h
  exact ⟨a,Zaz x h1,b,Zaz i h2,h3⟩
 | .fn k es j,p,h=>by simp [ev0] at h
 | .cell e i sz o,p,h=>by
  simp only [ev0,SX.ev,Option.bind_eq_some_iff] at h ⊢
  obtain ⟨a,h1,b,h2,h3⟩:=h
  exact ⟨a,Zaz e h1,b,Zaz i h2,h3⟩
 | .len e,p,h=>by
  simp only [ev0,SX.ev,Option.bind_eq_some_iff] at h ⊢
  obtain ⟨a,h1,h2⟩:=h
  exact ⟨a,Zaz e h1,h2⟩
 | .lit n es,p,h=>by
  simp only [ev0,SX.ev,Option.map_eq_some_iff] at h ⊢
  obtain ⟨ps,h1,h2⟩:=h
  exact ⟨ps,Zim es h1,h2⟩
 | .agg es,p,h=>by
  simp only [ev0,SX.ev,Option.bind_eq_some_iff,Option.map_eq_some_iff] at h ⊢
  obtain ⟨ps,h1,h2⟩:=h
  exact ⟨ps,Zim es h1,h2⟩
 | .sub e lo hi sz,p,h=>by
  simp only [ev0,SX.ev,Option.bind_eq_some_iff] at h ⊢
  obtain ⟨a,h1,b,h2,c,h3,h4⟩:=h
  exact ⟨a,Zaz e h1,b,Zaz lo h2,c,Zaz hi h3,h4⟩
 | .rop o es,p,h=>by
  simp only [ev0,SX.ev,Option.bind_eq_some_iff] at h ⊢
  obtain ⟨ps,h1,h2⟩:=h
  exact ⟨ps,Zim es h1,h2⟩
theorem Zim {s:Nat->Option PV} {F:Fns}:∀ (es:List SX) {ps:List PV},evs0 es=some ps->evs s F es=some ps
 | [],ps,h=>by simpa [evs0,evs] using h
 | e :: es,ps,h=>by
  simp only [evs0,evs,Option.bind_eq_some_iff,Option.map_eq_some_iff] at h ⊢
  obtain ⟨p,h1,qs,h2,h3⟩:=h
  exact ⟨p,Zaz e h1,qs,Zim es h2,h3⟩
end
def foldV (e:SX):Option Value:=match ev0 e with | some (.v v)=>cond v.oneCell' (some v) none | _=>none
theorem foldV_ok {e:SX} {v:Value} (h:foldV e=some v):W0.ev e=some (.v v)/\v.oneCell'=true:=by
 unfold foldV at h
 split at h
 ·rename_i u hu
  cases ho:u.oneCell' with
  | false=>simp [ho] at h
  | true =>
   simp only [ho,cond_true,Option.some.injEq] at h
   subst h
   exact ⟨Zaz e hu,ho⟩
 ·cases h
def fold1:AV->AV
 | .sym e=>match foldV e with | some v=>.val v | none=>.sym e
 | x=>x
theorem fold1_ok {m:Map} (hs:∀ e,m.s e=W0.sv e) {x:AV} {v:Value} (h:x.den m=some v):(fold1 x).den m=some v:=by
 unfold fold1
 split
 ·rename_i e
  split
  ·rename_i u hu
   obtain ⟨h1,h2⟩:=Zib hs h
   obtain ⟨h3,_⟩:=foldV_ok (W0:=W0) hu
   rw [h1] at h3
   cases h3
   rfl
  ·exact h
 ·exact h
theorem folds_ok {m:Map} (hs:∀ e,m.s e=W0.sv e):∀ {l:List AV} {vs:List Value},denL m l=some vs->denL m (l.map fold1)=some vs
 | [],vs,h=>by simpa [denL] using h
 | x :: l,vs,h=>by
  simp only [denL,Option.bind_eq_some_iff,Option.map_eq_some_iff,List.map_cons] at h ⊢
  obtain ⟨v,h1,us,h2,h3⟩:=h
  exact ⟨v,fold1_ok hs h1,us,folds_ok hs h2,h3⟩
def foldA:AV->AV
 | .agg l=>.agg (l.map fold1)
 | x=>fold1 x
theorem foldA_ok {m:Map} (hs:∀ e,m.s e=W0.sv e) {x:AV} {v:Value} (h:x.den m=some v):(foldA x).den m=some v:=by
 unfold foldA
 split
 ·rename_i l
  simp only [AV.den,Option.map_eq_some_iff] at h ⊢
  obtain ⟨us,h1,h2⟩:=h
  exact ⟨us,folds_ok hs h1,h2⟩
 ·exact fold1_ok hs h
def foldN:AN->AN
 | .value x=>.value (foldA x)
 | n=>n
def aopT (P:Program) (o:Oper) (x:AAct) (st:St):Option (AN × St × Log):=Option.map (fun r:AN × St × Log=>(foldN r.1,r.2.1,r.2.2)) (match aop P o x st with
 | some r=>some r
 | none=>aopS P o x st)
theorem aopT_ok {P:Program} (hN:GoodP P) {o:Oper} {x:AAct} {a:Act} {st st':St} {n:AN} {lg:Log} {A:Nat->Prop} {m:Map} {w:World} (h:aopT P o x st=some (n,st',lg)) (hA:lg.Fits W0 A) (hT:TRel m x a) (hR:Rel W0 A m st.heap.get w) (hF:Fresh A m st.next) :
  ∃ m' w',Ok W0 A m st w m' st' lg w'/\Meets P m' (execOp a.eval o) w w' n:=by
 unfold aopT at h
 simp only [Option.map_eq_some_iff] at h
 obtain ⟨⟨n1,s1,l1⟩,hr,he⟩:=h
 cases he
 have fin:(∃ m' w',Ok W0 A m st w m' s1 l1 w'/\Meets P m' (execOp a.eval o) w w' n1)->∃ m' w',Ok W0 A m st w m' s1 l1 w'/\Meets P m' (execOp a.eval o) w w' (foldN n1):=by
  rintro ⟨m',w',hok,hm⟩
  refine ⟨m',w',hok,?_⟩
  cases n1 with
  | value y =>
   obtain ⟨v,h1,h2⟩:=hm
   exact ⟨v,foldA_ok hok.rel.sv h1,h2⟩
  | _=>exact hm
 split at hr
 ·rename_i r hr1
  cases hr
  exact fin (Zlk hN hr1 hA hT hR hF)
 ·exact fin (Zhr hN hr hA hT hR hF)

def isBool (P:Program) (t:TypeId):Bool:=match P.underlying t with | some .bool=>true | _=>false
def isTruth (P:Program) (o:Oper):Bool:=isBool P o.type || (match o.op with | .binOp .eql .. | .binOp .neq .. | .binOp .lss .. | .binOp .leq .. | .binOp .gtr .. | .binOp .geq ..=>true | _=>false)
def decB (P:Program) (o:Oper):AN × St × Log->Option (AN × St × Log)
 | (.value (.sym e),st,lg)=>cond (isTruth P o) (match st.path with
   | b :: rest=>some (.value (.val (.bool (Nat.beq b 1))),{ st with path:=rest },lg.or (Log.says (.is e (.bool (Nat.beq b 1)))))
   | []=>none) (some (.value (.sym e),st,lg))
 | r=>some r
theorem Zbr {P:Program} {o:Oper} {a:Act} {st st1 st':St} {n n1:AN} {lg l1:Log} {A:Nat->Prop} {m:Map} {w:World} (h:decB P o (n1,st1,l1)=some (n,st',lg)) (hA:lg.Fits W0 A)
  (hk:l1.Fits W0 A->∃ m' w',Ok W0 A m st w m' st1 l1 w'/\Meets P m' (execOp a.eval o) w w' n1):∃ m' w',Ok W0 A m st w m' st' lg w'/\Meets P m' (execOp a.eval o) w w' n:=by
 unfold decB at h
 split at h
 ·rename_i e s2 l2 he
  cases he
  cases hb:isTruth P o with
  | false=>simp only [hb,cond_false,Option.some.injEq,Prod.mk.injEq] at h;obtain ⟨rfl,rfl,rfl⟩:=h;exact hk hA
  | true =>
   simp only [hb,cond_true] at h
   split at h
   ·rename_i b rest hp
    simp only [Option.some.injEq,Prod.mk.injEq] at h
    obtain ⟨rfl,rfl,rfl⟩:=h
    obtain ⟨m',w',hok,v,hv,hrun⟩:=hk (or_A hA).1
    have hev:=(Zib hok.rel.sv hv).1
    have hf:W0.ev e=some (.v (.bool (Nat.beq b 1))):=(or_A hA).2.2 _ (List.mem_singleton.2 rfl)
    rw [hf] at hev
    simp only [Option.some.injEq,PV.v.injEq] at hev
    have hok2:Ok W0 A m st w m' st1 (l1.or (Log.says (.is e (.bool (Nat.beq b 1))))) w':=hok.more (fun r hr=>Zat hr)
    exact ⟨m',w',⟨hok2.step,hok2.fresh⟩,v,by rw [<- hev];rfl,hrun⟩
   ·cases h
 ·simp only [Option.some.injEq] at h
  cases h
  exact hk hA

end Go.Proofs.Ytgdegpifjljnoaa.eng
end
