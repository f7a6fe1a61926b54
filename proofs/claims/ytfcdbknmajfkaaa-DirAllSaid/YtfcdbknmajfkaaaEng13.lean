/- The engine: operations whose order is open. -/
import Derived.Test.YtfcdbknmajfkaaaEng12
namespace Go.Proofs.Ytfcdbknmajfkaaa.eng
open Go
variable {W0 : Base}
set_option linter.unusedVariables false
set_option linter.unusedSimpArgs false

/-- Of each operation those that come ahead of it in every order. -/
def aheadOf (o : Oper) (t : T Nat) : Nat := o.after.toList.foldl (fun s e => cond (Region.binds .any e) (s ||| (1 <<< e.on) ||| ((t.get e.on).getD 0)) s) 0
def aheads : List Oper → Nat → T Nat → List Nat
  | [], _, _ => []
  | o :: rest, i, t => aheadOf o t :: aheads rest (i + 1) (T.set 24 t i (some (aheadOf o t)))
/-- Those ahead of this one which neither is bound to: they touch no slot of one another. -/
def apartFrom (ops : Array Oper) (o : Oper) (m : Nat) : List Oper → Nat → Bool
  | [], _ => true
  | p :: ps, i => (m.testBit i || (p.apart ops o && o.apart ops p)) && apartFrom ops o m ps (i + 1)
def statGo (ops : Array Oper) : List Oper → Nat → List Nat → List Oper → Bool
  | o :: rest, i, m :: ms, pre => o.after.all (fun e => !Region.binds .any e || Nat.blt e.on i) && (match o.op with | .defer _ => false | .select .. => false | _ => true) && apartFrom ops o m pre 0 && statGo ops rest (i + 1) ms (pre ++ [o])
  | [], _, _, _ => true
  | _ :: _, _, [], _ => false
def statOk (ops : Array Oper) : Bool := statGo ops ops.toList 0 (aheads ops.toList 0 .nil) [] && Nat.blt (ops.size + 1) 16777216

/-- The slots that an operation looks at. -/
def keepTm (t : T AV) : List Tmp → T AV → T AV
  | [], acc => acc
  | k :: ks, acc => keepTm t ks (cond (Nat.blt (k + 1) 16777216) (match t.get k with | some y => T.set 24 acc k (some y) | none => acc) acc)
def seen (ops : Array Oper) (o : Oper) (x : AAct) : AAct := { tm := keepTm x.tm (o.looksAt ops) .nil, n := x.n, defers := [], f := x.f }

def logsApart (m : Nat) (l : Log) : List (Nat × Log) → Bool
  | [] => true
  | (i, k) :: rest => (m.testBit i || (Nat.beq (k.T &&& l.A) 0 && Nat.beq (l.T &&& k.A) 0)) && logsApart m l rest
def allBehind (i : Nat) : List Nat → Bool
  | [] => true
  | m :: ms => m.testBit i && allBehind i ms
/-- What an operation of an open order comes to by itself. -/
def opD (P : Program) (E : Eng) (ops : Array Oper) (o : Oper) (x : AAct) (st : St) : Option (Option Value × AAct × St × Log) :=
  (opA P E ops o (seen ops o x) st).bind fun (pv, x1, st1, l1) => cond (Nat.ble st.next st1.next && Nat.beq (l1.T >>> st1.next) 0 && Nat.beq (l1.T ||| l1.A) l1.A && x1.defers.isEmpty)
    (match pv with
      | some v => some (some v, x, st1, l1)
      | none => match o.dst with
        | none => some (none, x, st1, l1)
        | some d => (x1.tm.get d).bind fun y => (x.put (some d) y).map fun x2 => (none, x2, st1, l1)) none
def drawGo (P : Program) (E : Eng) (ops : Array Oper) : List Oper → Nat → List Nat → List (Nat × Log) → AAct → St → CR
  | o :: rest, i, m :: ms, acc, x, st => (opD P E ops o x st).bind fun (pv, x1, st1, l1) => cond (logsApart m l1 acc)
    (match pv with
      | some v => cond (Nat.beq m ((1 <<< i) - 1) && allBehind i ms) (some (.panic v, x1, st1, l1)) none
      | none => (drawGo P E ops rest (i + 1) ms (cond (Nat.beq (l1.A ||| l1.T) 0) acc ((i, l1) :: acc)) x1 st1).map fun (e, x2, st2, l2) => (e, x2, st2, l1.or l2)) none
  | [], _, _, _, x, st => some (.normal, x, st, Log.no)
  | _ :: _, _, [], _, _, _ => none
def drawF (P : Program) : Draw := fun E ops x st => cond (statOk ops) (drawGo P E ops ops.toList 0 (aheads ops.toList 0 .nil) [] x st) none

end Go.Proofs.Ytfcdbknmajfkaaa.eng
