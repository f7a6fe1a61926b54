/- The engine: states of a call by their shape; pieces of code from shape to shape; loops; a contract out of pieces. -/
import Derived.Test.YtfcdbknmajfkaaaEng19
namespace Go.Proofs.Ytfcdbknmajfkaaa.eng
open Go Go.RowKit
variable {W0 : Base}
set_option linter.unusedVariables false
set_option linter.unusedSimpArgs false

/-- A part of a state: a number, truth or row by itself; a place in a box; so many together. -/
inductive Pt where
  | leaf
  | ptr (j idx sz sub : Nat)
  | agg (n : Nat)
  /-- a row of the call's own of unknown length, whole: which box, which leaf is in it -/
  | own (j k sz : Nat)
  /-- no row -/
  | nil
  deriving Inhabited
structure BoxT where
  elem : TypeId
  esz : Nat
  opn : Bool
  cells : List Pt
  own : Option Nat
  lent : Bool
  deriving Inhabited
/-- The shape of a state: what the slots hold, what the boxes hold; of each leaf whether it is a row (and whether it may live on). -/
structure Shape where
  slots : List (Nat × Pt)
  boxes : List BoxT
  rows : List (Option Bool)
  n : Nat
  f : FuncId
  deriving Inhabited

def leafAVs : List (Option Bool) → Nat → Nat → List AV
  | [], _, _ => []
  | some _ :: ks, i, q => .dat q :: leafAVs ks (i + 1) (q + 1)
  | none :: ks, i, q => .sym (.var i) :: leafAVs ks (i + 1) q
def leafDats : List (Option Bool) → Nat → List (SX × Bool)
  | [], _ => []
  | some b :: ks, i => (.var i, b) :: leafDats ks (i + 1)
  | none :: ks, i => leafDats ks (i + 1)
def fillP : List Pt → List AV → Option (List AV × List AV)
  | [], ls => some ([], ls)
  | .leaf :: ps, l :: ls => (fillP ps ls).map fun (xs, r) => (l :: xs, r)
  | .leaf :: _, [] => none
  | .ptr j idx sz sub :: ps, ls => (fillP ps ls).map fun (xs, r) => (.ptr j 0 idx sz sub :: xs, r)
  | .own j k sz :: ps, ls => (fillP ps ls).map fun (xs, r) => (.sliceS j 0 c0 (.len (.var k)) sz :: xs, r)
  | .nil :: ps, ls => (fillP ps ls).map fun (xs, r) => (.val (.slice none 0 0) :: xs, r)
  | .agg n :: ps, ls => cond (Nat.ble n ls.length) ((fillP ps (ls.drop n)).map fun (xs, r) => (.agg (ls.take n) :: xs, r)) none
def fillB : List BoxT → List AV → Option (List (List AV) × List AV)
  | [], ls => some ([], ls)
  | b :: bs, ls => (fillP b.cells ls).bind fun (xs, r) => (fillB bs r).map fun (yss, r') => (xs :: yss, r')
def tmOf : List Nat → List AV → T AV → T AV
  | t :: ts, y :: ys, tm => tmOf ts ys (T.set 24 tm t (some y))
  | _, _, tm => tm
def boxRoot (b : BoxT) (cells : List AV) : ARoot := { cells, elem := b.elem, esz := b.esz, ro := false, opn := b.opn, vers := [(0, cells.length)], sym := b.own.map SX.var, lent := b.lent }
def boxesOf : List BoxT → List (List AV) → Nat → T ARoot → T ARoot
  | b :: bs, c :: cs, j, h => boxesOf bs cs (j + 1) (T.set 24 h j (some (boxRoot b c)))
  | _, _, _, h => h
def ownsOk : List BoxT → Nat → Bool
  | [], _ => true
  | b :: bs, k => match b.own with
    | none => ownsOk bs k
    | some k' => Nat.beq k k' && b.cells.isEmpty && ownsOk bs (k + 1)
def ownsN : List BoxT → Nat
  | [] => 0
  | b :: bs => match b.own with
    | none => ownsN bs
    | some _ => ownsN bs + 1
def small (l : List Nat) : Bool := l.all fun t => Nat.blt (t + 1) 16777216
/-- The state of a shape, by names. -/
def canon (sh : Shape) (path : List Nat) : Option (AAct × St) :=
  (fillP (sh.slots.map (·.2)) (leafAVs sh.rows 0 sh.boxes.length)).bind fun (xs, r) => (fillB sh.boxes r).bind fun (css, r') =>
    cond (r'.isEmpty && small (sh.slots.map (·.1)) && Nat.blt (sh.boxes.length + sh.rows.length) 16777215 && ownsOk sh.boxes sh.rows.length)
      (some ({ tm := tmOf (sh.slots.map (·.1)) xs .nil, n := sh.n, defers := [], f := sh.f }, ⟨newDats (leafDats sh.rows 0) sh.boxes.length (boxesOf sh.boxes css 0 .nil), sh.boxes.length + (leafDats sh.rows 0).length, path⟩)) none

/-- What a state by names says of the state. -/
structure At (B : Base) (m : Map) (x : AAct) (st : St) (a : Act) (w : World) : Prop where
  rel : Rel B (fun _ => True) m st.heap.get w
  fresh : Fresh (fun _ => True) m st.next
  tm : TRel m x a
def Base.with (B : Base) (ps : List PV) : Base := { B with s := fun i => ps[i]? }
/-- The state is of this shape, and its leaves read so. -/
def InShape (B : Base) (sh : Shape) (ps : List PV) (a : Act) (w : World) : Prop := ∃ x st m, canon sh [] = some (x, st) ∧ ps.length = sh.rows.length + ownsN sh.boxes ∧ At (B.with ps) m x st a w

/-! From a state by names to a shape. -/
def isNil : AV → Bool | .val (.slice none n c) => Nat.beq n 0 && Nat.beq c 0 | _ => false
theorem isNil_ok {x : AV} (h : isNil x = true) : x = .val (.slice none 0 0) := by
  unfold isNil at h
  split at h
  · simp only [Bool.and_eq_true, Nat.beq_eq] at h
    obtain ⟨rfl, rfl⟩ := h
    rfl
  · cases h
def unfill (rho : List (Nat × Nat)) : List Pt → List AV → Option (List AV)
  | [], [] => some []
  | .leaf :: ps, x :: xs => (unfill rho ps xs).map (x :: ·)
  | .ptr j idx sz sub :: ps, .ptr r v idx' sz' sub' :: xs => match rho[j]? with
    | some (r', v') => cond (Nat.beq r r' && Nat.beq v v' && Nat.beq idx idx' && Nat.beq sz sz' && Nat.beq sub sub') (unfill rho ps xs) none
    | none => none
  | .agg n :: ps, x :: xs => x.aggs.bind fun cs => cond (Nat.beq cs.length n) ((unfill rho ps xs).map (cs ++ ·)) none
  | .own j k sz :: ps, .sliceS r v lo len sz' :: xs => match rho[j]? with
    | some (r', v') => cond (Nat.beq r r' && Nat.beq v v' && Nat.beq sz sz' && isC0 lo) (unfill rho ps xs) none
    | none => none
  | .nil :: ps, x :: xs => cond (isNil x) (unfill rho ps xs) none
  | _, _ => none
/-- Which rows of the call's own are spoken of: which box, which leaf, how many there are. -/
def ownUses : List Pt → List AV → List (Nat × Nat × SX)
  | .own j k sz :: ps, .sliceS r v lo len sz' :: xs => (j, k, len) :: ownUses ps xs
  | _ :: ps, _ :: xs => ownUses ps xs
  | _, _ => []
def ownUsesB : List BoxT → List (List AV) → List (Nat × Nat × SX)
  | b :: bs, c :: cs => ownUses b.cells c ++ ownUsesB bs cs
  | _, _ => []
/-- What is in the rows of the call's own. -/
def ownSX (st : St) : List (Nat × Nat) → List BoxT → Option (List SX)
  | r :: rs, b :: bs => match b.own with
    | none => ownSX st rs bs
    | some _ => (lookS st r.1 r.2).bind fun (e, _, _) => (ownSX st rs bs).map (e :: ·)
  | [], [] => some []
  | _, _ => none
def contOf (st : St) (rho : List (Nat × Nat)) (j : Nat) : SX := match rho[j]? with | some r => (match lookS st r.1 r.2 with | some (e, _, _) => e | none => c0) | none => c0
def usesOk (bs : List BoxT) (l : List (Nat × Nat × SX)) : Bool := l.all fun t => match bs[t.1]? with | some b => (match b.own with | some k => Nat.beq k t.2.1 | none => false) | none => false
def usesF (st : St) (rho : List (Nat × Nat)) (l : List (Nat × Nat × SX)) : List Fact := l.map fun t => .same t.2.2 (.len (contOf st rho t.1))
def slotsOf (x : AAct) : List Nat → Option (List AV)
  | [] => some []
  | t :: ts => (x.tm.get t).bind fun y => (slotsOf x ts).map (y :: ·)
def boxOk (st : St) (rho : Nat × Nat) (b : BoxT) : Option (List AV) := (st.heap.get rho.1).bind fun o => match o.vers with
  | (v, n) :: _ => cond (Nat.beq v rho.2 && Nat.beq n o.cells.length && Nat.beq o.elem b.elem && Nat.beq o.esz b.esz && (o.opn == b.opn) && Nat.beq o.cells.length b.cells.length && (o.sym.isSome == b.own.isSome) && (o.lent == b.lent)) (some o.cells) none
  | [] => none
def boxesAt (st : St) : List (Nat × Nat) → List BoxT → Option (List (List AV))
  | [], [] => some []
  | r :: rs, b :: bs => (boxOk st r b).bind fun c => (boxesAt st rs bs).map (c :: ·)
  | _, _ => none
def unfillB (rho : List (Nat × Nat)) : List BoxT → List (List AV) → Option (List AV)
  | [], [] => some []
  | b :: bs, c :: cs => (unfill rho b.cells c).bind fun l => (unfillB rho bs cs).map (l ++ ·)
  | _, _ => none
def nodupN : List Nat → Bool
  | [] => true
  | r :: rs => rs.all (fun q => !(Nat.beq r q)) && nodupN rs
/-- The leaves, written down; what that takes for granted. -/
def leavesSX (st : St) : List (Option Bool) → List AV → Option (List SX × List Fact)
  | [], [] => some ([], [])
  | k :: ks, x :: xs => (cellSX st x).bind fun (e, ok, _) => (leavesSX st ks xs).bind fun (es, fs) => match k with
    | none => some (e :: es, .ok e :: fs)
    | some b => cond (ok || !b) (some (e :: es, fs)) none
  | _, _ => none
def readSt (sh : Shape) (rho : List (Nat × Nat)) (x : AAct) (st : St) : Option (List SX × List Fact) :=
  cond (x.defers.isEmpty && Nat.beq x.n sh.n && nodupN (rho.map (·.1)) && Nat.beq rho.length sh.boxes.length) ((slotsOf x (sh.slots.map (·.1))).bind fun ys => (unfill rho (sh.slots.map (·.2)) ys).bind fun l1 => (boxesAt st rho sh.boxes).bind fun css => (unfillB rho sh.boxes css).bind fun l2 => (leavesSX st sh.rows (l1 ++ l2)).bind fun (es, fs) => (ownSX st rho sh.boxes).bind fun os => cond (usesOk sh.boxes (ownUses (sh.slots.map (·.2)) ys ++ ownUsesB sh.boxes css)) (some (es ++ os, fs ++ usesF st rho (ownUses (sh.slots.map (·.2)) ys ++ ownUsesB sh.boxes css))) none) none

/-! Held. -/
/-- What a leaf hangs on. -/
structure Leafs (B : Base) (m : Map) (st : St) (w : World) (k : Option Bool) (p : PV) (u : Value) (fp : Nat → Prop) : Prop where
  lt : ∀ q, fp q → q < w.heap.size
  fpb : k = some true → ∀ q, fp q → B.fp q ∨ B.heap.size ≤ q
  hangs : ∀ q, fp q → Hangs (fun _ => True) m st q
  reads : ∀ w2 : World, (∀ q, fp q → w2.heap[q]? = w.heap[q]?) → Reads w2 p u
  plain : k = none → ∃ v, p = .v v
theorem cellSX_fp {B : Base} {m : Map} {st : St} {w : World} (hR : Rel B (fun _ => True) m st.heap.get w) {x : AV} {e : SX} {ok : Bool} {lg : Log} {u : Value} (h : cellSX st x = some (e, ok, lg)) (hx : x.den m = some u) :
    ∃ (p : PV) (fp : Nat → Prop), e.ev B.s B.F = some p ∧ (∀ q, fp q → q < w.heap.size) ∧ (ok = true → ∀ q, fp q → B.fp q ∨ B.heap.size ≤ q) ∧ (∀ q, fp q → Hangs (fun _ => True) m st q) ∧ ∀ w2 : World, (∀ q, fp q → w2.heap[q]? = w.heap[q]?) → Reads w2 p u := by
  unfold cellSX at h
  split at h
  · simp only [Option.some.injEq, Prod.mk.injEq] at h
    obtain ⟨rfl, rfl, rfl⟩ := h
    simp only [AV.den, Option.some.injEq] at hx
    subst hx
    exact ⟨.row 0 [], fun _ => False, by simp [SX.ev, evs], fun _ h => h.elim, fun _ _ h => h.elim, fun _ h => h.elim, fun w2 _ => by simp only [Reads]; exact ⟨none, 0, rfl, Nat.le_refl _, Nat.zero_le _, .inl trivial⟩⟩
  · rename_i v _
    simp only [AV.den, Option.some.injEq] at hx
    subst hx
    cases ho : v.oneCell' with
    | false => simp [ho] at h
    | true =>
      simp only [ho, cond_true, Option.some.injEq, Prod.mk.injEq] at h
      obtain ⟨rfl, rfl, rfl⟩ := h
      exact ⟨.v v, fun _ => False, by simp [SX.ev], fun _ h => h.elim, fun _ _ h => h.elim, fun _ h => h.elim, fun w2 _ => by simp [Reads, ho]⟩
  · simp only [Option.some.injEq, Prod.mk.injEq] at h
    obtain ⟨rfl, rfl, rfl⟩ := h
    obtain ⟨h1, h2⟩ := sym_ev hR.sv hx
    exact ⟨.v u, fun _ => False, h1, fun _ h => h.elim, fun _ _ h => h.elim, fun _ h => h.elim, fun w2 _ => by simp [Reads, h2]⟩
  · rename_i r
    simp only [Option.bind_eq_some_iff, Option.map_eq_some_iff, Prod.mk.injEq] at h
    obtain ⟨o', ho', e', hr, rfl, rfl, rfl⟩ := h
    obtain ⟨o, v, fp, p, ho, hd, hm, hone, hlt, hfb, hp, hrd⟩ := thing hR (Option.bind_eq_some_iff.2 ⟨o', ho', hr⟩) trivial
    rw [ho'] at ho
    cases ho
    simp only [AV.den, hm, Option.bind_some, hone, cond_true, Option.some.injEq] at hx
    subst hx
    exact ⟨p, fp, hp, hlt, hfb, fun q hq => ⟨r, o', e', v, fp, trivial, ho', hd, hm, hq⟩, hrd⟩
  · cases h
theorem leavesSX_ok {B : Base} {m : Map} {st : St} {w : World} (hR : Rel B (fun _ => True) m st.heap.get w) : ∀ (ks : List (Option Bool)) (xs : List AV) {es : List SX} {fs : List Fact} {us : List Value}, leavesSX st ks xs = some (es, fs) → denL m xs = some us → (∀ f ∈ fs, f.holds B) →
    ∃ ps, evs B.s B.F es = some ps ∧ ps.length = ks.length ∧ us.length = ks.length ∧ ∃ fps : Nat → Nat → Prop, ∀ (i : Nat) (k : Option Bool) (p : PV) (u : Value), ks[i]? = some k → ps[i]? = some p → us[i]? = some u → Leafs B m st w k p u (fps i)
  | [], [], es, fs, us, h, hu, hf => by
    simp only [leavesSX, Option.some.injEq, Prod.mk.injEq] at h
    obtain ⟨rfl, rfl⟩ := h
    simp only [denL, Option.some.injEq] at hu
    subst hu
    exact ⟨[], rfl, rfl, rfl, fun _ _ => False, fun i k p u hk => by simp at hk⟩
  | [], _ :: _, es, fs, us, h, hu, hf => by simp [leavesSX] at h
  | _ :: _, [], es, fs, us, h, hu, hf => by simp [leavesSX] at h
  | k :: ks, x :: xs, es, fs, us, h, hu, hf => by
    simp only [leavesSX, Option.bind_eq_some_iff] at h
    obtain ⟨⟨e, ok, l⟩, he, ⟨es', fs'⟩, hes, h⟩ := h
    simp only [denL, Option.bind_eq_some_iff, Option.map_eq_some_iff] at hu
    obtain ⟨v, hv, us', hus, rfl⟩ := hu
    obtain ⟨p, fp, h1, h2, h3, h4, h5⟩ := cellSX_fp hR he hv
    have fin : es = e :: es' → (∀ f ∈ fs', f.holds B) → Leafs B m st w k p v fp → ∃ ps, evs B.s B.F es = some ps ∧ ps.length = (k :: ks).length ∧ (v :: us').length = (k :: ks).length ∧ ∃ fps : Nat → Nat → Prop, ∀ (i : Nat) (k1 : Option Bool) (p : PV) (u : Value), (k :: ks)[i]? = some k1 → ps[i]? = some p → (v :: us')[i]? = some u → Leafs B m st w k1 p u (fps i) := by
      rintro rfl hf' hl
      obtain ⟨ps, g1, g2, g3, fps, g4⟩ := leavesSX_ok hR ks xs hes hus hf'
      refine ⟨p :: ps, by simp [evs, h1, g1], by simp [g2], by simp [g3], fun i => match i with | 0 => fp | i + 1 => fps i, fun i k1 q u hk hq hu => ?_⟩
      cases i with
      | zero => simp at hk hq hu; subst hk; subst hq; subst hu; exact hl
      | succ i => exact g4 i k1 q u (by simpa using hk) (by simpa using hq) (by simpa using hu)
    cases k with
    | none =>
      simp only [Option.some.injEq, Prod.mk.injEq] at h
      obtain ⟨rfl, rfl⟩ := h
      refine fin rfl (fun f hf' => hf f (by simp [hf'])) ⟨h2, fun h => (by cases h), h4, h5, fun _ => ?_⟩
      obtain ⟨y, hy, _⟩ := hf (.ok e) (by simp)
      have : e.ev B.s B.F = some (.v y) := hy
      rw [h1] at this
      exact ⟨y, Option.some.inj this⟩
    | some b =>
      simp only [cond_eq_ite] at h
      split at h
      · rename_i hc
        simp only [Option.some.injEq, Prod.mk.injEq] at h
        obtain ⟨rfl, rfl⟩ := h
        refine fin rfl hf ⟨h2, fun h => ?_, h4, h5, fun h => by cases h⟩
        cases h
        exact h3 (by simpa using hc)
      · cases h

theorem unfill_us {m : Map} {rho : List (Nat × Nat)} : ∀ (ps : List Pt) (xs : List AV) {ls : List AV} {vs : List Value}, unfill rho ps xs = some ls → denL m xs = some vs → ∃ us, denL m ls = some us
  | [], [], ls, vs, h, hv => by
    simp only [unfill, Option.some.injEq] at h
    subst h
    exact ⟨[], rfl⟩
  | [], _ :: _, ls, vs, h, hv => by simp [unfill] at h
  | .leaf :: ps, [], ls, vs, h, hv => by simp [unfill] at h
  | .agg n :: ps, [], ls, vs, h, hv => by simp [unfill] at h
  | .ptr .. :: ps, [], ls, vs, h, hv => by simp [unfill] at h
  | .own .. :: ps, [], ls, vs, h, hv => by simp [unfill] at h
  | .nil :: ps, [], ls, vs, h, hv => by simp [unfill] at h
  | .nil :: ps, x :: xs, ls, vs, h, hv => by
    cases hn : isNil x with
    | false => simp [unfill, hn] at h
    | true =>
      simp only [unfill, hn, cond_true] at h
      simp only [denL, Option.bind_eq_some_iff, Option.map_eq_some_iff] at hv
      obtain ⟨v1, hv1, vs', hvs, rfl⟩ := hv
      exact unfill_us ps xs h hvs
  | .leaf :: ps, x :: xs, ls, vs, h, hv => by
    simp only [unfill, Option.map_eq_some_iff] at h
    obtain ⟨l, hl, rfl⟩ := h
    simp only [denL, Option.bind_eq_some_iff, Option.map_eq_some_iff] at hv
    obtain ⟨v, hv, vs', hvs, rfl⟩ := hv
    obtain ⟨us, h1⟩ := unfill_us ps xs hl hvs
    exact ⟨v :: us, by simp [denL, hv, h1]⟩
  | .agg n :: ps, x :: xs, ls, vs, h, hv => by
    simp only [unfill, Option.bind_eq_some_iff] at h
    obtain ⟨cs, hcs, h⟩ := h
    cases hn : Nat.beq cs.length n with
    | false => simp [hn] at h
    | true =>
      simp only [hn, cond_true, Option.map_eq_some_iff] at h
      obtain ⟨l, hl, rfl⟩ := h
      simp only [denL, Option.bind_eq_some_iff, Option.map_eq_some_iff] at hv
      obtain ⟨v, hv, vs', hvs, rfl⟩ := hv
      obtain ⟨lv, rfl, hlv⟩ := aggs_ok hcs hv
      obtain ⟨us, h1⟩ := unfill_us ps xs hl hvs
      exact ⟨lv ++ us, denL_append hlv h1⟩
  | .ptr j idx sz sub :: ps, x :: xs, ls, vs, h, hv => by
    cases x with
    | ptr r v idx' sz' sub' =>
      simp only [unfill] at h
      split at h
      · simp only [cond_eq_ite] at h
        split at h
        · simp only [denL, Option.bind_eq_some_iff, Option.map_eq_some_iff] at hv
          obtain ⟨v1, hv1, vs', hvs, rfl⟩ := hv
          exact unfill_us ps xs h hvs
        · cases h
      · cases h
    | _ => simp [unfill] at h
  | .own j k sz :: ps, x :: xs, ls, vs, h, hv => by
    cases x with
    | sliceS r v lo len sz' =>
      simp only [unfill] at h
      split at h
      · simp only [cond_eq_ite] at h
        split at h
        · simp only [denL, Option.bind_eq_some_iff, Option.map_eq_some_iff] at hv
          obtain ⟨v1, hv1, vs', hvs, rfl⟩ := hv
          exact unfill_us ps xs h hvs
        · cases h
      · cases h
    | _ => simp [unfill] at h
/-- What is said of rows of the call's own goes over. -/
def OwnGo (m m2 : Map) (rho : List (Nat × Nat)) (W : List (Nat × Nat × SX)) : Prop := ∀ j k sz r v lo len u, rho[j]? = some (r, v) → isC0 lo = true → (j, k, len) ∈ W → (AV.sliceS r v lo len sz).den m = some u → (AV.sliceS j 0 c0 (.len (.var k)) sz).den m2 = some u
theorem unfill_ok {m m2 : Map} {rho : List (Nat × Nat)} (hm : ∀ j r v, rho[j]? = some (r, v) → m2 j 0 = m r v) {W : List (Nat × Nat × SX)} (ho : OwnGo m m2 rho W) : ∀ (ps : List Pt) (xs : List AV) {ls : List AV} {vs : List Value}, unfill rho ps xs = some ls → denL m xs = some vs → (∀ t ∈ ownUses ps xs, t ∈ W) →
    ∃ us, denL m ls = some us ∧ ∀ (ls' rest : List AV), denL m2 ls' = some us → ∃ xs', fillP ps (ls' ++ rest) = some (xs', rest) ∧ denL m2 xs' = some vs
  | [], [], ls, vs, h, hv, hW => by
    simp only [unfill, Option.some.injEq] at h
    subst h
    refine ⟨[], rfl, fun ls' rest hl => ?_⟩
    have := denL_length hl
    have : ls' = [] := List.eq_nil_of_length_eq_zero (by simpa using this.symm)
    subst this
    exact ⟨[], rfl, hv⟩
  | [], _ :: _, ls, vs, h, hv, hW => by simp [unfill] at h
  | .leaf :: ps, [], ls, vs, h, hv, hW => by simp [unfill] at h
  | .agg n :: ps, [], ls, vs, h, hv, hW => by simp [unfill] at h
  | .ptr .. :: ps, [], ls, vs, h, hv, hW => by simp [unfill] at h
  | .own .. :: ps, [], ls, vs, h, hv, hW => by simp [unfill] at h
  | .nil :: ps, [], ls, vs, h, hv, hW => by simp [unfill] at h
  | .nil :: ps, x :: xs, ls, vs, h, hv, hW => by
    cases hn : isNil x with
    | false => simp [unfill, hn] at h
    | true =>
      simp only [unfill, hn, cond_true] at h
      have hx := isNil_ok hn
      subst hx
      simp only [denL, Option.bind_eq_some_iff, Option.map_eq_some_iff] at hv
      obtain ⟨v1, hv1, vs', hvs, rfl⟩ := hv
      obtain ⟨us, h1, h2⟩ := unfill_ok hm ho ps xs h hvs (fun t ht => hW t (by simpa [ownUses] using ht))
      refine ⟨us, h1, fun ls' rest hl' => ?_⟩
      obtain ⟨xs', g1, g2⟩ := h2 ls' rest hl'
      refine ⟨.val (.slice none 0 0) :: xs', by simp [fillP, g1], ?_⟩
      simp only [AV.den, Option.some.injEq] at hv1
      subst hv1
      simp [denL, AV.den, g2]
  | .leaf :: ps, x :: xs, ls, vs, h, hv, hW => by
    simp only [unfill, Option.map_eq_some_iff] at h
    obtain ⟨l, hl, rfl⟩ := h
    simp only [denL, Option.bind_eq_some_iff, Option.map_eq_some_iff] at hv
    obtain ⟨v, hv, vs', hvs, rfl⟩ := hv
    obtain ⟨us, h1, h2⟩ := unfill_ok hm ho ps xs hl hvs (fun t ht => hW t (by simpa [ownUses] using ht))
    refine ⟨v :: us, by simp [denL, hv, h1], fun ls' rest hl' => ?_⟩
    match ls', hl' with
    | [], hl' => simp [denL] at hl'
    | y :: ys, hl' =>
      simp only [denL, Option.bind_eq_some_iff, Option.map_eq_some_iff] at hl'
      obtain ⟨v', hv', us', hus', he⟩ := hl'
      cases he
      obtain ⟨xs', g1, g2⟩ := h2 ys rest hus'
      exact ⟨y :: xs', by simp [fillP, g1], by simp [denL, hv', g2]⟩
  | .agg n :: ps, x :: xs, ls, vs, h, hv, hW => by
    simp only [unfill, Option.bind_eq_some_iff] at h
    obtain ⟨cs, hcs, h⟩ := h
    cases hn : Nat.beq cs.length n with
    | false => simp [hn] at h
    | true =>
      simp only [hn, cond_true, Option.map_eq_some_iff] at h
      obtain ⟨l, hl, rfl⟩ := h
      have hn' := Nat.eq_of_beq_eq_true hn
      simp only [denL, Option.bind_eq_some_iff, Option.map_eq_some_iff] at hv
      obtain ⟨v, hv, vs', hvs, rfl⟩ := hv
      obtain ⟨lv, rfl, hlv⟩ := aggs_ok hcs hv
      obtain ⟨us, h1, h2⟩ := unfill_ok hm ho ps xs hl hvs (fun t ht => hW t (by simpa [ownUses] using ht))
      have hll := denL_length hlv
      refine ⟨lv ++ us, denL_append hlv h1, fun ls' rest hl' => ?_⟩
      have hlen := denL_length hl'
      simp only [List.length_append] at hlen
      have t1 := denL_take n hl'
      have t2 := denL_drop n hl'
      have e1 : (lv ++ us).take n = lv := by rw [List.take_append_of_le_length (by omega), List.take_of_length_le (by omega)]
      have e2 : (lv ++ us).drop n = us := by rw [List.drop_append_of_le_length (by omega), List.drop_of_length_le (by omega), List.nil_append]
      rw [e1] at t1
      rw [e2] at t2
      obtain ⟨xs', g1, g2⟩ := h2 _ rest t2
      refine ⟨.agg (ls'.take n) :: xs', ?_, by simp [denL, AV.den, t1, g2]⟩
      have hle : Nat.ble n (ls' ++ rest).length = true := by simp; omega
      simp only [fillP, hle, cond_true]
      rw [List.drop_append_of_le_length (by omega), g1, List.take_append_of_le_length (by omega)]
      rfl
  | .ptr j idx sz sub :: ps, x :: xs, ls, vs, h, hv, hW => by
    cases x with
    | ptr r v idx' sz' sub' =>
      simp only [unfill] at h
      split at h
      · rename_i r' v' hj
        simp only [cond_eq_ite, Bool.and_eq_true, Nat.beq_eq] at h
        split at h
        · rename_i hc
          obtain ⟨⟨⟨⟨rfl, rfl⟩, rfl⟩, rfl⟩, rfl⟩ := hc
          simp only [denL, Option.bind_eq_some_iff, Option.map_eq_some_iff] at hv
          obtain ⟨v1, hv1, vs', hvs, rfl⟩ := hv
          obtain ⟨us, h1, h2⟩ := unfill_ok hm ho ps xs h hvs (fun t ht => hW t (by simpa [ownUses] using ht))
          refine ⟨us, h1, fun ls' rest hl' => ?_⟩
          obtain ⟨xs', g1, g2⟩ := h2 ls' rest hl'
          refine ⟨.ptr j 0 idx sz sub :: xs', by simp [fillP, g1], ?_⟩
          have : (AV.ptr j 0 idx sz sub).den m2 = some v1 := by
            rw [← hv1]; simp only [AV.den, hm j r v hj]
          simp [denL, this, g2]
        · cases h
      · cases h
    | _ => simp [unfill] at h
  | .own j k sz :: ps, x :: xs, ls, vs, h, hv, hW => by
    cases x with
    | sliceS r v lo len sz' =>
      simp only [unfill] at h
      split at h
      · rename_i r' v' hj
        simp only [cond_eq_ite, Bool.and_eq_true, Nat.beq_eq] at h
        split at h
        · rename_i hc
          obtain ⟨⟨⟨rfl, rfl⟩, rfl⟩, hc0⟩ := hc
          simp only [denL, Option.bind_eq_some_iff, Option.map_eq_some_iff] at hv
          obtain ⟨v1, hv1, vs', hvs, rfl⟩ := hv
          obtain ⟨us, h1, h2⟩ := unfill_ok hm ho ps xs h hvs (fun t ht => hW t (by simp [ownUses, ht]))
          refine ⟨us, h1, fun ls' rest hl' => ?_⟩
          obtain ⟨xs', g1, g2⟩ := h2 ls' rest hl'
          refine ⟨.sliceS j 0 c0 (.len (.var k)) sz :: xs', by simp [fillP, g1], ?_⟩
          have := ho j k sz r v lo len v1 hj hc0 (hW _ (by simp [ownUses])) hv1
          simp [denL, this, g2]
        · cases h
      · cases h
    | _ => simp [unfill] at h
theorem slotsOf_ok {m : Map} {x : AAct} {a : Act} (h : TRel m x a) : ∀ {ts : List Nat} {ys : List AV}, slotsOf x ts = some ys → ∃ vs, denL m ys = some vs ∧ vs.length = ts.length ∧ ∀ (i t : Nat) (v : Value), ts[i]? = some t → vs[i]? = some v → a.tmps[t]? = some v
  | [], ys, hy => by simp [slotsOf] at hy; subst hy; exact ⟨[], rfl, rfl, fun i t v h => by simp at h⟩
  | t :: ts, ys, hy => by
    simp only [slotsOf, Option.bind_eq_some_iff, Option.map_eq_some_iff] at hy
    obtain ⟨y, hy, zs, hz, rfl⟩ := hy
    obtain ⟨v, hv, hg⟩ := h.get t y hy
    obtain ⟨vs, h1, h2, h3⟩ := slotsOf_ok h hz
    refine ⟨v :: vs, by simp [denL, hv, h1], by simp [h2], fun i t' u ht hu => ?_⟩
    cases i with
    | zero => simp at ht hu; subst ht; subst hu; exact hg
    | succ i => exact h3 i t' u (by simpa using ht) (by simpa using hu)
theorem tmOf_get : ∀ (ts : List Nat) (ys : List AV) (tm : T AV) (k : Nat) (y : AV), small ts = true → (tmOf ts ys tm).get k = some y → (∃ i : Nat, ts[i]? = some k ∧ ys[i]? = some y) ∨ tm.get k = some y
  | [], ys, tm, k, y, _, h => .inr (by simpa [tmOf] using h)
  | t :: ts, [], tm, k, y, _, h => .inr (by simpa [tmOf] using h)
  | t :: ts, z :: ys, tm, k, y, hs, h => by
    simp only [small, List.all_cons, Bool.and_eq_true, Nat.blt_eq] at hs
    simp only [tmOf] at h
    rcases tmOf_get ts ys _ k y hs.2 h with ⟨i, h1, h2⟩ | h
    · exact .inl ⟨i + 1, by simpa using h1, by simpa using h2⟩
    · rw [T.get_set _ _ _ _ _ (show t + 1 < 2 ^ 24 from hs.1)] at h
      by_cases hk : k = t
      · subst hk
        simp at h
        exact .inl ⟨0, rfl, by simp [h]⟩
      · rw [if_neg hk] at h
        exact .inr h
theorem boxesOf_get : ∀ (bs : List BoxT) (css : List (List AV)) (j : Nat) (h : T ARoot) (k : Nat) (o : ARoot), j + bs.length < 16777215 → (boxesOf bs css j h).get k = some o → (∃ (i : Nat) (b : BoxT) (c : List AV), bs[i]? = some b ∧ css[i]? = some c ∧ k = j + i ∧ o = boxRoot b c) ∨ h.get k = some o
  | [], css, j, h, k, o, _, hh => .inr (by simpa [boxesOf] using hh)
  | b :: bs, [], j, h, k, o, _, hh => .inr (by simpa [boxesOf] using hh)
  | b :: bs, c :: css, j, h, k, o, hl, hh => by
    simp only [boxesOf] at hh
    simp only [List.length_cons] at hl
    rcases boxesOf_get bs css (j + 1) _ k o (by omega) hh with ⟨i, b', c', h1, h2, h3, h4⟩ | hh
    · exact .inl ⟨i + 1, b', c', by simpa using h1, by simpa using h2, by omega, h4⟩
    · rw [T.get_set _ _ _ _ _ (show j + 1 < 2 ^ 24 by omega)] at hh
      by_cases hk : k = j
      · subst hk
        simp at hh
        exact .inl ⟨0, b, c, rfl, rfl, rfl, hh.symm⟩
      · rw [if_neg hk] at hh
        exact .inr hh
theorem nodupN_ok : ∀ {l : List Nat} (h : nodupN l = true) (i j : Nat) (r : Nat), l[i]? = some r → l[j]? = some r → i = j
  | [], _, i, j, r, hi, _ => by simp at hi
  | q :: l, h, i, j, r, hi, hj => by
    simp only [nodupN, Bool.and_eq_true, List.all_eq_true, Bool.not_eq_true'] at h
    have hno : ∀ k, l[k]? ≠ some q := fun k hk => by
      have := h.1 q (List.mem_of_getElem? hk)
      simp at this
    cases i with
    | zero =>
      cases j with
      | zero => rfl
      | succ j => simp at hi hj; subst hi; exact absurd hj (hno j)
    | succ i =>
      cases j with
      | zero => simp at hi hj; subst hj; exact absurd hi (hno i)
      | succ j => rw [nodupN_ok h.2 i j r (by simpa using hi) (by simpa using hj)]
theorem leafDats_get : ∀ (ks : List (Option Bool)) (i q : Nat) (x : SX × Bool), (leafDats ks i)[q]? = some x → ∃ (j : Nat) (b : Bool), ks[j]? = some (some b) ∧ x = (.var (i + j), b) ∧ (ks.take j).countP (·.isSome) = q
  | [], i, q, x, h => by simp [leafDats] at h
  | some b :: ks, i, q, x, h => by
    cases q with
    | zero => simp [leafDats] at h; exact ⟨0, b, rfl, by simp [← h], rfl⟩
    | succ q =>
      obtain ⟨j, b', h1, h2, h3⟩ := leafDats_get ks (i + 1) q x (by simpa [leafDats] using h)
      exact ⟨j + 1, b', by simpa using h1, by rw [h2]; congr 2; omega, by simp [h3]⟩
  | none :: ks, i, q, x, h => by
    obtain ⟨j, b', h1, h2, h3⟩ := leafDats_get ks (i + 1) q x (by simpa [leafDats] using h)
    exact ⟨j + 1, b', by simpa using h1, by rw [h2]; congr 2; omega, by simp [h3]⟩
theorem leafDats_len : ∀ (ks : List (Option Bool)) (i : Nat), (leafDats ks i).length = ks.countP (·.isSome)
  | [], i => rfl
  | some b :: ks, i => by simp [leafDats, leafDats_len ks]
  | none :: ks, i => by simp [leafDats, leafDats_len ks]
theorem leafAVs_den {m : Map} : ∀ (ks : List (Option Bool)) (i q : Nat) (us : List Value), us.length = ks.length → (∀ (j : Nat) (u : Value), ks[j]? = some none → us[j]? = some u → (AV.sym (.var (i + j))).den m = some u) →
    (∀ (j : Nat) (b : Bool) (u : Value), ks[j]? = some (some b) → us[j]? = some u → (AV.dat (q + (ks.take j).countP (·.isSome))).den m = some u) → denL m (leafAVs ks i q) = some us
  | [], i, q, us, hl, _, _ => by
    have : us = [] := List.eq_nil_of_length_eq_zero (by simpa using hl)
    subst this; rfl
  | some b :: ks, i, q, [], hl, _, _ => by simp at hl
  | none :: ks, i, q, [], hl, _, _ => by simp at hl
  | some b :: ks, i, q, u :: us, hl, h1, h2 => by
    have ih := leafAVs_den (m := m) ks (i + 1) (q + 1) us (by simpa using hl) (fun j v hk hv => by
      have := h1 (j + 1) v (by simpa using hk) (by simpa using hv)
      rwa [show i + (j + 1) = i + 1 + j by omega] at this) (fun j b' v hk hv => by
      have := h2 (j + 1) b' v (by simpa using hk) (by simpa using hv)
      simp only [List.take_succ_cons, List.countP_cons, Option.isSome_some, if_true] at this
      rwa [show q + ((ks.take j).countP (·.isSome) + 1) = q + 1 + (ks.take j).countP (·.isSome) by omega] at this)
    have h0 := h2 0 b u rfl rfl
    simp only [List.take_zero, List.countP_nil, Nat.add_zero] at h0
    simp only [leafAVs, denL, h0, ih, Option.bind_some, Option.map_some]
  | none :: ks, i, q, u :: us, hl, h1, h2 => by
    have ih := leafAVs_den (m := m) ks (i + 1) q us (by simpa using hl) (fun j v hk hv => by
      have := h1 (j + 1) v (by simpa using hk) (by simpa using hv)
      rwa [show i + (j + 1) = i + 1 + j by omega] at this) (fun j b' v hk hv => by
      have := h2 (j + 1) b' v (by simpa using hk) (by simpa using hv)
      simpa using this)
    have h0 := h1 0 u rfl rfl
    simp only [Nat.add_zero] at h0
    simp only [leafAVs, denL, h0, ih, Option.bind_some, Option.map_some]
end Go.Proofs.Ytfcdbknmajfkaaa.eng
