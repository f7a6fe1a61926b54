/- The disk's contracts for the symbolic engine. -/
import Derived.Test.YteohdkilgigomaaSymA
import Derived.Test.YteohdkilgigomaaDskAt
import Derived.Test.YteohdkilgigomaaSec
namespace Go.Proofs.Yteohdkilgigomaa.symD
open Go Go.RowKit eng dsk
set_option linter.unusedVariables false
set_option linter.unusedSimpArgs false
set_option maxRecDepth 100000

theorem names_ok : GoodP Try.prog := ⟨by kernel_rfl, rfl⟩
theorem mixed_ok : Try.prog.follows .mixedOrders = true := by kernel_rfl

theorem own_reads {α : Type} (E : Enc α) {w : World} {base : Nat} {e : TypeId} {v : Value} {n : Nat} {xs : List α} (h : w.ownsRow base e E.sz v n (E.all xs)) {w2 : World} (hw : ∀ k, base ≤ k ∧ k < w.heap.size → w2.heap[k]? = w.heap[k]?) : Reads w2 (pRow E xs) v := by
  have hr := (RowE.of_own (E := E) h).1
  refine (reads_row E).2 ?_
  rcases h.2 with ⟨rfl, h0⟩ | ⟨g, cap, cur, rfl, hb, hg, _⟩
  · obtain ⟨a, c, he, h1, h2, h3⟩ := hr
    have : xs.length = 0 := by
      simp only [Value.slice.injEq] at he
      omega
    have : xs = [] := List.eq_nil_of_length_eq_zero this
    subst this
    exact RowE.nil E w2
  · obtain ⟨a, c, he, h1, h2, h3⟩ := hr
    refine ⟨a, c, he, h1, h2, fun hp => ?_⟩
    obtain ⟨b, off, rfl, hlt, h4⟩ := h3 hp
    cases he
    have hs : w2.heap[g]? = w.heap[g]? := hw g ⟨hb, hlt⟩
    refine ⟨g, 0, rfl, ?_, fun i u hu => ?_⟩
    · have : (w2.heap[g]?).isSome = true := by rw [hs, hg]; rfl
      rcases Nat.lt_or_ge g w2.heap.size with hl | hl
      · exact hl
      · rw [Array.getElem?_eq_none hl] at this; cases this
    · rw [← h4 i u hu]
      simp only [World.cell?, hs]

/-- A disk's cells. -/
def pD (d : D) : List PV := [pRow encS d.last, pRow encP d.wait, pI (d.arm : Int), pB d.down]
theorem isD_of {w : World} {u0 u1 u2 u3 : Value} {d : D} (h0 : Reads w (pRow encS d.last) u0) (h1 : Reads w (pRow encP d.wait) u1) (h2 : Reads w (pI (d.arm : Int)) u2) (h3 : Reads w (pB d.down) u3) : IsD w (.agg #[u0, u1, u2, u3]) d := by
  simp only [Reads] at h2 h3
  rw [h2.1, h3.1]
  exact IsD.mk' ((reads_row encS).1 h0) ((reads_row encP).1 h1)
theorem plain_reads {w : World} {x : Value} (h : x.oneCell' = true) : Reads w (.v x) x := by simp only [Reads]; exact ⟨trivial, h⟩
theorem own_pD {w w' : World} {v : Value} {d : D} (h : OwnD w.heap.size w' v d) : ∃ u0 u1, v = .agg #[u0, u1, .int .i64 (d.arm : Int), .bool d.down] ∧ ∀ w2 : World, (∀ k, w.heap.size ≤ k ∧ k < w'.heap.size → w2.heap[k]? = w'.heap[k]?) → Reads w2 (pRow encS d.last) u0 ∧ Reads w2 (pRow encP d.wait) u1 := by
  obtain ⟨vl, vw, rfl, h1, h2⟩ := h
  exact ⟨vl, vw, rfl, fun w2 hw2 => ⟨own_reads encS h1 hw2, own_reads encP h2 hw2⟩⟩
theorem dlen {ps : List PV} {us : List Value} (h : us.length = ps.length) : us.length = ps.length := h

/-- What is answered: a disk, and whether. -/
theorem fin_DB {f : FuncId} {args : Array Value} {w : World} {FP : Nat → Prop} {d' : D} {b : Bool} (h : Calls Try.prog f args w (TellsDB w d' b)) : Calls Try.prog f args w fun e w' => ∃ us' : List Value, us'.length = (pD d' ++ [pB b]).length ∧ (pD d' ++ [pB b]).length = shLen [some 4, none] ∧
      (∀ (i : Nat) (q : PV) (u : Value), (pD d' ++ [pB b])[i]? = some q → us'[i]? = some u → ∀ w2 : World, (∀ k, FP k ∨ (w.heap.size ≤ k ∧ k < w'.heap.size) → w2.heap[k]? = w'.heap[k]?) → Reads w2 q u) ∧
      e = .returned (answer [some 4, none] us') ∧ Ex w w' := by
  refine h.mono ?_
  rintro e w' ⟨v, rfl, ho, hex⟩
  obtain ⟨u0, u1, rfl, hr⟩ := own_pD ho
  refine ⟨[u0, u1, .int .i64 (d'.arm : Int), .bool d'.down, .bool b], rfl, rfl, fun i q u hq hu w2 hw2 => ?_, rfl, hex⟩
  obtain ⟨r0, r1⟩ := hr w2 (fun k hk => hw2 k (.inr hk))
  match i, hq, hu with
  | 0, hq, hu => simp [pD] at hq hu; subst hq; subst hu; exact r0
  | 1, hq, hu => simp [pD] at hq hu; subst hq; subst hu; exact r1
  | 2, hq, hu => simp [pD] at hq hu; subst hq; subst hu; exact plain_reads rfl
  | 3, hq, hu => simp [pD] at hq hu; subst hq; subst hu; exact plain_reads rfl
  | 4, hq, hu => simp [pD] at hq hu; subst hq; subst hu; exact plain_reads rfl
  | i + 5, hq, hu => simp [pD] at hq
theorem fin_D {f : FuncId} {args : Array Value} {w : World} {FP : Nat → Prop} {d' : D} (h : Calls Try.prog f args w (TellsD w d')) : Calls Try.prog f args w fun e w' => ∃ us' : List Value, us'.length = (pD d').length ∧ (pD d').length = shLen [some 4] ∧
      (∀ (i : Nat) (q : PV) (u : Value), (pD d')[i]? = some q → us'[i]? = some u → ∀ w2 : World, (∀ k, FP k ∨ (w.heap.size ≤ k ∧ k < w'.heap.size) → w2.heap[k]? = w'.heap[k]?) → Reads w2 q u) ∧
      e = .returned (answer [some 4] us') ∧ Ex w w' := by
  refine h.mono ?_
  rintro e w' ⟨v, rfl, ho, hex⟩
  obtain ⟨u0, u1, rfl, hr⟩ := own_pD ho
  refine ⟨[u0, u1, .int .i64 (d'.arm : Int), .bool d'.down], rfl, rfl, fun i q u hq hu w2 hw2 => ?_, rfl, hex⟩
  obtain ⟨r0, r1⟩ := hr w2 (fun k hk => hw2 k (.inr hk))
  match i, hq, hu with
  | 0, hq, hu => simp [pD] at hq hu; subst hq; subst hu; exact r0
  | 1, hq, hu => simp [pD] at hq hu; subst hq; subst hu; exact r1
  | 2, hq, hu => simp [pD] at hq hu; subst hq; subst hu; exact plain_reads rfl
  | 3, hq, hu => simp [pD] at hq hu; subst hq; subst hu; exact plain_reads rfl
  | i + 4, hq, hu => simp [pD] at hq
theorem len1 {us : List Value} (h : us.length = 1) : ∃ a, us = [a] := by match us, h with | [a], _ => exact ⟨a, rfl⟩
theorem len4 {us : List Value} (h : us.length = 4) : ∃ a b c d, us = [a, b, c, d] := by match us, h with | [a, b, c, d], _ => exact ⟨a, b, c, d, rfl⟩
theorem len5 {us : List Value} (h : us.length = 5) : ∃ a b c d e, us = [a, b, c, d, e] := by match us, h with | [a, b, c, d, e], _ => exact ⟨a, b, c, d, e, rfl⟩
theorem len6 {us : List Value} (h : us.length = 6) : ∃ a b c d e f, us = [a, b, c, d, e, f] := by match us, h with | [a, b, c, d, e, f], _ => exact ⟨a, b, c, d, e, f, rfl⟩

/-! New. -/
def RNew (ps qs : List PV) : Prop := ∃ n : Int, ps = [pI n] ∧ qs = pD (newD n)
def ENew (k : Nat) : FnE := { k := k, ins := [none], leaks := [], outs := [some 4], kinds := [.row, .row, .num, .num] }
theorem fNew : ∀ ps q1 q2, RNew ps q1 → RNew ps q2 → q1 = q2 := by
  rintro ps q1 q2 ⟨n, rfl, rfl⟩ ⟨n', h, rfl⟩
  simp at h; subst h; rfl
theorem toldNew (k : Nat) : ToldF 22 (ENew k) (spec RNew) := by
  intro w FP us ps qs hs hul hpl hFP hrd
  obtain ⟨n, rfl, rfl⟩ := of_spec hs
  obtain ⟨a, rfl⟩ := len1 hul
  have h0 := (hrd 0 _ _ rfl rfl).1
  simp only [Reads] at h0
  rw [h0.1]
  exact fin_D (new_any n w)

/-! Read. -/
def RRead (ps qs : List PV) : Prop := ∃ (d : D) (i : Int), d.ok ∧ ps = pD d ++ [pI i] ∧ qs = [pS (readD d i).1, pB (readD d i).2]
def ERead (k : Nat) : FnE := { k := k, ins := [some 4, none], leaks := [], outs := [none, none], kinds := [.num, .truth] }
theorem pRow_inj {α : Type} {E : Enc α} (hinj : ∀ xs ys : List α, E.all xs = E.all ys → xs = ys) {xs ys : List α} (h : pRow E xs = pRow E ys) : xs = ys := by
  simp only [pRow, PV.row.injEq] at h
  refine hinj xs ys ?_
  have := congrArg (List.map fun p => (PV.plain p).getD undef) h.2
  simpa [List.map_map, Function.comp_def, PV.plain] using this
theorem encS_inj : ∀ xs ys : List ByteArray, encS.all xs = encS.all ys → xs = ys
  | [], [], _ => rfl
  | [], _ :: _, h => by simp [Enc.all, encS] at h
  | _ :: _, [], h => by simp [Enc.all, encS] at h
  | x :: xs, y :: ys, h => by
    rw [Enc.all_cons, Enc.all_cons] at h
    simp only [encS, List.cons_append, List.nil_append, List.cons.injEq, Value.string.injEq] at h
    rw [h.1, encS_inj xs ys h.2]
theorem encP_inj : ∀ xs ys : List (Nat × ByteArray), encP.all xs = encP.all ys → xs = ys
  | [], [], _ => rfl
  | [], _ :: _, h => by simp [Enc.all, encP] at h
  | _ :: _, [], h => by simp [Enc.all, encP] at h
  | x :: xs, y :: ys, h => by
    rw [Enc.all_cons, Enc.all_cons] at h
    obtain ⟨h1, h2⟩ := List.append_inj h (by rw [encP.len, encP.len])
    simp only [encP, List.cons.injEq, Value.int.injEq, Value.string.injEq, Int.ofNat_inj, true_and, and_true] at h1
    rw [Prod.ext h1.1 h1.2, encP_inj xs ys h2]
theorem pD_inj {d d' : D} (h : pD d = pD d') : d = d' := by
  simp only [pD, List.cons.injEq, PV.v.injEq, Value.int.injEq, Value.bool.injEq, and_true, true_and] at h
  obtain ⟨h1, h2, h3, h4⟩ := h
  obtain ⟨a, b, c, e⟩ := d
  obtain ⟨a', b', c', e'⟩ := d'
  have := pRow_inj encS_inj h1
  have := pRow_inj encP_inj h2
  simp only at *
  subst_vars
  have : c = c' := by omega
  rw [this]
theorem pD_app {d d' : D} {x y : List PV} (h : pD d ++ x = pD d' ++ y) : d = d' ∧ x = y := by
  have := List.append_inj h rfl
  exact ⟨pD_inj this.1, this.2⟩
theorem fRead : ∀ ps q1 q2, RRead ps q1 → RRead ps q2 → q1 = q2 := by
  rintro ps q1 q2 ⟨d, i, _, rfl, rfl⟩ ⟨d', i', _, h, rfl⟩
  obtain ⟨rfl, h⟩ := pD_app h
  simp at h; subst h; rfl
theorem toldRead (k : Nat) : ToldF 26 (ERead k) (spec RRead) := by
  intro w FP us ps qs hs hul hpl hFP hrd
  obtain ⟨d, i, ok, rfl, rfl⟩ := of_spec hs
  obtain ⟨a, b, c, e, x, rfl⟩ := len5 hul
  have hd := isD_of (hrd 0 _ _ rfl rfl).1 (hrd 1 _ _ rfl rfl).1 (hrd 2 _ _ rfl rfl).1 (hrd 3 _ _ rfl rfl).1
  have h4 := (hrd 4 _ _ rfl rfl).1
  simp only [Reads] at h4
  rw [h4.1]
  refine (read_any _ d i w hd ok).mono ?_
  rintro e w' ⟨rfl, hex⟩
  refine ⟨[.string (readD d i).1, .bool (readD d i).2], rfl, rfl, fun j q u hq hu w2 _ => ?_, rfl, hex⟩
  match j, hq, hu with
  | 0, hq, hu => simp at hq hu; subst hq; subst hu; exact plain_reads rfl
  | 1, hq, hu => simp at hq hu; subst hq; subst hu; exact plain_reads rfl
  | j + 2, hq, hu => simp at hq

/-! Write. -/
def RWrite (ps qs : List PV) : Prop := ∃ (d : D) (i : Int) (b : ByteArray), d.ok ∧ ps = pD d ++ [pI i, pS b] ∧ qs = pD (writeD d i b).1 ++ [pB (writeD d i b).2]
def EWrite (k : Nat) : FnE := { k := k, ins := [some 4, none, none], leaks := [], outs := [some 4, none], kinds := [.row, .row, .num, .num, .truth] }
theorem fWrite : ∀ ps q1 q2, RWrite ps q1 → RWrite ps q2 → q1 = q2 := by
  rintro ps q1 q2 ⟨d, i, b, _, rfl, rfl⟩ ⟨d', i', b', _, h, rfl⟩
  obtain ⟨rfl, h⟩ := pD_app h
  simp at h; obtain ⟨rfl, rfl⟩ := h; rfl
theorem toldWrite (k : Nat) : ToldF 27 (EWrite k) (spec RWrite) := by
  intro w FP us ps qs hs hul hpl hFP hrd
  obtain ⟨d, i, s, ok, rfl, rfl⟩ := of_spec hs
  obtain ⟨a, b, c, e, x, y, rfl⟩ := len6 hul
  have hd := isD_of (hrd 0 _ _ rfl rfl).1 (hrd 1 _ _ rfl rfl).1 (hrd 2 _ _ rfl rfl).1 (hrd 3 _ _ rfl rfl).1
  have h4 := (hrd 4 _ _ rfl rfl).1
  have h5 := (hrd 5 _ _ rfl rfl).1
  simp only [Reads] at h4 h5
  rw [h4.1, h5.1]
  exact fin_DB (write_any _ d i s w hd ok)

/-! Flush. -/
def RFlush (ps qs : List PV) : Prop := ∃ d : D, d.ok ∧ ps = pD d ∧ qs = pD (flush2 d).1 ++ [pB (flush2 d).2]
def EFlush (k : Nat) : FnE := { k := k, ins := [some 4], leaks := [], outs := [some 4, none], kinds := [.row, .row, .num, .num, .truth] }
theorem fFlush : ∀ ps q1 q2, RFlush ps q1 → RFlush ps q2 → q1 = q2 := by
  rintro ps q1 q2 ⟨d, _, rfl, rfl⟩ ⟨d', _, h, rfl⟩
  rw [pD_inj h]
theorem toldFlush (k : Nat) : ToldF 23 (EFlush k) (spec RFlush) := by
  intro w FP us ps qs hs hul hpl hFP hrd
  obtain ⟨d, ok, rfl, rfl⟩ := of_spec hs
  obtain ⟨a, b, c, e, rfl⟩ := len4 hul
  have hd := isD_of (hrd 0 _ _ rfl rfl).1 (hrd 1 _ _ rfl rfl).1 (hrd 2 _ _ rfl rfl).1 (hrd 3 _ _ rfl rfl).1
  exact fin_DB (flush_any _ d w hd ok)

/-! A sector out of a number. -/
def RSec (ps qs : List PV) : Prop := ∃ n : Nat, n < 256 ∧ ps = [pU (n : Int)] ∧ qs = [pS (sec.sec n)]
def ESec (k : Nat) : FnE := { k := k, ins := [none], leaks := [], outs := [none], kinds := [.num] }
theorem fSec : ∀ ps q1 q2, RSec ps q1 → RSec ps q2 → q1 = q2 := by
  rintro ps q1 q2 ⟨n, _, rfl, rfl⟩ ⟨n', _, h, rfl⟩
  simp at h; have : n = n' := by omega
  rw [this]
theorem toldSec (k : Nat) : ToldF 29 (ESec k) (spec RSec) := by
  intro w FP us ps qs hs hul hpl hFP hrd
  obtain ⟨n, hn, rfl, rfl⟩ := of_spec hs
  obtain ⟨a, rfl⟩ := len1 hul
  have h0 := (hrd 0 _ _ rfl rfl).1
  simp only [Reads] at h0
  rw [h0.1]
  refine (sec.sector_any n hn w).mono ?_
  rintro e w' ⟨rfl, hex⟩
  refine ⟨[.string (sec.sec n)], rfl, rfl, fun j q u hq hu w2 _ => ?_, rfl, hex⟩
  match j, hq, hu with
  | 0, hq, hu => simp at hq hu; subst hq; subst hu; exact plain_reads rfl
  | j + 1, hq, hu => simp at hq
end Go.Proofs.Yteohdkilgigomaa.symD
