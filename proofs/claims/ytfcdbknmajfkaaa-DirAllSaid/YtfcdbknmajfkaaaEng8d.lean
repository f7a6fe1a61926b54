/- The engine: rows of the call's own of unknown length: made, appended to, copied, cut; texts. -/
import Derived.Test.YtfcdbknmajfkaaaEng8c
namespace Go.Proofs.Ytfcdbknmajfkaaa.eng
open Go Go.RowKit
variable {W0 : Base}
set_option linter.unusedVariables false
set_option linter.unusedSimpArgs false

theorem flat_get {α : Type} (l : List α) (h0 : 0 < l.length) : ∀ (n i : Nat), (List.replicate n l).flatten[i]? = if i < n * l.length then l[i % l.length]? else none
  | 0, i => by simp
  | n + 1, i => by
    rw [List.replicate_succ, List.flatten_cons, List.getElem?_append]
    by_cases h : i < l.length
    · rw [if_pos h, if_pos (by rw [Nat.add_mul]; omega), Nat.mod_eq_of_lt h]
    · rw [if_neg h, flat_get l h0 n]
      have e : i % l.length = (i - l.length) % l.length := Nat.mod_eq_sub_mod (by omega)
      rw [e]
      by_cases h2 : i - l.length < n * l.length
      · rw [if_pos h2, if_pos (by rw [Nat.add_mul]; omega)]
      · rw [if_neg h2, if_neg (by rw [Nat.add_mul]; omega)]
theorem flat_len {α : Type} (l : List α) (n : Nat) : (List.replicate n l).flatten.length = n * l.length := by
  induction n with
  | zero => simp
  | succ n ih => rw [List.replicate_succ, List.flatten_cons, List.length_append, ih, Nat.add_mul]; omega
theorem flat_map {α β : Type} (f : α → β) (l : List α) (n : Nat) : (List.replicate n (l.map f)).flatten = (List.replicate n l).flatten.map f := by
  induction n with
  | zero => rfl
  | succ n ih => simp only [List.replicate_succ, List.flatten_cons, List.map_append, ih]
theorem modCells (z : Array Value) (n : Nat) (h0 : 0 < z.size) : ((Array.range (n * z.size)).map fun i => z[i % z.size]!).toList = (List.replicate n z.toList).flatten := by
  apply List.ext_getElem?
  intro i
  rw [flat_get _ (by simpa using h0)]
  simp only [Array.length_toList, Array.toList_map, List.getElem?_map, Array.toList_range]
  by_cases h : i < n * z.size
  · have hm : i % z.size < z.size := Nat.mod_lt _ h0
    rw [List.getElem?_range h, if_pos h]
    simp [hm]
  · rw [if_neg h, List.getElem?_eq_none (by simp; omega)]
    rfl

theorem le_maxLen {a : Nat} (h : a ≤ 9223372036854775807) : a ≤ maxLen := by
  have : (9223372036854775807 : Nat) ≤ maxLen := by unfold maxLen; simp [IntKind.max]
  omega
/-- A zero value that rows are made of. -/
def zOk1 (i : TypeInfo) (z : Value) : Bool := Nat.blt 0 i.size && Nat.ble i.bytes 16384 && Nat.beq z.cells.size i.size && z.cells.toList.all oneV
theorem zOk1_ok {i : TypeInfo} {z : Value} (h : zOk1 i z = true) : 0 < i.size ∧ i.bytes ≤ 16384 ∧ z.cells.size = i.size ∧ ∀ u ∈ z.cells.toList, u.oneCell' = true := by
  simp only [zOk1, Bool.and_eq_true, Nat.blt_eq, Nat.ble_eq, Nat.beq_eq, List.all_eq_true] at h
  obtain ⟨⟨⟨h1, h2⟩, h3⟩, h4⟩ := h
  exact ⟨h1, h2, h3, fun u hu => oneV_ok (h4 u hu)⟩
theorem ev_rep {k : SX} {z : List Value} {n : Nat} (h : W0.ev k = some (.v (.int .i64 (n : Int)))) : W0.ev (.rop (.rep z) [k]) = some (.row n ((List.replicate n z).flatten.map PV.v)) := by
  have h' : k.ev W0.s W0.F = some (.v (.int .i64 (n : Int))) := h
  simp [Base.ev, SX.ev, evs, h', ropPV, ← flat_map]
theorem flat_one {z : List Value} {n : Nat} (h : ∀ u ∈ z, u.oneCell' = true) : ∀ u ∈ (List.replicate n z).flatten, u.oneCell' = true := fun u hu => by
  rw [List.mem_flatten] at hu
  obtain ⟨l, hl, hu⟩ := hu
  rw [List.mem_replicate] at hl
  rw [hl.2] at hu
  exact h u hu
/-- Such cells are what is in such a row. -/
theorem rowAt_of {w : World} {e : SX} {el : TypeId} {sz v : Nat} {b : Nat × Nat} {n : Nat} {vs : List Value} {c : Array Value} {fz : Nat × Nat} (h1 : W0.ev e = some (.row n (vs.map PV.v))) (h2 : w.heap[b.1]? = some (.cells c el fz)) (h3 : ∀ i, i < c.size → ¬ (fz.1 ≤ i ∧ i < fz.2)) (h4 : 0 < sz) (h5 : vs.length = n * sz)
    (h6 : n ≤ b.2) (h7 : c.size = b.2 * sz) (h8 : b.2 ≤ maxLen) (h9 : ∀ (i : Nat) (x : Value), vs[i]? = some x → c[i]? = some x) (h10 : ∀ x ∈ vs, x.oneCell' = true) : RowAt W0 w (symRoot e el sz v) b e := by
  refine ⟨n, _, c, fz, h1, h2, h3, h4, (List.length_map _).trans h5, h6, h7, h8, fun i p hi => ?_⟩
  rw [List.getElem?_map, Option.map_eq_some_iff] at hi
  obtain ⟨x, hx, rfl⟩ := hi
  exact ⟨x, rfl, h10 x (List.mem_of_getElem? hx), h9 i x hx⟩
/-- What is in such a row, as plain values. -/
theorem row_vals {cs : List PV} {c : Array Value} (h : ∀ (i : Nat) (p : PV), cs[i]? = some p → ∃ v : Value, p = PV.v v ∧ v.oneCell' = true ∧ c[i]? = some v) : ∃ vs : List Value, cs = vs.map PV.v ∧ (∀ x ∈ vs, x.oneCell' = true) ∧ ∀ (i : Nat) (x : Value), vs[i]? = some x → c[i]? = some x := by
  refine ⟨cs.map fun p => (PV.plain p).getD undef, ?_, ?_, ?_⟩
  · apply List.ext_getElem?
    intro i
    rw [List.getElem?_map, List.getElem?_map]
    cases hi : cs[i]? with
    | none => rfl
    | some p =>
      obtain ⟨v, rfl, _⟩ := h i p hi
      rfl
  · intro x hx
    obtain ⟨i, hi⟩ := List.getElem?_of_mem hx
    rw [List.getElem?_map, Option.map_eq_some_iff] at hi
    obtain ⟨p, hp, rfl⟩ := hi
    obtain ⟨v, rfl, h2, _⟩ := h i p hp
    exact h2
  · intro i x hi
    rw [List.getElem?_map, Option.map_eq_some_iff] at hi
    obtain ⟨p, hp, rfl⟩ := hi
    obtain ⟨v, rfl, _, h3⟩ := h i p hp
    exact h3

/-! A row is made. -/
def aMakeS (P : Program) (st : St) (t : TypeId) (l c : AV) : Option (AV × St × Log) := match P.underlying t, l.sx, c.sx with
  | some (.slice e), some el, some ec => (P.info? e).bind fun i => i.zero.bind fun z => cond (zOk1 i z)
      ((st.allocS (.rop (.rep z.cells.toList) [el]) e i.size).map fun (y, st', lg) => (y, st', lg.or ((Log.says (.same el ec)).or (Log.says (.upto el 4294967296))))) none
  | _, _, _ => none
theorem aMakeS_ok {P : Program} {st st' : St} {t : TypeId} {l c y : AV} {lg : Log} {A : Nat → Prop} {m : Map} {w : World} {vl vc : Value} (h : aMakeS P st t l c = some (y, st', lg)) (hA : lg.Fits W0 A)
    (hR : Rel W0 A m st.heap.get w) (hF : Fresh A m st.next) (hl : l.den m = some vl) (hc : c.den m = some vc) : ∃ m' w' v, y.den m' = some v ∧ (Instr.makeSlice t vl vc).run P w = .ok v w' ∧ Ok W0 A m st w m' st' lg w' := by
  unfold aMakeS at h
  split at h
  · rename_i e el ec hu hls hcs
    simp only [Option.bind_eq_some_iff] at h
    obtain ⟨i, hi, z, hz, h⟩ := h
    cases hzo : zOk1 i z with
    | false => simp [hzo] at h
    | true =>
      simp only [hzo, cond_true, Option.map_eq_some_iff] at h
      obtain ⟨⟨y1, s1, l1⟩, hal, he⟩ := h
      cases he
      obtain ⟨z1, z2, z3, z4⟩ := zOk1_ok hzo
      obtain ⟨n, f1, f2⟩ := (or_A (or_A hA).2).1.2 _ (List.mem_singleton.2 rfl)
      obtain ⟨n', f3, f4⟩ := (or_A (or_A hA).2).2.2 _ (List.mem_singleton.2 rfl)
      rw [f1] at f3
      simp only [Option.some.injEq, PV.v.injEq, Value.int.injEq, true_and, Int.ofNat_inj] at f3
      subst f3
      have hvl := sx_ok hR.sv l hls hl
      have hvc := sx_ok hR.sv c hcs hc
      rw [f1] at hvl
      rw [f2] at hvc
      cases hvl
      cases hvc
      have hb : (i.bytes : Int) * (n : Int) ≤ 281474976710656 := by
        have := Nat.mul_le_mul z2 f4
        rw [← Int.natCast_mul]
        omega
      have hrun := run_make (P := P) w t e i z hu hi hz .i64 .i64 n n (by omega) (Int.le_refl _) hb (by omega)
      have hcells : (madeCells z.cells (n * i.size)).toList = (List.replicate n z.cells.toList).flatten := by
        rw [← z3]; exact modCells z.cells n (by omega)
      have hwk : ∀ k, k < w.heap.size → (w.alloc (.cells (madeCells z.cells (n * i.size)) e)).heap[k]? = w.heap[k]? := fun k hk => by
        show (w.heap.push _)[k]? = _
        rw [Array.getElem?_push, if_neg (by omega)]
      have hwn : (w.alloc (.cells (madeCells z.cells (n * i.size)) e)).heap[w.heap.size]? = some (.cells (madeCells z.cells (n * i.size)) e) := by
        show (w.heap.push _)[w.heap.size]? = _
        simp
      have hrow : RowAt W0 (w.alloc (.cells (madeCells z.cells (n * i.size)) e)) (symRoot (.rop (.rep z.cells.toList) [el]) e i.size 0) (w.heap.size, n) (.rop (.rep z.cells.toList) [el]) :=
        rowAt_of (fz := (0, 0)) (ev_rep f1) hwn (fun _ _ => by omega) z1 (by rw [flat_len]; simp [z3]) (Nat.le_refl _) (size_madeCells _ _) (le_maxLen (by omega)) (fun j x hx => by rw [← hcells] at hx; simpa using hx) (flat_one z4)
      obtain ⟨g1, g2⟩ := allocS_ok (tot := n) (w' := w.alloc (.cells (madeCells z.cells (n * i.size)) e)) hal (or_A hA).1 hR hF rfl rfl rfl (by show w.heap.size ≤ (w.heap.push _).size; simp) hwk (ev_rep f1) hrow
      refine ⟨_, _, _, g1, ?_, g2.more (fun r hr => bit_or_l hr)⟩
      simpa using hrun
  · cases h

/-! What is appended, or copied. -/
def wantLen (e len : SX) : Log := Log.says (.same len (.len e))
def srcS (P : Program) (st : St) (i : TypeInfo) (tx : TypeId) (x : AV) : Option (SX × Log) :=
  match P.underlying tx with
  | some .string => cond (Nat.beq i.size 1) (x.sx.map fun s => (.rop .ofStr [s], Log.says (.ok (.slen s)))) none
  | some (.slice _) => match x with
    | .sliceS r v lo len sz => cond (isC0 lo && Nat.beq sz i.size) ((lookS st r v).bind fun (e, el, esz) => cond (Nat.beq esz sz) (some (e, (Log.sees r).or (wantLen e len))) none) none
    | .dat r => cond (Nat.blt 0 i.size) (((st.heap.get r).bind (·.dat)).map fun e => (e, (Log.sees r).or (Log.says (.cells e i.size)))) none
    | x => (aSrc st i.size x).bind fun (n, ys, l1) => (sxL ys).map fun es => (.lit n es, l1)
  | some (.int _) => match x.sx, i.zero with
    | some k, some z => cond (zOk1 i z) (some (.rop (.rep z.cells.toList) [k], Log.says (.upto k 4294967296))) none
    | _, _ => none
  | _ => none
theorem ev_ofStr {e : SX} {s : ByteArray} (h : W0.ev e = some (.v (.string s))) : W0.ev (.rop .ofStr [e]) = some (.row s.size ((byteCells s).map PV.v)) := by
  have h' : e.ev W0.s W0.F = some (.v (.string s)) := h
  simp [Base.ev, SX.ev, evs, h', ropPV, byteCells, Function.comp_def]
theorem slen_str {e : SX} (h : (Fact.ok (.slen e)).holds W0) : ∃ s, W0.ev e = some (.v (.string s)) := by
  obtain ⟨x, hx, _⟩ := h
  simp only [Base.ev, SX.ev, Option.bind_eq_some_iff] at hx
  obtain ⟨p, hp, hx⟩ := hx
  unfold slenPV at hx
  split at hx
  · exact ⟨_, hp⟩
  · cases hx
theorem srcS_ok {P : Program} {st : St} {i : TypeInfo} {tx : TypeId} {x : AV} {en : SX} {lg : Log} {A : Nat → Prop} {m : Map} {w : World} {u : Value} (h : srcS P st i tx x = some (en, lg)) (hA : lg.Fits W0 A) (hR : Rel W0 A m st.heap.get w) (hx : x.den m = some u) :
    ∃ (n : Nat) (vn : List Value), W0.ev en = some (.row n (vn.map PV.v)) ∧ SrcA P i tx u n vn w := by
  unfold srcS at h
  split at h
  · rename_i hu
    simp only [cond_eq_ite, Nat.beq_eq] at h
    split at h
    · rename_i hs
      simp only [Option.map_eq_some_iff] at h
      obtain ⟨s, hsx, h⟩ := h
      cases h
      obtain ⟨str, hstr⟩ := slen_str (hA.2 _ (List.mem_singleton.2 rfl))
      have := sx_ok hR.sv x hsx hx
      rw [hstr] at this
      cases this
      have hsrc := Src.ofString (P := P) w hu str
      rw [← hs] at hsrc
      exact ⟨str.size, byteCells str, ev_ofStr hstr, .inl hsrc⟩
    · cases h
  · rename_i e' hu
    split at h
    · rename_i r v lo len sz
      simp only [cond_eq_ite, Bool.and_eq_true, Nat.beq_eq] at h
      split at h
      · rename_i hc
        simp only [Option.bind_eq_some_iff] at h
        obtain ⟨⟨e, el, esz⟩, hl, h⟩ := h
        split at h
        · rename_i hs
          cases h
          have hsz : esz = i.size := hs.trans hc.2
          have ha : A r := (or_A hA).1.1 r (by simp [Log.sees, bit_one])
          obtain ⟨n, f1, f2⟩ := (or_A hA).2.2 _ (List.mem_singleton.2 rfl)
          obtain ⟨b, l, n', hb, h1, h2, rfl⟩ := sliceS_inv hR.sv hx
          rw [isC0_ok hc.1] at h1
          rw [f1] at h2
          simp only [Option.some.injEq, PV.v.injEq, Value.int.injEq, true_and, Int.ofNat_inj] at h1 h2
          have hl0 : l = 0 := by omega
          subst hl0
          subst h2
          obtain ⟨k, cs, c, fz, g1, g2, g3, g4, g5, g6, g7, g8, g9⟩ := lookS_row hl hR ha hb
          rw [ev_len g1] at f2
          simp only [Option.some.injEq, PV.v.injEq, Value.int.injEq, true_and, Int.ofNat_inj] at f2
          subst f2
          obtain ⟨vs, rfl, v1, v2⟩ := row_vals g9
          refine ⟨k, vs, g1, .inl ?_⟩
          refine Src.ofSlice w hu _ k _ vs (by rw [← hsz]; simpa using g5) (fun j x hj => ?_) v1
          rw [addr_add]
          simp only [World.cell?, g2, Nat.zero_mul, Nat.zero_add]
          exact v2 j x hj
        · cases h
      · cases h
    · rename_i r
      simp only [cond_eq_ite, Nat.blt_eq] at h
      split at h
      · rename_i hs0
        simp only [Option.map_eq_some_iff] at h
        obtain ⟨e, hr, h⟩ := h
        cases h
        obtain ⟨n, vs, f1, f2, f3, f4⟩ := (or_A hA).2.2 _ (List.mem_singleton.2 rfl)
        obtain ⟨oo, u', fp, p, _, _, hm, hou, _, _, hp, hrd⟩ := thing hR hr ((or_A hA).1.1 r (by simp [Log.sees, bit_one]))
        simp only [AV.den, hm, Option.bind_some, hou, cond_true, Option.some.injEq] at hx
        subst hx
        rw [hp] at f1
        cases f1
        have := hrd w (fun _ _ => rfl)
        simp only [Reads] at this
        obtain ⟨a, cap, rfl, h1, h2, h3⟩ := this
        refine ⟨n, vs, hp, .inl ?_⟩
        rcases h3 with h3 | ⟨b, off, rfl, h3⟩
        · have hv : vs = [] := by simpa using h3
          subst hv
          have hn : n = 0 := by
            simp only [List.length_nil] at f2
            rcases Nat.mul_eq_zero.1 f2.symm with h | h <;> omega
          subst hn
          cases a with
          | none => exact Src.ofNil w hu cap
          | some a => exact Src.ofSlice w hu a 0 cap [] (by simp) (fun j u hj => by simp at hj) (by simp)
        · refine Src.ofSlice w hu _ n cap vs f2 (fun j x hj => ?_) f4
          obtain ⟨u, hu', hru⟩ := ReadsL.at h3 (i := j) (p := .v x) (by simp [hj])
          simp only [Reads] at hru
          rw [addr_add, hu', hru.1]
      · cases h
    · simp only [Option.bind_eq_some_iff, Option.map_eq_some_iff] at h
      obtain ⟨⟨n, ys, l1⟩, hs, es, hes, h⟩ := h
      cases h
      obtain ⟨vs, hd, hsrc⟩ := aSrc_ok (P := P) (tx := tx) hs (by unfold kindOk; rw [hu]) hA hR hx
      obtain ⟨ps, p1, p2⟩ := sxL_ok hR.sv ys hes hd
      refine ⟨n, vs, ?_, .inl hsrc⟩
      rw [← plainL_len p2]
      simp [Base.ev, SX.ev, p1]
  · rename_i kn hu
    split at h
    · rename_i k z hk hz
      simp only [cond_eq_ite] at h
      split at h
      · rename_i hzo
        cases h
        obtain ⟨z1, z2, z3, z4⟩ := zOk1_ok hzo
        obtain ⟨n, f1, f2⟩ := hA.2 _ (List.mem_singleton.2 rfl)
        have := sx_ok hR.sv x hk hx
        rw [f1] at this
        cases this
        refine ⟨n, (List.replicate n z.cells.toList).flatten, ev_rep f1, .inr ⟨⟨kn, hu⟩, ⟨.i64, rfl⟩, z1, ?_, by omega, z, hz, z3, z4, (modCells z.cells n (by omega)).symm⟩⟩
        have := Nat.mul_le_mul f2 z2
        omega
      · cases h
    · cases h
  · cases h

/-! append. -/
def aAppendS (P : Program) (st : St) (t tx : TypeId) (s x : AV) : Option (AV × St × Log) := match P.underlying t, s with
  | some (.slice e), .sliceS r v lo len sz => (P.info? e).bind fun i => (lookS st r v).bind fun (eo, el, esz) => cond (isC0 lo && Nat.beq sz i.size && Nat.beq esz i.size && Nat.beq el e && zeroFits i && Nat.blt 0 i.size && Nat.ble i.bytes 16384)
      ((srcS P st i tx x).bind fun (en, l1) => (st.put r (symRoot (.rop .cat [eo, en]) e i.size (v + 1))).map fun st' =>
        (.sliceS r (v + 1) c0 (.len (.rop .cat [eo, en])) i.size, st', l1.or ((Log.turns r).or ((wantLen eo len).or (Log.says (.upto (.len (.rop .cat [eo, en])) 4294967296)))))) none
  | _, _ => none
theorem ev_cat {e e2 : SX} {n k : Nat} {cs ds : List PV} (h1 : W0.ev e = some (.row n cs)) (h2 : W0.ev e2 = some (.row k ds)) : W0.ev (.rop .cat [e, e2]) = some (.row (n + k) (cs ++ ds)) := by
  have h1' : e.ev W0.s W0.F = some (.row n cs) := h1
  have h2' : e2.ev W0.s W0.F = some (.row k ds) := h2
  simp [Base.ev, SX.ev, evs, h1', h2', ropPV]
theorem aAppendS_ok {P : Program} {st st' : St} {t tx ty : TypeId} {s x y : AV} {lg : Log} {A : Nat → Prop} {m : Map} {w : World} {q u : Value} (h : aAppendS P st t tx s x = some (y, st', lg))
    (hA : lg.Fits W0 A) (hR : Rel W0 A m st.heap.get w) (hF : Fresh A m st.next) (hs : s.den m = some q) (hx : x.den m = some u) :
    ∃ m' w' z, y.den m' = some z ∧ (Builtin.append_ #[t, tx] ty #[q, u]).run P w = .ok z w' ∧ Ok W0 A m st w m' st' lg w' := by
  unfold aAppendS at h
  split at h
  · rename_i e r v lo len sz ht
    simp only [Option.bind_eq_some_iff] at h
    obtain ⟨i, hi, ⟨eo, el, esz⟩, hl, h⟩ := h
    simp only [cond_eq_ite, Bool.and_eq_true, Nat.beq_eq, Nat.blt_eq, Nat.ble_eq] at h
    split at h
    · rename_i hc
      obtain ⟨⟨⟨⟨⟨⟨hc0, rfl⟩, rfl⟩, rfl⟩, hzf⟩, hs0⟩, hby⟩ := hc
      simp only [Option.bind_eq_some_iff, Option.map_eq_some_iff] at h
      obtain ⟨⟨en, l1⟩, hsr, s1, hp, he⟩ := h
      cases he
      obtain ⟨z, hz, hzs⟩ := zeroFits_ok hzf
      have ha : A r := (or_A (or_A hA).2).1.1 r (by simp [Log.turns, bit_one])
      obtain ⟨n, f1, f2⟩ := (or_A (or_A (or_A hA).2).2).1.2 _ (List.mem_singleton.2 rfl)
      obtain ⟨nk, f3, f4⟩ := (or_A (or_A (or_A hA).2).2).2.2 _ (List.mem_singleton.2 rfl)
      obtain ⟨k, vn, g0, hsrc⟩ := srcS_ok hsr (or_A hA).1 hR hx
      obtain ⟨b, l, n', hb, h1, h2, rfl⟩ := sliceS_inv hR.sv hs
      rw [isC0_ok hc0] at h1
      rw [f1] at h2
      simp only [Option.some.injEq, PV.v.injEq, Value.int.injEq, true_and, Int.ofNat_inj] at h1 h2
      have hl0 : l = 0 := by omega
      subst hl0
      subst h2
      obtain ⟨n2, cs, c, fz, g1, g2, g3, g4, g5, g6, g7, g8, g9⟩ := lookS_row hl hR ha hb
      rw [ev_len g1] at f2
      simp only [Option.some.injEq, PV.v.injEq, Value.int.injEq, true_and, Int.ofNat_inj] at f2
      subst f2
      obtain ⟨vs, rfl, v1, v2⟩ := row_vals g9
      have hcat : W0.ev (.rop .cat [eo, en]) = some (.row (n2 + k) ((vs ++ vn).map PV.v)) := by rw [List.map_append]; exact ev_cat g1 g0
      have hcl := ev_len hcat
      rw [hcl] at f3
      simp only [Option.some.injEq, PV.v.injEq, Value.int.injEq, true_and, Int.ofNat_inj] at f3
      subst f3
      have hvl : vn.length = k * i.size := hsrc.newsLen
      simp only [List.length_map] at g5
      have hone : ∀ x ∈ vs ++ vn, x.oneCell' = true := fun x hx => (List.mem_append.1 hx).elim (v1 x) (hsrc.one x)
      rw [Nat.zero_mul, Nat.sub_zero]
      have hlo : W0.ev c0 = some (.v (.int .i64 ((0 : Nat) : Int))) := rfl
      have hn2 : n2 * i.size ≤ c.size := by rw [g7]; exact Nat.mul_le_mul_right _ g6
      have hvsget : ∀ j, j < n2 * i.size → vs[j]? = c.toList[j]? := fun j hj => by
        have hj' : j < vs.length := by omega
        have := v2 j vs[j] (List.getElem?_eq_getElem hj')
        rw [List.getElem?_eq_getElem hj']
        simpa using this.symm
      by_cases hroom : n2 + k ≤ b.2
      · have hcap : n2 * i.size + k * i.size ≤ c.size := by rw [g7, ← Nat.add_mul]; exact Nat.mul_le_mul_right _ hroom
        have hst := run_storeCells_eng P b.1 (n2 * i.size) el fz vn 0 c w g2 g3 (by omega) hsrc.one
        simp only [Nat.add_zero] at hst
        have hlen : (List.take (n2 * i.size) c.toList ++ vn ++ List.drop (n2 * i.size + vn.length) c.toList).length = c.size := by simp; omega
        obtain ⟨q1, q2⟩ := ownPut (b' := b) hR hF hl ha hb hp (.inr rfl) (w' := w.setRow b.1 (List.take (n2 * i.size) c.toList ++ vn ++ List.drop (n2 * i.size + vn.length) c.toList).toArray) rfl rfl rfl (by simp) (fun k _ hk => setRow_other w b.1 k _ hk) (.inl rfl)
          (rowAt_of hcat (setRow_heap w b.1 c _ el fz g2) (fun i hi => g3 i (by simp at hi; omega)) hs0 (by rw [List.length_append, hvl, g5, Nat.add_mul]) hroom (by simp only [List.size_toArray, hlen]; exact g7) g8 (fun j x hj => by
            rw [List.getElem?_toArray, putL_get (by simp; omega)]
            rw [List.getElem?_append] at hj
            by_cases hj1 : j < n2 * i.size
            · rw [if_pos hj1]
              rw [if_pos (by omega)] at hj
              rw [← hvsget j hj1]
              exact hj
            · rw [if_neg hj1]
              rw [if_neg (by omega)] at hj
              have : j - vs.length < vn.length := (List.getElem?_eq_some_iff.1 hj).1
              rw [if_pos (by omega), ← g5]
              exact hj) hone)
        refine ⟨_, _, _, wholeS q2.step.rel.sv q1 hlo hcl, ?_, q2.more (fun r hr => bit_or_r (bit_or_l hr))⟩
        rw [Nat.zero_mul, Nat.sub_zero]
        exact append_room_A P t tx ty el i ht hi ⟨b.1, 0, none⟩ n2 b.2 k u vn w _ hsrc hroom (by rw [addr_add]; simpa using hst)
      · have hlt : b.2 < n2 + k := by omega
        have hfit : Builtin.nextslicecap (n2 + k) b.2 * i.bytes ≤ 281474976710656 := by
          have e1 := nextslicecap_le _ _ hlt
          have := Nat.mul_le_mul (Nat.le_trans e1 (show 2 * (n2 + k) + 768 ≤ 8589935360 by omega)) hby
          omega
        have hold : (Builtin.firstCells i.size n2 (.slice (some ⟨b.1, 0, none⟩) n2 b.2)).run P w.drew = .ok vs.toArray w.drew := by
          refine run_firstCells_some w.drew i.size n2 _ _ _ vs g5 (fun j x hj => ?_)
          rw [addr_add]
          have e : w.drew.heap[b.1]? = some (.cells c el fz) := g2
          simp only [World.cell?, e, Nat.zero_add]
          exact v2 j x hj
        have hrun := append_grow_A (P := P) w t tx ty el i z ht hi hz (some ⟨b.1, 0, none⟩) n2 b.2 vs hold u k vn hsrc hlt (by omega) hfit
        obtain ⟨w1, w2, w3, w4, w5, w6⟩ := alloc_world w (.cells ((vs ++ vn).toArray ++ Builtin.zeroCells z.cells (grownCap w (n2 + k) b.2 el - (n2 + k))) el)
        have e2 := grownCap_ge' w (n2 + k) b.2 el
        obtain ⟨q1, q2⟩ := ownPut (b' := (w.heap.size, grownCap w (n2 + k) b.2 el)) hR hF hl ha hb hp (.inr rfl) w1 w2 w3 w4 (fun k hk _ => w5 k hk) (.inr rfl)
          (rowAt_of (fz := (0, 0)) hcat w6 (fun i _ => by omega) hs0 (by rw [List.length_append, hvl, g5, Nat.add_mul]) e2 (by
            simp only [Array.size_append, List.size_toArray, List.length_append, hvl, g5, zeroCells_size, hzs, ← Nat.add_mul]
            congr 1
            omega) (le_maxLen (grownCap_le_maxLen w (n2 + k) b.2 el (by unfold maxLen; simp [IntKind.max]; omega))) (fun j x hj => by
            have : j < (vs ++ vn).length := (List.getElem?_eq_some_iff.1 hj).1
            rw [Array.getElem?_append_left (by simpa using this)]
            simpa using hj) hone)
        refine ⟨_, _, _, wholeS q2.step.rel.sv q1 hlo hcl, ?_, q2.more (fun r hr => bit_or_r (bit_or_l hr))⟩
        rw [Nat.zero_mul, Nat.sub_zero]
        exact hrun
    · cases h
  · cases h

/-! A row whose cells are known one by one becomes one of which is known what is in it. -/
def symOf (st : St) : AV → Option (AV × St × Log)
  | .slice r v lo sz len cap opn => (st.heap.get r).bind fun o => match o.vers with
    | (v', n) :: _ => (sxL o.cells).bind fun es => cond (Nat.beq v v' && Nat.beq lo 0 && Nat.blt 0 sz && Nat.beq n (len * sz) && Nat.beq n o.cells.length && !o.ro && !o.lent && o.sym.isNone && o.cells.all AV.one && Nat.ble len 4294967296 && (o.opn == opn) && cond opn (Nat.beq o.esz sz && Nat.beq cap 0) (Nat.beq cap len))
        ((st.put r (symRoot (.lit len es) o.elem sz (v + 1))).map fun st' => (.sliceS r (v + 1) c0 (.len (.lit len es)) sz, st', Log.turns r)) none
    | [] => none
  | _ => none
theorem symOf_ok {A : Nat → Prop} {m : Map} {st st' : St} {w : World} {x y : AV} {lg : Log} {q : Value} (h : symOf st x = some (y, st', lg)) (hA : lg.Fits W0 A) (hR : Rel W0 A m st.heap.get w) (hF : Fresh A m st.next) (hx : x.den m = some q) : ∃ m', y.den m' = some q ∧ Ok W0 A m st w m' st' lg w := by
  unfold symOf at h
  split at h
  · rename_i r v lo sz len cap opn
    simp only [Option.bind_eq_some_iff] at h
    obtain ⟨o, ho, h⟩ := h
    split at h
    · rename_i v' n rest hvers
      simp only [Option.bind_eq_some_iff] at h
      obtain ⟨es, hes, h⟩ := h
      cases hc : (Nat.beq v v' && Nat.beq lo 0 && Nat.blt 0 sz && Nat.beq n (len * sz) && Nat.beq n o.cells.length && !o.ro && !o.lent && o.sym.isNone && o.cells.all AV.one && Nat.ble len 4294967296 && (o.opn == opn) && cond opn (Nat.beq o.esz sz && Nat.beq cap 0) (Nat.beq cap len)) with
      | false => simp [hc] at h
      | true =>
        simp only [hc, cond_true, Option.map_eq_some_iff] at h
        obtain ⟨s1, hp, he⟩ := h
        cases he
        simp only [Bool.and_eq_true, Nat.beq_eq, Nat.blt_eq, Nat.ble_eq, Bool.not_eq_true', List.all_eq_true, beq_iff_eq] at hc
        obtain ⟨⟨⟨⟨⟨⟨⟨⟨⟨⟨⟨rfl, rfl⟩, hs0⟩, hn⟩, hnl⟩, hro⟩, hlt0⟩, hsy⟩, hone⟩, hlen⟩, rfl⟩, hco⟩ := hc
        have ha : A r := hA.1 r (by simp [Log.turns, bit_one])
        simp only [AV.den, Option.map_eq_some_iff] at hx
        obtain ⟨b, hb, rfl⟩ := hx
        obtain ⟨b', hb', hB⟩ := hR.blk r o ha ho v n (by rw [hvers]; simp)
        rw [hb] at hb'; cases hb'
        have hB' := hB
        obtain ⟨c, fz, hcc, hfz, hn1, hn2, hcell, hsize⟩ := hB'
        obtain ⟨l, hd, hll, _, hlc⟩ := hB.cells (P := (default : Program)) (off := 0) (k := n) (by omega)
        have hcl : cellsAt o 0 n = o.cells := by simp [cellsAt, hnl]
        rw [hcl] at hd
        obtain ⟨ps, p1, p2⟩ := sxL_ok hR.sv _ hes hd
        have hps := plainL_len p2
        have hev : W0.ev (.lit len es) = some (.row len (l.map PV.v)) := by
          rw [← hps]; simp [Base.ev, SX.ev, p1]
        -- how much room there is
        let cp : Nat := cond o.opn (b.2 - cap) cap
        have hcp : c.size = cp * sz ∧ len ≤ cp ∧ cp ≤ maxLen := by
          cases hop : o.opn with
          | true =>
            simp only [hop, cond_true, Bool.and_eq_true, Nat.beq_eq] at hco hsize
            obtain ⟨h1, rfl⟩ := hco
            simp only [cp, hop, cond_true, Nat.sub_zero]
            rw [h1] at hsize
            refine ⟨hsize.1, ?_, le_maxLen hsize.2⟩
            have : len * sz ≤ b.2 * sz := by omega
            exact Nat.le_of_mul_le_mul_right this hs0
          | false =>
            simp only [hop, cond_false, Nat.beq_eq] at hco hsize
            subst hco
            simp only [cp, hop, cond_false]
            exact ⟨by omega, Nat.le_refl _, le_maxLen (by omega)⟩
        have hrow : RowAt W0 w (symRoot (.lit len es) o.elem sz (v + 1)) (b.1, cp) (.lit len es) := rowAt_of hev hcc hfz hs0 (by omega) hcp.2.1 hcp.1 hcp.2.2 (fun i x hi => by
          have := hlc i x hi
          simp only [World.cell?, hcc, Nat.zero_add] at this
          exact this) (one_all hone hd)
        obtain ⟨hput, hnext⟩ := put_ok hp
        have htop : ∀ k, v < k → m r k = none := fun k hk => hR.top r o v n rest ha ho hvers k hk
        have hle : m.Le (m.new2 r (v + 1) (b.1, cp)) := Map.new2_le (htop _ (Nat.lt_succ_self v))
        have hmr : (m.new2 r (v + 1) (b.1, cp)) r (v + 1) = some (b.1, cp) := by simp [Map.new2]
        refine ⟨m.new2 r (v + 1) (b.1, cp), ?_, ?_, ?_⟩
        · have := wholeS (W0 := W0) (m := m.new2 r (v + 1) (b.1, cp)) (lo := c0) (len := .len (.lit len es)) (l := 0) (sz := sz) hR.sv hmr rfl (ev_len hev)
          rw [this]
          simp [cp]
        · rw [hput]
          refine Step.more (T1 := fun k => k = r) (Step.put hR ha hle (fun k hk v1 => by simp [Map.new2, hk]) rfl rfl (fun o2 _ _ _ ho2 _ _ => by rw [ho] at ho2; cases ho2; exact hro) rfl ?_ (fun o2 _ _ _ ho2 _ _ => by rw [ho] at ho2; cases ho2; exact hlt0.symm) (fun hl => by cases hl) rfl rfl rfl (Nat.le_refl _) (fun _ _ _ => rfl) ?_ ?_ ?_) (fun k hk => by simp only [Log.turns]; rw [bit_one]; exact hk)
          · intro e1 v1 n1 b1 he hv1 hb1
            simp only [symRoot, Option.some.injEq] at he
            subst he
            simp only [symRoot, List.mem_singleton, Prod.mk.injEq] at hv1
            obtain ⟨rfl, rfl⟩ := hv1
            rw [hmr] at hb1
            cases hb1
            exact hrow
          · intro v1 n1 hv1
            simp only [symRoot, List.mem_singleton, Prod.mk.injEq] at hv1
            obtain ⟨rfl, rfl⟩ := hv1
            exact ⟨_, hmr, hrow.blk⟩
          · intro v1 n1 rest1 he v2 hlt
            simp only [symRoot, List.cons.injEq, Prod.mk.injEq] at he
            obtain ⟨⟨rfl, _⟩, _⟩ := he
            have : ¬ v2 = v + 1 := by omega
            simp [Map.new2, this, htop v2 (by omega)]
          · intro v1 n1 b1 hv1 hb1 _
            simp only [symRoot, List.mem_singleton, Prod.mk.injEq] at hv1
            obtain ⟨rfl, rfl⟩ := hv1
            rw [hmr] at hb1
            cases hb1
            exact ⟨o, v, n, b, ho, by rw [hvers]; simp, hb, rfl⟩
        · intro r' hra hr'
          rw [hnext] at hr'
          have hne : r' ≠ r := by
            intro e
            subst e
            rw [(hF r' hra hr').1 v] at hb
            cases hb
          exact ⟨fun v1 => by simp [Map.new2, hne, (hF r' hra hr').1 v1], (hF r' hra hr').2⟩
    · cases h
  · cases h

/-- append to nothing: a new row, or nothing (a run is told which, unless that is seen). -/
def isNew (st : St) : SX → Option (Bool × St × Log)
  | .lit (n + 1) es => some (true, st, Log.says (.rng c0 (.len (.lit (n + 1) es))))
  | e => match st.path with
    | b :: rest => some (Nat.beq b 1, { st with path := rest }, Log.says (cond (Nat.beq b 1) (.rng c0 (.len e)) (.same (.len e) c0)))
    | [] => none
theorem isNew_ok {st st' : St} {e : SX} {b : Bool} {lg : Log} (h : isNew st e = some (b, st', lg)) : st'.heap = st.heap ∧ st'.next = st.next ∧ lg = Log.says (cond b (.rng c0 (.len e)) (.same (.len e) c0)) := by
  unfold isNew at h
  split at h
  · cases h; exact ⟨rfl, rfl, rfl⟩
  · split at h
    · cases h; exact ⟨rfl, rfl, rfl⟩
    · cases h
def aAppendN (P : Program) (st : St) (t tx : TypeId) (x : AV) : Option (AV × St × Log) := match P.underlying t with
  | some (.slice e) => (P.info? e).bind fun i => cond (zeroFits i && Nat.blt 0 i.size && Nat.ble i.bytes 16384) ((srcS P st i tx x).bind fun (en, l1) => (isNew st en).bind fun (b, st1, l2) => cond b
      ((st1.allocS en e i.size).map fun (y, st', l3) => (y, st', (l1.or l2).or (l3.or (Log.says (.upto (.len en) 4294967296)))))
      (some (.val (.slice none 0 0), st1, l1.or l2))) none
  | _ => none
theorem aAppendN_ok {P : Program} {st st' : St} {t tx ty : TypeId} {x y : AV} {lg : Log} {A : Nat → Prop} {m : Map} {w : World} {u : Value} (h : aAppendN P st t tx x = some (y, st', lg))
    (hA : lg.Fits W0 A) (hR : Rel W0 A m st.heap.get w) (hF : Fresh A m st.next) (hx : x.den m = some u) :
    ∃ m' w' z, y.den m' = some z ∧ (Builtin.append_ #[t, tx] ty #[.slice none 0 0, u]).run P w = .ok z w' ∧ Ok W0 A m st w m' st' lg w' := by
  unfold aAppendN at h
  split at h
  · rename_i e ht
    simp only [Option.bind_eq_some_iff] at h
    obtain ⟨i, hi, h⟩ := h
    cases hc : (zeroFits i && Nat.blt 0 i.size && Nat.ble i.bytes 16384) with
    | false => simp [hc] at h
    | true =>
      simp only [hc, cond_true, Option.bind_eq_some_iff] at h
      simp only [Bool.and_eq_true, Nat.blt_eq, Nat.ble_eq] at hc
      obtain ⟨⟨hzf, hs0⟩, hby⟩ := hc
      obtain ⟨⟨en, l1⟩, hsr, ⟨b, st1, l2⟩, hnw, h⟩ := h
      obtain ⟨z, hz, hzs⟩ := zeroFits_ok hzf
      obtain ⟨e1, e2, e3⟩ := isNew_ok hnw
      cases b with
      | true =>
        simp only [cond_true, Option.map_eq_some_iff] at h
        obtain ⟨⟨y1, s1, l3⟩, hal, he⟩ := h
        cases he
        obtain ⟨k, vn, g0, hsrc⟩ := srcS_ok hsr (or_A (or_A hA).1).1 hR hx
        have hf2 := (or_A (or_A hA).1).2
        rw [e3] at hf2
        obtain ⟨kk, zz, mm, f1, f2, f3, f4⟩ := hf2.2 _ (List.mem_singleton.2 rfl)
        simp only [cond_true] at f1 f2
        rw [ev_len g0] at f2
        have f1' : W0.ev c0 = some (.v (.int .i64 0)) := rfl
        rw [f1'] at f1
        simp only [Option.some.injEq, PV.v.injEq, Value.int.injEq, true_and] at f1 f2
        obtain ⟨_, rfl⟩ := f1
        subst f2
        obtain ⟨nk, f5, f6⟩ := (or_A (or_A hA).2).2.2 _ (List.mem_singleton.2 rfl)
        rw [ev_len g0] at f5
        simp only [Option.some.injEq, PV.v.injEq, Value.int.injEq, true_and, Int.ofNat_inj] at f5
        subst f5
        have hvl : vn.length = k * i.size := hsrc.newsLen
        have hlt : 0 < 0 + k := by omega
        have hfit : Builtin.nextslicecap (0 + k) 0 * i.bytes ≤ 281474976710656 := by
          have q1 := nextslicecap_le _ _ hlt
          have := Nat.mul_le_mul (Nat.le_trans q1 (show 2 * (0 + k) + 768 ≤ 8589935360 by omega)) hby
          omega
        have hrun := append_grow_A (P := P) w t tx ty e i z ht hi hz none 0 0 [] (run_firstCells_none _ _ _ _ _) u k vn hsrc hlt (by omega) hfit
        obtain ⟨w1, w2, w3, w4, w5, w6⟩ := alloc_world w (.cells (([] ++ vn).toArray ++ Builtin.zeroCells z.cells (grownCap w (0 + k) 0 e - (0 + k))) e)
        have q2 := grownCap_ge' w (0 + k) 0 e
        have hrow : RowAt W0 (w.drew.alloc (.cells (([] ++ vn).toArray ++ Builtin.zeroCells z.cells (grownCap w (0 + k) 0 e - (0 + k))) e)) (symRoot en e i.size 0) (w.heap.size, grownCap w (0 + k) 0 e) en :=
          rowAt_of (fz := (0, 0)) g0 w6 (fun i _ => by omega) hs0 hvl (by omega) (by
            simp only [Array.size_append, List.size_toArray, List.nil_append, hvl, zeroCells_size, hzs, ← Nat.add_mul]
            congr 1
            omega) (le_maxLen (grownCap_le_maxLen w (0 + k) 0 e (by unfold maxLen; simp [IntKind.max]; omega))) (fun j x hj => by
            have : j < vn.length := (List.getElem?_eq_some_iff.1 hj).1
            rw [Array.getElem?_append_left (by simpa using this)]
            simpa using hj) hsrc.one
        have hR1 : Rel W0 A m st1.heap.get w := by rw [e1]; exact hR
        have hF1 : Fresh A m st1.next := by rw [e2]; exact hF
        obtain ⟨g1, g2⟩ := allocS_ok hal (or_A (or_A hA).2).1 hR1 hF1 w1 w2 w3 w4 w5 g0 hrow
        refine ⟨_, w.drew.alloc (.cells (([] ++ vn).toArray ++ Builtin.zeroCells z.cells (grownCap w (0 + k) 0 e - (0 + k))) e), _, g1, by rw [hrun, Nat.zero_add], ?_⟩
        have g3 : Ok W0 A m st1 w _ s1 ((l1.or l2).or (l3.or (Log.says (.upto (.len en) 4294967296)))) _ := g2.more (fun r hr => bit_or_r (bit_or_l hr))
        exact ⟨by rw [← e1]; exact g3.step, g3.fresh⟩
      | false =>
        simp only [cond_false, Option.some.injEq, Prod.mk.injEq] at h
        obtain ⟨rfl, rfl, rfl⟩ := h
        obtain ⟨k, vn, g0, hsrc⟩ := srcS_ok hsr (or_A hA).1 hR hx
        have hf2 := (or_A hA).2
        rw [e3] at hf2
        obtain ⟨kk, f1, f2⟩ := hf2.2 _ (List.mem_singleton.2 rfl)
        have f2' : W0.ev c0 = some (.v (.int .i64 ((0 : Nat) : Int))) := rfl
        rw [f2'] at f2
        rw [ev_len g0] at f1
        simp only [Option.some.injEq, PV.v.injEq, Value.int.injEq, true_and, Int.ofNat_inj] at f1 f2
        subst f1
        subst f2
        have hvl : vn.length = 0 * i.size := hsrc.newsLen
        have : vn = [] := List.eq_nil_of_length_eq_zero (by omega)
        subst this
        refine ⟨m, w, _, rfl, append_nothing_A t tx ty e i ht hi none 0 0 (Nat.le_refl _) u hsrc, ⟨?_, by rw [e2]; exact hF⟩⟩
        rw [e1]
        exact Step.refl hR
  · cases h

/-- append, to any row of the call's own. -/
def aAppendO (P : Program) (st : St) (t tx : TypeId) (s x : AV) : Option (AV × St × Log) := match s with
  | .val (.slice none 0 0) => aAppendN P st t tx x
  | .slice .. => (symOf st s).bind fun (y, st1, l1) => (aAppendS P st1 t tx y x).map fun (z, st2, l2) => (z, st2, l1.or l2)
  | _ => aAppendS P st t tx s x
theorem aAppendO_ok {P : Program} {st st' : St} {t tx ty : TypeId} {s x y : AV} {lg : Log} {A : Nat → Prop} {m : Map} {w : World} {q u : Value} (h : aAppendO P st t tx s x = some (y, st', lg))
    (hA : lg.Fits W0 A) (hR : Rel W0 A m st.heap.get w) (hF : Fresh A m st.next) (hs : s.den m = some q) (hx : x.den m = some u) :
    ∃ m' w' z, y.den m' = some z ∧ (Builtin.append_ #[t, tx] ty #[q, u]).run P w = .ok z w' ∧ Ok W0 A m st w m' st' lg w' := by
  unfold aAppendO at h
  split at h
  · simp only [AV.den, Option.some.injEq] at hs
    subst hs
    exact aAppendN_ok h hA hR hF hx
  · simp only [Option.bind_eq_some_iff, Option.map_eq_some_iff] at h
    obtain ⟨⟨y1, st1, l1⟩, h1, ⟨z, st2, l2⟩, h2, he⟩ := h
    cases he
    obtain ⟨m1, g1, hok⟩ := symOf_ok h1 (or_A hA).1 hR hF hs
    obtain ⟨m', w', zz, k1, k2, k3⟩ := aAppendS_ok (ty := ty) h2 (or_A hA).2 hok.rel hok.fresh g1 (AV.den_mono hok.step.ext x hx)
    exact ⟨m', w', zz, k1, k2, hok.trans k3⟩
  · exact aAppendS_ok h hA hR hF hs hx
end Go.Proofs.Ytfcdbknmajfkaaa.eng
