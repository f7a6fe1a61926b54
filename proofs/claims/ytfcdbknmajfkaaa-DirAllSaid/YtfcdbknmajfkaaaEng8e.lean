/- The engine: rows of the call's own of unknown length: texts, copy, lengths, parts; one operation. -/
import Derived.Test.YtfcdbknmajfkaaaEng8d
namespace Go.Proofs.Ytfcdbknmajfkaaa.eng
open Go Go.RowKit
variable {W0 : Base}
set_option linter.unusedVariables false
set_option linter.unusedSimpArgs false

/-! Texts. -/
theorem upto_str {e : SX} {K : Nat} (h : (Fact.upto (.slen e) K).holds W0) : ∃ s, W0.ev e = some (.v (.string s)) ∧ s.size ≤ K := by
  obtain ⟨n, hn, hK⟩ := h
  simp only [Base.ev, SX.ev, Option.bind_eq_some_iff] at hn
  obtain ⟨p, hp, hn⟩ := hn
  unfold slenPV at hn
  split at hn
  · simp only [Option.some.injEq, PV.v.injEq, Value.int.injEq, true_and, Int.ofNat_inj] at hn
    exact ⟨_, hp, by omega⟩
  · cases hn
def aBytesS (P : Program) (st : St) (src dst : TypeId) (x : AV) : Option (AV × St × Log) := match P.underlying src, P.underlying dst, x with
  | some .string, some (.slice e), .sym s => match P.underlying e with
    | some (.int .u8) => (st.allocS (.rop .ofStr [s]) e 1).map fun (y, st', lg) => (y, st', lg.or (Log.says (.upto (.slen s) 4294967296)))
    | _ => none
  | _, _, _ => none
theorem aBytesS_ok {P : Program} {st st' : St} {src dst : TypeId} {x y : AV} {lg : Log} {A : Nat → Prop} {m : Map} {w : World} {u : Value} (h : aBytesS P st src dst x = some (y, st', lg)) (hA : lg.Fits W0 A)
    (hR : Rel W0 A m st.heap.get w) (hF : Fresh A m st.next) (hx : x.den m = some u) : ∃ m' w' v, y.den m' = some v ∧ (convert src dst u).run P w = .ok v w' ∧ Ok W0 A m st w m' st' lg w' := by
  unfold aBytesS at h
  split at h
  · rename_i e s hs hd
    split at h
    · rename_i he
      simp only [Option.map_eq_some_iff] at h
      obtain ⟨⟨y1, s1, l1⟩, hal, h⟩ := h
      cases h
      obtain ⟨str, hstr, hK⟩ := upto_str ((or_A hA).2.2 _ (List.mem_singleton.2 rfl))
      have hxv := (sym_ev hR.sv hx).1
      rw [hstr] at hxv
      cases hxv
      have hgm : grownCap w str.size 0 e ≤ 9223372036854775807 := grownCap_le_maxLen w str.size 0 e (by unfold maxLen; simp [IntKind.max]; omega)
      have hg : str.size ≤ grownCap w str.size 0 e := grownCap_ge' w str.size 0 e
      have hds : str.data.size = str.size := rfl
      obtain ⟨h1, h2, h3, h4, h5, h6⟩ := alloc_world w (.cells (bytesRow str (grownCap w str.size 0 e)) e ((bytesRow str (grownCap w str.size 0 e)).size, (bytesRow str (grownCap w str.size 0 e)).size + 1))
      have hrow := rowAt_of (W0 := W0) (v := 0) (sz := 1) (b := (w.heap.size, grownCap w str.size 0 e)) (ev_ofStr hstr) h6 (fun i hi => by simp; omega) (by omega) (by rw [byteCells_length, Nat.mul_one]) hg (by
        simp only [bytesRow, Array.size_append, Array.size_map, Array.size_replicate, Nat.mul_one]; omega) (le_maxLen hgm) (fun j x hj => by
          have hlt : j < (byteCells str).length := (List.getElem?_eq_some_iff.1 hj).1
          rw [byteCells_length] at hlt
          rw [bytesRow, Array.getElem?_append_left (by simpa using hlt)]
          simp only [byteCells, List.getElem?_map, Option.map_eq_some_iff] at hj
          obtain ⟨q, hq, rfl⟩ := hj
          simp at hq
          simp [hq]) (fun x hx => by obtain ⟨_, _, rfl⟩ := List.mem_map.1 hx; rfl)
      obtain ⟨g1, g2⟩ := allocS_ok hal (or_A hA).1 hR hF h1 h2 h3 h4 h5 (ev_ofStr hstr) hrow
      exact ⟨_, _, _, g1, run_bytes_of_string w src dst e str hs hd he, g2.more (fun r hr => bit_or_l hr)⟩
    · cases h
  · cases h
theorem bytesPV_ok : ∀ {cs : List PV} {l : List UInt8}, bytesPV cs = some l → cs = l.map fun b => .v (.int .u8 b.toNat)
  | [], l, h => by simp [bytesPV] at h; subst h; rfl
  | p :: cs, l, h => by
    simp only [bytesPV, Option.bind_eq_some_iff, Option.map_eq_some_iff] at h
    obtain ⟨b, hb, l', hl, rfl⟩ := h
    rw [bytesPV_ok hl]
    unfold bytePV at hb
    split at hb
    · rename_i z
      cases hc : (decide (0 ≤ z) && decide (z < 256)) with
      | false => simp [hc] at hb
      | true =>
        simp only [hc, cond_true, Option.some.injEq] at hb
        simp only [Bool.and_eq_true, decide_eq_true_eq] at hc
        subst hb
        have : (UInt8.ofNat z.toNat).toNat = z.toNat := by simp; omega
        simp only [List.map_cons, this]
        rw [show ((z.toNat : Nat) : Int) = z by omega]
    · cases hb
def aStrS (P : Program) (st : St) (src dst : TypeId) (x : AV) : Option (AV × Log) := match P.underlying src, P.underlying dst, x with
  | some (.slice e), some .string, .sliceS r v lo len sz => match P.underlying e with
    | some (.int .u8) => cond (isC0 lo && Nat.beq sz 1) ((lookS st r v).bind fun (eo, el, esz) => cond (Nat.beq esz 1) (some (.sym (.rop .toStr [eo]), (Log.sees r).or ((wantLen eo len).or (Log.says (.ok (.rop .toStr [eo])))))) none) none
    | _ => none
  | _, _, _ => none
theorem aStrS_ok {P : Program} {st : St} {src dst : TypeId} {x y : AV} {lg : Log} {A : Nat → Prop} {m : Map} {w : World} {u : Value} (h : aStrS P st src dst x = some (y, lg)) (hA : lg.Fits W0 A)
    (hR : Rel W0 A m st.heap.get w) (hx : x.den m = some u) : ∃ v, y.den m = some v ∧ (convert src dst u).run P w = .ok v w := by
  unfold aStrS at h
  split at h
  · rename_i e r v lo len sz hs hd
    split at h
    · rename_i he
      simp only [cond_eq_ite, Bool.and_eq_true, Nat.beq_eq] at h
      split at h
      · rename_i hc
        simp only [Option.bind_eq_some_iff] at h
        obtain ⟨⟨eo, el, esz⟩, hl, h⟩ := h
        split at h
        · rename_i hsz
          cases h
          have ha : A r := (or_A hA).1.1 r (by simp [Log.sees, bit_one])
          obtain ⟨n, f1, f2⟩ := (or_A (or_A hA).2).1.2 _ (List.mem_singleton.2 rfl)
          obtain ⟨x, hx2, hone⟩ := (or_A (or_A hA).2).2.2 _ (List.mem_singleton.2 rfl)
          obtain ⟨b, l, n', hb, h1, h2, rfl⟩ := sliceS_inv hR.sv hx
          rw [isC0_ok hc.1] at h1
          rw [f1] at h2
          simp only [Option.some.injEq, PV.v.injEq, Value.int.injEq, true_and, Int.ofNat_inj] at h1 h2
          have hl0 : l = 0 := by omega
          subst hl0
          subst h2
          obtain ⟨k, cs, c, fz, g1, g2, g3, g4, g5, g6, g7, g8, g9⟩ := lookS_row hl hR ha hb
          rw [ev_len g1] at f2
          simp only [Option.some.injEq, PV.v.injEq, Value.int.injEq, true_and, Int.ofNat_inj] at f2
          subst f2
          have g1' : eo.ev W0.s W0.F = some (.row k cs) := g1
          have hx3 := hx2
          simp only [Base.ev, SX.ev, evs, g1', Option.bind_some, Option.map_some, ropPV] at hx2
          cases hq : Nat.beq cs.length k with
          | false => simp [hq] at hx2
          | true =>
            simp only [hq, cond_true, Option.map_eq_some_iff, PV.v.injEq] at hx2
            obtain ⟨bs, hbs, rfl⟩ := hx2
            have hcs := bytesPV_ok hbs
            have hlen : bs.length = k := by
              have := Nat.eq_of_beq_eq_true hq
              rw [hcs, List.length_map] at this
              exact this
            subst hlen
            refine ⟨_, ev_sym hR.sv hx3 rfl, run_convert_bytes_back w src dst e _ _ bs hs he hd (fun j hj => ?_)⟩
            rw [addr_add]
            obtain ⟨v, hv1, hv2, hv3⟩ := g9 j (.v (.int .u8 (bs[j].toNat : Int))) (by rw [hcs]; simp [hj])
            cases hv1
            simp only [World.cell?, g2, Nat.zero_mul, Nat.zero_add]
            exact hv3
        · cases h
      · cases h
    · cases h
  · cases h

/-! copy, of a text. -/
/-- A row whose cells are known is turned into one of the other kind first. -/
def aStrO (P : Program) (st : St) (src dst : TypeId) (x : AV) : Option (AV × St × Log) := match aStrS P st src dst x with
  | some (y, lg) => some (y, st, lg)
  | none => (symOf st x).bind fun (x', st1, l1) => (aStrS P st1 src dst x').map fun (y, l2) => (y, st1, l1.or l2)
theorem aStrO_ok {P : Program} {st st' : St} {src dst : TypeId} {x y : AV} {lg : Log} {A : Nat → Prop} {m : Map} {w : World} {u : Value} (h : aStrO P st src dst x = some (y, st', lg)) (hA : lg.Fits W0 A)
    (hR : Rel W0 A m st.heap.get w) (hF : Fresh A m st.next) (hx : x.den m = some u) : ∃ m' v, y.den m' = some v ∧ (convert src dst u).run P w = .ok v w ∧ Ok W0 A m st w m' st' lg w := by
  unfold aStrO at h
  split at h
  · rename_i y' lg' hs
    simp only [Option.some.injEq, Prod.mk.injEq] at h
    obtain ⟨rfl, rfl, rfl⟩ := h
    obtain ⟨v, hv, hrun⟩ := aStrS_ok hs hA hR hx
    exact ⟨m, v, hv, hrun, Ok.refl hR hF⟩
  · simp only [Option.bind_eq_some_iff, Option.map_eq_some_iff] at h
    obtain ⟨⟨x', s1, l1⟩, hsy, ⟨y', l2⟩, hs, he⟩ := h
    cases he
    obtain ⟨m', hx', hok⟩ := symOf_ok hsy (or_A hA).1 hR hF hx
    obtain ⟨v, hv, hrun⟩ := aStrS_ok hs (or_A hA).2 hok.rel hx'
    exact ⟨m', v, hv, hrun, hok.more (fun r hr => bit_or_l hr)⟩
def aCopyS (P : Program) (st : St) (t tx : TypeId) (d x : AV) : Option (AV × St × Log) := match P.underlying t, P.underlying tx, d with
  | some (.slice e), some .string, .sliceS r v lo len sz => (P.info? e).bind fun i => (lookS st r v).bind fun (eo, el, esz) => x.sx.bind fun s => cond (Nat.beq i.size 1 && Nat.beq sz 1 && Nat.beq esz 1)
      ((st.put r (symRoot (.rop (.copy 1) [eo, lo, len, .rop .ofStr [s]]) el 1 v)).map fun st' => (.sym (.rop .min2 [.slen s, len]), st', (Log.turns r).or ((Log.says (.cut lo len (.len eo))).or (Log.says (.ok (.slen s)))))) none
  | _, _, _ => none
theorem ev_bin_min {a b : SX} {x y : Nat} (h1 : W0.ev a = some (.v (.int .i64 (x : Int)))) (h2 : W0.ev b = some (.v (.int .i64 (y : Int)))) : W0.ev (.rop .min2 [a, b]) = some (.v (.int .i64 ((Nat.min x y : Nat) : Int))) := by
  have h1' : a.ev W0.s W0.F = some (.v (.int .i64 (x : Int))) := h1
  have h2' : b.ev W0.s W0.F = some (.v (.int .i64 (y : Int))) := h2
  have : ((Nat.min x y : Nat) : Int) = min (x : Int) (y : Int) := by
    show ((min x y : Nat) : Int) = _
    omega
  rw [this]
  simp [Base.ev, SX.ev, evs, h1', h2', ropPV]
theorem ev_slen {e : SX} {s : ByteArray} (h : W0.ev e = some (.v (.string s))) : W0.ev (.slen e) = some (.v (.int .i64 (s.size : Int))) := by
  have h' : e.ev W0.s W0.F = some (.v (.string s)) := h
  simp [Base.ev, SX.ev, h', slenPV]
theorem byteCells_take (s : ByteArray) (k : Nat) : ((s.extract 0 k).data.map fun b => Value.int .u8 b.toNat).toList = (byteCells s).take k := by
  simp [byteCells, ByteArray.data_extract, List.map_take]
theorem aCopyS_ok {P : Program} {st st' : St} {t tx ty : TypeId} {d x y : AV} {lg : Log} {A : Nat → Prop} {m : Map} {w : World} {q u : Value} (h : aCopyS P st t tx d x = some (y, st', lg)) (hA : lg.Fits W0 A)
    (hR : Rel W0 A m st.heap.get w) (hF : Fresh A m st.next) (hd : d.den m = some q) (hx : x.den m = some u) : ∃ m' w' v, y.den m' = some v ∧ (Builtin.copy_ #[t, tx] ty #[q, u]).run P w = .ok v w' ∧ Ok W0 A m st w m' st' lg w' := by
  unfold aCopyS at h
  split at h
  · rename_i e r v lo len sz ht htx
    simp only [Option.bind_eq_some_iff] at h
    obtain ⟨i, hi, ⟨eo, el, esz⟩, hl, s, hsx, h⟩ := h
    simp only [cond_eq_ite, Bool.and_eq_true, Nat.beq_eq] at h
    split at h
    · rename_i hc
      obtain ⟨⟨hi1, rfl⟩, rfl⟩ := hc
      simp only [Option.map_eq_some_iff] at h
      obtain ⟨s1, hp, he⟩ := h
      cases he
      have ha : A r := (or_A hA).1.1 r (by simp [Log.turns, bit_one])
      obtain ⟨la, ln, lk, f1, f2, f3, f4⟩ := (or_A (or_A hA).2).1.2 _ (List.mem_singleton.2 rfl)
      obtain ⟨str, hstr⟩ := slen_str ((or_A (or_A hA).2).2.2 _ (List.mem_singleton.2 rfl))
      have hxv := sx_ok hR.sv x hsx hx
      rw [hstr] at hxv
      cases hxv
      obtain ⟨b, l, n, hb, h1, h2, rfl⟩ := sliceS_inv hR.sv hd
      rw [f1] at h1
      rw [f2] at h2
      simp only [Option.some.injEq, PV.v.injEq, Value.int.injEq, true_and, Int.ofNat_inj] at h1 h2
      subst h1
      subst h2
      obtain ⟨k, cs, c, fz, g1, g2, g3, g4, g5, g6, g7, g8, g9⟩ := lookS_row hl hR ha hb
      rw [ev_len g1] at f3
      simp only [Option.some.injEq, PV.v.injEq, Value.int.injEq, true_and, Int.ofNat_inj] at f3
      subst f3
      let vs := (byteCells str).take (Nat.min str.size ln)
      have hvl : vs.length = Nat.min str.size ln := by
        simp only [vs, List.length_take, byteCells_length]
        show min (Nat.min str.size ln) str.size = Nat.min str.size ln
        exact Nat.min_eq_left (Nat.min_le_left _ _)
      have hml : Nat.min str.size ln ≤ ln := Nat.min_le_right _ _
      have he' : W0.ev (.rop (.copy 1) [eo, lo, len, .rop .ofStr [s]]) = some (.row k (putPV cs (la * 1) (vs.map PV.v))) := by
        have g1' : eo.ev W0.s W0.F = some (.row k cs) := g1
        have f1' : lo.ev W0.s W0.F = some (.v (.int .i64 (la : Int))) := f1
        have f2' : len.ev W0.s W0.F = some (.v (.int .i64 (ln : Int))) := f2
        have hs' : SX.ev W0.s W0.F (.rop .ofStr [s]) = some (.row str.size ((byteCells str).map PV.v)) := ev_ofStr hstr
        have q1 : (0 : Int) ≤ (la : Int) := by omega
        have q2 : (0 : Int) ≤ (ln : Int) := by omega
        have q3 : (la : Int) + (ln : Int) ≤ (k : Int) := by omega
        have q4 : Nat.beq ((byteCells str).map PV.v).length str.size = true := by simp [byteCells_length]
        rw [Base.ev, SX.ev, evs, evs, evs, evs, evs, g1', f1', f2', hs']
        simp only [Option.bind_some, Option.map_some, ropPV, q1, q2, q3, q4, decide_true, Bool.and_self, cond_true, Int.toNat_natCast, Nat.mul_one, ← List.map_take, vs]
      obtain ⟨w', m', hrun, hle, hmb, hok⟩ := storeS (P := P) (off := la * 1) (vs := vs) hl hR hF ha hb hp g1 he' (by rw [hvl]; omega) (fun x hx => by
        have := List.mem_of_mem_take hx
        obtain ⟨_, _, rfl⟩ := List.mem_map.1 this
        rfl)
      refine ⟨m', w', _, ev_sym hok.rel.sv (ev_bin_min (ev_slen hstr) f2) rfl, ?_, hok.more (fun r hr => bit_or_l hr)⟩
      refine run_copy_eng P t tx ty e i ht hi (some ⟨b.1, la * 1, none⟩) ln (b.2 - la) str.size (.string str) vs w w' rfl ?_ (fun a ha => by cases ha; exact hrun) (fun h => by cases h)
      rw [hi1]
      have hb := byteCells_take str (Nat.min str.size ln)
      simp only [Builtin.firstCells]
      show Result.ok _ w = _
      congr 1
      apply Array.ext'
      simpa [vs] using hb
    · cases h
  · cases h

/-! Parts. -/
def same2 (e : SX) : SX := .rop .min2 [e, e]
theorem ev_same2 {e : SX} {k : IntKind} {z : Int} (h : W0.ev e = some (.v (.int k z))) : W0.ev (same2 e) = some (.v (.int k z)) := by
  have h' : e.ev W0.s W0.F = some (.v (.int k z)) := h
  simp [same2, Base.ev, SX.ev, evs, h', ropPV]
def loX : Option AV → Option SX | none => some (same2 c0) | some a => a.sx.map same2
def hiX (len : SX) : Option AV → Option SX | none => some len | some a => a.sx
def aSliceS (P : Program) (t : TypeId) (x : AV) (lo hi mx : Option AV) : Option (AV × Log) := match P.underlying t, x, mx with
  | some (.slice e), .sliceS r v l0 len sz, none => cond (isC0 l0 && (tySize P e == some sz)) ((loX lo).bind fun le => (hiX len hi).map fun he =>
      (.sliceS r v le (.bin .sub he le) sz, (Log.says (.le3 le he len)).or (Log.says (.rng le len)))) none
  | _, _, _ => none
theorem loX_ok {m : Map} (hs : ∀ e, m.s e = W0.sv e) {lo : Option AV} {vlo : Option Value} {le : SX} {a : Nat} (h : loX lo = some le) (hd : denO m lo = some vlo) (hev : W0.ev le = some (.v (.int .i64 (a : Int)))) : (vlo = none ∧ a = 0) ∨ vlo = some (.int .i64 (a : Int)) := by
  cases lo with
  | none =>
    simp only [loX, Option.some.injEq] at h
    subst h
    simp only [denO, Option.some.injEq] at hd
    have : W0.ev (same2 c0) = some (.v (.int .i64 0)) := ev_same2 rfl
    rw [this] at hev
    simp only [Option.some.injEq, PV.v.injEq, Value.int.injEq, true_and] at hev
    exact .inl ⟨hd.symm, by omega⟩
  | some x =>
    simp only [loX, Option.map_eq_some_iff] at h
    obtain ⟨e, he, rfl⟩ := h
    simp only [denO, Option.map_eq_some_iff] at hd
    obtain ⟨v, hv, rfl⟩ := hd
    have h1 := sx_ok hs x he hv
    have h1' : e.ev W0.s W0.F = some (.v v) := h1
    simp only [same2, Base.ev, SX.ev, evs, h1', Option.bind_some, Option.map_some, ropPV] at hev
    cases v <;> simp at hev
    obtain ⟨rfl, rfl⟩ := hev
    exact .inr rfl
theorem hiX_ok {m : Map} (hs : ∀ e, m.s e = W0.sv e) {hi : Option AV} {vhi : Option Value} {he len : SX} {b c : Nat} (h : hiX len hi = some he) (hd : denO m hi = some vhi) (hev : W0.ev he = some (.v (.int .i64 (b : Int)))) (hlen : W0.ev len = some (.v (.int .i64 (c : Int)))) : (vhi = none ∧ b = c) ∨ vhi = some (.int .i64 (b : Int)) := by
  cases hi with
  | none =>
    simp only [hiX, Option.some.injEq] at h
    subst h
    simp only [denO, Option.some.injEq] at hd
    rw [hlen] at hev
    simp only [Option.some.injEq, PV.v.injEq, Value.int.injEq, true_and, Int.ofNat_inj] at hev
    exact .inl ⟨hd.symm, hev.symm⟩
  | some x =>
    simp only [hiX] at h
    simp only [denO, Option.map_eq_some_iff] at hd
    obtain ⟨v, hv, rfl⟩ := hd
    have h1 := sx_ok hs x h hv
    rw [hev] at h1
    simp only [Option.some.injEq, PV.v.injEq] at h1
    exact .inr (by rw [h1])
theorem bounds3 {P : Program} {vlo vhi : Option Value} {a b c cap : Nat} (hl : (vlo = none ∧ a = 0) ∨ vlo = some (.int .i64 (a : Int))) (hh : (vhi = none ∧ b = c) ∨ vhi = some (.int .i64 (b : Int))) (h1 : a ≤ b) (h2 : b ≤ c) (h3 : c ≤ cap) (w : World) :
    (Instr.sliceBounds true c cap vlo vhi none).run P w = .ok (a, b, cap) w := by
  have hcap : b ≤ cap := by omega
  rcases hl with ⟨rfl, rfl⟩ | rfl <;> rcases hh with ⟨rfl, rfl⟩ | rfl <;> simp [Instr.sliceBounds, Instr.sliceBound, asIntOf, hcap, h1]
theorem ev_sub {x y : SX} {a b : Nat} (h1 : W0.ev x = some (.v (.int .i64 (b : Int)))) (h2 : W0.ev y = some (.v (.int .i64 (a : Int)))) (hab : a ≤ b) (hb : b ≤ 9223372036854775807) : W0.ev (.bin .sub x y) = some (.v (.int .i64 ((b - a : Nat) : Int))) := by
  have h1' : x.ev W0.s W0.F = some (.v (.int .i64 (b : Int))) := h1
  have h2' : y.ev W0.s W0.F = some (.v (.int .i64 (a : Int))) := h2
  have : IntKind.i64.wrap ((b : Int) - (a : Int)) = ((b - a : Nat) : Int) := by rw [IntKind.wrap_i64]; omega
  simp [Base.ev, SX.ev, h1', h2', binPV, this]
theorem aSliceS_ok {P : Program} {t : TypeId} {x y : AV} {lo hi mx : Option AV} {lg : Log} {A : Nat → Prop} {m : Map} {st : St} {w : World} {u : Value} {vlo vhi vmx : Option Value} (h : aSliceS P t x lo hi mx = some (y, lg)) (hA : lg.Fits W0 A)
    (hR : Rel W0 A m st.heap.get w) (hx : x.den m = some u) (hlo : denO m lo = some vlo) (hhi : denO m hi = some vhi) (hmx : denO m mx = some vmx) (hcl : ∀ b l n c, u = .slice (some ⟨b, l, none⟩) n c → n ≤ c ∧ c ≤ 9223372036854775807) : ∃ v, y.den m = some v ∧ (Instr.sliceAt t u vlo vhi vmx).run P w = .ok v w := by
  unfold aSliceS at h
  split at h
  · rename_i e r v l0 len sz hu
    simp only [cond_eq_ite, Bool.and_eq_true, beq_iff_eq] at h
    split at h
    · rename_i hc
      simp only [Option.bind_eq_some_iff, Option.map_eq_some_iff] at h
      obtain ⟨le, hle, he, hhe, h⟩ := h
      cases h
      simp only [denO, Option.some.injEq] at hmx
      subst hmx
      obtain ⟨a, b, c, f1, f2, f3, f4, f5⟩ := (or_A hA).1.2 _ (List.mem_singleton.2 rfl)
      obtain ⟨k, z, n, f6, f7, f8, f9⟩ := (or_A hA).2.2 _ (List.mem_singleton.2 rfl)
      rw [f1] at f6
      rw [f3] at f7
      simp only [Option.some.injEq, PV.v.injEq, Value.int.injEq, true_and] at f6 f7
      obtain ⟨_, rfl⟩ := f6
      subst f7
      obtain ⟨bb, l, n', hb, h1, h2, rfl⟩ := sliceS_inv hR.sv hx
      rw [isC0_ok hc.1] at h1
      rw [f3] at h2
      simp only [Option.some.injEq, PV.v.injEq, Value.int.injEq, true_and, Int.ofNat_inj] at h1 h2
      have hl0 : l = 0 := by omega
      subst hl0
      subst h2
      obtain ⟨c1, c2⟩ := hcl _ _ _ _ rfl
      have hbo := bounds3 (P := P) (cap := bb.2 - 0) (loX_ok hR.sv hle hlo f1) (hiX_ok hR.sv hhe hhi f2 f3) f4 f5 c1 w
      refine ⟨_, wholeS hR.sv hb f1 (ev_sub f2 f1 f4 (by omega)), ?_⟩
      rw [Nat.sub_zero] at hbo
      have hne : ¬ (bb.2 = a) := by omega
      simp [Instr.sliceAt, Instr.slice, run_underlying hu, hbo, run_sizeOf_eng hc.2, addr_add, hne]
    · cases h
  · cases h
end Go.Proofs.Ytfcdbknmajfkaaa.eng
