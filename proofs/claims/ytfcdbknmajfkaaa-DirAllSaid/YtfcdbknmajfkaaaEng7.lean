/- The engine: append whole, copy, literals, made slices. -/
import Derived.Test.YtfcdbknmajfkaaaEng6
import Derived.Great.BuildSlice
import Derived.Laws.MakeOwn
namespace Go.Proofs.Ytfcdbknmajfkaaa.eng
open Go
variable {W0 : Base}
set_option linter.unusedVariables false
set_option linter.unusedSimpArgs false

/-- What a zero value is made of, where that can be told. -/
def oneV : Value → Bool | .agg _ | .tuple _ => false | _ => true
theorem oneV_ok {v : Value} (h : oneV v = true) : v.oneCell' = true := by cases v <;> simp_all [oneV, Value.oneCell']
def zOk (i : TypeInfo) (z : Value) (k : Nat) : Bool := Nat.blt 0 i.size && Nat.ble (k * i.bytes) 281474976710656 && Nat.blt k 4611686018427387904 && Nat.beq z.cells.size i.size && z.cells.toList.all oneV
theorem zOk_ok {P : Program} {i : TypeInfo} {z : Value} {k : Nat} {tx : TypeId} {kn kq : IntKind} {w : World} (h : zOk i z k = true) (hz : i.zero = some z) (htx : P.underlying tx = some (.int kn)) : SrcA P i tx (.int kq k) k (Builtin.zeroCells z.cells k).toList w := by
  simp only [zOk, Bool.and_eq_true, Nat.blt_eq, Nat.ble_eq, Nat.beq_eq, List.all_eq_true] at h
  obtain ⟨⟨⟨⟨h1, h2⟩, h3⟩, h4⟩, h5⟩ := h
  exact .inr ⟨⟨kn, htx⟩, ⟨kq, rfl⟩, h1, h2, h3, z, hz, h4, fun u hu => oneV_ok (h5 u hu), rfl⟩

def aAppend (P : Program) (st : St) (t tx : TypeId) (s x : AV) : Option (AV × St × Log) :=
  match P.underlying t with
  | some (.slice e) => (P.info? e).bind fun i => cond (kindOk P tx)
      ((aSrc st i.size x).bind fun (n, ys, l1) => (aOnto st e i n ys s).map fun (y, st', l2) => (y, st', l1.or l2))
      (match P.underlying tx, x, i.zero with
        | some (.int kn), .val (.int kq (.ofNat k)), some z => cond (zOk i z k) (aOnto st e i k ((Builtin.zeroCells z.cells k).toList.map .val) s) none
        | _, _, _ => none)
  | _ => none
theorem aAppend_ok {P : Program} {st st' : St} {t tx ty : TypeId} {s x y : AV} {lg : Log} {A : Nat → Prop} {m : Map} {w : World} {q u : Value} (h : aAppend P st t tx s x = some (y, st', lg))
    (hA : lg.Fits W0 A) (hR : Rel W0 A m st.heap.get w) (hF : Fresh A m st.next) (hs : s.den m = some q) (hx : x.den m = some u) :
    ∃ m' w' z, y.den m' = some z ∧ (Builtin.append_ #[t, tx] ty #[q, u]).run P w = .ok z w' ∧ Ok W0 A m st w m' st' lg w' := by
  unfold aAppend at h
  split at h
  · rename_i e ht
    simp only [Option.bind_eq_some_iff] at h
    obtain ⟨i, hi, h⟩ := h
    cases hk : kindOk P tx with
    | true =>
      simp only [hk, cond_true, Option.bind_eq_some_iff, Option.map_eq_some_iff] at h
      obtain ⟨⟨n, ys, l1⟩, h1, ⟨y1, s1, l2⟩, h2, he⟩ := h
      cases he
      obtain ⟨vs, hd, hsrc⟩ := aSrc_ok (P := P) h1 hk (or_A hA).1 hR hx
      obtain ⟨m', w', z, hz, hrun, hok⟩ := aOnto_ok (ty := ty) h2 (or_A hA).2 hR hF ht hi hs hd (.inl hsrc)
      exact ⟨m', w', z, hz, hrun, hok.more (fun r hr => by simp only [Log.or]; exact bit_or_r hr)⟩
    | false =>
      simp only [hk, cond_false] at h
      split at h
      · rename_i kn kq k z htx hz
        simp only [AV.den, Option.some.injEq] at hx
        subst hx
        cases hc : zOk i z k with
        | false => simp [hc] at h
        | true =>
          simp only [hc, cond_true] at h
          exact aOnto_ok (ty := ty) h hA hR hF ht hi hs (denL_vals m _) (zOk_ok hc hz htx)
      · cases h
  · cases h

/-! copy. -/
theorem run_copy_eng (P : Program) (t tx ty e : TypeId) (ie : TypeInfo) (ht : P.underlying t = some (.slice e)) (hi : P.info? e = some ie) (base : Option Addr) (dlen cap n : Nat) (x : Value) (vs : List Value) (w w' : World)
    (hl : (Builtin.lenOf x).run P w = .ok n w) (hc : (Builtin.firstCells ie.size (Nat.min n dlen) x).run P w = .ok vs.toArray w) (hst : ∀ a, base = some a → (storeCells a vs).run P w = .ok () w') (hn : base = none → w' = w) :
    (Builtin.copy_ #[t, tx] ty #[.slice base dlen cap, x]).run P w = .ok (.int .i64 (Nat.min n dlen : Nat)) w' := by
  cases base with
  | none => have := hn rfl; subst this; simp [Builtin.copy_, run_underlying ht, hl, sizeOf, typeInfo, hi, hc, goInt]
  | some a => have := hst a rfl; simp [Builtin.copy_, run_underlying ht, hl, sizeOf, typeInfo, hi, hc, goInt, this]
def aCopySrc (st : St) (esz dlen : Nat) : AV → Option (Nat × List AV × Log)
  | .val (.slice none n c) => cond (Nat.beq n 0) (some (0, [], Log.no)) none
  | .val (.string s) => cond (Nat.beq esz 1) (some (s.size, ((s.extract 0 (Nat.min s.size dlen)).data.map fun b => Value.int .u8 b.toNat).toList.map .val, Log.no)) none
  | .slice r v lo sz len cap opn => cond (Nat.beq sz esz) ((look st r v).bind fun (o, n) => cond (Nat.ble (lo * sz + Nat.min len dlen * sz) n) (some (len, cellsAt o (lo * sz) (Nat.min len dlen * sz), Log.sees r)) none) none
  | _ => none
theorem aCopySrc_ok {P : Program} {st : St} {esz dlen n : Nat} {x : AV} {ys : List AV} {lg : Log} {A : Nat → Prop} {m : Map} {w : World} {u : Value} (h : aCopySrc st esz dlen x = some (n, ys, lg)) (hA : lg.Fits W0 A)
    (hR : Rel W0 A m st.heap.get w) (hx : x.den m = some u) : ∃ vs, denL m ys = some vs ∧ (Builtin.lenOf u).run P w = .ok n w ∧ (Builtin.firstCells esz (Nat.min n dlen) u).run P w = .ok vs.toArray w := by
  unfold aCopySrc at h
  split at h
  · rename_i n' c
    cases hc : Nat.beq n' 0 with
    | false => simp [hc] at h
    | true =>
      have h0 := Nat.eq_of_beq_eq_true hc
      subst h0
      simp only [Nat.beq_refl, cond_true, Option.some.injEq, Prod.mk.injEq] at h
      obtain ⟨rfl, rfl, rfl⟩ := h
      simp only [AV.den, Option.some.injEq] at hx
      subst hx
      exact ⟨[], rfl, rfl, run_firstCells_none w esz _ 0 c⟩
  · rename_i s
    cases hc : Nat.beq esz 1 with
    | false => simp [hc] at h
    | true =>
      have h0 := Nat.eq_of_beq_eq_true hc
      subst h0
      simp only [Nat.beq_refl, cond_true, Option.some.injEq, Prod.mk.injEq] at h
      obtain ⟨rfl, rfl, rfl⟩ := h
      simp only [AV.den, Option.some.injEq] at hx
      subst hx
      refine ⟨_, denL_vals m _, rfl, ?_⟩
      simp only [Builtin.firstCells, Sem.run_pure, Array.toArray_toList]
  · rename_i r v lo sz len cap opn
    cases hc : Nat.beq sz esz with
    | false => simp [hc] at h
    | true =>
      have h0 := Nat.eq_of_beq_eq_true hc
      subst h0
      simp only [Nat.beq_refl, cond_true, Option.bind_eq_some_iff] at h
      obtain ⟨⟨o, nv⟩, hl, h⟩ := h
      obtain ⟨ho, hv⟩ := look_ok hl
      cases hle : Nat.ble (lo * sz + Nat.min len dlen * sz) nv with
      | false => simp [hle] at h
      | true =>
        simp only [hle, cond_true, Option.some.injEq, Prod.mk.injEq] at h
        obtain ⟨rfl, rfl, rfl⟩ := h
        have ha : A r := hA.1 r (by simp [Log.sees, bit_one])
        simp only [AV.den, Option.map_eq_some_iff] at hx
        obtain ⟨b, hb, rfl⟩ := hx
        obtain ⟨b', hb', hB⟩ := hR.blk r o ha ho v nv hv
        rw [hb] at hb'; cases hb'
        obtain ⟨l, hd, hlen, hrun, hcell⟩ := hB.cells (P := P) (Nat.le_of_ble_eq_true hle)
        exact ⟨l, hd, rfl, by simpa [Builtin.firstCells] using hrun⟩
  · cases h
def aCopy (P : Program) (st : St) (t : TypeId) (d x : AV) : Option (AV × St × Log) :=
  match P.underlying t with
  | some (.slice e) => (P.info? e).bind fun i => match d with
    | .val (.slice none 0 c) => (aCopySrc st i.size 0 x).map fun (n, ys, l1) => (.val (.int .i64 (Nat.min n 0 : Nat)), st, l1)
    | .slice r v lo sz len cap opn => cond (Nat.beq sz i.size) ((aCopySrc st i.size len x).bind fun (n, ys, l1) => cond (Nat.beq (Nat.min n len) 0) none
        ((aPutCells st r v (lo * sz) ys).map fun (st', l2) => (.val (.int .i64 (Nat.min n len : Nat)), st', l1.or l2))) none
    | _ => none
  | _ => none
theorem aCopy_ok {P : Program} {st st' : St} {t tx ty : TypeId} {d x y : AV} {lg : Log} {A : Nat → Prop} {m : Map} {w : World} {q u : Value} (h : aCopy P st t d x = some (y, st', lg))
    (hA : lg.Fits W0 A) (hR : Rel W0 A m st.heap.get w) (hF : Fresh A m st.next) (hs : d.den m = some q) (hx : x.den m = some u) :
    ∃ m' w' z, y.den m' = some z ∧ (Builtin.copy_ #[t, tx] ty #[q, u]).run P w = .ok z w' ∧ Ok W0 A m st w m' st' lg w' := by
  unfold aCopy at h
  split at h
  · rename_i e ht
    simp only [Option.bind_eq_some_iff] at h
    obtain ⟨i, hi, h⟩ := h
    split at h
    · rename_i c
      simp only [Option.map_eq_some_iff] at h
      obtain ⟨⟨n, ys, l1⟩, h1, he⟩ := h
      cases he
      simp only [AV.den, Option.some.injEq] at hs
      subst hs
      obtain ⟨vs, hd, hlen, hc⟩ := aCopySrc_ok (P := P) h1 hA hR hx
      exact ⟨m, w, _, rfl, run_copy_eng P t tx ty e i ht hi none 0 c n u vs w w hlen hc (fun a ha => by cases ha) (fun _ => rfl), Ok.refl hR hF⟩
    · rename_i r v lo sz len cap opn
      cases hsz : Nat.beq sz i.size with
      | false => simp [hsz] at h
      | true =>
        have hsz := Nat.eq_of_beq_eq_true hsz
        subst hsz
        simp only [Nat.beq_refl, cond_true, Option.bind_eq_some_iff] at h
        obtain ⟨⟨n, ys, l1⟩, h1, h⟩ := h
        cases h0 : Nat.beq (Nat.min n len) 0 with
        | true => simp [h0] at h
        | false =>
          simp only [h0, cond_false, Option.map_eq_some_iff] at h
          obtain ⟨⟨s1, l2⟩, hp, he⟩ := h
          cases he
          simp only [AV.den, Option.map_eq_some_iff] at hs
          obtain ⟨b, hb, rfl⟩ := hs
          obtain ⟨vs, hd, hlen, hc⟩ := aCopySrc_ok (P := P) h1 (or_A hA).1 hR hx
          obtain ⟨w', hrun, hok⟩ := aPutCells_ok (P := P) hp (or_A hA).2 hR hF hb hd
          exact ⟨m, w', _, rfl, run_copy_eng P t tx ty e i ht hi _ len _ n u vs w w' hlen hc (fun a ha => by cases ha; exact hrun) (fun hn => by cases hn), hok.more (fun r hr => by simp only [Log.or]; exact bit_or_r hr)⟩
    · cases h
  · cases h

/-! Literals. -/
def aFill (place : Nat → Option (Nat × Nat)) (cells : List AV) : List (Nat × AV) → Option (List AV)
  | [] => some cells
  | (i, y) :: rest => (place i).bind fun (off, size) => cond (Nat.beq y.cellsOf.length size && Nat.ble (off + size) cells.length) (aFill place (cells.take off ++ y.cellsOf ++ cells.drop (off + size)) rest) none
theorem foldl_put (vs : List Value) : ∀ (off j : Nat) (cs : Array Value), off + j + vs.length ≤ cs.size → ((vs.zipIdx j).foldl (fun cs p => cs.setIfInBounds (off + p.2) p.1) cs).toList = cs.toList.take (off + j) ++ vs ++ cs.toList.drop (off + j + vs.length) := by
  induction vs with
  | nil => intro off j cs h; simp
  | cons v vs ih =>
    intro off j cs h
    simp only [List.zipIdx_cons, List.foldl_cons]
    rw [ih off (j + 1) _ (by simp at h ⊢; omega)]
    have e := list_seg_step cs.toList (off + j) v vs (by simp at h ⊢; omega)
    simpa [Array.toList_setIfInBounds, Nat.add_assoc] using e
def denP (m : Map) : List (Nat × AV) → Option (List (Nat × Value))
  | [] => some []
  | (i, y) :: l => (y.den m).bind fun v => (denP m l).map ((i, v) :: ·)
theorem fill_ok {m : Map} {place : Nat → Option (Nat × Nat)} : ∀ {ps : List (Nat × AV)} {vps : List (Nat × Value)} {cells res : List AV} {cs : Array Value}, denP m ps = some vps → denL m cells = some cs.toList → aFill place cells ps = some res → ∃ cs', Instr.fill place cs vps = some cs' ∧ denL m res = some cs'.toList
  | [], vps, cells, res, cs, hp, hc, h => by
    simp [denP] at hp; subst hp
    simp [aFill] at h; subst h
    exact ⟨cs, rfl, hc⟩
  | (i, y) :: rest, vps, cells, res, cs, hp, hc, h => by
    simp only [denP, Option.bind_eq_some_iff, Option.map_eq_some_iff] at hp
    obtain ⟨v, hv, vr, hvr, rfl⟩ := hp
    simp only [aFill, Option.bind_eq_some_iff] at h
    obtain ⟨⟨off, size⟩, hpl, h⟩ := h
    cases hb : (Nat.beq y.cellsOf.length size && Nat.ble (off + size) cells.length) with
    | false => simp [hb] at h
    | true =>
      simp only [hb, cond_true] at h
      simp only [Bool.and_eq_true, Nat.beq_eq, Nat.ble_eq] at hb
      have hcv := cellsOf_ok hv
      have hvl : v.cells.size = size := by have := denL_length hcv; simp at this; omega
      have hcl : cs.size = cells.length := by simpa using denL_length hc
      have hput := foldl_put v.cells.toList off 0 cs (by simp; omega)
      have hfold : (v.cells.zipIdx.foldl (fun cs (x : Value × Nat) => match x with | (c, j) => cs.setIfInBounds (off + j) c) cs) = ((v.cells.toList.zipIdx 0).foldl (fun cs p => cs.setIfInBounds (off + p.2) p.1) cs) := by
        rw [← Array.foldl_toList, Array.toList_zipIdx]
      simp only [Nat.add_zero, Array.length_toList, hvl] at hput
      obtain ⟨cs', h1, h2⟩ := fill_ok (place := place) (cs := (v.cells.toList.zipIdx 0).foldl (fun cs p => cs.setIfInBounds (off + p.2) p.1) cs) hvr (by
        rw [hput]
        exact denL_append (denL_append (denL_take off hc) hcv) (denL_drop (off + size) hc)) h
      refine ⟨cs', ?_, h2⟩
      simp only [Instr.fill, hpl]
      rw [if_neg (by rw [hvl, hcl]; simp; exact hb.2)]
      exact (congrArg (fun q => Instr.fill place q vr) hfold).trans h1

def evP (x : AAct) : List (Nat × Operand) → Option (List (Nat × AV))
  | [] => some []
  | (i, o) :: l => (ev x o).bind fun y => (evP x l).map ((i, y) :: ·)
theorem evP_ok {m : Map} {x : AAct} {a : Act} (h : TRel m x a) : ∀ {l : List (Nat × Operand)} {ys : List (Nat × AV)}, evP x l = some ys → denP m ys = some (l.map fun (i, o) => (i, a.eval o))
  | [], ys, hy => by simp [evP] at hy; subst hy; rfl
  | (i, o) :: l, ys, hy => by
    simp only [evP, Option.bind_eq_some_iff, Option.map_eq_some_iff] at hy
    obtain ⟨y, hy, z, hz, rfl⟩ := hy
    simp [denP, ev_ok h hy, evP_ok h hz]
def aBuild (P : Program) (t : TypeId) (ps : List (Nat × AV)) : Option AV :=
  match P.info? t, P.underlying t with
  | some it, some (.array _ e) => match it.zero, P.info? e with
    | some z, some ie => (aFill (fun i => some (i * ie.size, ie.size)) (z.cells.toList.map .val) ps).map .agg
    | _, _ => none
  | some it, some (.struct fields) => match it.zero, fields.toList.mapM (fun f => (P.info? f.type).map fun i => (f.offset, i.size)) with
    | some z, some places => (aFill (places.toArray[·]?) (z.cells.toList.map .val) ps).map .agg
    | _, _ => none
  | _, _ => none
theorem aBuild_ok {P : Program} {t : TypeId} {ps : List (Nat × AV)} {y : AV} {m : Map} {vps : Array (Nat × Value)} (h : aBuild P t ps = some y) (hp : denP m ps = some vps.toList) (w : World) : ∃ v, y.den m = some v ∧ (Instr.build t vps).run P w = .ok v w := by
  have key : ∀ place (z : Value) res, aFill place (z.cells.toList.map .val) ps = some res → (∀ cs, Instr.fill place z.cells vps.toList = some cs → P.built t vps.toList = some cs) → ∃ v, (AV.agg res).den m = some v ∧ (Instr.build t vps).run P w = .ok v w := by
    intro place z res hf hb
    obtain ⟨cs', h1, h2⟩ := fill_ok hp (denL_vals m z.cells.toList) hf
    exact ⟨.agg cs', by simp [AV.den, h2], run_build w t vps cs' (hb cs' h1)⟩
  unfold aBuild at h
  split at h
  · rename_i it n e hit hu
    split at h
    · rename_i z ie hz hie
      simp only [Option.map_eq_some_iff] at h
      obtain ⟨res, hf, rfl⟩ := h
      exact key _ z res hf (fun cs hc => by unfold Program.built; rw [hit, hu]; simp only [hz, hie]; exact hc)
    · cases h
  · rename_i it fields hit hu
    split at h
    · rename_i z places hz hpl
      simp only [Option.map_eq_some_iff] at h
      obtain ⟨res, hf, rfl⟩ := h
      exact key _ z res hf (fun cs hc => by unfold Program.built; rw [hit, hu]; simp only [hz, hpl]; exact hc)
    · cases h
  · cases h

theorem alloc_world' (w : World) (o : Obj) : (w.alloc o).os = w.os ∧ (w.alloc o).tape = w.tape ∧ (w.alloc o).output = w.output ∧ w.heap.size ≤ (w.alloc o).heap.size ∧ (∀ k, k < w.heap.size → (w.alloc o).heap[k]? = w.heap[k]?) ∧ (w.alloc o).heap[w.heap.size]? = some o := by
  refine ⟨rfl, rfl, rfl, ?_, fun k hk => ?_, ?_⟩
  · show w.heap.size ≤ (w.heap.push o).size; simp
  · show (w.heap.push o)[k]? = _; rw [Array.getElem?_push, if_neg (by omega)]
  · show (w.heap.push o)[w.heap.size]? = _; simp
/-- A new row, its cells known. -/
theorem row_ok {st st' : St} {cells : List AV} {elem : TypeId} {esz : Nat} {lg : Log} {A : Nat → Prop} {m : Map} {w : World} {c : Array Value} (h : st.alloc cells elem esz false = some (st', lg)) (hA : lg.Fits W0 A)
    (hR : Rel W0 A m st.heap.get w) (hF : Fresh A m st.next) (hc : denL m cells = some c.toList) : Ok W0 A m st w (m.new st.next (w.heap.size, 0)) st' lg (w.alloc (.cells c elem)) := by
  obtain ⟨g1, g2, g3, g4, g5, g6⟩ := alloc_world' w (.cells c elem)
  refine alloc_ok h hA hR hF g1 g2 g3 g4 g5 g6 (fun i _ => by omega) (fun i x hx => ?_) ?_
  · obtain ⟨v, hv, hg⟩ := denL_get hc hx
    exact ⟨v, hv, by simpa using hg⟩
  · simpa using denL_length hc

def aBuildSlice (P : Program) (st : St) (t : TypeId) (len : Nat) (ps : List (Nat × AV)) : Option (AV × St × Log) :=
  match P.underlying t with
  | some (.slice e) => (P.info? e).bind fun ie => match ie.zero with
    | some z => cond (Nat.ble (len * ie.size) 16777216 && Nat.blt 0 (len * ie.size))
        ((aFill (fun i => some (i * ie.size, ie.size)) (((Array.range (len * ie.size)).map (z.cells[· % z.cells.size]!)).toList.map .val) ps).bind fun cells => (st.alloc cells e ie.size false).map fun (st', lg) => (.slice st.next 0 0 ie.size len len false, st', lg))
        (cond (Nat.beq len 0 && ps.isEmpty) ((st.alloc [] e ie.size false).map fun (st', lg) => (.slice st.next 0 0 ie.size 0 0 false, st', lg)) none)
    | none => none
  | _ => none
theorem aBuildSlice_ok {P : Program} {st st' : St} {t : TypeId} {len : Nat} {ps : List (Nat × AV)} {y : AV} {lg : Log} {A : Nat → Prop} {m : Map} {w : World} {vps : Array (Nat × Value)} (h : aBuildSlice P st t len ps = some (y, st', lg)) (hA : lg.Fits W0 A)
    (hR : Rel W0 A m st.heap.get w) (hF : Fresh A m st.next) (hp : denP m ps = some vps.toList) : ∃ m' w' v, y.den m' = some v ∧ (Instr.buildSlice t len vps).run P w = .ok v w' ∧ Ok W0 A m st w m' st' lg w' := by
  unfold aBuildSlice at h
  split at h
  · rename_i e hu
    simp only [Option.bind_eq_some_iff] at h
    obtain ⟨ie, hie, h⟩ := h
    split at h
    · rename_i z hz
      cases hc : (Nat.ble (len * ie.size) 16777216 && Nat.blt 0 (len * ie.size)) with
      | true =>
        simp only [hc, cond_true, Option.bind_eq_some_iff, Option.map_eq_some_iff] at h
        simp only [Bool.and_eq_true, Nat.ble_eq, Nat.blt_eq] at hc
        obtain ⟨cells, hf, ⟨s1, l1⟩, hal, he⟩ := h
        cases he
        obtain ⟨cs', h1, h2⟩ := fill_ok hp (denL_vals m _) hf
        exact ⟨_, _, _, by simp [AV.den, Map.new], run_buildSlice w t e len vps cs' ie z hu hie hz (by omega) (by omega) h1, row_ok hal hA hR hF h2⟩
      | false =>
        simp only [hc, cond_false] at h
        cases hc2 : (Nat.beq len 0 && ps.isEmpty) with
        | false => simp [hc2] at h
        | true =>
          simp only [hc2, cond_true, Option.map_eq_some_iff] at h
          simp only [Bool.and_eq_true, Nat.beq_eq, List.isEmpty_iff] at hc2
          obtain ⟨rfl, rfl⟩ := hc2
          obtain ⟨⟨s1, l1⟩, hal, he⟩ := h
          cases he
          have hv : vps = #[] := by
            simp [denP] at hp
            apply Array.ext'
            simpa using hp.symm
          subst hv
          refine ⟨_, w.alloc (.cells #[] e), _, by simp [AV.den, Map.new]; rfl, ?_, row_ok hal hA hR hF rfl⟩
          simp [Instr.buildSlice, run_underlying hu, sizeOf, typeInfo, hie, Instr.fill, newRow]
          congr 2
          apply Array.ext'
          simp
    · cases h
  · cases h

def aMakeSlice (P : Program) (st : St) (t : TypeId) (l c : AV) : Option (AV × St × Log) :=
  match P.underlying t, l.int?, c.int? with
  | some (.slice e), some (kl, .ofNat len), some (kc, .ofNat cap) => (P.info? e).bind fun i => match i.zero with
    | some z => cond (Nat.ble len cap && Nat.ble (i.bytes * cap) 281474976710656 && Nat.ble cap 9223372036854775807) ((st.alloc ((madeCells z.cells (cap * i.size)).toList.map .val) e i.size false).map fun (st', lg) => (.slice st.next 0 0 i.size len cap false, st', lg)) none
    | none => none
  | _, _, _ => none
theorem aMakeSlice_ok {P : Program} {st st' : St} {t : TypeId} {l c y : AV} {lg : Log} {A : Nat → Prop} {m : Map} {w : World} {vl vc : Value} (h : aMakeSlice P st t l c = some (y, st', lg)) (hA : lg.Fits W0 A)
    (hR : Rel W0 A m st.heap.get w) (hF : Fresh A m st.next) (hl : l.den m = some vl) (hc : c.den m = some vc) : ∃ m' w' v, y.den m' = some v ∧ (Instr.makeSlice t vl vc).run P w = .ok v w' ∧ Ok W0 A m st w m' st' lg w' := by
  unfold aMakeSlice at h
  split at h
  · rename_i e kl len kc cap hu h1 h2
    rw [int?_ok h1] at hl
    rw [int?_ok h2] at hc
    cases hl; cases hc
    simp only [Option.bind_eq_some_iff] at h
    obtain ⟨i, hi, h⟩ := h
    split at h
    · rename_i z hz
      cases hq : (Nat.ble len cap && Nat.ble (i.bytes * cap) 281474976710656 && Nat.ble cap 9223372036854775807) with
      | false => simp [hq] at h
      | true =>
        simp only [hq, cond_true, Option.map_eq_some_iff] at h
        simp only [Bool.and_eq_true, Nat.ble_eq] at hq
        obtain ⟨⟨s1, l1⟩, hal, he⟩ := h
        cases he
        have hr := run_make (P := P) w t e i z hu hi hz kl kc (.ofNat len) (.ofNat cap) (by simp) (by simp; exact hq.1.1) (by have := hq.1.2; simp; rw [← Int.natCast_mul]; omega) (by simp; omega)
        exact ⟨_, _, _, by simp [AV.den, Map.new], hr, row_ok hal hA hR hF (denL_vals m _)⟩
    · cases h
  · cases h

end Go.Proofs.Ytfcdbknmajfkaaa.eng
