/- The engine: append, copy. -/
import Derived.Test.YtfcdbknmajfkaaaEng4
import Derived.Deep.AppendSrc
import Derived.Deep.Upon
import Derived.Lib.AppendZerosOnto
namespace Go.Proofs.Ytfcdbknmajfkaaa.eng
open Go
variable {W0 : Base}
set_option linter.unusedVariables false
set_option linter.unusedSimpArgs false

def kindOk (P : Program) (t : TypeId) : Bool := match P.underlying t with | some (.slice _) => true | some .string => true | _ => false
theorem kindOk_ok {P : Program} {t : TypeId} (h : kindOk P t = true) : (∃ e', P.underlying t = some (.slice e')) ∨ P.underlying t = some .string := by
  unfold kindOk at h
  split at h
  · rename_i e he; exact .inl ⟨e, he⟩
  · rename_i he; exact .inr he
  · cases h

/-- append where there is room. -/
theorem run_append_room_eng (P : Program) (t tx ty e : TypeId) (i : TypeInfo) (ht : P.underlying t = some (.slice e)) (hi : P.info? e = some i) (a : Addr) (len cap n : Nat) (x : Value) (news : List Value) (w w' : World) (hs : Src P i.size tx x n news w)
    (hroom : len + n ≤ cap) (hst : (storeCells (a.add (len * i.size)) news).run P w = .ok () w') :
    (Builtin.append_ #[t, tx] ty #[.slice (some a) len cap, x]).run P w = .ok (.slice (some a) (len + n) cap) w' := by
  rcases hs.kind with ⟨e', hk⟩ | hk <;> simp [Builtin.append_, run_underlying ht, run_underlying hk, sizeOf, typeInfo, hi, hs.len, hroom, hs.cells, hst]

/-- What is appended, or copied: how many, which cells. -/
def aSrc (st : St) (esz : Nat) : AV → Option (Nat × List AV × Log)
  | .val (.slice none n c) => cond (Nat.beq n 0) (some (0, [], Log.no)) none
  | .val (.string s) => cond (Nat.beq esz 1) (some (s.size, s.data.toList.map fun b => .val (.int .u8 b.toNat), Log.no)) none
  | .slice r v lo sz len cap opn => cond (Nat.beq sz esz) ((look st r v).bind fun (o, n) => cond (Nat.ble (lo * sz + len * sz) n && (cellsAt o (lo * sz) (len * sz)).all AV.one) (some (len, cellsAt o (lo * sz) (len * sz), Log.sees r)) none) none
  | _ => none
theorem Src.mk' {P : Program} {size : Nat} {tx : TypeId} {x : Value} {n : Nat} {news : List Value} {w : World} (hk : kindOk P tx = true) (hl : ∀ w', (Builtin.lenOf x).run P w' = .ok n w') (hc : (Builtin.firstCells size n x).run P w = .ok news.toArray w) (hcD : (Builtin.firstCells size n x).run P w.drew = .ok news.toArray w.drew)
    (hn : news.length = n * size) (h1 : ∀ u ∈ news, u.oneCell' = true) : Src P size tx x n news w := ⟨kindOk_ok hk, hl, hc, hcD, hn, h1⟩
theorem aSrc_ok {P : Program} {st : St} {esz n : Nat} {x : AV} {ys : List AV} {lg : Log} {A : Nat → Prop} {m : Map} {w : World} {u : Value} {tx : TypeId} (h : aSrc st esz x = some (n, ys, lg)) (hk : kindOk P tx = true) (hA : lg.Fits W0 A)
    (hR : Rel W0 A m st.heap.get w) (hx : x.den m = some u) : ∃ vs, denL m ys = some vs ∧ Src P esz tx u n vs w := by
  unfold aSrc at h
  split at h
  · rename_i n' c
    simp only [cond_eq_ite, Nat.beq_eq] at h
    split at h
    · rename_i h0
      subst h0
      simp only [Option.some.injEq, Prod.mk.injEq] at h
      obtain ⟨rfl, rfl, rfl⟩ := h
      simp only [AV.den, Option.some.injEq] at hx
      subst hx
      exact ⟨[], rfl, Src.mk' hk (fun _ => rfl) (run_firstCells_none w esz 0 0 c) (run_firstCells_none w.drew esz 0 0 c) (by simp) (fun _ h => by cases h)⟩
    · cases h
  · rename_i s
    simp only [cond_eq_ite, Nat.beq_eq] at h
    split at h
    · rename_i h0
      subst h0
      simp only [Option.some.injEq, Prod.mk.injEq] at h
      obtain ⟨rfl, rfl, rfl⟩ := h
      simp only [AV.den, Option.some.injEq] at hx
      subst hx
      refine ⟨byteCells s, ?_, Src.mk' hk (fun _ => rfl) (firstCells_string s w) (firstCells_string s w.drew) (by rw [byteCells_length, Nat.mul_one]) (fun u hu => by obtain ⟨_, _, rfl⟩ := List.mem_map.1 hu; rfl)⟩
      have := denL_vals m (byteCells s)
      simpa [byteCells, List.map_map, Function.comp_def] using this
    · cases h
  · rename_i r v lo sz len cap opn
    simp only [cond_eq_ite, Nat.beq_eq] at h
    split at h
    · rename_i h0
      subst h0
      simp only [Option.bind_eq_some_iff] at h
      obtain ⟨⟨o, nv⟩, hl, h⟩ := h
      obtain ⟨ho, hv⟩ := look_ok hl
      simp only [Bool.and_eq_true, Nat.ble_eq, List.all_eq_true] at h
      split at h
      · rename_i hle
        simp only [Option.some.injEq, Prod.mk.injEq] at h
        obtain ⟨rfl, rfl, rfl⟩ := h
        have ha : A r := hA.1 r (by simp [Log.sees, bit_one])
        simp only [AV.den, Option.map_eq_some_iff] at hx
        obtain ⟨b, hb, rfl⟩ := hx
        obtain ⟨b', hb', hB⟩ := hR.blk r o ha ho v nv hv
        rw [hb] at hb'; cases hb'
        obtain ⟨l, hd, hlen, hrun, hcell⟩ := hB.cells (P := P) hle.1
        obtain ⟨l2, hd2, hlen2, hrun2, _⟩ := Blk.cells (P := P) (w := w.drew) (show Blk m w.drew o b nv from hB) hle.1
        rw [hd] at hd2; cases hd2
        refine ⟨l, hd, Src.mk' hk (fun _ => rfl) ?_ ?_ (by simpa using hlen) ?_⟩
        · simpa [Builtin.firstCells] using hrun
        · simpa [Builtin.firstCells] using hrun2
        · intro q hq
          obtain ⟨j, hj, rfl⟩ := List.getElem_of_mem hq
          have hj' : j < (cellsAt o (lo * sz) (len * sz)).length := by rw [← denL_length hd]; exact hj
          obtain ⟨y, hy, hg⟩ := denL_get hd (List.getElem?_eq_getElem hj')
          rw [List.getElem?_eq_getElem hj] at hg
          rw [Option.some.inj hg]
          exact one_ok (hle.2 _ (List.getElem_mem hj')) hy
      · cases h
    · cases h
  · cases h

/-- What is appended: a row or a text, or so many zero values. -/
structure SrcZ (P : Program) (i : TypeInfo) (tx : TypeId) (x : Value) (n : Nat) (news : List Value) : Prop where
  kind : ∃ kn, P.underlying tx = some (.int kn)
  val : ∃ kq, x = .int kq n
  pos : 0 < i.size
  fits : n * i.bytes ≤ 281474976710656
  small : n < 4611686018427387904
  zero : ∃ z, i.zero = some z ∧ z.cells.size = i.size ∧ (∀ u ∈ z.cells.toList, u.oneCell' = true) ∧ news = (Builtin.zeroCells z.cells n).toList
def SrcA (P : Program) (i : TypeInfo) (tx : TypeId) (x : Value) (n : Nat) (news : List Value) (w : World) : Prop := Src P i.size tx x n news w ∨ SrcZ P i tx x n news
theorem SrcA.newsLen {P : Program} {i : TypeInfo} {tx : TypeId} {x : Value} {n : Nat} {news : List Value} {w : World} (h : SrcA P i tx x n news w) : news.length = n * i.size := by
  rcases h with h | h
  · exact h.newsLen
  · obtain ⟨z, _, hz, _, rfl⟩ := h.zero
    simp [Builtin.zeroCells, hz]
theorem SrcA.one {P : Program} {i : TypeInfo} {tx : TypeId} {x : Value} {n : Nat} {news : List Value} {w : World} (h : SrcA P i tx x n news w) : ∀ u ∈ news, u.oneCell' = true := by
  rcases h with h | h
  · exact h.one
  · obtain ⟨z, _, hz, h1, rfl⟩ := h.zero
    intro u hu
    have hp := h.pos
    simp only [Builtin.zeroCells, Array.toList_map, List.mem_map] at hu
    obtain ⟨k, hk, rfl⟩ := hu
    have hlt : k % z.cells.size < z.cells.size := Nat.mod_lt _ (by omega)
    rw [getElem!_pos z.cells _ hlt]
    exact h1 _ (Array.getElem_mem_toList hlt)
theorem append_nothing_A {P : Program} {w : World} (t tx ty e : TypeId) (i : TypeInfo) (ht : P.underlying t = some (.slice e)) (hi : P.info? e = some i) (base : Option Addr) (sLen sCap : Nat) (hc : sLen ≤ sCap) (x : Value) (hs : SrcA P i tx x 0 [] w) :
    (Builtin.append_ #[t, tx] ty #[.slice base sLen sCap, x]).run P w = .ok (.slice base sLen sCap) w := by
  rcases hs with hs | hs
  · exact run_append_nothing w t tx ty e i ht hi base sLen sCap hc x hs
  · obtain ⟨kn, hk⟩ := hs.kind
    obtain ⟨kq, rfl⟩ := hs.val
    cases base <;> simp [Builtin.append_, run_underlying ht, run_underlying hk, sizeOf, typeInfo, hi, asInt, asIntOf, hc, IntKind.wrap_i64, storeCells]
theorem append_room_A (P : Program) (t tx ty e : TypeId) (i : TypeInfo) (ht : P.underlying t = some (.slice e)) (hi : P.info? e = some i) (a : Addr) (len cap n : Nat) (x : Value) (news : List Value) (w w' : World) (hs : SrcA P i tx x n news w)
    (hroom : len + n ≤ cap) (hst : (storeCells (a.add (len * i.size)) news).run P w = .ok () w') :
    (Builtin.append_ #[t, tx] ty #[.slice (some a) len cap, x]).run P w = .ok (.slice (some a) (len + n) cap) w' := by
  rcases hs with hs | hs
  · exact run_append_room_eng P t tx ty e i ht hi a len cap n x news w w' hs hroom hst
  · obtain ⟨kn, hk⟩ := hs.kind
    obtain ⟨kq, rfl⟩ := hs.val
    obtain ⟨z, hz, hz1, _, rfl⟩ := hs.zero
    have hsm := hs.small
    have hw : IntKind.i64.wrap (n : Int) = n := by rw [IntKind.wrap_i64]; omega
    have h48i : ¬ (281474976710656 < (n : Int) * (i.bytes : Int)) := by
      have := hs.fits
      rw [← Int.natCast_mul]
      omega
    have hneg : ¬ ((n : Int) < 0) := by omega
    by_cases h0 : n = 0
    · subst h0
      have e0 : (Builtin.zeroCells z.cells 0).toList = [] := by simp [Builtin.zeroCells]
      rw [e0] at hst
      have hst' := hst
      simp [Builtin.append_, run_underlying ht, run_underlying hk, sizeOf, typeInfo, hi, asInt, asIntOf, IntKind.wrap_i64, show len ≤ cap by omega, hst']
    · have hns : ¬ (n * i.size = 0) := Nat.mul_ne_zero h0 (by have := hs.pos; omega)
      simp [Builtin.append_, run_underlying ht, run_underlying hk, sizeOf, typeInfo, zeroValue, hi, hz, asInt, asIntOf, hw, hneg, h48i, hns, hroom, hst]
theorem append_grow_A {P : Program} (w : World) (t tx ty e : TypeId) (i : TypeInfo) (z : Value) (ht : P.underlying t = some (.slice e)) (hi : P.info? e = some i) (hz : i.zero = some z) (base : Option Addr) (sLen sCap : Nat) (olds : List Value)
    (hold : (Builtin.firstCells i.size sLen (.slice base sLen sCap)).run P w.drew = .ok olds.toArray w.drew) (x : Value) (n : Nat) (news : List Value) (hs : SrcA P i tx x n news w)
    (hg : sCap < sLen + n) (h63 : ((sLen + n : Nat) : Int) ≤ 9223372036854775807) (hfit : Builtin.nextslicecap (sLen + n) sCap * i.bytes ≤ 281474976710656) :
    (Builtin.append_ #[t, tx] ty #[.slice base sLen sCap, x]).run P w =
      .ok (.slice (some ⟨w.heap.size, 0, none⟩) (sLen + n) (grownCap w (sLen + n) sCap e))
        (w.drew.alloc (.cells ((olds ++ news).toArray ++ Builtin.zeroCells z.cells (grownCap w (sLen + n) sCap e - (sLen + n))) e)) := by
  rcases hs with hs | hs
  · exact run_append_grow_src w t tx ty e i z ht hi hz base sLen sCap olds hold x n news hs hg h63 hfit
  · obtain ⟨kn, hk⟩ := hs.kind
    obtain ⟨kq, rfl⟩ := hs.val
    obtain ⟨z', hz', hz1, _, rfl⟩ := hs.zero
    rw [hz] at hz'; cases hz'
    by_cases h0 : n = 0
    · subst h0
      have hn : ¬ (sLen ≤ sCap) := by omega
      have h63' : ¬ (9223372036854775807 < (sLen : Int)) := by omega
      have h48' : ¬ (281474976710656 < Builtin.nextslicecap sLen sCap * i.bytes) := by simp only [Nat.add_zero] at hfit; omega
      simp [Builtin.append_, run_underlying ht, run_underlying hk, sizeOf, typeInfo, zeroValue, hi, hz, asInt, asIntOf, IntKind.wrap_i64, hn, h63', h48', Question.forced, hold, newRow, grownCap, Builtin.zeroCells]
    have := Lib.run_append_grow_zeros (P := P) w t tx ty e i z kq kn ht hk hi hz base sLen sCap olds hold n (by omega) hs.pos hg h63 hs.fits hfit
    rw [this]
    congr 3
    congr 1
    apply Array.ext'
    simp

def Map.new2 (m : Map) (r v : Nat) (b : Nat × Nat) : Map := ⟨fun k v' => if k = r ∧ v' = v then some b else m k v', m.d, m.s⟩
theorem Map.new2_le {m : Map} {r v : Nat} {b : Nat × Nat} (h : m r v = none) : m.Le (m.new2 r v b) := ⟨fun k v' x hx => by
  show (if k = r ∧ v' = v then some b else m k v') = some x
  split
  · rename_i e
    rw [e.1, e.2, h] at hx
    cases hx
  · exact hx, fun _ _ h => h, fun _ _ h => h⟩
theorem Blk.more {m : Map} {w : World} {o : ARoot} {b : Nat × Nat} {n : Nat} (h : Blk m w o b n) (ys : List AV) {vs : List (Nat × Nat)} : Blk m w { o with cells := o.cells ++ ys, vers := vs, dat := none, sym := none } b n := by
  obtain ⟨c, fz, h1, h2, h3, h4, h5, h6⟩ := h
  refine ⟨c, fz, h1, h2, by simp; omega, h4, fun i x hi hx => h5 i x hi ?_, h6⟩
  simp only at hx
  rwa [List.getElem?_append_left (by omega)] at hx

theorem nextslicecap_le (need old : Nat) (h : old < need) : Builtin.nextslicecap need old ≤ 2 * need + 768 := by
  have key : ∀ r c, c ≤ 2 * need + 768 → Builtin.growBy need r c ≤ 2 * need + 768 := by
    intro r
    induction r with
    | zero => intro c hc; exact hc
    | succ r ih =>
      intro c hc
      unfold Builtin.growBy
      split
      · exact hc
      · exact ih _ (by omega)
  unfold Builtin.nextslicecap
  split
  · omega
  · split
    · omega
    · exact key _ _ (by omega)

theorem zeroCells_size (z : Array Value) (n : Nat) : (Builtin.zeroCells z n).size = n * z.size := by simp [Builtin.zeroCells]

theorem grownCap_ge' (w : World) (n c : Nat) (e : TypeId) : n ≤ grownCap w n c e := by unfold grownCap; simp [Question.cut]

def zeroFits (i : TypeInfo) : Bool := match i.zero with | some z => Nat.beq z.cells.size i.size | none => false
theorem zeroFits_ok {i : TypeInfo} (h : zeroFits i = true) : ∃ z, i.zero = some z ∧ z.cells.size = i.size := by
  unfold zeroFits at h
  split at h
  · rename_i z hz; exact ⟨z, hz, by simpa using h⟩
  · cases h
def growOk (i : TypeInfo) (len cap n a : Nat) : Bool :=
  Nat.blt cap (len + n) && Nat.blt (len + n) 4611686018427387904 && Nat.ble (Builtin.nextslicecap (len + n) cap * i.bytes) 281474976710656 && zeroFits i && Nat.beq a ((len + n) * i.size)
theorem growOk_ok {i : TypeInfo} {len cap n a : Nat} (h : growOk i len cap n a = true) : cap < len + n ∧ len + n < 4611686018427387904 ∧ Builtin.nextslicecap (len + n) cap * i.bytes ≤ 281474976710656 ∧ zeroFits i = true ∧ a = (len + n) * i.size := by
  simp only [growOk, Bool.and_eq_true, Nat.blt_eq, Nat.ble_eq, Nat.beq_eq] at h
  obtain ⟨⟨⟨⟨h1, h2⟩, h3⟩, h4⟩, h5⟩ := h
  exact ⟨h1, h2, h3, h4, h5⟩
/-- A new row that has grown out of such cells. -/
def aGrow (st : St) (e : TypeId) (i : TypeInfo) (len cap n : Nat) (olds news : List AV) : Option (AV × St × Log) :=
  cond (growOk i len cap n (olds.length + news.length)) ((st.alloc (olds ++ news) e i.size true).map fun (st', lg) => (.slice st.next 0 0 i.size (len + n) 0 true, st', lg)) none
theorem aGrow_ok {st st' : St} {e : TypeId} {i : TypeInfo} {len cap n : Nat} {olds news : List AV} {y : AV} {lg : Log} {A : Nat → Prop} {m : Map} {w : World} {vo vn : List Value} (h : aGrow st e i len cap n olds news = some (y, st', lg)) (hA : lg.Fits W0 A)
    (hR : Rel W0 A m st.heap.get w) (hF : Fresh A m st.next) (ho : denL m olds = some vo) (hn : denL m news = some vn) : ∃ z, i.zero = some z ∧ cap < len + n ∧ ((len + n : Nat) : Int) ≤ 9223372036854775807 ∧ Builtin.nextslicecap (len + n) cap * i.bytes ≤ 281474976710656 ∧
      ∃ m', y.den m' = some (.slice (some ⟨w.heap.size, 0, none⟩) (len + n) (grownCap w (len + n) cap e)) ∧ Ok W0 A m st w m' st' lg (w.drew.alloc (.cells ((vo ++ vn).toArray ++ Builtin.zeroCells z.cells (grownCap w (len + n) cap e - (len + n))) e)) := by
  unfold aGrow at h
  cases hc : growOk i len cap n (olds.length + news.length) with
  | false => simp [hc] at h
  | true =>
    obtain ⟨h1, h2, h3, h4, h5⟩ := growOk_ok hc
    obtain ⟨z, hz, hzs⟩ := zeroFits_ok h4
    simp only [hc, cond_true, Option.map_eq_some_iff] at h
    obtain ⟨⟨s1, l1⟩, hal, he⟩ := h
    cases he
    obtain ⟨g1, g2, g3, g4, g5, g6⟩ := alloc_world w (.cells ((vo ++ vn).toArray ++ Builtin.zeroCells z.cells (grownCap w (len + n) cap e - (len + n))) e)
    refine ⟨z, hz, h1, by omega, h3, m.new st.next (w.heap.size, grownCap w (len + n) cap e), by simp [AV.den, Map.new], alloc_ok hal hA hR hF g1 g2 g3 g4 g5 g6 (fun i _ => by omega) ?_ ?_⟩
    · intro k x hx
      obtain ⟨v, hv, hg⟩ := denL_get (denL_append ho hn) hx
      refine ⟨v, hv, ?_⟩
      have : k < (vo ++ vn).length := (List.getElem?_eq_some_iff.1 hg).1
      rw [Array.getElem?_append_left (by simpa using this)]
      simpa using hg
    · have e1 : (vo ++ vn).length = (len + n) * i.size := by rw [List.length_append, denL_length ho, denL_length hn]; exact h5
      have e2 := grownCap_ge' w (len + n) cap e
      have e3 : grownCap w (len + n) cap e ≤ 9223372036854775807 := grownCap_le_maxLen w (len + n) cap e (by unfold maxLen; omega)
      simp only [cond_true, Array.size_append, List.size_toArray, e1, zeroCells_size, hzs, ← Nat.add_mul]
      refine ⟨?_, e3⟩
      congr 1
      omega

/-- Nothing new, or new cells behind the newest version of a row that may have room. -/
def verOk (o : ARoot) (v nv len n : Nat) (i : TypeInfo) : Bool :=
  o.opn && !o.ro && !o.lent && Nat.beq o.esz i.size && Nat.blt 0 i.size && Nat.beq (len * i.size) nv && Nat.beq nv o.cells.length && (match o.vers with | (v', _) :: _ => Nat.beq v v' | [] => false) &&
    Nat.ble ((2 * (len + n) + 768) * i.bytes) 281474976710656 && Nat.blt (len + n) 4611686018427387904 && zeroFits i
theorem verOk_ok {o : ARoot} {v nv len n : Nat} {i : TypeInfo} (h : verOk o v nv len n i = true) : o.opn = true ∧ o.ro = false ∧ o.lent = false ∧ o.esz = i.size ∧ 0 < i.size ∧ len * i.size = nv ∧ nv = o.cells.length ∧ (∃ k rest, o.vers = (v, k) :: rest) ∧
    (2 * (len + n) + 768) * i.bytes ≤ 281474976710656 ∧ len + n < 4611686018427387904 ∧ zeroFits i = true := by
  simp only [verOk, Bool.and_eq_true, Nat.beq_eq, Nat.ble_eq, Nat.blt_eq, Bool.not_eq_true'] at h
  obtain ⟨⟨⟨⟨⟨⟨⟨⟨⟨⟨h1, h2⟩, h2'⟩, h3⟩, h4⟩, h5⟩, h6⟩, h7⟩, h8⟩, h9⟩, h10⟩ := h
  refine ⟨h1, h2, h2', h3, h4, h5, h6, ?_, h8, h9, h10⟩
  split at h7
  · rename_i v' k rest hv
    simp only [Nat.beq_eq] at h7
    subst h7
    exact ⟨k, rest, hv⟩
  · cases h7
def aVer (st : St) (o : ARoot) (r v len n : Nat) (i : TypeInfo) (ys : List AV) : Option (AV × St × Log) :=
  (st.put r { o with cells := o.cells ++ ys, vers := (v + 1, o.cells.length + ys.length) :: o.vers, dat := none, sym := none }).map fun st' => (.slice r (v + 1) 0 i.size (len + n) 0 true, st', Log.turns r)
/-- Where the row's block has room, and where it has none. -/
theorem aVer_ok {P : Program} {st st' : St} {o : ARoot} {r v nv len n : Nat} {i : TypeInfo} {e t tx ty : TypeId} {ys : List AV} {y : AV} {lg : Log} {A : Nat → Prop} {m : Map} {w : World} {vn : List Value} {b : Nat × Nat} {u : Value}
    (h : aVer st o r v len n i ys = some (y, st', lg)) (hv : verOk o v nv len n i = true) (ho : st.heap.get r = some o) (hm : (v, nv) ∈ o.vers) (hb : m r v = some b) (hel : o.elem = e)
    (ht : P.underlying t = some (.slice e)) (hi : P.info? e = some i) (h0 : 0 < n)
    (hA : lg.Fits W0 A) (hR : Rel W0 A m st.heap.get w) (hF : Fresh A m st.next) (hn : denL m ys = some vn) (hs : SrcA P i tx u n vn w) :
    ∃ m' w' x, y.den m' = some x ∧ (Builtin.append_ #[t, tx] ty #[.slice (some ⟨b.1, 0, none⟩) len (b.2 - 0), u]).run P w = .ok x w' ∧ Ok W0 A m st w m' st' lg w' := by
  subst hel
  obtain ⟨hop, hro, hlt0, hez, hsz, hlen, hnc, ⟨k, rest, hvers⟩, hfit, h63, hzf⟩ := verOk_ok hv
  obtain ⟨z, hz, hzs⟩ := zeroFits_ok hzf
  simp only [aVer, Option.map_eq_some_iff] at h
  obtain ⟨s1, hp, he⟩ := h
  cases he
  obtain ⟨hput, hnext⟩ := put_ok hp
  have ha : A r := hA.1 r (by simp [Log.turns, bit_one])
  have hB := hR.blk r o ha ho v nv hm
  obtain ⟨b', hb', hB⟩ := hB
  rw [hb] at hb'; cases hb'
  have hBc := hB
  obtain ⟨c, fz, hc, hfz, hnl, hnc', hcell, hsize⟩ := hB
  simp only [hop, cond_true, hez] at hsize
  have hvl : vn.length = n * i.size := hs.newsLen
  have hyl : ys.length = n * i.size := by rw [← denL_length hn]; exact hvl
  obtain ⟨l, hd, hll, hrun, hcl⟩ := hBc.cells (P := P) (off := 0) (k := nv) (by omega)
  have hdall : denL m o.cells = some l := by
    have : cellsAt o 0 nv = o.cells := by simp [cellsAt, hnc]
    rwa [this] at hd
  have htopv : ∀ v', v < v' → m r v' = none := fun v' hlt => hR.top r o v k rest ha ho hvers v' hlt
  have hlenb : len ≤ b.2 := by
    have : len * i.size ≤ b.2 * i.size := by omega
    exact Nat.le_of_mul_le_mul_right this hsz
  by_cases hroom : len + n ≤ b.2
  · -- room
    have hcap : (len + n) * i.size ≤ c.size := by rw [hsize.1]; exact Nat.mul_le_mul_right _ hroom
    rw [Nat.add_mul] at hcap
    have hst := run_storeCells_eng P b.1 (len * i.size) o.elem fz vn 0 c w hc hfz (by omega) hs.one
    simp only [Nat.add_zero] at hst
    refine ⟨m.new2 r (v + 1) b, _, .slice (some ⟨b.1, 0, none⟩) (len + n) (b.2 - 0), by simp [AV.den, Map.new2], append_room_A P t tx ty o.elem i ht hi ⟨b.1, 0, none⟩ len (b.2 - 0) n u vn w _ hs (by omega) (by rw [addr_add]; simpa using hst), ⟨?_, ?_⟩⟩
    · rw [hput]
      have hle : m.Le (m.new2 r (v + 1) b) := Map.new2_le (htopv _ (Nat.lt_succ_self v))
      have hsize' : (List.take (len * i.size) c.toList ++ vn ++ List.drop (len * i.size + vn.length) c.toList).length = c.size := by simp; omega
      have hget : ∀ (j : Nat) (q : AV), j < o.cells.length + ys.length → (o.cells ++ ys)[j]? = some q → ∃ x, q.den m = some x ∧ (List.take (len * i.size) c.toList ++ vn ++ List.drop (len * i.size + vn.length) c.toList)[j]? = some x := by
        intro j q hj hq
        obtain ⟨x, hx, hg⟩ := denL_get (denL_append hdall hn) hq
        refine ⟨x, hx, ?_⟩
        rw [List.getElem?_append_left (by simp; omega)]
        rw [show List.take (len * i.size) c.toList = l from ?_]
        · exact hg
        · apply List.ext_getElem?
          intro a
          by_cases ha' : a < nv
          · rw [List.getElem?_take, if_pos (by omega)]
            have hal : a < l.length := by omega
            have := hcl a _ (List.getElem?_eq_getElem hal)
            simp only [Nat.zero_add, World.cell?, hc] at this
            rw [List.getElem?_eq_getElem hal]
            simpa using this
          · rw [List.getElem?_eq_none (by simp; omega), List.getElem?_eq_none (by omega)]
      refine Step.more (T1 := fun k => k = r) (Step.put hR ha hle (fun k hk v' => by simp [Map.new2, hk]) rfl rfl (fun o2 _ _ _ ho2 _ _ => by rw [ho] at ho2; cases ho2; exact hro) rfl (fun _ _ _ _ he _ _ => by simp at he) (fun o2 _ _ _ ho2 _ _ => by rw [ho] at ho2; cases ho2; rfl) (fun hl => by simp only [hlt0] at hl; cases hl) rfl rfl rfl (by simp) ?_ ?_ ?_ ?_) (fun k hk => by simp only [Log.turns]; rw [bit_one]; exact hk)
      · intro k' _ hno
        exact setRow_other w b.1 k' _ (fun e => hno o v nv b ho hm hb e.symm)
      · intro v1 n1 hv1
        simp only [List.mem_cons, Prod.mk.injEq] at hv1
        rcases hv1 with ⟨rfl, rfl⟩ | hv1
        · refine ⟨b, by simp [Map.new2], _, fz, setRow_heap w b.1 c _ o.elem fz hc, fun i hi => hfz i (by simp at hi; omega), by simp, by simp; omega, ?_, ?_⟩
          · intro j q hj hq
            obtain ⟨x, hx, hg⟩ := hget j q hj hq
            exact ⟨x, AV.den_mono hle q hx, by simpa using hg⟩
          · simp only [hop, cond_true, hez]
            simp; omega
        · obtain ⟨b1, hb1, hB1⟩ := hR.blk r o ha ho v1 n1 hv1
          refine ⟨b1, hle.1 _ _ _ hb1, ?_⟩
          by_cases hbb : b1.1 = b.1
          · obtain ⟨c1, fz1, hc1, hfz1, hnl1, hnc1, hcell1, hsize1⟩ := hB1
            rw [hbb, hc] at hc1
            simp only [Option.some.injEq, Obj.cells.injEq] at hc1
            obtain ⟨rfl, _, rfl⟩ := hc1
            simp only [hop, cond_true, hez] at hsize1
            refine ⟨_, fz, by rw [hbb]; exact setRow_heap w b.1 c _ o.elem fz hc, fun i hi => hfz i (by simp at hi; omega), by simp; omega, by simp; omega, ?_, ?_⟩
            · intro j q hj hq
              obtain ⟨x, hx, hg⟩ := hget j q (by omega) hq
              exact ⟨x, AV.den_mono hle q hx, by simpa using hg⟩
            · simp only [hop, cond_true, hez]
              simp; omega
          · have hB2 := hB1.mono (w' := w.setRow b.1 (List.take (len * i.size) c.toList ++ vn ++ List.drop (len * i.size + vn.length) c.toList).toArray) hle (setRow_other w b.1 b1.1 _ hbb)
            rw [List.append_assoc] at hB2
            exact Blk.more hB2 ys
      · intro v1 n1 rest1 he v2 hlt
        simp only [List.cons.injEq, Prod.mk.injEq] at he
        obtain ⟨⟨rfl, rfl⟩, _⟩ := he
        have : ¬ v2 = v + 1 := by omega
        simp [Map.new2, this, htopv v2 (by omega)]
      · intro v1 n1 b1 hv1 hb1 _
        simp only [List.mem_cons, Prod.mk.injEq] at hv1
        by_cases hvv : v1 = v + 1
        · subst hvv
          simp [Map.new2] at hb1
          subst hb1
          exact ⟨o, v, nv, b, ho, hm, hb, rfl⟩
        · simp [Map.new2, hvv] at hb1
          rcases hv1 with ⟨rfl, _⟩ | hv1
          · exact absurd rfl hvv
          · exact ⟨o, v1, n1, b1, ho, hv1, hb1, rfl⟩
    · intro r' hra hr'
      rw [hnext] at hr'
      have hne : r' ≠ r := by
        intro e
        subst e
        rw [(hF r' hra hr').1 v] at hb
        cases hb
      exact ⟨fun v' => by simp [Map.new2, hne, (hF r' hra hr').1 v'], (hF r' hra hr').2⟩
  · -- none
    have hlt : b.2 - 0 < len + n := by omega
    have hfit' : Builtin.nextslicecap (len + n) (b.2 - 0) * i.bytes ≤ 281474976710656 :=
      Nat.le_trans (Nat.mul_le_mul_right _ (nextslicecap_le _ _ hlt)) hfit
    obtain ⟨l2, hd2, hll2, hrun2, _⟩ := Blk.cells (P := P) (w := w.drew) (off := 0) (k := nv) (show Blk m w.drew o b nv from hBc) (by omega)
    rw [hd] at hd2; cases hd2
    have hrunD := append_grow_A (P := P) w t tx ty o.elem i z ht hi hz (some ⟨b.1, 0, none⟩) len (b.2 - 0) l (by simpa [Builtin.firstCells, hlen] using hrun2) u n vn hs hlt (by omega) hfit'
    obtain ⟨g1, g2, g3, g4, g5, g6⟩ := alloc_world w (.cells ((l ++ vn).toArray ++ Builtin.zeroCells z.cells (grownCap w (len + n) (b.2 - 0) o.elem - (len + n))) o.elem)
    refine ⟨m.new2 r (v + 1) (w.heap.size, grownCap w (len + n) (b.2 - 0) o.elem), _, _, by simp [AV.den, Map.new2], hrunD, ⟨?_, ?_⟩⟩
    · rw [hput]
      have hle : m.Le (m.new2 r (v + 1) (w.heap.size, grownCap w (len + n) (b.2 - 0) o.elem)) := Map.new2_le (htopv _ (Nat.lt_succ_self v))
      refine Step.more (T1 := fun k => k = r) (Step.put hR ha hle (fun k hk v' => by simp [Map.new2, hk]) rfl rfl (fun o2 _ _ _ ho2 _ _ => by rw [ho] at ho2; cases ho2; exact hro) rfl (fun _ _ _ _ he _ _ => by simp at he) (fun o2 _ _ _ ho2 _ _ => by rw [ho] at ho2; cases ho2; rfl) (fun hl => by simp only [hlt0] at hl; cases hl) g1 g2 g3 g4 (fun k hk _ => g5 k hk) ?_ ?_ ?_) (fun k hk => by simp only [Log.turns]; rw [bit_one]; exact hk)
      · intro v1 n1 hv1
        simp only [List.mem_cons, Prod.mk.injEq] at hv1
        rcases hv1 with ⟨rfl, rfl⟩ | hv1
        · have e2 := grownCap_ge' w (len + n) (b.2 - 0) o.elem
          have elen : (l ++ vn).length = (len + n) * i.size := by rw [List.length_append, hll, hvl, ← hlen, Nat.add_mul]
          refine ⟨(w.heap.size, grownCap w (len + n) (b.2 - 0) o.elem), by simp [Map.new2], _, (0, 0), g6, fun i _ => by omega, by simp, ?_, ?_, ?_⟩
          · simp only [Array.size_append, List.size_toArray, elen]
            rw [hyl, ← hnc, ← hlen, Nat.add_mul]
            omega
          · intro j q hj hq
            obtain ⟨x, hx, hg⟩ := denL_get (denL_append hdall hn) hq
            refine ⟨x, AV.den_mono hle q hx, ?_⟩
            have : j < (l ++ vn).length := (List.getElem?_eq_some_iff.1 hg).1
            rw [Array.getElem?_append_left (by simpa using this)]
            simpa using hg
          · have e3 : grownCap w (len + n) (b.2 - 0) o.elem ≤ 9223372036854775807 := grownCap_le_maxLen w (len + n) (b.2 - 0) o.elem (by unfold maxLen; omega)
            simp only [hop, cond_true, hez, Array.size_append, List.size_toArray, elen, zeroCells_size, hzs, ← Nat.add_mul]
            refine ⟨?_, e3⟩
            congr 1
            omega
        · obtain ⟨b1, hb1, hB1⟩ := hR.blk r o ha ho v1 n1 hv1
          refine ⟨b1, hle.1 _ _ _ hb1, ?_⟩
          have hB2 := hB1.mono hle (g5 b1.1 (hR.lt ha ho hv1 hb1))
          exact Blk.more hB2 ys
      · intro v1 n1 rest1 he v2 hlt2
        simp only [List.cons.injEq, Prod.mk.injEq] at he
        obtain ⟨⟨rfl, rfl⟩, _⟩ := he
        have : ¬ v2 = v + 1 := by omega
        simp [Map.new2, this, htopv v2 (by omega)]
      · intro v1 n1 b1 hv1 hb1 hlt1
        simp only [List.mem_cons, Prod.mk.injEq] at hv1
        by_cases hvv : v1 = v + 1
        · subst hvv
          simp [Map.new2] at hb1
          subst hb1
          simp at hlt1
        · simp [Map.new2, hvv] at hb1
          rcases hv1 with ⟨rfl, _⟩ | hv1
          · exact absurd rfl hvv
          · exact ⟨o, v1, n1, b1, ho, hv1, hb1, rfl⟩
    · intro r' hra hr'
      rw [hnext] at hr'
      have hne : r' ≠ r := by
        intro e
        subst e
        rw [(hF r' hra hr').1 v] at hb
        cases hb
      exact ⟨fun v' => by simp [Map.new2, hne, (hF r' hra hr').1 v'], (hF r' hra hr').2⟩

end Go.Proofs.Ytfcdbknmajfkaaa.eng
