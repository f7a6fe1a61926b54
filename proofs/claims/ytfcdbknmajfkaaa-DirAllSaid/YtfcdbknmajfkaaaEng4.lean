/- The engine: slices of slices, conversions, append, copy, literals. -/
import Derived.Test.YtfcdbknmajfkaaaEng3
namespace Go.Proofs.Ytfcdbknmajfkaaa.eng
open Go
variable {W0 : Base}
set_option linter.unusedVariables false
set_option linter.unusedSimpArgs false

/-! Slices of slices. -/
def aBound (y d : Nat) : Option AV → Option Nat
  | none => some d
  | some a => a.int?.bind fun (_, i) => cond (decide (0 ≤ i) && decide (i ≤ (y : Int))) (some i.toNat) none
def denO (m : Map) : Option AV → Option (Option Value)
  | none => some none
  | some a => (a.den m).map some
theorem bound_ok {P : Program} {m : Map} {a : AV} {y d n : Nat} {v : Value} (h : aBound y d (some a) = some n) (hv : a.den m = some v) (code : BoundsCode) (w : World) (z : Nat) (hz : y ≤ z) : (Instr.sliceBound v z code).run P w = .ok n w ∧ n ≤ y := by
  simp only [aBound, Option.bind_eq_some_iff] at h
  obtain ⟨⟨k, i⟩, hi, h⟩ := h
  rw [int?_ok hi] at hv
  cases hv
  simp only [cond_eq_ite, Bool.and_eq_true, decide_eq_true_eq] at h
  split at h
  · rename_i hc
    cases h
    refine ⟨?_, by omega⟩
    have : 0 ≤ i ∧ i ≤ (z : Int) := ⟨hc.1, by omega⟩
    simp [Instr.sliceBound, asIntOf, this]
  · cases h
theorem bounds_ok {P : Program} {m : Map} {len cap zcap h l n : Nat} {lo hi mx : Option AV} {vlo vhi vmx : Option Value} (hlo : denO m lo = some vlo) (hhi : denO m hi = some vhi) (hmx : denO m mx = some vmx) (hcap : cap ≤ zcap)
    (h1 : aBound cap zcap mx = some n) (h2 : aBound (if mx.isSome then n else cap) len hi = some h) (h3 : aBound h 0 lo = some l) (hne : mx.isSome = true → hi.isSome = true) (hl : hi = none → len ≤ zcap) (w : World) :
    (Instr.sliceBounds true len zcap vlo vhi vmx).run P w = .ok (l, h, n) w := by
  unfold Instr.sliceBounds
  have L : ∀ code, (match vlo with | some v => Instr.sliceBound v h code | none => pure 0 : Sem Nat).run P w = .ok l w := by
    intro code
    cases lo with
    | none => simp only [denO, Option.some.injEq] at hlo; subst hlo; simp [aBound] at h3; subst h3; rfl
    | some a =>
      simp only [denO, Option.map_eq_some_iff] at hlo
      obtain ⟨v, hv, rfl⟩ := hlo
      exact (bound_ok h3 hv code w h (Nat.le_refl _)).1
  cases mx with
  | none =>
    simp only [denO, Option.some.injEq] at hmx
    subst hmx
    simp only [aBound, Option.some.injEq] at h1
    subst h1
    cases hi with
    | none =>
      simp only [denO, Option.some.injEq] at hhi
      subst hhi
      simp only [aBound, Option.some.injEq] at h2
      subst h2
      have := L .sliceB
      clear L
      cases vlo <;> simp_all
    | some a =>
      simp only [denO, Option.map_eq_some_iff] at hhi
      obtain ⟨v, hv, rfl⟩ := hhi
      have H := bound_ok (P := P) h2 hv .sliceAcap w zcap (by simpa using hcap)
      have := L .sliceB
      clear L
      cases vlo <;> simp_all
  | some b =>
    simp only [denO, Option.map_eq_some_iff] at hmx
    obtain ⟨vb, hvb, rfl⟩ := hmx
    have M := bound_ok (P := P) h1 hvb .slice3Acap w zcap hcap
    cases hi with
    | none => simp at hne
    | some a =>
      simp only [denO, Option.map_eq_some_iff] at hhi
      obtain ⟨v, hv, rfl⟩ := hhi
      have H := bound_ok (P := P) h2 hv .slice3B w n (by simp)
      have := L .slice3C
      clear L
      cases vlo <;> simp_all

def aSlice (P : Program) (st : St) (t : TypeId) (x : AV) (lo hi mx : Option AV) : Option (AV × Log) :=
  match P.underlying t with
  | some (.slice e) => match x with
    | .slice r v l0 sz len cap opn => cond (tySize P e == some sz) (cond opn
        ((look st r v).bind fun (o, n) => cond (o.opn && Nat.beq o.esz sz && Nat.blt 0 sz && Nat.ble ((l0 + len) * sz) n && Nat.ble cap l0 && mx.isNone)
          ((aBound len len hi).bind fun h => (aBound h 0 lo).bind fun l => cond (Nat.beq l 0 || Nat.blt l len) (some (.slice r v (l0 + l) sz (h - l) (cap + l) true, Log.sees r)) none) none)
        ((aBound cap cap mx).bind fun n => cond (mx.isNone || hi.isSome) (cond (hi.isSome || Nat.ble len cap) ((aBound (if mx.isSome then n else cap) len hi).bind fun h => (aBound h 0 lo).bind fun l =>
          some (.slice r v (cond (Nat.beq n l) l0 (l0 + l)) sz (h - l) (n - l) false, Log.no)) none) none)) none
    | _ => none
  | _ => none
theorem aSlice_ok {P : Program} {st : St} {t : TypeId} {x y : AV} {lo hi mx : Option AV} {lg : Log} {A : Nat → Prop} {m : Map} {w : World} {u : Value} {vlo vhi vmx : Option Value} (h : aSlice P st t x lo hi mx = some (y, lg)) (hA : lg.Fits W0 A)
    (hR : Rel W0 A m st.heap.get w) (hx : x.den m = some u) (hlo : denO m lo = some vlo) (hhi : denO m hi = some vhi) (hmx : denO m mx = some vmx) : ∃ v, y.den m = some v ∧ (Instr.sliceAt t u vlo vhi vmx).run P w = .ok v w := by
  unfold aSlice at h
  split at h
  · rename_i e hu
    split at h
    · rename_i r v l0 sz len cap opn
      simp only [AV.den, Option.map_eq_some_iff] at hx
      obtain ⟨b, hb, rfl⟩ := hx
      cases hs : tySize P e == some sz with
      | false => simp [hs] at h
      | true =>
        simp only [beq_iff_eq] at hs
        simp only [hs, beq_self_eq_true, cond_true] at h
        cases opn with
        | true =>
          simp only [cond_true, Option.bind_eq_some_iff] at h
          obtain ⟨⟨o, n⟩, hl, h⟩ := h
          obtain ⟨ho, hv⟩ := look_ok hl
          simp only [cond_eq_ite, Bool.and_eq_true, Nat.beq_eq, Nat.ble_eq, Nat.blt_eq, Bool.or_eq_true, Option.isNone_iff_eq_none] at h
          split at h
          · rename_i hc
            obtain ⟨⟨⟨⟨⟨hop, hez⟩, hsz⟩, hle⟩, hcap⟩, rfl⟩ := hc
            simp only [Option.bind_eq_some_iff] at h
            obtain ⟨hh, h2, l, h3, h⟩ := h
            split at h
            · rename_i hl0
              cases h
              have ha : A r := hA.1 r (by simp [Log.sees, bit_one])
              obtain ⟨b', hb', c, fz, hc, _, hn, hs', _, hsize⟩ := hR.blk r o ha ho v n hv
              rw [hb] at hb'; cases hb'
              simp only [hop, cond_true, hez] at hsize
              have hbl : l0 + len ≤ b.2 := by
                have : (l0 + len) * sz ≤ b.2 * sz := by omega
                exact Nat.le_of_mul_le_mul_right this hsz
              have hzc : len ≤ b.2 - cap := by omega
              have hh' : hh ≤ len := by
                cases hi with
                | none => simp [aBound] at h2; omega
                | some a =>
                  simp only [denO, Option.map_eq_some_iff] at hhi
                  obtain ⟨va, hva, rfl⟩ := hhi
                  exact (bound_ok (P := P) h2 hva .sliceB w len (Nat.le_refl _)).2
              have hbo := bounds_ok (P := P) (len := len) (cap := len) (zcap := b.2 - cap) (n := b.2 - cap) hlo hhi hmx hzc rfl (by simpa using h2) h3 (by simp) (fun _ => hzc) w
              have hll : l ≤ hh := by
                cases lo with
                | none => simp [aBound] at h3; omega
                | some a =>
                  simp only [denO, Option.map_eq_some_iff] at hlo
                  obtain ⟨va, hva, rfl⟩ := hlo
                  exact (bound_ok (P := P) h3 hva .sliceB w hh (Nat.le_refl _)).2
              refine ⟨.slice (some ⟨b.1, (l0 + l) * sz, none⟩) (hh - l) (b.2 - (cap + l)), by simp [AV.den, hb], ?_⟩
              have e1 : b.2 - cap - l = b.2 - (cap + l) := by omega
              by_cases hml : b.2 - cap = l
              · have : l = 0 := by omega
                subst this
                rw [hml] at hbo
                simp [Instr.sliceAt, Instr.slice, run_underlying hu, hbo, run_sizeOf_eng hs, hml, addr_add]
              · simp [Instr.sliceAt, Instr.slice, run_underlying hu, hbo, run_sizeOf_eng hs, hml, addr_add, Nat.add_mul, e1]
            · cases h
          · cases h
        | false =>
          simp only [cond_false, Option.bind_eq_some_iff] at h
          obtain ⟨n, h1, h⟩ := h
          cases hq : (mx.isNone || hi.isSome) with
          | false => simp [hq] at h
          | true =>
            cases hq2 : (hi.isSome || Nat.ble len cap) with
            | false => simp [hq, hq2] at h
            | true =>
              simp only [hq, hq2, cond_true, Option.bind_eq_some_iff] at h
              obtain ⟨hh, h2, l, h3, h⟩ := h
              cases h
              have hbo := bounds_ok (P := P) (len := len) (cap := cap) (zcap := cap) (n := n) hlo hhi hmx (Nat.le_refl _) h1 h2 h3 (by intro hm; cases mx <;> simp_all) (by intro hm; subst hm; simpa using hq2) w
              refine ⟨.slice (some ⟨b.1, (cond (Nat.beq n l) l0 (l0 + l)) * sz, none⟩) (hh - l) (n - l), by simp [AV.den, hb], ?_⟩
              by_cases hnl : n = l
              · subst hnl
                simp [Instr.sliceAt, Instr.slice, run_underlying hu, hbo, run_sizeOf_eng hs]
              · have : Nat.beq n l = false := by
                  cases hq : Nat.beq n l with
                  | false => rfl
                  | true => exact absurd (Nat.eq_of_beq_eq_true hq) hnl
                simp [Instr.sliceAt, Instr.slice, run_underlying hu, hbo, run_sizeOf_eng hs, hnl, this, addr_add, Nat.add_mul]
    · cases h
  · cases h

/-! Texts and bytes. -/
def bytesOf : List AV → Option (List UInt8)
  | [] => some []
  | .val (.int .u8 (.ofNat n)) :: l => cond (Nat.blt n 256) ((bytesOf l).map (UInt8.ofNat n :: ·)) none
  | _ => none
theorem bytesOf_ok {m : Map} : ∀ {l : List AV} {bs : List UInt8}, bytesOf l = some bs → denL m l = some (bs.map fun b => .int .u8 (b.toNat : Int))
  | [], bs, h => by simp [bytesOf] at h; subst h; rfl
  | x :: l, bs, h => by
    unfold bytesOf at h
    split at h
    · rename_i heq; cases heq
    · rename_i n l' heq
      cases heq
      simp only [cond_eq_ite] at h
      split at h
      · rename_i hn
        simp only [Option.map_eq_some_iff] at h
        obtain ⟨r, hr, rfl⟩ := h
        have hn' : n < 256 := by simpa using hn
        simp [denL, AV.den, bytesOf_ok hr, Nat.mod_eq_of_lt hn']
      · cases h
    · cases h
def aToString (P : Program) (st : St) (src dst : TypeId) (x : AV) : Option (AV × Log) :=
  match P.underlying src, P.underlying dst with
  | some (.slice e), some .string => match P.underlying e, x with
    | some (.int .u8), .slice r v lo sz len cap opn => cond (Nat.beq sz 1) ((look st r v).bind fun (o, n) => cond (Nat.ble (lo * sz + len) n) ((bytesOf (cellsAt o (lo * sz) len)).map fun bs => (.val (.string ⟨bs.toArray⟩), Log.sees r)) none) none
    | _, _ => none
  | _, _ => none
theorem aToString_ok {P : Program} {st : St} {src dst : TypeId} {x y : AV} {lg : Log} {A : Nat → Prop} {m : Map} {w : World} {u : Value} (h : aToString P st src dst x = some (y, lg)) (hA : lg.Fits W0 A)
    (hR : Rel W0 A m st.heap.get w) (hx : x.den m = some u) : ∃ v, y.den m = some v ∧ (convert src dst u).run P w = .ok v w := by
  unfold aToString at h
  split at h
  · rename_i e hs hd
    split at h
    · rename_i r v lo sz len cap opn he
      simp only [AV.den, Option.map_eq_some_iff] at hx
      obtain ⟨b, hb, rfl⟩ := hx
      simp only [cond_eq_ite, Nat.beq_eq] at h
      split at h
      · rename_i hsz
        subst hsz
        simp only [Option.bind_eq_some_iff] at h
        obtain ⟨⟨o, n⟩, hl, h⟩ := h
        obtain ⟨ho, hv⟩ := look_ok hl
        simp only [Nat.ble_eq] at h
        split at h
        · rename_i hle
          simp only [Option.map_eq_some_iff, Prod.mk.injEq] at h
          obtain ⟨bs, hbs, rfl, rfl⟩ := h
          have ha : A r := hA.1 r (by simp [Log.sees, bit_one])
          obtain ⟨b', hb', hB⟩ := hR.blk r o ha ho v n hv
          rw [hb] at hb'; cases hb'
          obtain ⟨l, hd', hlen, _, hcell⟩ := hB.cells (P := P) hle
          rw [bytesOf_ok hbs] at hd'
          cases hd'
          simp only [List.length_map] at hlen
          subst hlen
          refine ⟨_, rfl, run_convert_bytes_back w src dst e _ _ bs hs he hd (fun j hj => ?_)⟩
          rw [addr_add]
          exact hcell j _ (by simp [hj])
        · cases h
      · cases h
    · cases h
  · cases h

theorem alloc_world (w : World) (o : Obj) : (w.drew.alloc o).os = w.os ∧ (w.drew.alloc o).tape = w.tape ∧ (w.drew.alloc o).output = w.output ∧ w.heap.size ≤ (w.drew.alloc o).heap.size ∧ (∀ k, k < w.heap.size → (w.drew.alloc o).heap[k]? = w.heap[k]?) ∧ (w.drew.alloc o).heap[w.heap.size]? = some o := by
  refine ⟨rfl, rfl, rfl, ?_, fun k hk => ?_, ?_⟩
  · show w.heap.size ≤ (w.heap.push o).size; simp
  · show (w.heap.push o)[k]? = _; rw [Array.getElem?_push, if_neg (by omega)]
  · show (w.heap.push o)[w.heap.size]? = _; simp

def aToBytes (P : Program) (st : St) (src dst : TypeId) (x : AV) : Option (AV × St × Log) :=
  match P.underlying src, P.underlying dst, x with
  | some .string, some (.slice e), .val (.string s) => match P.underlying e with
    | some (.int .u8) => cond (Nat.ble s.size 9223372036854775807) ((st.alloc (s.data.toList.map fun b => .val (.int .u8 b.toNat)) e 1 true).map fun (st', lg) => (.slice st.next 0 0 1 s.size 0 true, st', lg)) none
    | _ => none
  | _, _, _ => none
theorem aToBytes_ok {P : Program} {st st' : St} {src dst : TypeId} {x y : AV} {lg : Log} {A : Nat → Prop} {m : Map} {w : World} {u : Value} (h : aToBytes P st src dst x = some (y, st', lg)) (hA : lg.Fits W0 A)
    (hR : Rel W0 A m st.heap.get w) (hF : Fresh A m st.next) (hx : x.den m = some u) : ∃ m' w' v, y.den m' = some v ∧ (convert src dst u).run P w = .ok v w' ∧ Ok W0 A m st w m' st' lg w' := by
  unfold aToBytes at h
  split at h
  · rename_i e s hs hd
    split at h
    · rename_i he
      cases hsl : Nat.ble s.size 9223372036854775807 with
      | false => simp [hsl] at h
      | true =>
      simp only [hsl, cond_true, Option.map_eq_some_iff] at h
      obtain ⟨⟨s1, l1⟩, hal, h⟩ := h
      cases h
      have hgm : grownCap w s.size 0 e ≤ 9223372036854775807 := grownCap_le_maxLen w s.size 0 e (Nat.le_of_ble_eq_true hsl)
      simp only [AV.den, Option.some.injEq] at hx
      subst hx
      have hg : s.size ≤ grownCap w s.size 0 e := by
        unfold grownCap; simp [Question.cut]
      obtain ⟨h1, h2, h3, h4, h5, h6⟩ := alloc_world w (.cells (bytesRow s (grownCap w s.size 0 e)) e ((bytesRow s (grownCap w s.size 0 e)).size, (bytesRow s (grownCap w s.size 0 e)).size + 1))
      refine ⟨m.new st.next (w.heap.size, grownCap w s.size 0 e), _, _, ?_, run_bytes_of_string w src dst e s hs hd he, alloc_ok hal hA hR hF h1 h2 h3 h4 h5 h6 (fun i hi => by simp; omega) ?_ ?_⟩
      · simp [AV.den, Map.new]
      · intro i z hz
        simp only [List.getElem?_map, Option.map_eq_some_iff] at hz
        obtain ⟨q, hq, rfl⟩ := hz
        refine ⟨_, rfl, ?_⟩
        have : i < s.data.size := by
          have := (List.getElem?_eq_some_iff.1 hq).1
          simpa using this
        rw [bytesRow, Array.getElem?_append_left (by simpa using this)]
        simp at hq
        simp [hq]
      · have : s.data.size = s.size := rfl
        simp only [cond_true, bytesRow, Array.size_append, Array.size_map, Array.size_replicate, Nat.mul_one]
        refine ⟨?_, hgm⟩
        omega
    · cases h
  · cases h

end Go.Proofs.Ytfcdbknmajfkaaa.eng
