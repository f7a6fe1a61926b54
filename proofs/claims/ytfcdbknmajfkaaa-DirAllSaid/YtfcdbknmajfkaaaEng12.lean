/- The engine: what it does not name it does not turn. -/
import Derived.Test.YtfcdbknmajfkaaaEng11
namespace Go.Proofs.Ytfcdbknmajfkaaa.eng
open Go
variable {W0 : Base}
set_option linter.unusedVariables false
set_option linter.unusedSimpArgs false

theorem Gk.refl (st : St) (lg : Log) : Gk st st lg := fun _ _ => rfl
theorem Gk.trans {a b c : St} {l1 l2 : Log} (h : Gk a b l1) (k : Gk b c l2) : Gk a c (l1.or l2) := fun r hr => by
  rw [k r (fun x => hr (bit_or_r x)), h r (fun x => hr (bit_or_l x))]
theorem Gk.orR {a b : St} {l1 l2 : Log} (h : Gk a b l2) : Gk a b (l1.or l2) := fun r hr => h r (fun x => hr (bit_or_r x))
theorem Gk.orL {a b : St} {l1 l2 : Log} (h : Gk a b l1) : Gk a b (l1.or l2) := fun r hr => h r (fun x => hr (bit_or_l x))

theorem put_gk {st st' : St} {r : Nat} {o : ARoot} (h : st.put r o = some st') : Gk st st' (Log.turns r) := fun k hk => by
  obtain ⟨hp, _⟩ := put_ok h
  rw [hp]
  have : ¬ k = r := fun e => hk (by simp only [Log.turns]; rw [bit_one]; exact e)
  simp [Heap.upd, this]
theorem alloc_gk {st st' : St} {cells : List AV} {elem : TypeId} {esz : Nat} {opn : Bool} {lg : Log} (h : st.alloc cells elem esz opn = some (st', lg)) : Gk st st' lg := by
  simp only [St.alloc, Option.map_eq_some_iff] at h
  obtain ⟨s1, hp, he⟩ := h
  cases he
  intro r hr
  have := put_gk hp r hr
  exact this
theorem aPutCells_gk {st st' : St} {r v off : Nat} {ys : List AV} {lg : Log} (h : aPutCells st r v off ys = some (st', lg)) : Gk st st' lg := by
  simp only [aPutCells, Option.bind_eq_some_iff] at h
  obtain ⟨o, ho, h⟩ := h
  split at h
  · simp only [cond_eq_ite] at h
    split at h
    · simp only [Option.map_eq_some_iff] at h
      obtain ⟨s1, hp, he⟩ := h
      cases he
      exact put_gk hp
    · cases h
  · cases h
theorem aStore_gk {P : Program} {st st' : St} {t : TypeId} {x y : AV} {lg : Log} (h : aStore P st t x y = some (st', lg)) : Gk st st' lg := by
  unfold aStore at h
  split at h
  · simp only [cond_eq_ite] at h
    split at h
    · exact aPutCells_gk h
    · cases h
  · cases h
theorem aNew_gk {st st' : St} {elem : TypeId} {y z : AV} {lg : Log} (h : aNew st elem y = some (z, st', lg)) : Gk st st' lg := by
  simp only [aNew, Option.map_eq_some_iff] at h
  obtain ⟨⟨s1, l1⟩, hal, he⟩ := h
  cases he
  exact alloc_gk hal
theorem aToBytes_gk {P : Program} {st st' : St} {src dst : TypeId} {x y : AV} {lg : Log} (h : aToBytes P st src dst x = some (y, st', lg)) : Gk st st' lg := by
  unfold aToBytes at h
  split at h
  · split at h
    · simp only [cond_eq_ite] at h
      split at h
      · simp only [Option.map_eq_some_iff] at h
        obtain ⟨⟨s1, l1⟩, hal, he⟩ := h
        cases he
        exact alloc_gk hal
      · cases h
    · cases h
  · cases h
theorem aGrow_gk {st st' : St} {e : TypeId} {i : TypeInfo} {len cap n : Nat} {olds news : List AV} {y : AV} {lg : Log} (h : aGrow st e i len cap n olds news = some (y, st', lg)) : Gk st st' lg := by
  unfold aGrow at h
  simp only [cond_eq_ite] at h
  split at h
  · simp only [Option.map_eq_some_iff] at h
    obtain ⟨⟨s1, l1⟩, hal, he⟩ := h
    cases he
    exact alloc_gk hal
  · cases h
theorem aVer_gk {st st' : St} {o : ARoot} {r v len n : Nat} {i : TypeInfo} {ys : List AV} {y : AV} {lg : Log} (h : aVer st o r v len n i ys = some (y, st', lg)) : Gk st st' lg := by
  simp only [aVer, Option.map_eq_some_iff] at h
  obtain ⟨s1, hp, he⟩ := h
  cases he
  exact put_gk hp
theorem aOnto_gk {st st' : St} {e : TypeId} {i : TypeInfo} {n : Nat} {ys : List AV} {x y : AV} {lg : Log} (h : aOnto st e i n ys x = some (y, st', lg)) : Gk st st' lg := by
  unfold aOnto at h
  split at h
  · simp only [cond_eq_ite] at h
    split at h
    · cases h; exact Gk.refl _ _
    · exact aGrow_gk h
  · rename_i r v lo sz len cap opn
    cases hsz : Nat.beq sz i.size with
    | false => simp [hsz] at h
    | true =>
      simp only [hsz, cond_true, Option.bind_eq_some_iff] at h
      obtain ⟨⟨o, nv⟩, hl, h⟩ := h
      cases opn with
      | true =>
        simp only [cond_true] at h
        cases hc : (o.opn && Nat.beq o.esz sz && Nat.blt 0 sz && Nat.ble ((lo + len + n) * sz) nv && Nat.ble cap lo) with
        | true =>
          simp only [hc, cond_true] at h
          cases hn0 : Nat.beq n 0 with
          | true => simp only [hn0, cond_true, Option.some.injEq, Prod.mk.injEq] at h; obtain ⟨_, rfl, _⟩ := h; exact Gk.refl _ _
          | false =>
            simp only [hn0, cond_false, Option.map_eq_some_iff] at h
            obtain ⟨⟨s1, l1⟩, hp, he⟩ := h
            cases he
            exact aPutCells_gk hp
        | false =>
          simp only [hc, cond_false] at h
          simp only [cond_eq_ite] at h
          split at h
          · exact aVer_gk h
          · cases h
      | false =>
        simp only [cond_false] at h
        cases hc : Nat.ble (len + n) cap with
        | true =>
          simp only [hc, cond_true] at h
          cases hn0 : Nat.beq n 0 with
          | true => simp only [hn0, cond_true, Option.some.injEq, Prod.mk.injEq] at h; obtain ⟨_, rfl, _⟩ := h; exact Gk.refl _ _
          | false =>
            simp only [hn0, cond_false, Option.map_eq_some_iff] at h
            obtain ⟨⟨s1, l1⟩, hp, he⟩ := h
            cases he
            exact aPutCells_gk hp
        | false =>
          simp only [hc, cond_false] at h
          simp only [cond_eq_ite] at h
          split at h
          · simp only [Option.map_eq_some_iff] at h
            obtain ⟨⟨y1, s1, l1⟩, hg, he⟩ := h
            cases he
            exact (aGrow_gk hg).orR
          · cases h
  · cases h
theorem aAppend_gk {P : Program} {st st' : St} {t tx : TypeId} {s x y : AV} {lg : Log} (h : aAppend P st t tx s x = some (y, st', lg)) : Gk st st' lg := by
  unfold aAppend at h
  split at h
  · simp only [Option.bind_eq_some_iff] at h
    obtain ⟨i, hi, h⟩ := h
    cases hk : kindOk P tx with
    | true =>
      simp only [hk, cond_true, Option.bind_eq_some_iff, Option.map_eq_some_iff] at h
      obtain ⟨⟨n, ys, l1⟩, h1, ⟨y1, s1, l2⟩, h2, he⟩ := h
      cases he
      exact (aOnto_gk h2).orR
    | false =>
      simp only [hk, cond_false] at h
      split at h
      · simp only [cond_eq_ite] at h
        split at h
        · exact aOnto_gk h
        · cases h
      · cases h
  · cases h
theorem aCopy_gk {P : Program} {st st' : St} {t : TypeId} {d x y : AV} {lg : Log} (h : aCopy P st t d x = some (y, st', lg)) : Gk st st' lg := by
  unfold aCopy at h
  split at h
  · simp only [Option.bind_eq_some_iff] at h
    obtain ⟨i, hi, h⟩ := h
    split at h
    · simp only [Option.map_eq_some_iff] at h
      obtain ⟨⟨n, ys, l1⟩, h1, he⟩ := h
      cases he
      exact Gk.refl _ _
    · rename_i r v lo sz len cap opn
      cases hsz : Nat.beq sz i.size with
      | false => simp [hsz] at h
      | true =>
        simp only [hsz, cond_true, Option.bind_eq_some_iff] at h
        obtain ⟨⟨n, ys, l1⟩, h1, h⟩ := h
        simp only [cond_eq_ite] at h
        split at h
        · cases h
        · simp only [Option.map_eq_some_iff] at h
          obtain ⟨⟨s1, l2⟩, hp, he⟩ := h
          cases he
          exact (aPutCells_gk hp).orR
    · cases h
  · cases h
theorem aBuildSlice_gk {P : Program} {st st' : St} {t : TypeId} {len : Nat} {ps : List (Nat × AV)} {y : AV} {lg : Log} (h : aBuildSlice P st t len ps = some (y, st', lg)) : Gk st st' lg := by
  unfold aBuildSlice at h
  split at h
  · simp only [Option.bind_eq_some_iff] at h
    obtain ⟨i, hi, h⟩ := h
    split at h
    · simp only [cond_eq_ite] at h
      split at h
      · simp only [Option.bind_eq_some_iff, Option.map_eq_some_iff] at h
        obtain ⟨cells, hf, ⟨s1, l1⟩, hal, he⟩ := h
        cases he
        exact alloc_gk hal
      · split at h
        · simp only [Option.map_eq_some_iff] at h
          obtain ⟨⟨s1, l1⟩, hal, he⟩ := h
          cases he
          exact alloc_gk hal
        · cases h
    · cases h
  · cases h
theorem aMakeSlice_gk {P : Program} {st st' : St} {t : TypeId} {l c y : AV} {lg : Log} (h : aMakeSlice P st t l c = some (y, st', lg)) : Gk st st' lg := by
  unfold aMakeSlice at h
  split at h
  · simp only [Option.bind_eq_some_iff] at h
    obtain ⟨i, hi, h⟩ := h
    split at h
    · simp only [cond_eq_ite] at h
      split at h
      · simp only [Option.map_eq_some_iff] at h
        obtain ⟨⟨s1, l1⟩, hal, he⟩ := h
        cases he
        exact alloc_gk hal
      · cases h
    · cases h
  · cases h

theorem aPl_gk {P : Program} {o : Oper} {x : AAct} {st st' : St} {n : AN} {lg : Log} (h : aPl P o x st = some (n, st', lg)) : Gk st st' lg := by
  simp only [aPl, Option.map_eq_some_iff] at h
  obtain ⟨r, hr, he⟩ := h
  cases r <;> cases he <;> exact Gk.refl _ _
theorem vno_gk {st st' : St} {y : AV} {n : AN} {lg : Log} (h : vno st y = (n, st', lg)) : Gk st st' lg := by cases h; exact Gk.refl _ _
theorem aCall_gk {P : Program} {o : Oper} {c : Call} {x : AAct} {st st' : St} {n : AN} {lg : Log} (h : aCall P o c x st = some (n, st', lg)) : Gk st st' lg := by
  unfold aCall at h
  split at h
  · split at h
    · simp only [Option.bind_eq_some_iff, Option.map_eq_some_iff] at h
      obtain ⟨p, hp, q, hq, ⟨z, s1, l1⟩, hap, he⟩ := h
      cases he
      exact aAppend_gk hap
    · cases h
  · split at h
    · simp only [Option.bind_eq_some_iff, Option.map_eq_some_iff] at h
      obtain ⟨p, hp, q, hq, ⟨z, s1, l1⟩, hap, he⟩ := h
      cases he
      exact aCopy_gk hap
    · cases h
  · split at h
    · simp only [Option.bind_eq_some_iff] at h
      obtain ⟨p, hp, h⟩ := h
      split at h
      · exact vno_gk (Option.some.inj h)
      · exact aPl_gk h
    · cases h
  · split at h
    · simp only [Option.bind_eq_some_iff] at h
      obtain ⟨p, hp, h⟩ := h
      split at h
      · exact vno_gk (Option.some.inj h)
      · exact aPl_gk h
    · cases h
  · exact aPl_gk h
  · cases h
  · simp only [Option.bind_eq_some_iff] at h
    obtain ⟨fv, hfv, args, hargs, ⟨fn, p, q⟩, hfn, h⟩ := h
    dsimp only at h
    split at h
    · simp only [Option.bind_eq_some_iff] at h
      obtain ⟨d, hd, h⟩ := h
      simp only [cond_eq_ite] at h
      split at h
      · cases h; exact Gk.refl _ _
      · exact aPl_gk h
    · cases h

theorem aop_gk {P : Program} {o : Oper} {x : AAct} {st st' : St} {n : AN} {lg : Log} (h : aop P o x st = some (n, st', lg)) : Gk st st' lg := by
  unfold aop at h
  split at h
  case h_1 => simp only [Option.map_eq_some_iff] at h; obtain ⟨z, hz, he⟩ := h; exact vno_gk he
  case h_2 => simp only [Option.map_eq_some_iff] at h; obtain ⟨z, hz, he⟩ := h; exact vno_gk he
  case h_3 =>
    simp only [Option.bind_eq_some_iff] at h
    obtain ⟨cv, hcv, h⟩ := h
    split at h
    · simp only [Option.map_eq_some_iff] at h; obtain ⟨z, hz, he⟩ := h; exact vno_gk he
    · simp only [Option.map_eq_some_iff] at h; obtain ⟨z, hz, he⟩ := h; exact vno_gk he
    · cases h
  case h_4 =>
    simp only [Option.bind_eq_some_iff, Option.map_eq_some_iff] at h
    obtain ⟨i, hi, z, hz, ⟨y, s1, l1⟩, hnew, he⟩ := h
    cases he; exact aNew_gk hnew
  case h_5 =>
    simp only [Option.bind_eq_some_iff, Option.map_eq_some_iff] at h
    obtain ⟨q, hq, ⟨y, s1, l1⟩, hnew, he⟩ := h
    cases he; exact aNew_gk hnew
  case h_6 =>
    simp only [Option.bind_eq_some_iff, Option.map_eq_some_iff] at h
    obtain ⟨qs, hqs, y, hy, he⟩ := h; exact vno_gk he
  case h_7 =>
    simp only [Option.bind_eq_some_iff, Option.map_eq_some_iff] at h
    obtain ⟨qs, hqs, ⟨y, s1, l1⟩, hy, he⟩ := h
    cases he; exact aBuildSlice_gk hy
  case h_8 =>
    simp only [Option.bind_eq_some_iff, Option.map_eq_some_iff] at h
    obtain ⟨q, hq, ⟨z, l1⟩, hl, he⟩ := h
    cases he; exact Gk.refl _ _
  case h_9 =>
    simp only [Option.bind_eq_some_iff, Option.map_eq_some_iff] at h
    obtain ⟨p, hp, q, hq, ⟨s1, l1⟩, hs, he⟩ := h
    cases he; exact aStore_gk hs
  case h_10 => simp only [Option.bind_eq_some_iff, Option.map_eq_some_iff] at h; obtain ⟨q, hq, z, hz, he⟩ := h; exact vno_gk he
  case h_11 => simp only [Option.bind_eq_some_iff, Option.map_eq_some_iff] at h; obtain ⟨q, hq, z, hz, he⟩ := h; exact vno_gk he
  case h_12 =>
    simp only [Option.bind_eq_some_iff] at h
    obtain ⟨q, hq, j, hj, h⟩ := h
    split at h
    · exact vno_gk (Option.some.inj h)
    · exact aPl_gk h
  case h_13 => simp only [Option.bind_eq_some_iff, Option.map_eq_some_iff] at h; obtain ⟨q, hq, z, hz, he⟩ := h; exact vno_gk he
  case h_14 =>
    simp only [Option.bind_eq_some_iff] at h
    obtain ⟨q, hq, l, hl, hh, hhh, k, hk, h⟩ := h
    split at h
    · cases h; exact Gk.refl _ _
    · exact aPl_gk h
  case h_15 => simp only [Option.bind_eq_some_iff, Option.map_eq_some_iff] at h; obtain ⟨p, hp, q, hq, he⟩ := h; exact vno_gk he
  case h_16 =>
    simp only [Option.bind_eq_some_iff, Option.map_eq_some_iff] at h
    obtain ⟨p, hp, q, hq, ⟨y, s1, l1⟩, hy, he⟩ := h
    cases he; exact aMakeSlice_gk hy
  case h_17 =>
    simp only [Option.bind_eq_some_iff] at h
    obtain ⟨q, hq, h⟩ := h
    simp only [cond_eq_ite] at h
    split at h
    · cases h
    · exact vno_gk (Option.some.inj h)
  case h_18 =>
    simp only [Option.bind_eq_some_iff] at h
    obtain ⟨q, hq, h⟩ := h
    split at h
    · cases h; exact Gk.refl _ _
    · split at h
      · rename_i z s1 lg' hz
        cases h
        exact aToBytes_gk hz
      · exact aPl_gk h
  case h_19 =>
    simp only [Option.bind_eq_some_iff] at h
    obtain ⟨q, hq, h⟩ := h
    split at h
    · exact vno_gk (Option.some.inj h)
    · exact vno_gk (Option.some.inj h)
    · exact aPl_gk h
  case h_20 => exact aCall_gk h
  case h_21 =>
    split at h
    · simp only [Option.bind_eq_some_iff, Option.map_eq_some_iff] at h
      obtain ⟨fv, hfv, args, hargs, ⟨fn, p, q⟩, hfn, he⟩ := h
      cases he; exact Gk.refl _ _
    · cases h
  case h_22 => exact aPl_gk h

def CodeGk (C : Code → AAct → St → CR) : Prop := ∀ c x st e x' st' lg, C c x st = some (e, x', st', lg) → Gk st st' lg
theorem dats_gk {st : St} {es : List (SX × Bool)} {lg : Log} (hlt : st.next + es.length < 16777215) (h : ∀ r, bit (maskFrom st.next es.length) r → bit lg.T r) : Gk st (st.dats es) lg := by
  intro q hq
  show (newDats es st.next st.heap).get q = _
  rw [newDats_get _ _ _ _ hlt, if_neg]
  intro hq2
  exact hq (h q ((maskFrom_bit _ _ _).2 hq2))
theorem aopS_gk {P : Program} {o : Oper} {x : AAct} {st st' : St} {n : AN} {lg : Log} (h : aopS P o x st = some (n, st', lg)) : Gk st st' lg := by
  unfold aopS at h
  split at h
  · rename_i r hr
    cases h
    unfold aLenD at hr
    split at hr
    · split at hr
      · simp only [Option.bind_eq_some_iff] at hr
        obtain ⟨q, hq, hr⟩ := hr
        split at hr
        · simp only [Option.map_eq_some_iff] at hr
          obtain ⟨e, he, hr⟩ := hr
          cases hr
          exact Gk.refl _ _
        · cases hr
      · cases hr
    · cases hr
  · split at h
    · unfold aIdxD at h
      split at h
      · simp only [Option.bind_eq_some_iff] at h
        obtain ⟨qv, hq, jv, hj, h⟩ := h
        split at h
        · split at h
          · simp only [Option.bind_eq_some_iff] at h
            obtain ⟨sz, hs, ie, hie, h⟩ := h
            simp only [cond_eq_ite] at h
            split at h
            · simp only [Option.map_eq_some_iff] at h
              obtain ⟨e, he, h⟩ := h
              cases h
              exact Gk.refl _ _
            · cases h
          · cases h
        · split at h
          · split at h
            · simp only [Option.map_eq_some_iff] at h
              obtain ⟨y, hy, h⟩ := h
              cases h
              exact fun _ _ => rfl
            · cases h
          · cases h
      · cases h
    · simp only [Option.bind_eq_some_iff, Option.map_eq_some_iff] at h
      obtain ⟨q, hq, ⟨y, s1, l1⟩, hl, he⟩ := h
      cases he
      obtain ⟨es, h1, h2, h3⟩ := aLoadD_shape hl
      rw [h1]
      exact dats_gk h2 (fun r hr => by rw [h3]; exact hr)
    · simp only [aSym, Option.map_eq_some_iff] at h
      obtain ⟨e, he, h⟩ := h
      cases h
      exact Gk.refl _ _
theorem allocS_gk {st st' : St} {e : SX} {elem : TypeId} {esz : Nat} {y : AV} {lg : Log} (h : st.allocS e elem esz = some (y, st', lg)) : Gk st st' lg := by
  simp only [St.allocS, Option.map_eq_some_iff] at h
  obtain ⟨s1, hp, he⟩ := h
  cases he
  intro r hr
  have := put_gk hp r hr
  exact this
theorem aAppendS_gk {P : Program} {st st' : St} {t tx : TypeId} {s x y : AV} {lg : Log} (hap : aAppendS P st t tx s x = some (y, st', lg)) : Gk st st' lg := by
  unfold aAppendS at hap
  split at hap
  · simp only [Option.bind_eq_some_iff] at hap
    obtain ⟨i, hi, ⟨eo, el, esz⟩, hl, hap⟩ := hap
    simp only [cond_eq_ite] at hap
    split at hap
    · simp only [Option.bind_eq_some_iff, Option.map_eq_some_iff] at hap
      obtain ⟨⟨en, l1⟩, hsr, s1, hp, he⟩ := hap
      cases he
      exact ((put_gk hp).orL).orR
    · cases hap
  · cases hap
theorem symOf_gk {st st' : St} {x y : AV} {lg : Log} (h : symOf st x = some (y, st', lg)) : Gk st st' lg := by
  unfold symOf at h
  split at h
  · rename_i r v lo sz len cap opn
    simp only [Option.bind_eq_some_iff] at h
    obtain ⟨o, ho, h⟩ := h
    split at h
    · rename_i v' n rest hvers
      simp only [Option.bind_eq_some_iff] at h
      obtain ⟨es, hes, h⟩ := h
      have key : ∀ bb : Bool, cond bb ((st.put r (symRoot (.lit len es) o.elem sz (v + 1))).map fun st' => (AV.sliceS r (v + 1) c0 (.len (.lit len es)) sz, st', Log.turns r)) none = some (y, st', lg) → Gk st st' lg := by
        intro bb hb
        cases bb with
        | false => cases hb
        | true =>
          simp only [cond_true, Option.map_eq_some_iff] at hb
          obtain ⟨s1, hp, he⟩ := hb
          cases he
          exact put_gk hp
      exact key _ h
    · cases h
  · cases h
theorem aAppendN_gk {P : Program} {st st' : St} {t tx : TypeId} {x y : AV} {lg : Log} (h : aAppendN P st t tx x = some (y, st', lg)) : Gk st st' lg := by
  unfold aAppendN at h
  split at h
  · simp only [Option.bind_eq_some_iff] at h
    obtain ⟨i, hi, h⟩ := h
    cases hc : (zeroFits i && Nat.blt 0 i.size && Nat.ble i.bytes 16384) with
    | false => simp [hc] at h
    | true =>
      simp only [hc, cond_true, Option.bind_eq_some_iff] at h
      obtain ⟨⟨en, l1⟩, hsr, ⟨b, st1, l2⟩, hnw, h⟩ := h
      obtain ⟨e1, e2, e3⟩ := isNew_ok hnw
      cases b with
      | true =>
        simp only [cond_true, Option.map_eq_some_iff] at h
        obtain ⟨⟨y1, s1, l3⟩, hal, he⟩ := h
        cases he
        have := ((allocS_gk hal).orL (l2 := Log.says (.upto (.len en) 4294967296))).orR (l1 := l1.or l2)
        intro r hr
        rw [this r hr, e1]
      | false =>
        simp only [cond_false, Option.some.injEq, Prod.mk.injEq] at h
        obtain ⟨rfl, rfl, rfl⟩ := h
        intro r hr
        rw [e1]
  · cases h
theorem aAppendO_gk {P : Program} {st st' : St} {t tx : TypeId} {s x y : AV} {lg : Log} (h : aAppendO P st t tx s x = some (y, st', lg)) : Gk st st' lg := by
  unfold aAppendO at h
  split at h
  · exact aAppendN_gk h
  · simp only [Option.bind_eq_some_iff, Option.map_eq_some_iff] at h
    obtain ⟨⟨y1, st1, l1⟩, h1, ⟨z, st2, l2⟩, h2, he⟩ := h
    cases he
    exact (symOf_gk h1).trans (aAppendS_gk h2)
  · exact aAppendS_gk h
theorem aopO_gk {P : Program} {o : Oper} {x : AAct} {st st' : St} {n : AN} {lg : Log} (h : aopO P o x st = some (n, st', lg)) : Gk st st' lg := by
  unfold aopO at h
  split at h
  · simp only [Option.bind_eq_some_iff, Option.map_eq_some_iff] at h
    obtain ⟨q, hq, ⟨z, l1⟩, hl, he⟩ := h
    cases he
    exact Gk.refl _ _
  · simp only [Option.bind_eq_some_iff, Option.map_eq_some_iff] at h
    obtain ⟨p, hp, q, hq, ⟨s1, l1⟩, hs, he⟩ := h
    cases he
    unfold aStoreS at hs
    split at hs
    · simp only [Option.bind_eq_some_iff] at hs
      obtain ⟨⟨e, el, esz⟩, hl, es, hes, hs⟩ := hs
      simp only [cond_eq_ite] at hs
      split at hs
      · simp only [Option.map_eq_some_iff] at hs
        obtain ⟨s1, hp, he⟩ := hs
        cases he
        exact (put_gk hp).orL
      · cases hs
    · cases hs
  · simp only [Option.bind_eq_some_iff, Option.map_eq_some_iff] at h
    obtain ⟨q, hq, j, hj, ⟨z, l1⟩, hs, he⟩ := h
    cases he
    exact Gk.refl _ _
  · simp only [Option.bind_eq_some_iff, Option.map_eq_some_iff] at h
    obtain ⟨p, hp, q, hq, ⟨y, s1, l1⟩, hy, he⟩ := h
    cases he
    unfold aMakeS at hy
    split at hy
    · simp only [Option.bind_eq_some_iff] at hy
      obtain ⟨i, hi, z, hz, hy⟩ := hy
      simp only [cond_eq_ite] at hy
      split at hy
      · simp only [Option.map_eq_some_iff] at hy
        obtain ⟨⟨y2, s2, l2⟩, hal, he⟩ := hy
        cases he
        exact (allocS_gk hal).orL
      · cases hy
    · cases hy
  · simp only [Option.bind_eq_some_iff] at h
    obtain ⟨q, hq, h⟩ := h
    split at h
    · rename_i z s1 lg' hz
      simp only [Option.some.injEq, Prod.mk.injEq] at h
      obtain ⟨rfl, rfl, rfl⟩ := h
      unfold aStrO at hz
      split at hz
      · simp only [Option.some.injEq, Prod.mk.injEq] at hz
        obtain ⟨rfl, rfl, rfl⟩ := hz
        exact Gk.refl _ _
      · simp only [Option.bind_eq_some_iff, Option.map_eq_some_iff] at hz
        obtain ⟨⟨x', s1', l1⟩, hsy, ⟨y', l2⟩, hs, he⟩ := hz
        cases he
        exact (symOf_gk hsy).orL
    · simp only [Option.map_eq_some_iff] at h
      obtain ⟨⟨z, s1, l1⟩, hz, he⟩ := h
      cases he
      unfold aBytesS at hz
      split at hz
      · split at hz
        · simp only [Option.map_eq_some_iff] at hz
          obtain ⟨⟨y2, s2, l2⟩, hal, he⟩ := hz
          cases he
          exact (allocS_gk hal).orL
        · cases hz
      · cases hz
  · simp only [Option.bind_eq_some_iff] at h
    obtain ⟨q, hq, l, hl, hh, hhh, k, hk, h⟩ := h
    split at h
    · simp only [Option.some.injEq, Prod.mk.injEq] at h
      obtain ⟨rfl, rfl, rfl⟩ := h
      exact Gk.refl _ _
    · simp only [Option.map_eq_some_iff] at h
      obtain ⟨⟨z, s1, l1⟩, hz, he⟩ := h
      cases he
      unfold aPartD at hz
      split at hz
      · simp only [Option.bind_eq_some_iff] at hz
        obtain ⟨sz, hs, oo, hoo, e, hr, le, hle, he, hhe, hz⟩ := hz
        simp only [cond_eq_ite, Bool.and_eq_true, Nat.blt_eq] at hz
        split at hz
        · rename_i hc
          cases hz
          exact dats_gk (by simp; omega) (fun r hr => hr)
        · cases hz
      · cases hz
  · unfold aopC at h
    split at h
    · split at h
      · simp only [Option.bind_eq_some_iff, Option.map_eq_some_iff] at h
        obtain ⟨p, hp, q, hq, ⟨z, s1, l1⟩, hap, he⟩ := h
        cases he
        exact aAppendO_gk hap
      · cases h
    · split at h
      · simp only [Option.bind_eq_some_iff, Option.map_eq_some_iff] at h
        obtain ⟨p, hp, q, hq, ⟨z, s1, l1⟩, hap, he⟩ := h
        cases he
        unfold aCopyS at hap
        split at hap
        · simp only [Option.bind_eq_some_iff] at hap
          obtain ⟨i, hi, ⟨eo, el, esz⟩, hl, s, hsx, hap⟩ := hap
          simp only [cond_eq_ite] at hap
          split at hap
          · simp only [Option.map_eq_some_iff] at hap
            obtain ⟨s1, hp, he⟩ := hap
            cases he
            exact (put_gk hp).orL
          · cases hap
        · cases hap
      · cases h
    · split at h
      · simp only [Option.bind_eq_some_iff] at h
        obtain ⟨p, hp, h⟩ := h
        split at h
        · simp only [Option.some.injEq, Prod.mk.injEq] at h
          obtain ⟨rfl, rfl, rfl⟩ := h
          exact Gk.refl _ _
        · cases h
      · cases h
    · split at h
      · simp only [Option.bind_eq_some_iff, Option.map_eq_some_iff] at h
        obtain ⟨p, hp, q, hq, ea, hea, eb, heb, he⟩ := h
        cases he
        exact Gk.refl _ _
      · cases h
    · split at h
      · simp only [Option.bind_eq_some_iff, Option.map_eq_some_iff] at h
        obtain ⟨p, hp, q, hq, ea, hea, eb, heb, he⟩ := h
        cases he
        exact Gk.refl _ _
      · cases h
    · cases h
  · cases h
theorem decB_gk {P : Program} {o : Oper} {st st1 st' : St} {n n1 : AN} {lg l1 : Log} (h : decB P o (n1, st1, l1) = some (n, st', lg)) (hg : Gk st st1 l1) : Gk st st' lg := by
  unfold decB at h
  split at h
  · rename_i e s2 l2 he
    cases he
    simp only [cond_eq_ite] at h
    split at h
    · split at h
      · simp only [Option.some.injEq, Prod.mk.injEq] at h
        obtain ⟨rfl, rfl, rfl⟩ := h
        exact hg.orL
      · cases h
    · simp only [Option.some.injEq, Prod.mk.injEq] at h
      obtain ⟨rfl, rfl, rfl⟩ := h
      exact hg
  · simp only [Option.some.injEq] at h
    cases h
    exact hg
theorem aopI_gk {P : Program} {o : Oper} {x : AAct} {st st' : St} {n : AN} {lg : Log} (h : aopI P o x st = some (n, st', lg)) : Gk st st' lg := by
  unfold aopI at h
  split at h
  · simp only [Option.bind_eq_some_iff, Option.map_eq_some_iff] at h
    obtain ⟨q, hq, j, hj, ⟨q', s1, l1⟩, hsy, ⟨z, l2⟩, hs, he⟩ := h
    cases he
    exact (symOf_gk hsy).orL
  · cases h
theorem aopH_gk {P : Program} {H : Option Hint} {o : Oper} {x : AAct} {st st' : St} {n : AN} {lg : Log} (h : aopH P H o x st = some (n, st', lg)) : Gk st st' lg := by
  unfold aopH at h
  split at h
  · cases h
  · split at h
    · rename_i r hr
      cases h
      exact aop_gk hr
    · split at h
      · rename_i r hr
        cases h
        exact aopO_gk hr
      · exact aopS_gk h
  · split at h
    · rename_i r hr
      obtain ⟨n1, s1, l1⟩ := r
      exact decB_gk h (aopO_gk hr)
    · split at h
      · rename_i r hr
        obtain ⟨n1, s1, l1⟩ := r
        exact decB_gk h (aopI_gk hr)
      · split at h
        · rename_i r hr
          obtain ⟨n1, s1, l1⟩ := r
          exact decB_gk h (aop_gk hr)
        · simp only [Option.bind_eq_some_iff] at h
          obtain ⟨⟨n1, s1, l1⟩, hr, h⟩ := h
          exact decB_gk h (aopS_gk hr)
  · split at h
    · rename_i r hr
      obtain ⟨n1, s1, l1⟩ := r
      exact decB_gk h (aop_gk hr)
    · split at h
      · rename_i r hr
        obtain ⟨n1, s1, l1⟩ := r
        exact decB_gk h (aopO_gk hr)
      · simp only [Option.bind_eq_some_iff] at h
        obtain ⟨⟨n1, s1, l1⟩, hr, h⟩ := h
        exact decB_gk h (aopS_gk hr)
theorem opA_gk {P : Program} {E : Eng} (hE : CallGk E.call) {ops : Array Oper} {o : Oper} {x x' : AAct} {st st' : St} {pv : Option Value} {lg : Log} (h : opA P E ops o x st = some (pv, x', st', lg)) : Gk st st' lg := by
  unfold opA at h
  simp only [Option.bind_eq_some_iff] at h
  obtain ⟨b, hb, h⟩ := h
  cases b with
  | false =>
    simp only [cond_false, Option.map_eq_some_iff, Prod.mk.injEq] at h
    obtain ⟨x1, hx1, rfl, rfl, rfl, rfl⟩ := h
    exact Gk.refl _ _
  | true =>
    simp only [cond_true, Option.bind_eq_some_iff] at h
    obtain ⟨⟨n, st1, l1⟩, hop, h⟩ := h
    cases n with
    | value y =>
      simp only [Option.map_eq_some_iff, Prod.mk.injEq] at h
      obtain ⟨x1, hx1, rfl, rfl, rfl, rfl⟩ := h
      exact aopH_gk hop
    | panic v =>
      simp only [Option.some.injEq, Prod.mk.injEq] at h
      obtain ⟨rfl, rfl, rfl, rfl⟩ := h
      exact aopH_gk hop
    | enter f args =>
      simp only [Option.bind_eq_some_iff] at h
      obtain ⟨⟨r, st2, l2⟩, hcall, h⟩ := h
      cases r with
      | ret y =>
        simp only [Option.map_eq_some_iff, Prod.mk.injEq] at h
        obtain ⟨x1, hx1, rfl, rfl, rfl, rfl⟩ := h
        exact (aopH_gk hop).trans (hE _ _ _ _ _ _ hcall)
      | pan v =>
        simp only [Option.some.injEq, Prod.mk.injEq] at h
        obtain ⟨rfl, rfl, rfl, rfl⟩ := h
        exact (aopH_gk hop).trans (hE _ _ _ _ _ _ hcall)
    | defer d =>
      simp only [Option.map_eq_some_iff, Prod.mk.injEq] at h
      obtain ⟨x1, hx1, rfl, rfl, rfl, rfl⟩ := h
      exact aopH_gk hop
theorem opsA_gk {P : Program} {E : Eng} (hE : CallGk E.call) {ops : Array Oper} : ∀ (l : List Oper) (x : AAct) (st : St) (e : AX) (x' : AAct) (st' : St) (lg : Log), opsA P E ops l x st = some (e, x', st', lg) → Gk st st' lg := by
  intro l
  induction l with
  | nil =>
    intro x st e x' st' lg h
    simp only [opsA, Option.some.injEq, Prod.mk.injEq] at h
    obtain ⟨rfl, rfl, rfl, rfl⟩ := h
    exact Gk.refl _ _
  | cons o rest ih =>
    intro x st e x' st' lg h
    simp only [opsA, Option.bind_eq_some_iff] at h
    obtain ⟨⟨pv, x1, st1, l1⟩, hop, h⟩ := h
    cases pv with
    | some v =>
      simp only [Option.some.injEq, Prod.mk.injEq] at h
      obtain ⟨rfl, rfl, rfl, rfl⟩ := h
      exact opA_gk hE hop
    | none =>
      simp only [Option.map_eq_some_iff] at h
      obtain ⟨⟨e2, x2, st2, l2⟩, hr, he⟩ := h
      cases he
      exact (opA_gk hE hop).trans (ih x1 st1 _ _ _ _ hr)
theorem opsS_gk {P : Program} {E : Eng} (hE : CallGk E.call) {ops : Array Oper} : ∀ (l : List Oper) (x : AAct) (s : SMode) (st : St) (e : AX) (x' : AAct) (s' : SMode) (st' : St) (lg : Log), opsS P E ops l x s st = some (e, x', s', st', lg) → Gk st st' lg := by
  intro l
  induction l with
  | nil =>
    intro x s st e x' s' st' lg h
    simp only [opsS, Option.some.injEq, Prod.mk.injEq] at h
    obtain ⟨rfl, rfl, rfl, rfl, rfl⟩ := h
    exact Gk.refl _ _
  | cons o rest ih =>
    intro x s st e x' s' st' lg h
    simp only [opsS] at h
    cases hrec : isRecover o with
    | true =>
      simp only [hrec, cond_true] at h
      split at h
      · simp only [Option.bind_eq_some_iff] at h
        obtain ⟨x1, hx1, h⟩ := h
        exact ih _ _ _ _ _ _ _ _ h
      · simp only [Option.bind_eq_some_iff] at h
        obtain ⟨x1, hx1, h⟩ := h
        exact ih _ _ _ _ _ _ _ _ h
      · cases h
    | false =>
      simp only [hrec, cond_false, Option.bind_eq_some_iff] at h
      obtain ⟨⟨pv, x1, st1, l1⟩, hop, h⟩ := h
      cases pv with
      | some v =>
        simp only [Option.some.injEq, Prod.mk.injEq] at h
        obtain ⟨rfl, rfl, rfl, rfl, rfl⟩ := h
        exact opA_gk hE hop
      | none =>
        simp only [Option.map_eq_some_iff] at h
        obtain ⟨⟨e2, x2, s2, st2, l2⟩, hr, he⟩ := h
        cases he
        exact (opA_gk hE hop).trans (ih _ _ _ _ _ _ _ _ hr)
theorem codeS_gk {P : Program} {E : Eng} (hE : CallGk E.call) (hC : CodeGk E.code) : ∀ (c : Code) (x : AAct) (s : SMode) (st : St) (e : AX) (x' : AAct) (s' : SMode) (st' : St) (lg : Log), codeS P E c x s st = some (e, x', s', st', lg) → Gk st st' lg := by
  have leaf : ∀ (c : Code) (x : AAct) (s : SMode) (st : St) (e : AX) (x' : AAct) (s' : SMode) (st' : St) (lg : Log), ((E.code c x st).map fun (p : AX × AAct × St × Log) => (p.1, p.2.1, s, p.2.2.1, p.2.2.2)) = some (e, x', s', st', lg) → Gk st st' lg := by
    intro c x s st e x' s' st' lg h
    simp only [Option.map_eq_some_iff] at h
    obtain ⟨⟨e1, x1, st1, l1⟩, hc, he⟩ := h
    cases he
    exact hC _ _ _ _ _ _ _ hc
  intro c
  induction c with
  | seq p q ihp ihq =>
    intro x s st e x' s' st' lg h
    simp only [codeS, Option.bind_eq_some_iff] at h
    obtain ⟨⟨e1, x1, s1, st1, l1⟩, hp, h⟩ := h
    cases e1 with
    | normal =>
      simp only [Option.map_eq_some_iff] at h
      obtain ⟨⟨e2, x2, s2, st2, l2⟩, hq, he⟩ := h
      cases he
      exact (ihp _ _ _ _ _ _ _ _ hp).trans (ihq _ _ _ _ _ _ _ _ hq)
    | _ =>
      simp only [Option.some.injEq, Prod.mk.injEq] at h
      obtain ⟨rfl, rfl, rfl, rfl, rfl⟩ := h
      exact ihp _ _ _ _ _ _ _ _ hp
  | cond cc p q ihp ihq =>
    intro x s st e x' s' st' lg h
    simp only [codeS, Option.bind_eq_some_iff] at h
    obtain ⟨v, hv, h⟩ := h
    split at h
    · exact ihp _ _ _ _ _ _ _ _ h
    · exact ihq _ _ _ _ _ _ _ _ h
    · cases h
  | region id ops d =>
    intro x s st e x' s' st' lg h
    cases d with
    | false => exact opsS_gk hE _ _ _ _ _ _ _ _ _ h
    | true => exact leaf _ x s st e x' s' st' lg h
  | _ => intro x s st e x' s' st' lg h; exact leaf _ x s st e x' s' st' lg h
theorem deferA_gk {P : Program} {E : Eng} (hE : CallGk E.call) (hC : CodeGk E.code) {d : ADef} {s s' : SMode} {st st' : St} {lg : Log} (h : deferA P E d s st = some (s', st', lg)) : Gk st st' lg := by
  unfold deferA at h
  split at h
  · simp only [Option.bind_eq_some_iff] at h
    obtain ⟨fn, hf, c, hc, h⟩ := h
    simp only [cond_eq_ite] at h
    split at h
    · simp only [Option.bind_eq_some_iff] at h
      obtain ⟨⟨e, x1, s1, st1, l1⟩, hcode, h⟩ := h
      split at h
      · split at h
        · simp only [Option.map_eq_some_iff] at h
          obtain ⟨⟨y, l2⟩, hres, heq⟩ := h
          cases heq
          exact (codeS_gk hE hC _ _ _ _ _ _ _ _ _ hcode).orL
        · cases h
      · cases h
    · cases h
  · cases h
theorem leaveA_gk {P : Program} {E : Eng} (hE : CallGk E.call) (hC : CodeGk E.code) {fn : Func} {x : AAct} : ∀ (ds : List ADef) (s : SMode) (st : St) (r : ARet) (st' : St) (lg : Log), leaveA P E fn x ds s st = some (r, st', lg) → Gk st st' lg := by
  intro ds
  induction ds with
  | nil =>
    intro s st r st' lg h
    cases s with
    | returning =>
      simp only [leaveA, Option.map_eq_some_iff] at h
      obtain ⟨⟨y, l1⟩, hres, he⟩ := h
      cases he
      exact Gk.refl _ _
    | panicking v =>
      simp only [leaveA, Option.some.injEq, Prod.mk.injEq] at h
      obtain ⟨rfl, rfl, rfl⟩ := h
      exact Gk.refl _ _
    | recovered v => simp [leaveA] at h
  | cons d ds ih =>
    intro s st r st' lg h
    simp only [leaveA, Option.bind_eq_some_iff, Option.map_eq_some_iff] at h
    obtain ⟨⟨s1, st1, l1⟩, hdef, ⟨r2, st2, l2⟩, hlv, he⟩ := h
    cases he
    exact (deferA_gk hE hC hdef).trans (ih _ _ _ _ _ hlv)
theorem callF_gk {P : Program} {E : Eng} (hE : CallGk E.call) (hC : CodeGk E.code) : CallGk (callF P E) := by
  intro f args st r st' lg h
  simp only [callF, Option.bind_eq_some_iff] at h
  obtain ⟨fn, hf, c, hc, h⟩ := h
  simp only [cond_eq_ite] at h
  split at h
  · simp only [Option.bind_eq_some_iff] at h
    obtain ⟨⟨e, x1, st1, l1⟩, hcode, h⟩ := h
    cases e with
    | exit id => cases h
    | goto l => cases h
    | _ =>
      simp only [Option.map_eq_some_iff] at h
      obtain ⟨⟨r2, st2, l2⟩, hlv, he⟩ := h
      cases he
      exact (hC _ _ _ _ _ _ _ hcode).trans (leaveA_gk hE hC _ _ _ _ _ _ hlv)
  · cases h
theorem seqA_gk {st : St} {r : CR} {k : AAct → St → CR} (h1 : ∀ e x' st' lg, r = some (e, x', st', lg) → Gk st st' lg) (h2 : ∀ x s e x' st' lg, k x s = some (e, x', st', lg) → Gk s st' lg) : ∀ e x' st' lg, seqA r k = some (e, x', st', lg) → Gk st st' lg := by
  intro e x' st' lg h
  simp only [seqA, Option.bind_eq_some_iff] at h
  obtain ⟨⟨e1, x1, st1, l1⟩, hr, h⟩ := h
  cases e1 with
  | normal =>
    simp only [Option.map_eq_some_iff] at h
    obtain ⟨⟨e2, x2, st2, l2⟩, hk, he⟩ := h
    cases he
    exact (h1 _ _ _ _ hr).trans (h2 _ _ _ _ _ _ hk)
  | _ =>
    simp only [Option.some.injEq, Prod.mk.injEq] at h
    obtain ⟨rfl, rfl, rfl, rfl⟩ := h
    exact h1 _ _ _ _ hr
def DrawGk (D : Draw) : Prop := ∀ E, CallGk E.call → ∀ ops x st e x' st' lg, D E ops x st = some (e, x', st', lg) → Gk st st' lg
theorem eng_gk {P : Program} {D : Draw} (hD : DrawGk D) {O : FuncId → List AV → St → Option (ARet × St × Log)} {H : FuncId → Oper → Option Hint} (hO : CallGk O) : ∀ n, CodeGk (eng P D O H n).code ∧ CodeGk (eng P D O H n).loop ∧ CallGk (eng P D O H n).call := by
  intro n
  induction n with
  | zero => exact ⟨fun c x st e x' st' lg h => by simp [eng] at h, fun c x st e x' st' lg h => by simp [eng] at h, fun f args st r st' lg h => by simp [eng] at h⟩
  | succ n ih =>
    refine ⟨?_, ?_, ?_⟩
    · intro c x st e x' st' lg h
      simp only [eng] at h
      cases c with
      | region id ops d =>
        cases d with
        | true => exact hD _ ih.2.2 ops x st _ _ _ _ h
        | false => exact opsA_gk ih.2.2 _ x st _ _ _ _ h
      | seq p q => exact seqA_gk (st := st) (r := (eng P D O H n).code p x st) (k := (eng P D O H n).code q) (fun e x' st' lg hr => ih.1 _ _ _ _ _ _ _ hr) (fun x s e x' st' lg hr => ih.1 _ _ _ _ _ _ _ hr) _ _ _ _ h
      | cond cc p q =>
        simp only [codeF, Option.bind_eq_some_iff] at h
        obtain ⟨v, hv, h⟩ := h
        split at h
        · exact ih.1 _ _ _ _ _ _ _ h
        · exact ih.1 _ _ _ _ _ _ _ h
        · cases h
      | block id body =>
        simp only [codeF, Option.map_eq_some_iff] at h
        obtain ⟨⟨e1, x1, st1, l1⟩, hb, he⟩ := h
        cases he
        exact ih.1 _ _ _ _ _ _ _ hb
      | loop body => exact ih.2.1 _ _ _ _ _ _ _ h
      | scope body => exact ih.1 _ _ _ _ _ _ _ h
      | skip => simp [codeF] at h; obtain ⟨_, _, rfl, _⟩ := h; exact Gk.refl _ _
      | label k => simp [codeF] at h; obtain ⟨_, _, rfl, _⟩ := h; exact Gk.refl _ _
      | exit k => simp [codeF] at h; obtain ⟨_, _, rfl, _⟩ := h; exact Gk.refl _ _
      | ret => simp [codeF] at h; obtain ⟨_, _, rfl, _⟩ := h; exact Gk.refl _ _
      | _ => simp [codeF] at h
    · intro c x st e x' st' lg h
      exact seqA_gk (st := st) (r := (eng P D O H n).code c x st) (k := (eng P D O H n).loop c) (fun e x' st' lg hr => ih.1 _ _ _ _ _ _ _ hr) (fun x s e x' st' lg hr => ih.2.1 _ _ _ _ _ _ _ hr) _ _ _ _ h
    · intro f args st r st' lg h
      simp only [eng] at h
      split at h
      · rename_i r0 hr
        cases h
        exact hO _ _ _ _ _ _ hr
      · exact callF_gk ih.2.2 ih.1 _ _ _ _ _ _ h

end Go.Proofs.Ytfcdbknmajfkaaa.eng
