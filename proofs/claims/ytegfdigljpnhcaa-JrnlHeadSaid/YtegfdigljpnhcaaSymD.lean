/- The disk's contracts for the symbolic engine. -/
import Derived.Test.YtegfdigljpnhcaaDskP
import Derived.Test.YtegfdigljpnhcaaDskAt
namespace Go.Proofs.Ytegfdigljpnhcaa.symD
open Go Go.RowKit eng dsk
set_option linter.unusedVariables false
set_option linter.unusedSimpArgs false
set_option maxRecDepth 100000

theorem own_reads {α : Type} (E : Enc α) {w : World} {base : Nat} {e : TypeId} {v : Value} {n : Nat} {xs : List α} (h : w.ownsRow base e E.sz v n (E.all xs)) {w2 : World} (hw : ∀ k, base ≤ k ∧ k < w.heap.size → w2.heap[k]? = w.heap[k]?) : Reads w2 (pRow E xs) v := by
  have hr := (RowE.of_own (E := E) h).1
  refine (reads_row E).2 ?_
  rcases h.2 with ⟨rfl, h0⟩ | ⟨g, cap, cur, rfl, hb, hg, _⟩
  · obtain ⟨a, c, he, h1, h2, h3⟩ := hr
    have : xs.length = 0 := by
      simp only [Value.slice.injEq] at he
      omega
    have : xs = [] := List.eq_nil_of_length_eq_zero this
    subst this
    exact RowE.nil E w2
  · obtain ⟨a, c, he, h1, h2, h3⟩ := hr
    refine ⟨a, c, he, h1, h2, fun hp => ?_⟩
    obtain ⟨b, off, rfl, hlt, h4⟩ := h3 hp
    cases he
    have hs : w2.heap[g]? = w.heap[g]? := hw g ⟨hb, hlt⟩
    refine ⟨g, 0, rfl, ?_, fun i u hu => ?_⟩
    · have : (w2.heap[g]?).isSome = true := by rw [hs, hg]; rfl
      rcases Nat.lt_or_ge g w2.heap.size with hl | hl
      · exact hl
      · rw [Array.getElem?_eq_none hl] at this; cases this
    · rw [← h4 i u hu]
      simp only [World.cell?, hs]

theorem isD_of {w : World} {u0 u1 u2 u3 : Value} {d : D} (h0 : Reads w (pRow encS d.last) u0) (h1 : Reads w (pRow encP d.wait) u1) (h2 : Reads w (pI (d.arm : Int)) u2) (h3 : Reads w (pB d.down) u3) : IsD w (.agg #[u0, u1, u2, u3]) d := by
  simp only [Reads] at h2 h3
  rw [h2.1, h3.1]
  exact IsD.mk' ((reads_row encS).1 h0) ((reads_row encP).1 h1)
theorem own_pD {w w' : World} {v : Value} {d : D} (h : OwnD w.heap.size w' v d) : ∃ u0 u1, v = .agg #[u0, u1, .int .i64 (d.arm : Int), .bool d.down] ∧ ∀ w2 : World, (∀ k, w.heap.size ≤ k ∧ k < w'.heap.size → w2.heap[k]? = w'.heap[k]?) → Reads w2 (pRow encS d.last) u0 ∧ Reads w2 (pRow encP d.wait) u1 := by
  obtain ⟨vl, vw, rfl, h1, h2⟩ := h
  exact ⟨vl, vw, rfl, fun w2 hw2 => ⟨own_reads encS h1 hw2, own_reads encP h2 hw2⟩⟩
theorem dlen {ps : List PV} {us : List Value} (h : us.length = ps.length) : us.length = ps.length := h

/-- What is answered: a disk, and whether. -/
theorem fin_DB {f : FuncId} {args : Array Value} {w : World} {FP : Nat → Prop} {E : FnE} {d' : D} {b : Bool} (hE : E.outs = [some 4, none]) (hk : E.kinds.all CK.plain = true) (h : Calls Try.prog f args w (TellsDB w d' b)) : Calls Try.prog f args w (RetD E FP w (pD d' ++ [pB b])) := by
  refine h.mono ?_
  rintro e w' ⟨v, rfl, ho, hex⟩
  obtain ⟨u0, u1, rfl, hr⟩ := own_pD ho
  refine ⟨[u0, u1, .int .i64 (d'.arm : Int), .bool d'.down, .bool b], fun _ => none, rfl, by rw [hE]; rfl, owns_none hk, fun i q u hq hu w2 hw2 => ?_, by rw [hE]; rfl, hex⟩
  obtain ⟨r0, r1⟩ := hr w2 (fun k hk => hw2 k (.inr hk) (fun _ _ h => by cases h))
  match i, hq, hu with
  | 0, hq, hu => simp [pD] at hq hu; subst hq; subst hu; exact r0
  | 1, hq, hu => simp [pD] at hq hu; subst hq; subst hu; exact r1
  | 2, hq, hu => simp [pD] at hq hu; subst hq; subst hu; exact plain_reads rfl
  | 3, hq, hu => simp [pD] at hq hu; subst hq; subst hu; exact plain_reads rfl
  | 4, hq, hu => simp [pD] at hq hu; subst hq; subst hu; exact plain_reads rfl
  | i + 5, hq, hu => simp [pD] at hq
theorem len4 {us : List Value} (h : us.length = 4) : ∃ a b c d, us = [a, b, c, d] := by match us, h with | [a, b, c, d], _ => exact ⟨a, b, c, d, rfl⟩
theorem len5 {us : List Value} (h : us.length = 5) : ∃ a b c d e, us = [a, b, c, d, e] := by match us, h with | [a, b, c, d, e], _ => exact ⟨a, b, c, d, e, rfl⟩
theorem len6 {us : List Value} (h : us.length = 6) : ∃ a b c d e f, us = [a, b, c, d, e, f] := by match us, h with | [a, b, c, d, e, f], _ => exact ⟨a, b, c, d, e, f, rfl⟩

theorem toldRead (k : Nat) : ToldF 84 (ERead k) (spec RRead) := by
  intro w FP us ps qs hs hul hpl hFP hrd
  obtain ⟨d, i, ok, rfl, rfl⟩ := of_spec hs
  obtain ⟨a, b, c, e, x, rfl⟩ := len5 hul
  have hd := isD_of (hrd 0 _ _ rfl rfl).1 (hrd 1 _ _ rfl rfl).1 (hrd 2 _ _ rfl rfl).1 (hrd 3 _ _ rfl rfl).1
  have h4 := (hrd 4 _ _ rfl rfl).1
  simp only [Reads] at h4
  rw [h4.1]
  refine (read_any _ d i w hd ok).mono ?_
  rintro e w' ⟨rfl, hex⟩
  refine ⟨[.string (readD d i).1, .bool (readD d i).2], fun _ => none, rfl, rfl, owns_none rfl, fun j q u hq hu w2 _ => ?_, rfl, hex⟩
  match j, hq, hu with
  | 0, hq, hu => simp at hq hu; subst hq; subst hu; exact plain_reads rfl
  | 1, hq, hu => simp at hq hu; subst hq; subst hu; exact plain_reads rfl
  | j + 2, hq, hu => simp at hq

theorem toldWrite (k : Nat) : ToldF 53 (EWrite k) (spec RWrite) := by
  intro w FP us ps qs hs hul hpl hFP hrd
  obtain ⟨d, i, s, ok, rfl, rfl⟩ := of_spec hs
  obtain ⟨a, b, c, e, x, y, rfl⟩ := len6 hul
  have hd := isD_of (hrd 0 _ _ rfl rfl).1 (hrd 1 _ _ rfl rfl).1 (hrd 2 _ _ rfl rfl).1 (hrd 3 _ _ rfl rfl).1
  have h4 := (hrd 4 _ _ rfl rfl).1
  have h5 := (hrd 5 _ _ rfl rfl).1
  simp only [Reads] at h4 h5
  rw [h4.1, h5.1]
  exact fin_DB rfl rfl (write_any _ d i s w hd ok)

theorem toldFlush (k : Nat) : ToldF 54 (EFlush k) (spec RFlush) := by
  intro w FP us ps qs hs hul hpl hFP hrd
  obtain ⟨d, ok, rfl, rfl⟩ := of_spec hs
  obtain ⟨a, b, c, e, rfl⟩ := len4 hul
  have hd := isD_of (hrd 0 _ _ rfl rfl).1 (hrd 1 _ _ rfl rfl).1 (hrd 2 _ _ rfl rfl).1 (hrd 3 _ _ rfl rfl).1
  exact fin_DB rfl rfl (flush_any _ d w hd ok)

end Go.Proofs.Ytegfdigljpnhcaa.symD
