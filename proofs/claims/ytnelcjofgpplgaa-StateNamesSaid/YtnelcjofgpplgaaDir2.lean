/- Names of files: who has one, where there is room. -/
import Derived.Test.YtnelcjofgpplgaaDir
namespace Go.Proofs.Ytnelcjofgpplgaa.dirs
open Go Go.RowKit eng SX Fact fil fileFronts
set_option linter.unusedVariables false
set_option linter.unusedSimpArgs false
set_option maxRecDepth 1000000

def tabX (f : FuncId) : Option (FnE × List Value) := cond (Nat.beq f 84) (some (EFirst 2, [pvF])) (cond (Nat.beq f 82) (some (EMust 3, [pvB1, pvB2])) none)
@[simp] def zDir2_1 : List SX := [.var 0, .con (.string { data := { toList := [] } })]
@[simp] def zDir2_2 : Fact := Fact.fx 82 (EMust 3) ([pvB1, pvB2]) [.var 1]
@[simp] def zDir2_3 : List SX := [.con (.int .i64 0), .con (.bool false)]
@[simp] def zDir2_4 : Fact := Fact.fx 82 (EMust 3) ([pvB1, pvB2]) [.var 0]
theorem f0 : runTo Try.prog (orcX tabX) 10000 62 (EFind 1) [.row, .num] [0, 0] = some ([.ok (.var 1), zDir2_2, .is (.fn 3 [.var 1] 0) (.int .i64 0), Fact.fx 84 (EFirst 2) ([pvF]) [.var 0, .var 1], .is (.fn 2 [.var 0, .var 1] 0) (.int .i64 0), .ok (.fn 2 [.var 0, .var 1] 1)], [.fn 2 [.var 0, .var 1] 1, .con (.bool true)]) := by kernel_rfl
theorem f1 : runTo Try.prog (orcX tabX) 10000 62 (EFind 1) [.row, .num] [0, 1] = some ([.ok (.var 1), zDir2_2, .is (.fn 3 [.var 1] 0) (.int .i64 0), Fact.fx 84 (EFirst 2) ([pvF]) [.var 0, .var 1], .is (.fn 2 [.var 0, .var 1] 0) (.int .i64 1)], zDir2_3) := by kernel_rfl
theorem f2 : runTo Try.prog (orcX tabX) 10000 62 (EFind 1) [.row, .num] [1] = some ([.ok (.var 1), zDir2_2, .is (.fn 3 [.var 1] 0) (.int .i64 1)], zDir2_3) := by kernel_rfl
theorem f3 : runTo Try.prog (orcX tabX) 10000 62 (EFind 1) [.row, .num] [2] = some ([.ok (.var 1), zDir2_2, .is (.fn 3 [.var 1] 0) (.int .i64 2)], zDir2_3) := by kernel_rfl
theorem o0 : runTo Try.prog (orcX tabX) 10000 63 (ERoom 1) [.row] [0] = some ([Fact.fx 84 (EFirst 2) ([pvF]) zDir2_1, .is (.fn 2 zDir2_1 0) (.int .i64 0), .ok (.fn 2 zDir2_1 1)], [.fn 2 zDir2_1 1, .con (.bool true)]) := by kernel_rfl
theorem o1 : runTo Try.prog (orcX tabX) 10000 63 (ERoom 1) [.row] [1] = some ([Fact.fx 84 (EFirst 2) ([pvF]) zDir2_1, .is (.fn 2 zDir2_1 0) (.int .i64 1)], zDir2_3) := by kernel_rfl
theorem m0 : runTo Try.prog (orcX tabX) 10000 61 (EName 1) [.num] [0] = some ([.ok (.var 0), zDir2_4, .is (.fn 3 [.var 0] 0) (.int .i64 0)], [.con (.bool true)]) := by kernel_rfl
theorem m1 : runTo Try.prog (orcX tabX) 10000 61 (EName 1) [.num] [1] = some ([.ok (.var 0), zDir2_4, .is (.fn 3 [.var 0] 0) (.int .i64 1)], [.con (.bool false)]) := by kernel_rfl
theorem m2 : runTo Try.prog (orcX tabX) 10000 61 (EName 1) [.num] [2] = some ([.ok (.var 0), zDir2_4, .is (.fn 3 [.var 0] 0) (.int .i64 2)], [.con (.bool false)]) := by kernel_rfl

@[simp] theorem holds_fx (B : Base) (f : FuncId) (E : FnE) (pans : List Value) (es : List SX) : (Fact.fx f E pans es).holds B ↔ ToldX f E pans (B.F E.k) ∧ ∃ ps qs, evs B.s B.F es = some ps ∧ B.F E.k ps = some qs := Iff.rfl
@[simp] theorem kFirst (k : Nat) : (EFirst k).k = k := rfl
@[simp] theorem kMust (k : Nat) : (EMust k).k = k := rfl
@[simp] theorem kName (k : Nat) : (EName k).k = k := rfl
@[simp] theorem kFind (k : Nat) : (EFind k).k = k := rfl
@[simp] theorem kRoom (k : Nat) : (ERoom k).k = k := rfl
def e0 : ByteArray := ⟨⟨[]⟩⟩
def findN (l : List FileM) (s : ByteArray) : Option Nat := if okN s then l.findIdx? (isN s) else none
def ansQ : Option Nat → List PV | some i => [pI (i + 1 : Nat), pB true] | none => [pI 0, pB false]
def RFind (ps qs : List PV) : Prop := ∃ (l : List FileM) (s : ByteArray), FilesOk l ∧ s.size ≤ 9223372036854775807 ∧ ps = [pRow encF l, pS s] ∧ qs = ansQ (findN l s)
theorem fFind : ∀ ps q1 q2, RFind ps q1 → RFind ps q2 → q1 = q2 := by
  rintro ps q1 q2 ⟨l, s, _, _, rfl, rfl⟩ ⟨l', s', _, _, h, rfl⟩
  simp only [List.cons.injEq, PV.v.injEq, Value.string.injEq, and_true] at h
  obtain ⟨h, rfl⟩ := h
  rw [fil.pRow_inj encF_inj h]
def RRoom (ps qs : List PV) : Prop := ∃ l : List FileM, FilesOk l ∧ ps = [pRow encF l] ∧ qs = ansQ (l.findIdx? (isN e0))
theorem fRoom : ∀ ps q1 q2, RRoom ps q1 → RRoom ps q2 → q1 = q2 := by
  rintro ps q1 q2 ⟨l, _, rfl, rfl⟩ ⟨l', _, h, rfl⟩
  simp only [List.cons.injEq, and_true] at h
  rw [fil.pRow_inj encF_inj h]
noncomputable def FD : Fns := fun k => match k with | 1 => spec RName | 2 => spec RFirst | 3 => spec RMust | _ => fun _ => none
theorem x2 : ToldX 84 (EFirst 2) [pvF] (FD 2) := toldFirst 2
theorem x3 : ToldX 82 (EMust 3) [pvB1, pvB2] (FD 3) := toldMust 3
theorem n1 : ToldF 35 (EName 1) (FD 1) := toldName 1
theorem FD1 {s : ByteArray} (h : s.size ≤ 9223372036854775807) : FD 1 [pS s] = some [pB (okN s)] := spec_of fName ⟨s, h, rfl, rfl⟩
theorem FD2 {l : List FileM} {s : ByteArray} (h : FilesOk l) : FD 2 [pRow encF l, pS s] = some (firstQ l s) := spec_of fFirst ⟨l, s, h, rfl, rfl⟩
theorem FD3 {s : ByteArray} (h : s.size ≤ 9223372036854775807) : FD 3 [pS s] = some (mustQ s) := spec_of fMust ⟨s, h, rfl, rfl⟩
theorem must_ok {s : ByteArray} (h : okN s = true) : mustQ s = [pI 0] := by
  simp only [okN, Bool.and_eq_true, decide_eq_true_eq] at h
  rw [mustQ, if_pos h.1, if_pos h.2]
theorem must_no {s : ByteArray} (h : okN s = false) : mustQ s = [pI 1] ∨ mustQ s = [pI 2] := by
  unfold mustQ
  split
  · rename_i h1
    simp only [okN, h1.1, h1.2, decide_true, Bool.true_and] at h
    rw [h]
    exact .inr rfl
  · exact .inl rfl
theorem toldFind (k : Nat) : ToldF 62 (EFind k) (spec RFind) := by
  refine told_of mixed_ok names_ok FD [.row, .num] ?_
  intro ps qs h _
  obtain ⟨l, s, hl, hs, rfl, rfl⟩ := of_spec h
  have g2 := FD2 (s := s) hl
  have g3 := FD3 hs
  cases hm : okN s with
  | true =>
    rw [must_ok hm] at g3
    cases hf : l.findIdx? (isN s) with
    | some i =>
      have ha : ansQ (findN l s) = [pI (i + 1 : Nat), pB true] := by simp [findN, hm, hf, ansQ]
      rw [show firstQ l s = [pI 0, pI (i + 1 : Nat)] by simp only [firstQ, hf]] at g2
      refine ⟨_, _, _, _, _, _, orcX_ok tabX, f0, fun w FP => ?_, ?_⟩
      · simp only [List.mem_cons, List.not_mem_nil, or_false, forall_eq_or_imp, forall_eq]
        simp [Base.ev, SX.ev, evs, Value.oneCell', g2, g3, x2, x3]
      · rw [ha]; simp [evs, SX.ev, g2]
    | none =>
      have ha : ansQ (findN l s) = [pI 0, pB false] := by simp [findN, hm, hf, ansQ]
      rw [show firstQ l s = [pI 1] by simp only [firstQ, hf]; rfl] at g2
      refine ⟨_, _, _, _, _, _, orcX_ok tabX, f1, fun w FP => ?_, ?_⟩
      · simp only [List.mem_cons, List.not_mem_nil, or_false, forall_eq_or_imp, forall_eq]
        simp [Base.ev, SX.ev, evs, Value.oneCell', g2, g3, x2, x3]
      · rw [ha]; simp [evs, SX.ev]
  | false =>
    have ha : ansQ (findN l s) = [pI 0, pB false] := by simp [findN, hm, ansQ]
    rcases must_no hm with h2 | h2
    · rw [h2] at g3
      refine ⟨_, _, _, _, _, _, orcX_ok tabX, f2, fun w FP => ?_, ?_⟩
      · simp only [List.mem_cons, List.not_mem_nil, or_false, forall_eq_or_imp, forall_eq]
        simp [Base.ev, SX.ev, evs, Value.oneCell', g3, x3]
      · rw [ha]; simp [evs, SX.ev]
    · rw [h2] at g3
      refine ⟨_, _, _, _, _, _, orcX_ok tabX, f3, fun w FP => ?_, ?_⟩
      · simp only [List.mem_cons, List.not_mem_nil, or_false, forall_eq_or_imp, forall_eq]
        simp [Base.ev, SX.ev, evs, Value.oneCell', g3, x3]
      · rw [ha]; simp [evs, SX.ev]
theorem toldRoom (k : Nat) : ToldF 63 (ERoom k) (spec RRoom) := by
  refine told_of mixed_ok names_ok FD [.row] ?_
  intro ps qs h _
  obtain ⟨l, hl, rfl, rfl⟩ := of_spec h
  have g2 : FD 2 [pRow encF l, pS ⟨⟨[]⟩⟩] = some (firstQ l e0) := FD2 (s := e0) hl
  cases hf : l.findIdx? (isN e0) with
  | some i =>
    rw [show firstQ l e0 = [pI 0, pI (i + 1 : Nat)] by simp only [firstQ, hf]] at g2
    refine ⟨_, _, _, _, _, _, orcX_ok tabX, o0, fun w FP => ?_, ?_⟩
    · simp only [List.mem_cons, List.not_mem_nil, or_false, forall_eq_or_imp, forall_eq]
      simp [Base.ev, SX.ev, evs, Value.oneCell', g2, x2]
    · simp [evs, SX.ev, g2, ansQ]
  | none =>
    rw [show firstQ l e0 = [pI 1] by simp only [firstQ, hf]; rfl] at g2
    refine ⟨_, _, _, _, _, _, orcX_ok tabX, o1, fun w FP => ?_, ?_⟩
    · simp only [List.mem_cons, List.not_mem_nil, or_false, forall_eq_or_imp, forall_eq]
      simp [Base.ev, SX.ev, evs, Value.oneCell', g2, x2]
    · simp [evs, SX.ev, ansQ]
theorem toldMayN (k : Nat) : ToldF 61 (EName k) (spec RName) := by
  refine told_of mixed_ok names_ok FD [.num] ?_
  intro ps qs h _
  obtain ⟨s, hs, rfl, rfl⟩ := of_spec h
  have g3 := FD3 hs
  cases hm : okN s with
  | true =>
    rw [must_ok hm] at g3
    refine ⟨_, _, _, _, _, _, orcX_ok tabX, m0, fun w FP => ?_, ?_⟩
    · simp only [List.mem_cons, List.not_mem_nil, or_false, forall_eq_or_imp, forall_eq]
      simp [Base.ev, SX.ev, evs, Value.oneCell', g3, x3]
    · simp [evs, SX.ev]
  | false =>
    rcases must_no hm with h2 | h2
    · rw [h2] at g3
      refine ⟨_, _, _, _, _, _, orcX_ok tabX, m1, fun w FP => ?_, ?_⟩
      · simp only [List.mem_cons, List.not_mem_nil, or_false, forall_eq_or_imp, forall_eq]
        simp [Base.ev, SX.ev, evs, Value.oneCell', g3, x3]
      · simp [evs, SX.ev]
    · rw [h2] at g3
      refine ⟨_, _, _, _, _, _, orcX_ok tabX, m2, fun w FP => ?_, ?_⟩
      · simp only [List.mem_cons, List.not_mem_nil, or_false, forall_eq_or_imp, forall_eq]
        simp [Base.ev, SX.ev, evs, Value.oneCell', g3, x3]
      · simp [evs, SX.ev]

theorem cutG : flG = flG.take 2 ++ .block (blockId (nth flG 2)) (.loop (loopBody (nth flG 2))) :: flG.drop 3 := by kernel_rfl
theorem cutR : flR = flR.take 2 ++ .block (blockId (nth flR 2)) (.loop (loopBody (nth flR 2))) :: flR.drop 3 := by kernel_rfl
set_option maxHeartbeats 1000000 in
theorem toldRefFind (k : Nat) : ToldF 37 (EFind k) (spec RFind) := by
  refine told_by FD _ (bodyOf Try.prog 37) Try.func37 (by kernel_rfl) shG (by kernel_rfl) ?_ ?_
  · intro ps qs h i hi
    obtain ⟨l, s, _, _, rfl, rfl⟩ := of_spec h
    simp [shG] at hi
    match i, hi with
    | 0, hi => simp at hi
    | 1, hi => exact ⟨_, rfl, rfl⟩
    | i + 2, hi => simp at hi
  · intro C ps qs hF h a w hsh
    obtain ⟨l, s, hl, hs, rfl, rfl⟩ := of_spec h
    have hl' : l.length ≤ 1000000 := hl
    have g1 := FD1 hs
    show wpL Try.prog flG _ a w
    rw [cutG]
    refine seg_ok names_ok mixed_ok (orcFn_ok _) preG hsh ?_ ?_
    · simp only [List.mem_cons, List.not_mem_nil, or_false, forall_eq_or_imp, forall_eq]
      simp [Base.ev, SX.ev, evs, Value.oneCell', lenPV_row]
    · intro qs a1 w1 hq h1
      refine ⟨fun _ => ?_, fun h => absurd rfl h⟩
      simp [evs, SX.ev, lenPV_row] at hq
      subst hq
      have post : ∀ i a w, ansQ (findN l s) = [pI 0, pB false] → InShape C shGl [pRow encF l, pS s, pI i] a w → wpL Try.prog (flG.drop 3) (fun e a' w' => (e = .normal ∨ e = .ret) ∧ ∃ sh' ps' es, InShape C sh' ps' a' w' ∧ resTo Try.prog Try.f37 sh' (EFind k) = some es ∧ evs (fun i => ps'[i]?) FD es = some (ansQ (findN l s))) a w := by
        intro i a w ha hin
        rw [← List.append_nil (flG.drop 3)]
        refine seg_ok names_ok mixed_ok (orcFn_ok _) postG hin ?_ ?_
        · simp only [List.mem_cons, List.not_mem_nil, or_false, forall_eq_or_imp, forall_eq]
          simp [Base.ev, SX.ev, evs, Value.oneCell', hF]
        · intro qs a2 w2 hq h2
          refine ⟨fun h => (by cases h), fun _ => ⟨.inr rfl, shGR, _, [SX.var 0, SX.var 1], h2, by kernel_rfl, ?_⟩⟩
          simp [evs, SX.ev] at hq
          subst hq
          rw [ha]; rfl
      refine block_loop (fun n a w => ∃ i, i ≤ l.length ∧ n = l.length - i ∧ (∀ j (hj : j < l.length), j < i → isN s l[j] = false) ∧ (0 < i → okN s = true) ∧ InShape C shGl [pRow encF l, pS s, pI (i : Int)] a w) ?_ (n := l.length) ⟨0, by omega, by omega, fun j _ hj => absurd hj (by omega), fun h => absurd h (by omega), h1⟩
      rintro n a w ⟨i, hi, rfl, hb, hpo, hin⟩
      show wpL Try.prog lpG _ a w
      rw [← List.append_nil lpG]
      by_cases hlt : i < l.length
      · obtain ⟨c0', c1', c2'⟩ := cellF l i hlt
        have ix : (Fact.idx (var 0) (var 2) 3 3).holds (C.with [pRow encF l, pS s, pI (i : Int)]) := idx_row encF l i 3 3 rfl hlt (by decide)
        have ix1 : (Fact.idx (var 0) (var 2) 3 1).holds (C.with [pRow encF l, pS s, pI (i : Int)]) := idx_row encF l i 3 1 rfl hlt (by decide)
        have v3 : IntKind.i64.wrap ((i : Int) + 1) = (i : Int) + 1 := wrapI _ (by omega) (by omega)
        cases hm : okN s with
        | false =>
          have ha : ansQ (findN l s) = [pI 0, pB false] := by simp [findN, hm, ansQ]
          rw [hm] at g1
          refine seg_ok names_ok mixed_ok (orcFn_ok _) exG2 hin ?_ ?_
          · simp only [List.mem_cons, List.not_mem_nil, or_false, forall_eq_or_imp, forall_eq]
            simp [Base.ev, SX.ev, evs, Value.oneCell', hF, lenPV_row, binPV, g1, n1, hlt]
          · intro qs a1 w1 hq h1
            refine ⟨fun h => (by cases h), fun _ => .inr (.inl ⟨by rw [show blockId (nth flG 2) = 0 by kernel_rfl]; rfl, ?_⟩)⟩
            simp [evs, SX.ev] at hq
            subst hq
            exact post _ _ _ ha h1
        | true =>
          rw [hm] at g1
          cases hp : isN s l[i] with
          | true =>
            have hp' : (l[i].1.toList == s.toList) = true := hp
            have ha : ansQ (findN l s) = [pI (i + 1 : Nat), pB true] := by simp only [findN, hm, if_true, find_at hlt hp hb, ansQ]
            refine seg_ok names_ok mixed_ok (orcFn_ok _) isG hin ?_ ?_
            · simp only [List.mem_cons, List.not_mem_nil, or_false, forall_eq_or_imp, forall_eq]
              simp [-holds_idx, Base.ev, SX.ev, evs, Value.oneCell', hF, lenPV_row, binPV, c0', ix, ix1, v3, hlt, hp', g1, n1]
            · intro qs a1 w1 hq h1
              refine ⟨fun h => (by cases h), fun _ => .inr (.inr ⟨rfl, .inr rfl, shGR, qs, [SX.var 0, SX.var 1], h1, by kernel_rfl, ?_⟩)⟩
              simp [evs, SX.ev, binPV, v3] at hq ⊢
              subst hq
              rw [ha]; simp
          | false =>
            have hp' : (l[i].1.toList == s.toList) = false := hp
            refine seg_ok names_ok mixed_ok (orcFn_ok _) onG hin ?_ ?_
            · simp only [List.mem_cons, List.not_mem_nil, or_false, forall_eq_or_imp, forall_eq]
              simp [-holds_idx, Base.ev, SX.ev, evs, Value.oneCell', hF, lenPV_row, binPV, c0', ix, ix1, v3, hlt, hp', g1, n1]
            · intro qs a1 w1 hq h1
              refine ⟨fun _ => .inl ⟨rfl, l.length - (i + 1), by omega, i + 1, by omega, rfl, fun j hj hji => ?_, fun _ => rfl, ?_⟩, fun h => absurd rfl h⟩
              · by_cases hje : j = i
                · subst hje; exact hp
                · exact hb j hj (by omega)
              · simp [evs, SX.ev, binPV, v3] at hq
                subst hq
                exact h1
      · have hie : i = l.length := by omega
        subst hie
        have ha : ansQ (findN l s) = [pI 0, pB false] := by
          have := find_no (fun j hj => hb j hj hj)
          unfold findN
          split <;> simp [this, ansQ]
        refine seg_ok names_ok mixed_ok (orcFn_ok _) exG hin ?_ ?_
        · simp only [List.mem_cons, List.not_mem_nil, or_false, forall_eq_or_imp, forall_eq]
          simp [Base.ev, SX.ev, evs, Value.oneCell', lenPV_row, binPV]
        · intro qs a1 w1 hq h1
          refine ⟨fun h => (by cases h), fun _ => .inr (.inl ⟨by rw [show blockId (nth flG 2) = 0 by kernel_rfl]; rfl, ?_⟩)⟩
          simp [evs, SX.ev] at hq
          subst hq
          exact post _ _ _ ha h1
set_option maxHeartbeats 1000000 in
theorem toldRefRoom (k : Nat) : ToldF 38 (ERoom k) (spec RRoom) := by
  refine told_by FD _ (bodyOf Try.prog 38) Try.func38 (by kernel_rfl) shR (by kernel_rfl) ?_ ?_
  · intro ps qs h i hi
    simp [shR] at hi
    match i, hi with
    | 0, hi => simp at hi
    | i + 1, hi => simp at hi
  · intro C ps qs hF h a w hsh
    obtain ⟨l, hl, rfl, rfl⟩ := of_spec h
    have hl' : l.length ≤ 1000000 := hl
    show wpL Try.prog flR _ a w
    rw [cutR]
    refine seg_ok names_ok mixed_ok fil.noOrc_ok preR hsh ?_ ?_
    · simp only [List.mem_cons, List.not_mem_nil, or_false, forall_eq_or_imp, forall_eq]
      simp [Base.ev, SX.ev, evs, Value.oneCell', lenPV_row]
    · intro qs a1 w1 hq h1
      refine ⟨fun _ => ?_, fun h => absurd rfl h⟩
      simp [evs, SX.ev, lenPV_row] at hq
      subst hq
      refine block_loop (fun n a w => ∃ i, i ≤ l.length ∧ n = l.length - i ∧ (∀ j (hj : j < l.length), j < i → isN e0 l[j] = false) ∧ InShape C shRl [pRow encF l, pI (i : Int)] a w) ?_ (n := l.length) ⟨0, by omega, by omega, fun j _ hj => absurd hj (by omega), h1⟩
      rintro n a w ⟨i, hi, rfl, hb, hin⟩
      show wpL Try.prog lpR _ a w
      rw [← List.append_nil lpR]
      by_cases hlt : i < l.length
      · obtain ⟨c0', c1', c2'⟩ := cellF l i hlt
        have ix : (Fact.idx (var 0) (var 1) 3 3).holds (C.with [pRow encF l, pI (i : Int)]) := idx_row encF l i 3 3 rfl hlt (by decide)
        have ix1 : (Fact.idx (var 0) (var 1) 3 1).holds (C.with [pRow encF l, pI (i : Int)]) := idx_row encF l i 3 1 rfl hlt (by decide)
        have v3 : IntKind.i64.wrap ((i : Int) + 1) = (i : Int) + 1 := wrapI _ (by omega) (by omega)
        cases hp : isN e0 l[i] with
        | true =>
          have hp' : l[i].1.toList = [] := by simpa [isN, e0] using hp
          have ha : ansQ (l.findIdx? (isN e0)) = [pI (i + 1 : Nat), pB true] := by simp only [find_at hlt hp hb, ansQ]
          refine seg_ok names_ok mixed_ok fil.noOrc_ok isR hin ?_ ?_
          · simp only [List.mem_cons, List.not_mem_nil, or_false, forall_eq_or_imp, forall_eq]
            simp [-holds_idx, Base.ev, SX.ev, evs, Value.oneCell', hF, lenPV_row, binPV, c0', ix, ix1, v3, hlt, hp']
          · intro qs a1 w1 hq h1
            refine ⟨fun h => (by cases h), fun _ => .inr (.inr ⟨rfl, .inr rfl, shRR, qs, [SX.var 0, SX.var 1], h1, by kernel_rfl, ?_⟩)⟩
            simp [evs, SX.ev, binPV, v3] at hq ⊢
            subst hq
            rw [ha]; simp
        | false =>
          have hp' : ¬ l[i].1.toList = [] := by simpa [isN, e0] using hp
          refine seg_ok names_ok mixed_ok fil.noOrc_ok onR hin ?_ ?_
          · simp only [List.mem_cons, List.not_mem_nil, or_false, forall_eq_or_imp, forall_eq]
            simp [-holds_idx, Base.ev, SX.ev, evs, Value.oneCell', hF, lenPV_row, binPV, c0', ix, ix1, v3, hlt, hp']
          · intro qs a1 w1 hq h1
            refine ⟨fun _ => .inl ⟨rfl, l.length - (i + 1), by omega, i + 1, by omega, rfl, fun j hj hji => ?_, ?_⟩, fun h => absurd rfl h⟩
            · by_cases hje : j = i
              · subst hje; exact hp
              · exact hb j hj (by omega)
            · simp [evs, SX.ev, binPV, v3] at hq
              subst hq
              exact h1
      · have hie : i = l.length := by omega
        subst hie
        have ha : ansQ (l.findIdx? (isN e0)) = [pI 0, pB false] := by rw [find_no (fun j hj => hb j hj hj)]; rfl
        refine seg_ok names_ok mixed_ok fil.noOrc_ok exR hin ?_ ?_
        · simp only [List.mem_cons, List.not_mem_nil, or_false, forall_eq_or_imp, forall_eq]
          simp [Base.ev, SX.ev, evs, Value.oneCell', lenPV_row, binPV]
        · intro qs a1 w1 hq h1
          refine ⟨fun h => (by cases h), fun _ => .inr (.inl ⟨by rw [show blockId (nth flR 2) = 0 by kernel_rfl]; rfl, ?_⟩)⟩
          simp [evs, SX.ev] at hq
          subst hq
          rw [← List.append_nil (flR.drop 3)]
          refine seg_ok names_ok mixed_ok fil.noOrc_ok postR h1 ?_ ?_
          · simp only [List.mem_cons, List.not_mem_nil, or_false, forall_eq_or_imp, forall_eq]
            simp [Base.ev, SX.ev, evs, Value.oneCell', hF]
          · intro qs a2 w2 hq h2
            refine ⟨fun h => (by cases h), fun _ => ⟨.inr rfl, shRR, _, [SX.var 0, SX.var 1], h2, by kernel_rfl, ?_⟩⟩
            simp [evs, SX.ev] at hq
            subst hq
            rw [ha]; rfl
end Go.Proofs.Ytnelcjofgpplgaa.dirs
