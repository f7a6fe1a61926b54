/- Marks compared: the document's SameMarks, told. -/
import Derived.Test.YtegfdigljpnhcaaMka
import Derived.Test.YtegfdigljpnhcaaCmp
namespace Go.Proofs.Ytegfdigljpnhcaa.sta
open Go Go.RowKit eng SX Fact fil
set_option linter.unusedVariables false
set_option linter.unusedSimpArgs false
set_option maxRecDepth 1000000

noncomputable def flS := flat (bodyOf Try.prog 23)
noncomputable def lpS := flat (loopBody (nth flS 4))
def shS : Shape := ⟨[(0, .leaf), (1, .leaf)], [], [some false, some false], 26, 23⟩
def shSl : Shape := ⟨[(0, .leaf), (1, .leaf), (5, .leaf)], [], [some false, some false, none], 26, 23⟩
def shSR : Shape := ⟨[(4, .leaf)], [], [none], 26, 23⟩
def ENewSt (k : Nat) : FnE := { k := k, ins := [], leaks := [], outs := [some 3], kinds := [.row, .row, .num] }
theorem spre : segTo Try.prog fil.noOrc 10000 (flS.take 4) shS [0] shSl [] = some (.normal, [.ok (.len (.var 0)), .ok (.len (.var 1)), .ok (.bin .neq (.len (.var 0)) (.len (.var 1))), .is (.bin .neq (.len (.var 0)) (.len (.var 1))) (.bool false), .ok (.con (.int .i64 0))], [.var 0, .var 1, .con (.int .i64 0)]) := by kernel_rfl
theorem sex : segTo Try.prog fil.noOrc 10000 lpS shSl [0] shSl [] = some (.exit 0, [.ok (.len (.var 0)), .ok (.bin .lss (.var 2) (.len (.var 0))), .is (.bin .lss (.var 2) (.len (.var 0))) (.bool false), .ok (.var 2)], [.var 0, .var 1, .var 2]) := by kernel_rfl
theorem sgo : segTo Try.prog fil.noOrc 10000 lpS shSl [1, 0] shSl [] = some (.normal, [.ok (.len (.var 0)), .ok (.bin .lss (.var 2) (.len (.var 0))), .is (.bin .lss (.var 2) (.len (.var 0))) (.bool true), .idx (.var 0) (.var 2) 4 4, .idx (.var 0) (.var 2) 4 4, .ok (.cell (.var 0) (.var 2) 4 0), .ok (.cell (.var 0) (.var 2) 4 1), .ok (.cell (.var 0) (.var 2) 4 2), .ok (.cell (.var 0) (.var 2) 4 3), .idx (.var 1) (.var 2) 4 4, .idx (.var 1) (.var 2) 4 4, .ok (.cell (.var 1) (.var 2) 4 0), .ok (.cell (.var 1) (.var 2) 4 1), .ok (.cell (.var 1) (.var 2) 4 2), .ok (.cell (.var 1) (.var 2) 4 3), .ok (.op (Op.binOp .neq 50 (Operand.tmp 20) (Operand.tmp 24) 50) 4 [20, 24] [.agg [.cell (.var 0) (.var 2) 4 0, .cell (.var 0) (.var 2) 4 1, .cell (.var 0) (.var 2) 4 2, .cell (.var 0) (.var 2) 4 3], .agg [.cell (.var 1) (.var 2) 4 0, .cell (.var 1) (.var 2) 4 1, .cell (.var 1) (.var 2) 4 2, .cell (.var 1) (.var 2) 4 3]]), .is (.op (Op.binOp .neq 50 (Operand.tmp 20) (Operand.tmp 24) 50) 4 [20, 24] [.agg [.cell (.var 0) (.var 2) 4 0, .cell (.var 0) (.var 2) 4 1, .cell (.var 0) (.var 2) 4 2, .cell (.var 0) (.var 2) 4 3], .agg [.cell (.var 1) (.var 2) 4 0, .cell (.var 1) (.var 2) 4 1, .cell (.var 1) (.var 2) 4 2, .cell (.var 1) (.var 2) 4 3]]) (.bool false), .ok (.bin .add (.var 2) (.con (.int .i64 1))), .ok (.bin .add (.var 2) (.con (.int .i64 1)))], [.var 0, .var 1, .bin .add (.var 2) (.con (.int .i64 1))]) := by kernel_rfl
theorem nw : runTo Try.prog fil.noOrc 10000 20 (ENewSt 9) [] [] = some ([], [.lit 6 [.con (.string { data := { toList := [] } }), .con (.int .i64 0), .con (.string { data := { toList := [] } }), .con (.string { data := { toList := [] } }), .con (.int .i64 0), .con (.string { data := { toList := [] } }), .con (.string { data := { toList := [] } }), .con (.int .i64 0), .con (.string { data := { toList := [] } }), .con (.string { data := { toList := [] } }), .con (.int .i64 0), .con (.string { data := { toList := [] } }), .con (.string { data := { toList := [] } }), .con (.int .i64 0), .con (.string { data := { toList := [] } }), .con (.string { data := { toList := [] } }), .con (.int .i64 0), .con (.string { data := { toList := [] } })], .lit 3 [.con (.int .i64 0), .con (.int .i64 0), .con (.int .i64 0), .con (.int .i64 0), .con (.int .i64 0), .con (.int .i64 0), .con (.int .i64 0), .con (.int .i64 0), .con (.int .i64 0), .con (.int .i64 0), .con (.int .i64 0), .con (.int .i64 0)], .con (.int .i64 0)]) := by kernel_rfl
theorem spost : segTo Try.prog fil.noOrc 10000 (flS.drop 5) shSl [] shSR [] = some (.ret, [.ok (.con (.bool true))], [.con (.bool true)]) := by kernel_rfl
theorem mark_fields : (Try.prog.fieldsOf 50).toList = [{ name := "Seq", type := 3, offset := 0, embedded := false, tag := "", pkgPath := "", byteOffset := 0 }, { name := "Err", type := 48, offset := 1, embedded := false, tag := "", pkgPath := "", byteOffset := 8 }, { name := "File", type := 3, offset := 2, embedded := false, tag := "", pkgPath := "", byteOffset := 16 }, { name := "Ver", type := 3, offset := 3, embedded := false, tag := "", pkgPath := "", byteOffset := 24 }] := by kernel_rfl
theorem mark_pv (x y z u : Int) : symD.Pv Try.prog (Op.equalIn 10000 50 (.agg #[.int .i64 x, .int .i64 y, .int .i64 z, .int .i64 u]) (.agg #[.int .i64 x, .int .i64 y, .int .i64 z, .int .i64 u])) true := by
  refine symD.pv_struct 9999 _ _ (by kernel_rfl) (by kernel_rfl) ?_
  rw [mark_fields]
  intro f hf
  simp only [List.mem_cons, List.not_mem_nil, or_false] at hf
  have hi : Try.prog.underlying 3 = some (.int .i64) := by kernel_rfl
  have he : Try.prog.underlying 48 = some (.int .i64) := by kernel_rfl
  rcases hf with rfl | rfl | rfl | rfl
  · exact ⟨.int .i64 x, symD.pv_part _ _ _ _ (symD.pv_isInt _ _ hi) rfl, symD.pv_int _ _ _ _ _ hi⟩
  · exact ⟨.int .i64 y, symD.pv_part _ _ _ _ (symD.pv_isInt _ _ he) rfl, symD.pv_int _ _ _ _ _ he⟩
  · exact ⟨.int .i64 z, symD.pv_part _ _ _ _ (symD.pv_isInt _ _ hi) rfl, symD.pv_int _ _ _ _ _ hi⟩
  · exact ⟨.int .i64 u, symD.pv_part _ _ _ _ (symD.pv_isInt _ _ hi) rfl, symD.pv_int _ _ _ _ _ hi⟩
theorem mark_neq (t' : TypeId) (a b : Nat) (hab : Nat.beq a b = false) (x y z u : Int) : opVal Try.prog (Op.binOp .neq 50 (Operand.tmp a) (Operand.tmp b) 50) t' [a, b] [.agg #[.int .i64 x, .int .i64 y, .int .i64 z, .int .i64 u], .agg #[.int .i64 x, .int .i64 y, .int .i64 z, .int .i64 u]] = some (.bool false) :=
  symD.op_neq_refl Try.prog _ _ a b hab _ (by kernel_rfl) (mark_pv x y z u)
theorem mark_eql (t' : TypeId) (a b : Nat) (hab : Nat.beq a b = false) (x y z u : Int) : opVal Try.prog (Op.binOp .eql 50 (Operand.tmp a) (Operand.tmp b) 50) t' [a, b] [.agg #[.int .i64 x, .int .i64 y, .int .i64 z, .int .i64 u], .agg #[.int .i64 x, .int .i64 y, .int .i64 z, .int .i64 u]] = some (.bool true) :=
  symD.op_eql_refl Try.prog _ _ a b hab _ (by kernel_rfl) (mark_pv x y z u)
@[simp] theorem kNewSt (k : Nat) : (ENewSt k).k = k := rfl
def filesP : PV := .row 6 (List.replicate 6 [pS ⟨#[]⟩, pI 0, pS ⟨#[]⟩]).flatten
def RNewSt (ps qs : List PV) : Prop := ps = [] ∧ qs = [filesP, pRow encM (List.replicate 3 m0), pI 0]
theorem fNewSt : ∀ ps q1 q2, RNewSt ps q1 → RNewSt ps q2 → q1 = q2 := by
  rintro ps q1 q2 ⟨_, rfl⟩ ⟨_, rfl⟩; rfl
theorem toldNewSt (k : Nat) : ToldF 20 (ENewSt k) (spec RNewSt) := by
  refine told_of mixed_ok names_ok (fun _ _ => none) [] ?_
  intro ps qs h _
  obtain ⟨rfl, rfl⟩ := of_spec h
  refine ⟨_, _, _, _, _, _, fil.noOrc_ok, nw, fun w FP => ?_, ?_⟩
  · simp
  · rfl
def RSmM (ps qs : List PV) : Prop := ∃ xs : List MarkM, xs.length ≤ 1000000 ∧ ps = [pRow encM xs, pRow encM xs] ∧ qs = [pB true]
theorem fSmM : ∀ ps q1 q2, RSmM ps q1 → RSmM ps q2 → q1 = q2 := by rintro ps q1 q2 ⟨_, _, _, rfl⟩ ⟨_, _, _, rfl⟩; rfl
theorem cutS : flS = flS.take 4 ++ .block (blockId (nth flS 4)) (.loop (loopBody (nth flS 4))) :: flS.drop 5 := by kernel_rfl
theorem toldSmM (k : Nat) : ToldF 23 (ESmM k) (spec RSmM) := by
  refine told_by (fun _ _ => none) _ (bodyOf Try.prog 23) Try.func23 (by kernel_rfl) shS (by kernel_rfl) ?_ ?_
  · intro ps qs h i hi
    obtain ⟨xs, _, rfl, rfl⟩ := of_spec h
    simp [shS] at hi
    match i, hi with
    | 0, hi => simp at hi
    | 1, hi => simp at hi
    | i + 2, hi => simp at hi
  · intro C ps qs hF h a w hsh
    obtain ⟨xs, hl, rfl, rfl⟩ := of_spec h
    show wpL Try.prog flS _ a w
    rw [cutS]
    refine seg_ok names_ok mixed_ok fil.noOrc_ok spre hsh ?_ ?_
    · simp only [List.mem_cons, List.not_mem_nil, or_false, forall_eq_or_imp, forall_eq]
      simp [holds_idxP, holds_cellsP, Base.ev, SX.ev, evs, Value.oneCell', lenPV_row, binPV]
    intro qs a1 w1 hq h1
    refine ⟨fun _ => ?_, fun h => absurd rfl h⟩
    simp [evs, SX.ev] at hq
    subst hq
    refine block_loop (fun q a w => ∃ i : Nat, i ≤ xs.length ∧ q = xs.length - i ∧ InShape C shSl [pRow encM xs, pRow encM xs, pI (i : Int)] a w) ?_ (n := xs.length) ⟨0, by omega, by omega, h1⟩
    rintro q a w ⟨i, hi, rfl, hin⟩
    show wpL Try.prog lpS _ a w
    rw [← List.append_nil lpS]
    by_cases hlt : i < xs.length
    · obtain ⟨c0, c1, c2, c3⟩ := cellM4 xs i hlt
      have ix := idxP_row encM xs i 4 4 .i64 rfl hlt (by decide)
      have v3 : IntKind.i64.wrap ((i : Int) + 1) = (i : Int) + 1 := wrapI _ (by omega) (by omega)
      have nq := mark_neq 4 20 24 rfl xs[i].1 xs[i].2.1 xs[i].2.2.1 xs[i].2.2.2
      generalize xs[i] = b at *
      refine seg_ok names_ok mixed_ok fil.noOrc_ok sgo hin ?_ (fun qs a1 w1 hq h1 => ⟨fun _ => .inl ⟨rfl, xs.length - (i + 1), by omega, i + 1, by omega, rfl, by simp [evs, SX.ev, binPV, v3] at hq; subst hq; exact h1⟩, fun h => absurd rfl h⟩)
      simp only [List.mem_cons, List.not_mem_nil, or_false, forall_eq_or_imp, forall_eq]
      simp [holds_idxP, holds_cellsP, Base.ev, SX.ev, evs, Value.oneCell', lenPV_row, binPV, plainL, PV.plain, v3, hlt, ix, c0, c1, c2, c3, nq]
    · have hie : i = xs.length := by omega
      subst hie
      refine seg_ok names_ok mixed_ok fil.noOrc_ok sex hin ?_ ?_
      · simp only [List.mem_cons, List.not_mem_nil, or_false, forall_eq_or_imp, forall_eq]
        simp [holds_idxP, holds_cellsP, Base.ev, SX.ev, evs, Value.oneCell', lenPV_row, binPV]
      · intro qs a1 w1 hq h1
        refine ⟨fun h => (by cases h), fun _ => .inr (.inl ⟨by rw [show blockId (nth flS 4) = 0 by kernel_rfl]; rfl, ?_⟩)⟩
        simp [evs, SX.ev] at hq
        subst hq
        rw [← List.append_nil (flS.drop 5)]
        refine seg_ok names_ok mixed_ok fil.noOrc_ok spost h1 ?_ (fun qs a1 w1 hq h1 => ⟨fun h => (by cases h), fun _ => ⟨.inr rfl, shSR, _, [SX.var 0], h1, by kernel_rfl, by simp [evs, SX.ev] at hq; subst hq; rfl⟩⟩)
        simp only [List.mem_cons, List.not_mem_nil, or_false, forall_eq_or_imp, forall_eq]
        simp [holds_idxP, holds_cellsP, Base.ev, SX.ev, evs, Value.oneCell', lenPV_row]
end Go.Proofs.Ytegfdigljpnhcaa.sta
