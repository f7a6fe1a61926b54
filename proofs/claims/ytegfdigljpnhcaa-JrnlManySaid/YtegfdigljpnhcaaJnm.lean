/- Which sectors a head can name: told. -/
import Derived.Test.YtegfdigljpnhcaaRdkA
import Derived.Test.YtegfdigljpnhcaaJmt
namespace Go.Proofs.Ytegfdigljpnhcaa.jnm
open Go Go.RowKit eng SX Fact fil dsk
open jmt (rising)
open rdk hiding dbox
open symD hiding pRow_inj
set_option linter.unusedVariables false
set_option linter.unusedSimpArgs false
set_option maxRecDepth 1000000

def ENam (k : Nat) : FnE := { k := k, ins := [some 4, none, none], leaks := [], outs := [], kinds := [] }
noncomputable def flN := flat (bodyOf Try.prog 29)
noncomputable def lpN := flat (loopBody (nth flN 6))
def shN : Shape := ⟨[(0, .agg 4), (1, .leaf), (2, .leaf)], [], [some false, some false, none, none, none, some false], 46, 29⟩
def shNl : Shape := ⟨[(1, .leaf), (7, .leaf), (28, .leaf), (29, .leaf), (30, .leaf)], [], [none, none, some false, none, none], 46, 29⟩
def shNR : Shape := ⟨[], [], [], 46, 29⟩
def pv1 : Value := (.iface 9 (.string { data := { toList := [UInt8.ofNat 106, UInt8.ofNat 114, UInt8.ofNat 110, UInt8.ofNat 108, UInt8.ofNat 58, UInt8.ofNat 32, UInt8.ofNat 110, UInt8.ofNat 111, UInt8.ofNat 116, UInt8.ofNat 32, UInt8.ofNat 115, UInt8.ofNat 111, UInt8.ofNat 32, UInt8.ofNat 109, UInt8.ofNat 97, UInt8.ofNat 110, UInt8.ofNat 121, UInt8.ofNat 32, UInt8.ofNat 115, UInt8.ofNat 101, UInt8.ofNat 99, UInt8.ofNat 116, UInt8.ofNat 111, UInt8.ofNat 114, UInt8.ofNat 115] } }))
def pv2 : Value := (.iface 9 (.string { data := { toList := [UInt8.ofNat 106, UInt8.ofNat 114, UInt8.ofNat 110, UInt8.ofNat 108, UInt8.ofNat 58, UInt8.ofNat 32, UInt8.ofNat 110, UInt8.ofNat 111, UInt8.ofNat 116, UInt8.ofNat 32, UInt8.ofNat 115, UInt8.ofNat 101, UInt8.ofNat 99, UInt8.ofNat 116, UInt8.ofNat 111, UInt8.ofNat 114, UInt8.ofNat 115, UInt8.ofNat 32, UInt8.ofNat 98, UInt8.ofNat 101, UInt8.ofNat 108, UInt8.ofNat 111, UInt8.ofNat 119, UInt8.ofNat 32, UInt8.ofNat 116, UInt8.ofNat 104, UInt8.ofNat 101, UInt8.ofNat 32, UInt8.ofNat 104, UInt8.ofNat 101, UInt8.ofNat 97, UInt8.ofNat 100, UInt8.ofNat 44, UInt8.ofNat 32, UInt8.ofNat 114, UInt8.ofNat 105, UInt8.ofNat 115, UInt8.ofNat 105, UInt8.ofNat 110, UInt8.ofNat 103] } }))
theorem p1 : segTo Try.prog fil.noOrc 10000 (flN.take 6) shN [1] shNR [] = some (.panic pv1, [.ok (.len (.var 5)), .ok (.bin .lss (.len (.var 5)) (.con (.int .i64 1))), .is (.bin .lss (.len (.var 5)) (.con (.int .i64 1))) (.bool true)], []) := by kernel_rfl
theorem p01 : segTo Try.prog fil.noOrc 10000 (flN.take 6) shN [0, 1] shNR [] = some (.panic pv1, [.ok (.len (.var 5)), .ok (.bin .lss (.len (.var 5)) (.con (.int .i64 1))), .is (.bin .lss (.len (.var 5)) (.con (.int .i64 1))) (.bool false), .ok (.bin .gtr (.len (.var 5)) (.con (.int .i64 16))), .is (.bin .gtr (.len (.var 5)) (.con (.int .i64 16))) (.bool true)], []) := by kernel_rfl
theorem p001 : segTo Try.prog fil.noOrc 10000 (flN.take 6) shN [0, 0, 1] shNR [] = some (.panic pv1, [.ok (.len (.var 5)), .ok (.bin .lss (.len (.var 5)) (.con (.int .i64 1))), .is (.bin .lss (.len (.var 5)) (.con (.int .i64 1))) (.bool false), .ok (.bin .gtr (.len (.var 5)) (.con (.int .i64 16))), .is (.bin .gtr (.len (.var 5)) (.con (.int .i64 16))) (.bool false), .ok (.len (.var 0)), .ok (.bin .sub (.len (.var 0)) (.var 4)), .ok (.bin .geq (.len (.var 5)) (.bin .sub (.len (.var 0)) (.var 4))), .is (.bin .geq (.len (.var 5)) (.bin .sub (.len (.var 0)) (.var 4))) (.bool true)], []) := by kernel_rfl
theorem pre : segTo Try.prog fil.noOrc 10000 (flN.take 6) shN [0, 0, 0] shNl [] = some (.normal, [.ok (.len (.var 5)), .ok (.bin .lss (.len (.var 5)) (.con (.int .i64 1))), .is (.bin .lss (.len (.var 5)) (.con (.int .i64 1))) (.bool false), .ok (.bin .gtr (.len (.var 5)) (.con (.int .i64 16))), .is (.bin .gtr (.len (.var 5)) (.con (.int .i64 16))) (.bool false), .ok (.len (.var 0)), .ok (.bin .sub (.len (.var 0)) (.var 4)), .ok (.bin .geq (.len (.var 5)) (.bin .sub (.len (.var 0)) (.var 4))), .is (.bin .geq (.len (.var 5)) (.bin .sub (.len (.var 0)) (.var 4))) (.bool false), .ok (.len (.var 5)), .ok (.var 4), .ok (.con (.int .i64 (Int.negSucc 0))), .ok (.len (.var 5)), .ok (.con (.int .i64 0))], [.var 4, .con (.int .i64 (Int.negSucc 0)), .var 5, .len (.var 5), .con (.int .i64 0)]) := by kernel_rfl
theorem ex : segTo Try.prog fil.noOrc 10000 lpN shNl [0] shNR [] = some (.exit 0, [.ok (.bin .lss (.var 4) (.var 3)), .is (.bin .lss (.var 4) (.var 3)) (.bool false)], []) := by kernel_rfl
theorem b1 : segTo Try.prog fil.noOrc 10000 lpN shNl [1, 1] shNR [] = some (.panic pv2, [.ok (.bin .lss (.var 4) (.var 3)), .is (.bin .lss (.var 4) (.var 3)) (.bool true), .idx (.var 2) (.var 4) 1 1, .idx (.var 2) (.var 4) 1 1, .ok (.cell (.var 2) (.var 4) 1 0), .ok (.bin .leq (.cell (.var 2) (.var 4) 1 0) (.var 1)), .is (.bin .leq (.cell (.var 2) (.var 4) 1 0) (.var 1)) (.bool true)], []) := by kernel_rfl
theorem b2 : segTo Try.prog fil.noOrc 10000 lpN shNl [1, 0, 1] shNR [] = some (.panic pv2, [.ok (.bin .lss (.var 4) (.var 3)), .is (.bin .lss (.var 4) (.var 3)) (.bool true), .idx (.var 2) (.var 4) 1 1, .idx (.var 2) (.var 4) 1 1, .ok (.cell (.var 2) (.var 4) 1 0), .ok (.bin .leq (.cell (.var 2) (.var 4) 1 0) (.var 1)), .is (.bin .leq (.cell (.var 2) (.var 4) 1 0) (.var 1)) (.bool false), .ok (rop ROp.min2 [.var 0, .con (.int .i64 256)]), .ok (.bin .geq (.cell (.var 2) (.var 4) 1 0) (rop ROp.min2 [.var 0, .con (.int .i64 256)])), .is (.bin .geq (.cell (.var 2) (.var 4) 1 0) (rop ROp.min2 [.var 0, .con (.int .i64 256)])) (.bool true)], []) := by kernel_rfl
theorem on : segTo Try.prog fil.noOrc 10000 lpN shNl [1, 0, 0] shNl [] = some (.normal, [.ok (.bin .lss (.var 4) (.var 3)), .is (.bin .lss (.var 4) (.var 3)) (.bool true), .idx (.var 2) (.var 4) 1 1, .idx (.var 2) (.var 4) 1 1, .ok (.cell (.var 2) (.var 4) 1 0), .ok (.bin .leq (.cell (.var 2) (.var 4) 1 0) (.var 1)), .is (.bin .leq (.cell (.var 2) (.var 4) 1 0) (.var 1)) (.bool false), .ok (rop ROp.min2 [.var 0, .con (.int .i64 256)]), .ok (.bin .geq (.cell (.var 2) (.var 4) 1 0) (rop ROp.min2 [.var 0, .con (.int .i64 256)])), .is (.bin .geq (.cell (.var 2) (.var 4) 1 0) (rop ROp.min2 [.var 0, .con (.int .i64 256)])) (.bool false), .ok (.bin .add (.var 4) (.con (.int .i64 1))), .ok (.var 0), .ok (.cell (.var 2) (.var 4) 1 0), .ok (.var 3), .ok (.bin .add (.var 4) (.con (.int .i64 1)))], [.var 0, .cell (.var 2) (.var 4) 1 0, .var 2, .var 3, .bin .add (.var 4) (.con (.int .i64 1))]) := by kernel_rfl

def nameQ (len : Nat) (home : Nat) (ats : List Int) : List PV :=
  if 1 ≤ ats.length ∧ ats.length ≤ 16 ∧ (ats.length : Int) < (len : Int) - (home : Int) then (if rising (min (home : Int) 256) (-1) ats = true then [pI 0] else [pI ((1 + 1 : Nat) : Int)]) else [pI ((0 + 1 : Nat) : Int)]
def RNam (ps qs : List PV) : Prop := ∃ (d : D) (home : Nat) (ats : List Int), d.ok ∧ home ≤ 1000 ∧ ats.length ≤ 1000 ∧ ps = pD d ++ [pI (home : Int), pRow encI ats] ∧ qs = nameQ d.last.length home ats
theorem fNam : ∀ ps q1 q2, RNam ps q1 → RNam ps q2 → q1 = q2 := by
  rintro ps q1 q2 ⟨d, home, ats, _, _, _, rfl, rfl⟩ ⟨d', home', ats', _, _, _, h, rfl⟩
  obtain ⟨rfl, hx⟩ := pD_app h
  simp only [List.cons.injEq, PV.v.injEq, Value.int.injEq, true_and, and_true, Int.ofNat_inj] at hx
  obtain ⟨rfl, h2⟩ := hx
  rw [symD.pRow_inj encI_inj h2]
theorem cutN : flN = flN.take 6 ++ .block (blockId (nth flN 6)) (.loop (loopBody (nth flN 6))) :: flN.drop 7 := by kernel_rfl
theorem ris (most a : Int) (l : List Int) (k : Nat) (h : k < l.length) : rising most a (l.drop k) = (decide (a < l[k]) && decide (l[k] < most) && rising most l[k] (l.drop (k + 1))) := by
  rw [List.drop_eq_getElem_cons h, rising]
theorem toldNam (k0 : Nat) : ToldX 29 (ENam k0) [pv1, pv2] (spec RNam) := by
  refine told_byX (fun _ _ => none) _ (bodyOf Try.prog 29) Try.func29 (by kernel_rfl) shN (by kernel_rfl) ?_ ?_
  · intro ps qs h i hi
    obtain ⟨d, home, ats, _, _, _, rfl, rfl⟩ := of_spec h
    simp [shN] at hi
    match i, hi with
    | 0, hi => simp at hi
    | 1, hi => simp at hi
    | 2, hi => exact ⟨_, rfl, rfl⟩
    | 3, hi => exact ⟨_, rfl, rfl⟩
    | 4, hi => exact ⟨_, rfl, rfl⟩
    | 5, hi => simp at hi
    | i + 6, hi => simp at hi
  · intro C ps qs hF h a w hsh
    obtain ⟨⟨ls, ws, arm, dn⟩, home, ats, ok, hh, hl, rfl, hqs⟩ := of_spec h
    have hn := ok.n
    simp only at hn hqs
    simp only [pD, List.cons_append, List.nil_append] at hsh
    show wpL Try.prog flN _ a w
    rw [cutN]
    have ws1 : IntKind.i64.wrap ((ls.length : Int) - (home : Int)) = (ls.length : Int) - (home : Int) := wrapI _ (by omega) (by omega)
    by_cases d1 : ats.length < 1
    · rw [nameQ, if_neg (by omega)] at hqs
      refine seg_ok names_ok mixed_ok fil.noOrc_ok p1 hsh ?_ (fun qs a1 w1 hq hx => ⟨fun h => (by cases h), fun _ => .inr ⟨0, _, _, _, hqs, rfl, rfl, hx⟩⟩)
      simp only [List.mem_cons, List.not_mem_nil, or_false, forall_eq_or_imp, forall_eq]
      simp [holds_idxP, holds_cellsP, Base.ev, SX.ev, evs, Value.oneCell', lenPV_row, binPV]
      omega
    by_cases d2 : 16 < ats.length
    · rw [nameQ, if_neg (by omega)] at hqs
      refine seg_ok names_ok mixed_ok fil.noOrc_ok p01 hsh ?_ (fun qs a1 w1 hq hx => ⟨fun h => (by cases h), fun _ => .inr ⟨0, _, _, _, hqs, rfl, rfl, hx⟩⟩)
      simp only [List.mem_cons, List.not_mem_nil, or_false, forall_eq_or_imp, forall_eq]
      simp [holds_idxP, holds_cellsP, Base.ev, SX.ev, evs, Value.oneCell', lenPV_row, binPV]
      omega
    by_cases d3 : (ls.length : Int) - (home : Int) ≤ (ats.length : Int)
    · rw [nameQ, if_neg (by omega)] at hqs
      refine seg_ok names_ok mixed_ok fil.noOrc_ok p001 hsh ?_ (fun qs a1 w1 hq hx => ⟨fun h => (by cases h), fun _ => .inr ⟨0, _, _, _, hqs, rfl, rfl, hx⟩⟩)
      simp only [List.mem_cons, List.not_mem_nil, or_false, forall_eq_or_imp, forall_eq]
      simp [holds_idxP, holds_cellsP, Base.ev, SX.ev, evs, Value.oneCell', lenPV_row, binPV, ws1]
      omega
    rw [nameQ, if_pos (by omega)] at hqs
    refine seg_ok names_ok mixed_ok fil.noOrc_ok pre hsh ?_ ?_
    · simp only [List.mem_cons, List.not_mem_nil, or_false, forall_eq_or_imp, forall_eq]
      simp [holds_idxP, holds_cellsP, Base.ev, SX.ev, evs, Value.oneCell', lenPV_row, binPV, ws1]
      omega
    intro qs' a1 w1 hq h1
    refine ⟨fun _ => ?_, fun h => absurd rfl h⟩
    simp [evs, SX.ev, lenPV_row] at hq
    subst hq
    refine block_loopX (fun n a w => ∃ (k : Nat) (ahead : Int), k ≤ ats.length ∧ n = ats.length - k ∧ rising (min (home : Int) 256) (-1) ats = rising (min (home : Int) 256) ahead (ats.drop k) ∧ InShape C shNl [pI (home : Int), pI ahead, pRow encI ats, pI (ats.length : Int), pI (k : Int)] a w) ?_ (n := ats.length) ⟨0, -1, by omega, by omega, by simp, h1⟩
    rintro n a w ⟨k, ahead, hk, rfl, hr, hin⟩
    show wpL Try.prog lpN _ a w
    rw [← List.append_nil lpN]
    have rm := r_min (home : Int) 256
    generalize min (home : Int) 256 = most at *
    by_cases hlt : k < ats.length
    · have c0 := cellI ats k hlt
      have ix := idxP_row encI ats k 1 1 .i64 rfl hlt (by decide)
      have v3 : IntKind.i64.wrap ((k : Int) + 1) = (k : Int) + 1 := wrapI _ (by omega) (by omega)
      rw [ris most ahead ats k hlt] at hr
      generalize ats[k] = x at *
      by_cases e1 : x ≤ ahead
      · have : rising most (-1) ats = false := by rw [hr, decide_eq_false (by omega)]; rfl
        rw [this] at hqs
        refine seg_ok names_ok mixed_ok fil.noOrc_ok b1 hin ?_ (fun qs a1 w1 hq h1 => ⟨fun h => (by cases h), fun _ => .inr (.inr (.inr ⟨_, rfl, .inr ⟨1, _, _, _, hqs, rfl, rfl, h1⟩⟩))⟩)
        simp only [List.mem_cons, List.not_mem_nil, or_false, forall_eq_or_imp, forall_eq]
        simp [holds_idxP, holds_cellsP, Base.ev, SX.ev, evs, Value.oneCell', lenPV_row, binPV, v3, hlt, ix, c0, e1]
      by_cases e2 : most ≤ x
      · have : rising most (-1) ats = false := by rw [hr, decide_eq_false (p := x < most) (by omega), Bool.and_false]; rfl
        rw [this] at hqs
        refine seg_ok names_ok mixed_ok fil.noOrc_ok b2 hin ?_ (fun qs a1 w1 hq h1 => ⟨fun h => (by cases h), fun _ => .inr (.inr (.inr ⟨_, rfl, .inr ⟨1, _, _, _, hqs, rfl, rfl, h1⟩⟩))⟩)
        simp only [List.mem_cons, List.not_mem_nil, or_false, forall_eq_or_imp, forall_eq]
        simp [holds_idxP, holds_cellsP, Base.ev, SX.ev, evs, Value.oneCell', lenPV_row, binPV, v3, hlt, ix, c0, e1, e2, rm]
      · have hr2 : rising most (-1) ats = rising most x (ats.drop (k + 1)) := by rw [hr, decide_eq_true (show ahead < x by omega), decide_eq_true (show x < most by omega)]; rfl
        refine seg_ok names_ok mixed_ok fil.noOrc_ok jnm.on hin ?_ (fun qs a1 w1 hq h1 => ⟨fun _ => .inl ⟨rfl, ats.length - (k + 1), by omega, k + 1, x, by omega, rfl, hr2, by simp [evs, SX.ev, binPV, v3, c0] at hq; subst hq; exact h1⟩, fun h => absurd rfl h⟩)
        simp only [List.mem_cons, List.not_mem_nil, or_false, forall_eq_or_imp, forall_eq]
        simp [holds_idxP, holds_cellsP, Base.ev, SX.ev, evs, Value.oneCell', lenPV_row, binPV, v3, hlt, ix, c0, e1, e2, rm]
    · have hie : k = ats.length := by omega
      subst hie
      have hyes : rising most (-1) ats = true := by rw [hr, List.drop_length]; rfl
      rw [hyes] at hqs
      refine seg_ok names_ok mixed_ok fil.noOrc_ok ex hin ?_ (fun qs a1 w1 hq h1 => ⟨fun h => (by cases h), fun _ => .inr (.inl ⟨by rw [show blockId (nth flN 6) = 0 by kernel_rfl]; rfl, ?_⟩)⟩)
      · simp only [List.mem_cons, List.not_mem_nil, or_false, forall_eq_or_imp, forall_eq]
        simp [holds_idxP, holds_cellsP, Base.ev, SX.ev, evs, Value.oneCell', lenPV_row, binPV]
      · show wpL Try.prog [] _ a1 w1
        exact .inl ⟨_, hqs, .inl rfl, shNR, _, [], h1, by kernel_rfl, rfl⟩
end Go.Proofs.Ytegfdigljpnhcaa.jnm
